/-
  Package blocks: beginnings.
-/
import Derived.Test.YtbpefomjmjkciaaBlkS
import Derived.Test.YtbpefomjmjkciaaInsT
import Derived.Maps.OwnOps
namespace Go.Proofs.Ytbpefomjmjkciaa.Blk
open Go.RowKit Go.Maps Go.Sort Ins
set_option linter.unusedVariables false

/-- A program's shape. -/
def sh (xs : Nat → In) : Sh := ⟨fun i => decide ((xs i).kind = 3), fun i => jumpsI i (xs i), fun i => decide ((xs i).kind = 6), fun i => targetI i (xs i)⟩

theorem lawI : Keyed Try.prog 3 := int_keyed Try.underlying3

def Begun (s : Sh) (len : Nat) (W : World) (e : Ending) (w' : World) : Prop :=
  ∃ b D, e = .returned (.map (some b)) ∧ W.heap.size ≤ b ∧ w'.ownsMap Try.prog 3 (plainElem (H := Unit) Try.prog 3) b (1 + 4 * len) D ∧ Nums D (begB s len) (num s len) ∧ Below W.heap.size W w'

theorem below_map {W w w' : World} {b : Nat} (h : Below W.heap.size W w) (g : w.grownBy w' (some b)) (hb : W.heap.size ≤ b) : Below W.heap.size W w' := h.grown g h.size (fun j e => by cases e; exact hb)

theorem grown_stored {w w' : World} {g : Nat} {cells : Array Value} {t : TypeId} (h : Stored w g cells t w') : w.grownBy w' (some g) := ⟨h.os, h.tape, h.output, by rw [h.size]; exact Nat.le_refl _, fun k _ hk => h.other k (fun e => hk (by rw [e]))⟩
theorem grown_below {w w' : World} (h : Below w.heap.size w w') : w.grownBy w' none := ⟨h.os, h.tape, h.output, h.size, fun k hk _ => h.block k hk⟩
theorem owns_below_map {w w' : World} {k : TypeId} {R : Value → Option (DataW Unit × List MemPlace)} {b n : Nat} {D : DataW Unit} (h : w.ownsMap Try.prog k R b n D) (hb : Below w.heap.size w w') : w'.ownsMap Try.prog k R b n D := h.kept (grown_below hb) (by simp)
theorem own_cells {w : World} {base n : Nat} {e : TypeId} {v : Value} {L : List Int} (h : w.ownsRow base e 1 v n (L.map encZ)) (hn : 0 < n) :
    ∃ g cap, v = .slice (some ⟨g, 0, none⟩) n cap ∧ base ≤ g ∧ (n ≤ cap ∧ cap ≤ maxLen) ∧ ∀ j z, L[j]? = some z → w.cell? ⟨g, j, none⟩ = some (.int .i64 z) := by
  rcases h.2 with ⟨_, h0⟩ | ⟨g, cap, cur, e1, e2, e3, e4, e5, e6, e7⟩
  · omega
  · refine ⟨g, cap, e1, e2, ⟨e4, e5⟩, fun j z hz => ?_⟩
    have h1 := h.1
    have hj : j < L.length := (List.getElem?_eq_some_iff.1 hz).1
    simp only [List.length_map, Nat.mul_one] at h1
    have h2 : (cur.toList.take (n * 1))[j]? = some (.int .i64 z) := by rw [e7]; simp [hz]
    rw [List.getElem?_take_of_lt (by omega), Array.getElem?_toList] at h2
    simp [World.cell?, e3, h2]
theorem fine_of {c : Int} {len : Nat} {xs : Nat → In} (h : (checkI c len xs).2 = 0) : Fine (sh xs) len ∧ len ≤ 64 := by
  have h0 := h
  obtain ⟨h1, h64, hf⟩ := ends_facts h
  have hl : (xs (len - 1)).kind = 4 ∨ (xs (len - 1)).kind = 6 := by
    have := hf (len - 1) (by omega)
    by_cases h4 : (xs (len - 1)).kind = 4
    · exact .inl h4
    by_cases h6 : (xs (len - 1)).kind = 6
    · exact .inr h6
    have := this.2.2.2 h4 h6
    omega
  refine ⟨⟨h1, ?_, ?_, ?_, ?_⟩, h64⟩
  · intro j hj hjm
    obtain ⟨_, h2, h3, _⟩ := hf j hj
    have hk : (xs j).kind = 3 ∨ (xs j).kind = 4 := by
      have : jumpsI j (xs j) = true := hjm
      rw [h2] at this
      exact of_decide_eq_true this
    have := h3 hk
    show 0 ≤ targetI j (xs j) ∧ targetI j (xs j) < len
    omega
  · rcases hl with hl | hl
    · exact .inl (by show jumpsI _ _ = true; rw [(hf (len - 1) (by omega)).2.1]; simp [hl])
    · exact .inr (by show decide _ = true; simp [hl])
  · intro j hj hc
    have hk : (xs j).kind = 3 := of_decide_eq_true hc
    obtain ⟨_, h2, _, h5⟩ := hf j hj
    exact ⟨by show jumpsI _ _ = true; rw [h2]; simp [hk], h5 (by omega) (by omega)⟩
  · intro j hj hjm
    have : jumpsI j (xs j) = true := hjm
    rw [(hf j hj).2.1] at this
    have hk := of_decide_eq_true this
    show decide _ = false
    exact decide_eq_false (by omega)

set_option maxRecDepth 100000 in
set_option maxHeartbeats 4000000 in
theorem beginnings_any (a : Option Addr) (len cap : Nat) (xs : Nat → In) (W : World) (hx : Insts W a len cap xs) (hF : Fine (sh xs) len) (h64 : len ≤ 64) :
    Calls Try.prog 88 #[.slice a len cap] W (Begun (sh xs) len W) := by
  have hfit := hx.fit
  have hle := hx.le
  have HX := Lib.hid hx; clear hx
  have FN := Lib.hid hF; clear hF
  generalize hs : sh xs = s at *
  have HS := Lib.hid hs; clear hs
  have hmm := @run_makeMap Try.prog
  go_enter Try.func88, Try.ntmps88
  go_wp2_with (refine (halt_insert 125 _ _ _ rfl ?_))
  refine ⟨?_, trivial⟩
  refine wpList_insert_own _ rfl _ _ _ 125 rfl 3 3 lawI Try.underlying125 (plainElem (H := Unit) Try.prog 3) W.heap.size 0 (.map []) rfl (World.ownsMap_made _ _ _ _) (by decide) _ _ (.int .i64 0) rfl rfl (keyOf_int_mk Try.underlying3 (by decide)) (.lit (.int .i64 0)) [] (plainElem_int Try.underlying3 (by decide)) ?_
  intro w1 own1 grow1
  have O1 := Lib.hid own1
  have N1 := Lib.hid ((Nums.empty.put 0 0).congr (f' := begB s 0) (g' := fun _ => 0) (fun z => by show (false || decide (0 = z)) = decide (z = 0); simp [eq_comm]) (fun z _ => by simp))
  have B1 := Lib.hid (below_map (below_new (Below.refl _ W) _) grow1 (Nat.le_refl _))
  clear own1 grow1
  go_wp2_with fail
  go_loopw [14] (fun i wr => ∃ k : Nat, k ≤ len ∧ i = .int .i64 k ∧ Hid (Below W.heap.size W wr ∧ ∃ D, wr.ownsMap Try.prog 3 (plainElem (H := Unit) Try.prog 3) W.heap.size (1 + 2 * k) D ∧ Nums D (begB s k) (fun _ => 0))) (fun i _ => len - (intOf i).toNat)
  case atStart => exact ⟨0, by omega, rfl, Lib.hid ⟨B1.out, _, O1.out, N1.out⟩⟩
  case round =>
    clear O1 N1 B1
    obtain ⟨k, hk, rfl, hR⟩ := hrel
    by_cases hlt : k < len
    · obtain ⟨D, own, nums⟩ := hR.out.2
      have BW := Lib.hid hR.out.1
      have OW := Lib.hid own
      have NU := Lib.hid nums
      clear hR own nums
      obtain ⟨B, q, rfl, hcells⟩ := HX.out.here (by omega)
      have HA := Lib.hid (rangeAt_below BW.out (hcells k hlt))
      have i9 : (Try.prog.info? 26).map (·.size) = some (xs k).cells.toList.length := info_ins
      have HI := Lib.hid i9
      have T := Lib.hid (fun W => target_any k (xs k) W)
      have OC := Lib.hid (one_cells (xs k))
      have HK := Lib.hid (show (xs k).cells[0]? = some (.int .i8 (xs k).kind) from rfl)
      have hj : s.jumps k = jumpsI k (xs k) := by rw [← HS.out]; rfl
      have he : s.exit k = decide ((xs k).kind = 6) := by rw [← HS.out]; rfl
      have ht : s.to k = targetI k (xs k) := by rw [← HS.out]; rfl
      rw [← hj, ← ht] at T
      have htb : s.jumps k = true → 0 ≤ s.to k ∧ s.to k < 64 := fun h => by have := FN.out.to k hlt h; omega
      have ST := Lib.hid (begB_step s k)
      clear i9 hcells hj ht
      generalize (xs k).kind = kd at *
      generalize s.to k = t at *
      go_wp2_with (first | (refine wpList_load_mid rfl 26 _ rfl B (q + k * 9) rfl (xs k).cells.toList _ HA.out Try.underlying26 rfl HI.out ?_) | (refine (halt_store 26 _ _ rfl ?_)))
      refine ⟨?_, trivial⟩
      refine wpList_store_is rfl 26 _ _ rfl wr.heap.size (xs k).cells rfl rfl 26 _ (heap_last wr _ _ rfl) HI.out rfl OC.out ?_
      intro w3 s3
      have W3 := Lib.hid (s3.below (below_new BW.out _) BW.out.size)
      have R3 := Lib.hid s3.row
      have O3 := Lib.hid ((OW.out.alloc (.cells _ 26)).kept (grown_stored s3) (by have := OW.out.lt; simp; omega))
      clear s3 BW OW
      generalize wr.heap.size = X at *
      generalize (xs k).cells = cc at *
      go_wp2_with (refine (halt_load 26 _ rfl ?_))
      refine ⟨?_, trivial⟩
      refine wpList_load_row rfl 26 _ rfl X rfl _ cc _ _ R3.out Try.underlying26 rfl HI.out ?_
      go_wp2_with fail
      refine (T.out _).mono ?_
      rintro e w4 ⟨rfl, b4⟩
      have W4 := Lib.hid (below_call W3.out b4)
      have R4 := Lib.hid ((b4.block _ (Array.getElem?_eq_some_iff.1 R3.out).1).trans R3.out)
      have O4 := Lib.hid (owns_below_map O3.out b4)
      have hkc : w4.cell? ⟨X, 0, none⟩ = some (.int .i8 kd) := by simp only [World.cell?, R4.out]; exact HK.out
      clear b4 T W3 R3 O3
      have cases3 : (s.jumps k = true ∧ 0 ≤ t ∧ t < 64) ∨ (s.jumps k = false ∧ kd = 6) ∨ (s.jumps k = false ∧ ¬ kd = 6) := by
        cases hj : s.jumps k
        · by_cases h6 : kd = 6
          · exact .inr (.inl ⟨rfl, h6⟩)
          · exact .inr (.inr ⟨rfl, h6⟩)
        · exact .inl ⟨rfl, htb hj⟩
      clear htb
      rcases cases3 with ⟨hj, t0, t1⟩ | ⟨hj, rfl⟩ | ⟨hj, h6⟩
      · rw [hj]
        rw [hj] at ST
        clear hj he
        go_wp2_with (refine (halt_update 125 _ _ _ rfl ?_))
        refine ⟨?_, trivial⟩
        refine wpList_mapUpdate_own _ rfl _ _ _ 125 rfl 3 3 lawI Try.underlying125 (plainElem (H := Unit) Try.prog 3) W.heap.size (1 + 2 * k) D rfl O4.out (by unfold maxLen; omega) _ _ (.int .i64 t) rfl rfl (keyOf_int_mk Try.underlying3 (WalkArith.wf_i64 (by omega))) (.lit (.int .i64 0)) [] (plainElem_int Try.underlying3 (by decide)) ?_
        intro w5 own5 g5
        have W5 := Lib.hid (below_map W4.out g5 (Nat.le_refl _))
        have O5 := Lib.hid own5
        clear own5 g5 O4 W4
        go_wp2_with (refine (halt_update 125 _ _ _ rfl ?_))
        refine ⟨?_, trivial⟩
        refine wpList_mapUpdate_own _ rfl _ _ _ 125 rfl 3 3 lawI Try.underlying125 (plainElem (H := Unit) Try.prog 3) W.heap.size _ _ rfl O5.out (by unfold maxLen; omega) _ _ (.int .i64 ((k : Int) + 1)) rfl rfl (keyOf_int_mk Try.underlying3 (WalkArith.wf_i64 (by omega))) (.lit (.int .i64 0)) [] (plainElem_int Try.underlying3 (by decide)) ?_
        intro w6 own6 g6
        have W6 := Lib.hid (below_map W5.out g6 (Nat.le_refl _))
        have O6 := Lib.hid own6
        clear own6 g6 O5 W5
        have N6 := Lib.hid (((NU.out.put t 0).put ((k : Int) + 1) 0).congr (f' := begB s (k + 1)) (g' := fun _ => 0) (fun z => by rw [ST.out z]; simp) (fun z _ => by simp))
        go_wp2_with fail
        go_roundw
        case rel => exact ⟨k + 1, by omega, by go_num, Lib.hid ⟨W6.out, _, by rw [show 1 + 2 * (k + 1) = 1 + 2 * k + 1 + 1 by omega]; exact O6.out, N6.out⟩⟩
        case measure => simp [intOf]; omega
      · have e0 : decide ((6 : Int) = 6) = true := rfl
        rw [hj]
        rw [hj, he, e0] at ST
        clear hj he e0
        go_wp2_with (refine (halt_update 125 _ _ _ rfl ?_))
        refine ⟨?_, trivial⟩
        refine wpList_mapUpdate_own _ rfl _ _ _ 125 rfl 3 3 lawI Try.underlying125 (plainElem (H := Unit) Try.prog 3) W.heap.size (1 + 2 * k) D rfl O4.out (by unfold maxLen; omega) _ _ (.int .i64 ((k : Int) + 1)) rfl rfl (keyOf_int_mk Try.underlying3 (WalkArith.wf_i64 (by omega))) (.lit (.int .i64 0)) [] (plainElem_int Try.underlying3 (by decide)) ?_
        intro w5 own5 g5
        have W5 := Lib.hid (below_map W4.out g5 (Nat.le_refl _))
        have O5 := Lib.hid own5
        clear own5 g5 O4 W4
        have N6 := Lib.hid ((NU.out.put ((k : Int) + 1) 0).congr (f' := begB s (k + 1)) (g' := fun _ => 0) (fun z => by rw [ST.out z]; simp) (fun z _ => by simp))
        go_wp2_with fail
        go_roundw
        case rel => exact ⟨k + 1, by omega, by go_num, Lib.hid ⟨W5.out, _, by rw [show 1 + 2 * (k + 1) = 1 + 2 * k + 1 + 1 by omega]; exact O5.out.mono (by omega), N6.out⟩⟩
        case measure => simp [intOf]; omega
      · have e0 : decide (kd = 6) = false := decide_eq_false h6
        have e6 : (kd == 6) = false := by simpa using h6
        rw [hj]
        rw [hj, he, e0] at ST
        clear hj he e0 h6
        have N6 := Lib.hid (NU.out.congr (f' := begB s (k + 1)) (g' := fun _ => 0) (fun z => by rw [ST.out z]; simp) (fun z _ => by simp))
        go_wp2_with fail
        go_roundw
        case rel => exact ⟨k + 1, by omega, by go_num, Lib.hid ⟨W4.out, _, by rw [show 1 + 2 * (k + 1) = 1 + 2 * k + 1 + 1 by omega]; exact O4.out.mono (by omega), N6.out⟩⟩
        case measure => simp [intOf]; omega
    · obtain rfl : k = len := by omega
      obtain ⟨D, own, nums⟩ := hR.out.2
      have BW := Lib.hid hR.out.1
      have NU := Lib.hid nums
      have OW := Lib.hid own
      have hbw : W.heap.size < wr.heap.size := own.lt
      clear hR own nums
      have K1 := Lib.hid (fun W => keys_any (some W.heap.size) W)
      go_wp2_with fail
      refine (keys_any _ _).mono ?_
      rintro e w1 ⟨rfl, rfl⟩
      have O1 := Lib.hid (OW.out.alloc (.cells #[.map (some W.heap.size)] 125))
      have W1 := Lib.hid (below_new BW.out (.cells #[.map (some W.heap.size)] 125))
      have hmem : ∀ z : Int, z ∈ (places (beg s k) (k + 1)).map (fun (i : Nat) => (i : Int)) ↔ begB s k z = true := by
        intro z
        rw [List.mem_map]
        constructor
        · rintro ⟨i, hi, rfl⟩; exact (mem_places.1 hi).2
        · intro hz
          have hb := FN.out.bound (Nat.le_refl _) hz
          exact ⟨z.toNat, mem_places.2 ⟨by omega, by show begB s k ((z.toNat : Nat) : Int) = true; rw [Int.toNat_of_nonneg hb.1]; exact hz⟩, Int.toNat_of_nonneg hb.1⟩
      have SO := Lib.hid (sorted_any W.heap.size (1 + 2 * k) wr.heap.size (wr.alloc (.cells #[.map (some W.heap.size)] 125)) (by simp) (by simp) O1.out NU.out ((places (beg s k) (k + 1)).map (fun (i : Nat) => (i : Int))) ((List.pairwise_map.2 ((places_sorted _ _).imp (fun h => by omega)))) hmem (by omega))
      clear hmem
      go_wp2_with fail
      refine SO.out.mono ?_
      rintro e w2 ⟨v, rfl, row2, b2⟩
      have O2 := Lib.hid (owns_below_map O1.out b2)
      have W2 := Lib.hid (below_call W1.out b2)
      have hl : ((places (beg s k) (k + 1)).map (fun (i : Nat) => (i : Int))).length = cnt (beg s k) (k + 1) := by simp [places_len]
      have hm := cnt_le_self (beg s k) (k + 1)
      have hm0 : 0 < cnt (beg s k) (k + 1) := by have := cnt_lt (beg s k) (i := 0) (j := k + 1) (by omega) (beg_zero s k); omega
      rw [hl] at row2
      obtain ⟨g, c2, rfl, hg, hc2, hcell⟩ := own_cells row2 hm0
      have hgb : W.heap.size < g := by simp at hg; omega
      have hcell2 : ∀ (j p : Nat), (places (beg s k) (k + 1))[j]? = some p → w2.cell? ⟨g, j, none⟩ = some (.int .i64 p) := fun j p hp => hcell j p (by simp [hp])
      have CE := Lib.hid hcell2
      have NX := Lib.hid (NU.out.congr (f' := begB s k) (g' := fun z => if num s k z < ((0 : Nat) : Int) then num s k z else 0) (fun z => rfl) (fun z _ => nums_start s k z))
      have NE := Lib.hid (fun z hz => nums_end FN.out z hz)
      have HM := Lib.hid (show cnt (beg s k) (k + 1) = (places (beg s k) (k + 1)).length from rfl)
      clear hl row2 b2 hg hcell hcell2 O1 W1 BW NU OW SO
      generalize cnt (beg s k) (k + 1) = m at *
      go_wp2_with fail
      go_loopw [42] (fun i wr => ∃ j : Nat, j ≤ m ∧ i = .int .i64 j ∧ Hid (Below W.heap.size W wr ∧ (∀ (j p : Nat), (places (beg s k) (k + 1))[j]? = some p → wr.cell? ⟨g, j, none⟩ = some (.int .i64 p)) ∧ ∃ D, wr.ownsMap Try.prog 3 (plainElem (H := Unit) Try.prog 3) W.heap.size (1 + 2 * k + j) D ∧ Nums D (begB s k) (fun z => if num s k z < (j : Int) then num s k z else 0))) (fun i _ => m - (intOf i).toNat)
      case atStart => exact ⟨0, by omega, rfl, Lib.hid ⟨W2.out, CE.out, _, O2.out, NX.out⟩⟩
      case round =>
        clear O2 W2 CE NX
        obtain ⟨j, hj, rfl, hR⟩ := hrel
        obtain ⟨D3, own3, nums3⟩ := hR.out.2.2
        have O3 := Lib.hid own3
        have N3 := Lib.hid nums3
        have C3 := Lib.hid hR.out.2.1
        have W3 := Lib.hid hR.out.1
        clear own3 nums3 hR
        by_cases hjm : j < m
        · obtain ⟨p, hp⟩ : ∃ p, (places (beg s k) (k + 1))[j]? = some p := ⟨_, List.getElem?_eq_getElem (by rw [← HM.out]; exact hjm)⟩
          have hpc := C3.out j p hp
          have hpb := (places_get hp).1
          have hpg := Lib.hid (show begB s k (p : Int) = true from (places_get hp).2.1)
          have HS3 := Lib.hid (fun z hz => nums_step FN.out hp z hz)
          clear hp
          go_wp2_with (refine (halt_update 125 _ _ _ rfl ?_))
          refine ⟨?_, trivial⟩
          refine wpList_mapUpdate_own _ rfl _ _ _ 125 rfl 3 3 lawI Try.underlying125 (plainElem (H := Unit) Try.prog 3) W.heap.size _ _ rfl O3.out (by unfold maxLen; omega) _ _ (.int .i64 (p : Int)) rfl rfl (keyOf_int_mk Try.underlying3 (WalkArith.wf_i64 (by omega))) (.lit (.int .i64 (j : Int))) [] (plainElem_int Try.underlying3 (WalkArith.wf_i64 (by omega))) ?_
          intro w4 own4 g4
          have W4 := Lib.hid (below_map W3.out g4 (Nat.le_refl _))
          have O4 := Lib.hid own4
          have C4 := Lib.hid (show ∀ (j p : Nat), (places (beg s k) (k + 1))[j]? = some p → w4.cell? ⟨g, j, none⟩ = some (.int .i64 p) from fun j p hp => g4.cell (C3.out j p hp) (by simp; omega))
          have N4 := Lib.hid ((N3.out.put p j).congr (f' := begB s k) (g' := fun z => if num s k z < ((j + 1 : Nat) : Int) then num s k z else 0) (fun z => by
            by_cases e : (p : Int) = z
            · subst e; rw [hpg.out]; simp
            · simp [e]) (fun z hz => HS3.out z hz))
          clear own4 g4 O3 W3 C3 N3 hpc HS3
          go_wp2_with fail
          go_roundw
          case rel => exact ⟨j + 1, by omega, by go_num, Lib.hid ⟨W4.out, C4.out, _, O4.out, N4.out⟩⟩
          case measure => simp [intOf]; omega
        · obtain rfl : j = m := by omega
          go_wp2_with fail
          go_ret
          exact ⟨_, _, rfl, Nat.le_refl _, O3.out.mono (by have := FN.out.pos; omega), N3.out.congr (fun _ => rfl) (fun z hz => NE.out z hz), W3.out⟩
end Go.Proofs.Ytbpefomjmjkciaa.Blk
