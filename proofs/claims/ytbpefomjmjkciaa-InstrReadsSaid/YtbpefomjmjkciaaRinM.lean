/-
  The document's answer latheref03: Decode.
-/
import Derived.Test.YtbpefomjmjkciaaRinL
import Derived.Test.YtbpefomjmjkciaaRinG
import Derived.Test.YtbpefomjmjkciaaInsY
import Derived.Test.YtbpefomjmjkciaaInsN
namespace Go.Proofs.Ytbpefomjmjkciaa.Ins
open Go.RowKit
set_option linter.unusedVariables false
set_option maxRecDepth 100000

theorem own_below2 {w w' : World} {base : Nat} {e : TypeId} {s n : Nat} {v : Value} {xs : List Value} (h : w.ownsRow base e s v n xs) (b : Below w.heap.size w w') : w'.ownsRow base e s v n xs := h.kept (grown_below2 b) (Classical.em _)
theorem firstF_hit {g : Nat → Int} {k : Nat} (hk : g k ≠ 0) : ∀ {n i : Nat}, i ≤ k → k < i + n → (∀ j, i ≤ j → j < k → g j = 0) → firstF g n i = ((k : Int), g k)
  | 0, i, h1, h2, _ => by omega
  | n + 1, i, h1, h2, h3 => by
    show (if g i = 0 then firstF g n (i + 1) else ((i : Int), g i)) = _
    by_cases e : i = k
    · subst e; rw [if_neg hk]
    · rw [if_pos (h3 i (Nat.le_refl _) (by omega))]
      exact firstF_hit hk (by omega) (by omega) (fun j a b => h3 j (by omega) b)

set_option maxHeartbeats 4000000 in
theorem r_decode_code (a : Option Addr) (len cap : Nat) (f : Nat → Int) (W : World) (h : Byt W a len cap f) (h0 : len < 2 ∨ (len - 2) % 8 ≠ 0) :
    Calls Try.prog 15 #[.slice a len cap] W (DecNo 0 30 W) := by
  have h1 := h.le
  have h2 := h.fit
  clear h
  unfold DecNo
  have e1 : decide ((len : Int) < 2) = true ∨ (decide ((len : Int) < 2) = false ∧ (Int.tmod ((len : Int) - 2) 8 != 0) = true) := by
    by_cases hl : len < 2
    · exact .inl (decide_eq_true (by omega))
    · refine .inr ⟨decide_eq_false (by omega), ?_⟩
      have h3 : ¬ (len - 2) % 8 = 0 := h0.resolve_left hl
      have h4 : Int.tmod ((len : Int) - 2) 8 = (((len - 2) % 8 : Nat) : Int) := by
        rw [show ((len : Int) - 2) = ((len - 2 : Nat) : Int) by omega]
        rfl
      rw [h4]
      simp
      omega
  clear h0
  rcases e1 with e1 | ⟨e1, e2⟩
  all_goals
    go_enter Try.func15, Try.ntmps15
    go_wp2
    refine bodyPost_ret (v := .tuple #[.agg #[.int .i64 0, .slice none 0 0], .int .i64 0, .int .i64 30]) (by simp [results, Try.results15, go_sem]) rfl ⟨rfl, below_new (Below.refl _ _) _⟩

set_option maxHeartbeats 8000000 in
theorem r_decode_main (a : Option Addr) (m cap : Nat) (f : Nat → Int) (W : World) (h : Byt W a (2 + 8 * m) cap f) :
    Calls Try.prog 15 #[.slice a (2 + 8 * m) cap] W (DecAs (2 + 8 * m) f W) := by
  have h1 := h.le
  have h2 := h.fit
  obtain ⟨b, o, rfl, hc⟩ := h.here (by omega)
  have hb : b < W.heap.size := lt_of_cell (hc 0 (by omega))
  have G := Lib.hid (fun (w : World) (bb : Below W.heap.size W w) => r_get b o 2 cap f w (by omega) (by omega) h2 (fun i hi => h.bd i (by omega)) (fun i hi => (bb.cell (p := ⟨b, o + i, none⟩) hb).trans (hc i (by omega))))
  have gb := getI_bd f 2 (fun i hi => h.bd i (by omega))
  have g0 := gb.1
  have g1 : getI f 2 < 65536 := by have := gb.2; simpa using this
  have RD := Lib.hid (show ∀ (k : Nat) (w : World), k < m → Below W.heap.size W w → Calls Try.prog 13 #[.slice (some ⟨b, o + (2 + 8 * k), none⟩) 8 (cap - (2 + 8 * k))] w (ReadsAs (xsI (tailF f) k) (rsI (tailF f) k) w) from fun k w hk bb =>
    r_read_8 b (o + (2 + 8 * k)) (cap - (2 + 8 * k)) (fun i => tailF f (8 * k + i)) w (by omega) (by omega) (fun i hi => h.bd (2 + (8 * k + i)) (by omega)) (fun i hi => by
      have := (bb.cell (p := ⟨b, o + (2 + (8 * k + i)), none⟩) hb).trans (hc (2 + (8 * k + i)) (by omega))
      rw [show o + (2 + (8 * k + i)) = o + (2 + 8 * k) + i by omega] at this
      exact this))
  have OK := Lib.hid (show ∀ i, i < m → (xsI (tailF f) i).Ok from fun i hi => ok_xsI _ _ (fun j hj => h.bd (2 + (8 * i + j)) (by omega)))
  clear h hc gb
  have q8 : (2 + 8 * m - 2) / 8 = m := by omega
  have D0 := Lib.hid (show limI (getI f 2) m ≠ 0 → decR (2 + 8 * m) f = (0, limI (getI f 2) m) from fun h => by
    unfold decR; rw [if_neg (by omega), q8, if_pos h])
  have D1 := Lib.hid (show limI (getI f 2) m = 0 → (firstF (rsI (tailF f)) m 0).2 ≠ 0 → decR (2 + 8 * m) f = firstF (rsI (tailF f)) m 0 from fun h h' => by
    unfold decR; rw [if_neg (by omega), q8, if_neg (by rw [h]; simp), if_pos h'])
  have D2 := Lib.hid (show limI (getI f 2) m = 0 → (firstF (rsI (tailF f)) m 0).2 = 0 → decR (2 + 8 * m) f = checkI (getI f 2) m (xsI (tailF f)) from fun h h' => by
    unfold decR; rw [if_neg (by omega), q8, if_neg (by rw [h]; simp), if_neg (by rw [h']; simp)])
  have GOAL := Lib.hid (show ∀ e w', ((decR (2 + 8 * m) f).2 ≠ 0 → DecNo (decR (2 + 8 * m) f).1 (decR (2 + 8 * m) f).2 W e w') → ((decR (2 + 8 * m) f).2 = 0 → DecYes (getI f 2) m (xsI (tailF f)) W e w') → DecAs (2 + 8 * m) f W e w' from fun e w' ha hb => ⟨ha, by rw [q8]; exact hb⟩)
  have LI := Lib.hid (show ∀ (r : Int), limI (getI f 2) m = r → (r = 2 ∧ 256 < getI f 2) ∨ (r = 3 ∧ getI f 2 ≤ 256 ∧ (m < 1 ∨ 64 < m)) ∨ (r = 0 ∧ getI f 2 ≤ 256 ∧ 1 ≤ m ∧ m ≤ 64) from fun r h => by
    unfold limI at h
    split at h
    · exact .inl ⟨h.symm, by omega⟩
    · split at h
      · exact .inr (.inl ⟨h.symm, by omega, by omega⟩)
      · exact .inr (.inr ⟨h.symm, by omega, by omega, by omega⟩))
  have CK := Lib.hid (fun a cap w (h : Insts w a m cap (xsI (tailF f))) => r_check (getI f 2) a m cap (xsI (tailF f)) w h)
  generalize hR : decR (2 + 8 * m) f = R at *
  clear hR
  generalize hA : DecAs (2 + 8 * m) f W = PA at *
  clear hA
  generalize getI f 2 = c at *
  generalize limI c m = lr at *
  generalize xsI (tailF f) = xs at *
  generalize rsI (tailF f) = rs at *
  have e1 : decide (((2 + 8 * m : Nat) : Int) < 2) = false := decide_eq_false (by omega)
  have t1 : ((2 + 8 * m : Nat) : Int) - 2 = ((8 * m : Nat) : Int) := by omega
  have t2 : (((8 * m : Nat) : Int).tmod 8 != 0) = false := by
    rw [show ((8 * m : Nat) : Int).tmod 8 = ((8 * m % 8 : Nat) : Int) from rfl, Nat.mul_mod_right]; rfl
  have t3 : ((8 * m : Nat) : Int).tdiv 8 = (m : Int) := by
    rw [show ((8 * m : Nat) : Int).tdiv 8 = ((8 * m / 8 : Nat) : Int) from rfl]; omega
  have hL2 : 2 ≤ 2 + 8 * m := by omega
  have hL3 : (2 : Int) ≤ ((2 + 8 * m : Nat) : Int) := by omega
  generalize hL : 2 + 8 * m = L at *
  have wcc : IntKind.i64.wrap c = c := by unfold IntKind.wrap; simp [IntKind.bits, IntKind.signed]; omega
  rcases LI.out lr rfl with ⟨rfl, hc1⟩ | ⟨rfl, hc1, hm⟩ | ⟨rfl, hc1, hm1, hm64⟩
  case inl =>
    have RR : R = (0, 2) := D0.out (by decide)
    have FIN := Lib.hid (fun w' (b : Below W.heap.size W w') => GOAL.out (.returned (.tuple #[.agg #[.int .i64 0, .slice none 0 0], .int .i64 0, .int .i64 2])) w' (fun _ => by rw [RR]; exact ⟨rfl, b⟩) (fun h => absurd h (by rw [RR]; decide)))
    clear GOAL D0 D1 D2 RR CK RD OK LI
    go_enter Try.func15, Try.ntmps15
    go_wp2_with fail
    refine (G.out _ (below_new (Below.refl _ _) _)).mono ?_
    rintro e w' ⟨rfl, rfl⟩
    clear G
    go_wp2_with fail
    refine bodyPost_ret (v := .tuple #[.agg #[.int .i64 0, .slice none 0 0], .int .i64 0, .int .i64 2]) (by simp [results, Try.results15, go_sem]) rfl (FIN.out _ ?_)
    repeat (refine Below.setCell ?_ (by simp only; omega) _)
    exact below_new (below_new (Below.refl _ _) _) _
  case inr.inl =>
    have RR : R = (0, 3) := D0.out (by decide)
    have FIN := Lib.hid (fun w' (b : Below W.heap.size W w') => GOAL.out (.returned (.tuple #[.agg #[.int .i64 0, .slice none 0 0], .int .i64 0, .int .i64 3])) w' (fun _ => by rw [RR]; exact ⟨rfl, b⟩) (fun h => absurd h (by rw [RR]; decide)))
    clear GOAL D0 D1 D2 RR CK RD OK LI
    have hmm : (m : Int) < 1 ∨ (1 ≤ (m : Int) ∧ 64 < (m : Int)) := by omega
    rcases hmm with hmm | ⟨hmm, hmm2⟩
    all_goals
      go_enter Try.func15, Try.ntmps15
      go_wp2_with fail
      refine (G.out _ (below_new (Below.refl _ _) _)).mono ?_
      rintro e w' ⟨rfl, rfl⟩
      clear G
      go_wp2_with fail
      refine bodyPost_ret (v := .tuple #[.agg #[.int .i64 0, .slice none 0 0], .int .i64 0, .int .i64 3]) (by simp [results, Try.results15, go_sem]) rfl (FIN.out _ ?_)
      repeat (refine Below.setCell ?_ (by simp only; omega) _)
      exact below_new (below_new (Below.refl _ _) _) _
  case inr.inr =>
    have D1' := Lib.hid (D1.out rfl)
    have D2' := Lib.hid (D2.out rfl)
    clear D0 D1 D2 LI
    obtain ⟨ti, tz, hi1, hi2, hi3, hi4, hi5⟩ := info_ins40
    have TI := Lib.hid (And.intro hi1 (And.intro hi2 (And.intro hi3 (And.intro hi4 hi5))))
    clear hi1 hi2 hi3 hi4 hi5
    go_enter Try.func15, Try.ntmps15
    go_wp2_with fail
    refine (G.out _ (below_new (Below.refl _ _) _)).mono ?_
    rintro e w' ⟨rfl, rfl⟩
    clear G
    go_wp2_with fail
    obtain ⟨X0, hX0⟩ : ∃ X0, (W.alloc (.cells #[.int .i64 0, .slice none 0 0] 32)).alloc (.cells #[.int .i64 c, .slice none 0 0] 32) = X0 := ⟨_, rfl⟩
    have zX : X0.heap.size = W.heap.size + 1 + 1 := by rw [← hX0, size_alloc, size_alloc]
    have BX := Lib.hid (show Below W.heap.size W X0 by rw [← hX0]; exact below_new (below_new (Below.refl _ _) _) _)
    have RX := Lib.hid (show X0.heap[W.heap.size]? = some (.cells #[.int .i64 0, .slice none 0 0] 32 (0, 0)) by rw [← hX0]; exact (heap_past _ _ _ (by simp)).trans (heap_last W _ _ rfl))
    have ST := Lib.hid (show Half X0 (W.heap.size + 1) c 0 xs X0 from ⟨⟨_, by rw [← hX0]; exact heap_last _ _ _ (by simp), World.ownsRow_nil _ _ _ _⟩, by omega, World.grownBy.refl _ _⟩)
    rw [hX0]
    clear hX0
    go_loopw [7] (fun i wr => ∃ k : Nat, k ≤ m ∧ i = .int .i64 k ∧ Hid (Half X0 (W.heap.size + 1) c k xs wr ∧ ∀ j, j < k → rs j = 0)) (fun i _ => m - (intOf i).toNat)
    case atStart => exact ⟨0, by omega, rfl, Lib.hid ⟨ST.out, fun j h => by omega⟩⟩
    case round =>
      clear ST
      obtain ⟨k, hk, rfl, HK⟩ := hrel
      have BW := Lib.hid (BX.out.grown HK.out.1.grown BX.out.size (fun j e => by injection e with e; omega))
      have hz := HK.out.1.grown.size
      by_cases hlt : k < m
      · have RK := Lib.hid (RD.out k wr hlt BW.out)
        have n1 : (2 + 8 * (k : Int)).toNat = 2 + 8 * k := by omega
        have n2 : (10 + 8 * (k : Int)).toNat = 10 + 8 * k := by omega
        have n3 : 10 + 8 * k - (2 + 8 * k) = 8 := by omega
        have n4 : 2 + 8 * k < cap := by omega
        have n5 : 10 + 8 * (k : Int) ≤ (cap : Int) := by omega
        unfold ReadsAs at RK
        go_wp2_with fail
        refine RK.out.mono ?_
        rintro e w1 ⟨rfl, b1⟩
        have B1 := Lib.hid (below_call BW.out b1)
        have G1 := Lib.hid (grown_step HK.out.1.grown (grown_below2 b1) (fun j e => by cases e))
        obtain ⟨v, hv1, hv2⟩ := HK.out.1.row
        have P1 := Lib.hid ((b1.block (W.heap.size + 1) (by omega)).trans hv1)
        have O1 := Lib.hid (own_below2 hv2 b1)
        have AZ := Lib.hid HK.out.2
        have hz1 := G1.out.size
        clear b1 RK hv1 hv2 HK BW n1 n2 n3 n4 n5
        generalize hxk : xs k = x at *
        have HXK := Lib.hid hxk
        clear hxk
        go_wp2_with (with_reducible refine (halt_store 26 _ _ rfl ?_))
        refine ⟨?_, trivial⟩
        refine wpList_store_is rfl 26 _ _ rfl w1.heap.size x.cells rfl rfl 26 _ (heap_last w1 _ _ rfl) info_ins rfl (one_cells _) ?_
        intro w2 s2
        have X2 := Lib.hid s2.row
        have hz2 : w2.heap.size = w1.heap.size + 1 := by rw [s2.size, size_alloc]
        have b2 : Below w1.heap.size w1 w2 := s2.below (below_new (Below.refl w1.heap.size w1) _) (Nat.le_refl _)
        have B2 := Lib.hid (below_call B1.out b2)
        have G2 := Lib.hid (grown_step G1.out (grown_below2 b2) (fun j e => by cases e))
        have P2 := Lib.hid ((b2.block (W.heap.size + 1) (by omega)).trans P1.out)
        have O2 := Lib.hid (own_below2 O1.out b2)
        have R2 := Lib.hid ((G2.out.block W.heap.size (by omega) (fun e => by injection e with e; omega)).trans RX.out)
        clear s2 b2 B1 G1 P1 O1
        generalize hN : w1.heap.size = N at *
        by_cases h0 : rs k = 0
        case neg =>
          have e0 : (rs k != 0) = true := by simpa using h0
          have FF := firstF_hit (g := rs) h0 (n := m) (i := 0) (by omega) (by omega) (fun j _ hj => AZ.out j hj)
          have RR : R = ((k : Int), rs k) := by rw [D1'.out (by rw [FF]; exact h0), FF]
          have FIN := Lib.hid (fun w' (b : Below W.heap.size W w') => GOAL.out (.returned (.tuple #[.agg #[.int .i64 0, .slice none 0 0], .int .i64 (k : Int), .int .i64 (rs k)])) w' (fun _ => by rw [RR]; exact ⟨rfl, b⟩) (fun h => absurd h (by rw [RR]; exact h0)))
          clear GOAL D1' D2' RR CK OK h0 FF AZ RD TI
          generalize rs k = rk at *
          go_wp2_with (with_reducible refine (halt_store 32 _ _ rfl ?_))
          refine ⟨?_, trivial⟩
          refine wpList_store_is rfl 32 _ _ rfl W.heap.size #[.int .i64 0, .slice none 0 0] rfl rfl 32 _ R2.out info_prog2 rfl (by simp [Value.oneCell']) ?_
          intro w7 s7
          have r0 : w7.cell? ⟨W.heap.size, 0, none⟩ = some (.int .i64 0) := (s7.cell 0).trans rfl
          have r1 : w7.cell? ⟨W.heap.size, 1, none⟩ = some (.slice none 0 0) := (s7.cell 1).trans rfl
          have B7 := Lib.hid (s7.below B2.out (Nat.le_refl _))
          clear s7 R2 B2
          go_wp2_with fail
          refine bodyPost_ret (v := .tuple #[.agg #[.int .i64 0, .slice none 0 0], .int .i64 (k : Int), .int .i64 rk]) (by simp [results, Try.results15, go_sem, r0, r1]) rfl (FIN.out _ B7.out)
        case pos =>
          have e0 : (rs k != 0) = false := by simpa using h0
          have AZ2 := Lib.hid (show ∀ j, j < k + 1 → rs j = 0 from fun j hj => by
            by_cases e : j = k
            · subst e; exact h0
            · exact AZ.out j (by omega))
          clear h0 AZ
          have hp1 : w2.cell? ⟨W.heap.size + 1, 1, none⟩ = some v := by simp [World.cell?, P2.out]
          go_wp2_with (with_reducible refine (halt_load 26 _ rfl ?_))
          refine ⟨?_, trivial⟩
          refine wpList_load_row rfl 26 _ rfl N rfl _ x.cells _ _ X2.out Try.underlying26 rfl info_ins ?_
          unfold In.cells
          go_wp2_with (with_reducible refine (halt_app _ _ 30 rfl ?_))
          refine ⟨?_, trivial⟩
          refine wpList_append_own _ rfl _ _ 30 rfl X0.heap.size 26 ti tz 9 ti.bytes Try.underlying30 TI.out.1 TI.out.2.1 TI.out.2.2.2.1 rfl TI.out.2.2.1 (by decide) _ k (cellsI xs k) rfl (O2.out.alloc _) ⟨w2.heap.size, 0, none⟩ 1 1 x.cells.toList (by rw [hz2]; rfl) rfl (cells_at w2 x.cells _) (ins_one x) (by unfold maxLen; omega) (by have := Nat.mul_le_mul (show k + 1 ≤ 65 by omega) TI.out.2.2.2.2; omega) (by simp; omega) ?_
          intro v3 w3 o3 g3 _
          have hub : ∀ j, v.ownBlock = some j → X0.heap.size ≤ j := fun j hj => (World.ownsRow.lt O2.out j hj).1
          have g3' : (w2.alloc (.cells x.cells 26)).grownBy w3 v.ownBlock := g3
          have P3 := Lib.hid ((g3'.block (W.heap.size + 1) (by rw [size_alloc]; omega) (fun e => by have := hub (W.heap.size + 1) e.symm; omega)).trans ((heap_past w2 _ (W.heap.size + 1) (by omega)).trans P2.out))
          have G3 := Lib.hid (grown_step (grown_step G2.out (grown_below2 (below_new (Below.refl _ w2) (.cells x.cells 26))) (fun j e => by cases e)) g3' (fun j e => .inl (hub j e)))
          obtain ⟨gv, capv, rfl⟩ := ownsRow_succ o3
          have hgv := (World.ownsRow.lt o3 gv rfl).1
          have O3 := Lib.hid (show w3.ownsRow X0.heap.size 26 9 (.slice (some ⟨gv, 0, none⟩) (k + 1) capv) (k + 1) (cellsI xs (k + 1)) by
            show w3.ownsRow _ _ _ _ _ (cellsI xs k ++ (xs k).cells.toList)
            rw [HXK.out]; exact o3)
          clear o3 g3 g3' hub hp1 G2 P2 O2 X2 HXK
          go_wp2_with (with_reducible refine (halt_store 30 _ _ rfl ?_))
          refine ⟨?_, trivial⟩
          refine wpList_store_cell rfl 30 _ _ rfl (W.heap.size + 1) 1 (.slice (some ⟨gv, 0, none⟩) (k + 1) capv) rfl rfl rfl rfl 32 _ P3.out info_isl (by simp) ?_
          intro w4 s4
          have H4 := Lib.hid (show Half X0 (W.heap.size + 1) c (k + 1) xs w4 from ⟨⟨_, s4.row, O3.out.kept (grown_stored2 s4) (.inr (by simp [Value.ownBlock]; omega))⟩, by omega, grown_step G3.out (grown_stored2 s4) (fun j e => by injection e with e; exact .inr e.symm)⟩)
          clear s4 P3 G3 O3
          go_wp2_with fail
          go_roundw
          case rel => exact ⟨k + 1, by omega, by go_num, Lib.hid ⟨H4.out, AZ2.out⟩⟩
          case measure => simp [intOf]; omega
      · obtain rfl : k = m := by omega
        have FF := firstF_none (g := rs) (n := k) (k := 0) (fun i _ h2 => HK.out.2 i (by omega))
        have D3 := Lib.hid (D2'.out (by rw [FF]))
        obtain ⟨v5, hP5, hO5⟩ := HK.out.1.row
        obtain ⟨gv, cv, rfl, hgv, hI5⟩ := own_insts hO5 (by omega) OK.out
        have I5 := Lib.hid hI5
        have C5 := Lib.hid (CK.out _ _ _ hI5)
        have hb5 : W.heap.size + 1 < wr.heap.size := (Array.getElem?_eq_some_iff.1 hP5).1
        have R4 := Lib.hid ((HK.out.1.grown.block W.heap.size (by omega) (fun e => by injection e with e; omega)).trans RX.out)
        have q0 : wr.cell? ⟨W.heap.size + 1, 0, none⟩ = some (.int .i64 c) := by simp [World.cell?, hP5]
        have q1 : wr.cell? ⟨W.heap.size + 1, 1, none⟩ = some (.slice (some ⟨gv, 0, none⟩) k cv) := by simp [World.cell?, hP5]
        have B4 := Lib.hid BW.out
        clear hP5 hO5 hI5 HK D1' D2' CK FF RD BW TI
        generalize checkI c k xs = cq at *
        obtain ⟨ca, ce⟩ := cq
        simp only at C5
        go_wp2_with fail
        refine C5.out.mono ?_
        rintro e w6 ⟨rfl, b6⟩
        have B6 := Lib.hid (below_call B4.out b6)
        have R6 := Lib.hid ((b6.block W.heap.size (by omega)).trans R4.out)
        have I6 := Lib.hid (I5.out.below b6)
        have z0 := (b6.cell (p := ⟨W.heap.size + 1, 0, none⟩) hb5).trans q0
        have z1 := (b6.cell (p := ⟨W.heap.size + 1, 1, none⟩) hb5).trans q1
        clear b6 R4 I5 B4 C5 q0 q1
        by_cases h2 : ce = 0
        case neg =>
          have e1 : (ce != 0) = true := by simpa using h2
          have FIN := Lib.hid (fun w' (b : Below W.heap.size W w') => GOAL.out (.returned (.tuple #[.agg #[.int .i64 0, .slice none 0 0], .int .i64 ca, .int .i64 ce])) w' (fun _ => by rw [D3.out]; exact ⟨rfl, b⟩) (fun h => absurd h (by rw [D3.out]; exact h2)))
          clear GOAL D3 OK h2 I6
          go_wp2_with (with_reducible refine (halt_store 32 _ _ rfl ?_))
          refine ⟨?_, trivial⟩
          refine wpList_store_is rfl 32 _ _ rfl W.heap.size #[.int .i64 0, .slice none 0 0] rfl rfl 32 _ R6.out info_prog2 rfl (by simp [Value.oneCell']) ?_
          intro w7 s7
          have r0 : w7.cell? ⟨W.heap.size, 0, none⟩ = some (.int .i64 0) := (s7.cell 0).trans rfl
          have r1 : w7.cell? ⟨W.heap.size, 1, none⟩ = some (.slice none 0 0) := (s7.cell 1).trans rfl
          have B7 := Lib.hid (s7.below B6.out (Nat.le_refl _))
          clear s7 R6 B6
          go_wp2_with fail
          refine bodyPost_ret (v := .tuple #[.agg #[.int .i64 0, .slice none 0 0], .int .i64 ca, .int .i64 ce]) (by simp [results, Try.results15, go_sem, r0, r1]) rfl (FIN.out _ B7.out)
        case pos =>
          subst h2
          have FIN := Lib.hid (fun w' (b : Below W.heap.size W w') (i : Insts w' (some ⟨gv, 0, none⟩) k cv xs) => GOAL.out (.returned (.tuple #[.agg #[.int .i64 c, .slice (some ⟨gv, 0, none⟩) k cv], .int .i64 0, .int .i64 0])) w' (fun h => absurd (by rw [D3.out]) h) (fun _ => ⟨_, _, rfl, i, b⟩))
          clear GOAL D3 OK
          go_wp2_with (with_reducible refine (halt_store 32 _ _ rfl ?_))
          refine ⟨?_, trivial⟩
          refine wpList_store_is rfl 32 _ _ rfl W.heap.size #[.int .i64 c, .slice (some ⟨gv, 0, none⟩) k cv] rfl rfl 32 _ R6.out info_prog2 rfl (by simp [Value.oneCell']) ?_
          intro w7 s7
          have r0 : w7.cell? ⟨W.heap.size, 0, none⟩ = some (.int .i64 c) := (s7.cell 0).trans rfl
          have r1 : w7.cell? ⟨W.heap.size, 1, none⟩ = some (.slice (some ⟨gv, 0, none⟩) k cv) := (s7.cell 1).trans rfl
          have B7 := Lib.hid (s7.below B6.out (Nat.le_refl _))
          have I7 := Lib.hid (show Insts w7 (some ⟨gv, 0, none⟩) k cv xs from ⟨I6.out.le, I6.out.fit, fun hp => by
            obtain ⟨b', o', e, hc⟩ := I6.out.here hp
            injection e with e
            injection e with e1 e2
            subst e1 e2
            refine ⟨_, _, rfl, fun i hi j u hu => ?_⟩
            have := hc i hi j u hu
            rw [← this]
            exact World.cell?_of_block (s7.other _ (by simp only; omega)), I6.out.ok⟩)
          clear s7 R6 B6 I6
          go_wp2_with fail
          refine bodyPost_ret (v := .tuple #[.agg #[.int .i64 c, .slice (some ⟨gv, 0, none⟩) k cv], .int .i64 0, .int .i64 0]) (by simp [results, Try.results15, go_sem, r0, r1]) rfl (FIN.out _ B7.out I7.out)

theorem r_decode_any (a : Option Addr) (len cap : Nat) (f : Nat → Int) (W : World) (h : Byt W a len cap f) :
    Calls Try.prog 15 #[.slice a len cap] W (DecAs len f W) := by
  by_cases h0 : len < 2 ∨ (len - 2) % 8 ≠ 0
  · have e : decR len f = (0, 30) := by unfold decR; rw [if_pos h0]
    refine (r_decode_code a len cap f W h h0).mono fun e' w' hn => ⟨fun _ => by rw [e]; exact hn, fun h => by rw [e] at h; cases h⟩
  · obtain ⟨m, rfl⟩ : ∃ m, len = 2 + 8 * m := ⟨(len - 2) / 8, by omega⟩
    exact r_decode_main a m cap f W h
end Go.Proofs.Ytbpefomjmjkciaa.Ins
