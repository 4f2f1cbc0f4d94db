/-
  Package blocks: Run.
-/
import Derived.Test.YtbpefomjmjkciaaBlkB
import Derived.Maps.AppendAt
namespace Go.Proofs.Ytbpefomjmjkciaa.Blk
open Go.RowKit Go.Maps Go.Sort Ins
set_option linter.unusedVariables false

/-- A block's three cells; where its successors lie. -/
def cell3 (p : Bk × (Option Addr × Nat)) : List Value := [.int .i64 p.1.fr, .int .i64 p.1.to, .slice p.2.1 p.1.next.length p.2.2]
def cellsOf : List (Bk × (Option Addr × Nat)) → List Value
  | [] => []
  | p :: l => cell3 p ++ cellsOf l
theorem cellsOf_append : ∀ l m, cellsOf (l ++ m) = cellsOf l ++ cellsOf m
  | [], m => rfl
  | p :: l, m => by show cell3 p ++ cellsOf (l ++ m) = _; rw [cellsOf_append l m]; rfl
theorem cellsOf_length : ∀ l, (cellsOf l).length = l.length * 3
  | [] => rfl
  | p :: l => by
    show (cell3 p ++ cellsOf l).length = _
    rw [List.length_append, cellsOf_length l, List.length_cons]
    show 3 + l.length * 3 = (l.length + 1) * 3
    omega
theorem cellsOf_get : ∀ {l : List (Bk × (Option Addr × Nat))} {i k : Nat} {p : Bk × (Option Addr × Nat)}, l[i]? = some p → k < 3 → (cellsOf l)[i * 3 + k]? = (cell3 p)[k]?
  | [], i, k, p, h, _ => by simp at h
  | q :: l, 0, k, p, h, hk => by
    obtain rfl : q = p := by simpa using h
    show (cell3 q ++ cellsOf l)[0 * 3 + k]? = _
    rw [Nat.zero_mul, Nat.zero_add, List.getElem?_append_left (by show k < 3; exact hk)]
  | q :: l, i + 1, k, p, h, hk => by
    show (cell3 q ++ cellsOf l)[(i + 1) * 3 + k]? = _
    rw [List.getElem?_append_right (by show 3 ≤ _; omega), show (i + 1) * 3 + k - (cell3 q).length = i * 3 + k by show (i + 1) * 3 + k - 3 = _; omega]
    exact cellsOf_get (by simpa using h) hk
theorem cell3_one (p : Bk × (Option Addr × Nat)) : ∀ u ∈ cell3 p, u.oneCell' = true := by
  intro u hu
  simp [cell3] at hu
  rcases hu with rfl | rfl | rfl <;> rfl

/-- A slice of blocks that can be read. -/
structure Blks (W : World) (a : Option Addr) (len cap : Nat) (bs : List Bk) : Prop where
  size : len = bs.length
  le : len ≤ cap
  fit : cap ≤ 9223372036854775807
  here : 0 < len → ∃ b o, a = some ⟨b, o, none⟩ ∧ ∀ i x, bs[i]? = some x → ∃ na nc, W.rangeAt b (o + i * 3) (cell3 (x, (na, nc))) ∧ IntsAt W na x.next.length nc x.next
theorem Blks.below {W w : World} {a : Option Addr} {len cap : Nat} {bs : List Bk} (h : Blks W a len cap bs) (b : Below W.heap.size W w) : Blks w a len cap bs :=
  ⟨h.size, h.le, h.fit, fun hp => by
    obtain ⟨b', o, e, hc⟩ := h.here hp
    refine ⟨b', o, e, fun i x hx => ?_⟩
    obtain ⟨na, nc, h1, h2⟩ := hc i x hx
    exact ⟨na, nc, rangeAt_below b h1, h2.below b⟩⟩

theorem openF_step (s : Sh) (n i : Nat) : openF s n (i + 1) = if beg s n (i + 1) = true then i + 1 else openF s n i := rfl
/-- A slice of blocks that the call itself has made. -/
structure Own (base : Nat) (w : World) (v : Value) (ps : List (Bk × (Option Addr × Nat))) : Prop where
  row : w.ownsRow base 55 3 v ps.length (cellsOf ps)
  nexts : ∀ p ∈ ps, IntsAt w p.2.1 p.1.next.length p.2.2 p.1.next
  apart : ∀ p ∈ ps, ∀ ad, p.2.1 = some ad → v.ownBlock ≠ some ad.block ∧ ad.block < w.heap.size
theorem Own.nil (base : Nat) (w : World) : Own base w (.slice none 0 0) [] := ⟨⟨rfl, .inl ⟨rfl, rfl⟩⟩, (fun _ h => by cases h), (fun _ h => by cases h)⟩
theorem own_below {w w' : World} {base : Nat} {e : TypeId} {s n : Nat} {v : Value} {xs : List Value} (h : w.ownsRow base e s v n xs) (b : Below w.heap.size w w') : w'.ownsRow base e s v n xs := by
  refine ⟨h.1, ?_⟩
  rcases h.2 with h | ⟨g, cap, cur, e1, e2, e3, r⟩
  · exact .inl h
  · exact .inr ⟨g, cap, cur, e1, e2, (b.block g (Array.getElem?_eq_some_iff.1 e3).1).trans e3, r⟩
theorem Own.below {base : Nat} {w w' : World} {v : Value} {ps : List (Bk × (Option Addr × Nat))} (h : Own base w v ps) (b : Below w.heap.size w w') : Own base w' v ps :=
  ⟨own_below h.row b, fun p hp => (h.nexts p hp).below b, fun p hp ad e => ⟨(h.apart p hp ad e).1, Nat.lt_of_lt_of_le (h.apart p hp ad e).2 b.size⟩⟩
theorem IntsAt.grown {w w' : World} {row : Option Nat} {a : Option Addr} {len cap : Nat} {zs : List Int} (h : IntsAt w a len cap zs) (g : w.grownBy w' row) (hr : ∀ ad, a = some ad → row ≠ some ad.block) : IntsAt w' a len cap zs :=
  ⟨h.size, h.le, h.fit, fun hp => by
    obtain ⟨b', o, e, hc⟩ := h.here hp
    exact ⟨b', o, e, fun j z hz => g.cell (hc j z hz) (Ne.symm (by have := hr _ e; exact this))⟩⟩
theorem Own.append {base : Nat} {w w' : World} {v v' : Value} {ps : List (Bk × (Option Addr × Nat))} {p : Bk × (Option Addr × Nat)} (h : Own base w v ps) (hp : IntsAt w p.2.1 p.1.next.length p.2.2 p.1.next)
    (ha : ∀ ad, p.2.1 = some ad → v.ownBlock ≠ some ad.block ∧ ad.block < w.heap.size) (hrow : w'.ownsRow base 55 3 v' (ps.length + 1) (cellsOf ps ++ cell3 p)) (g : w.grownBy w' v.ownBlock)
    (hl : v'.ownBlock = v.ownBlock ∨ v'.ownBlock = some w.heap.size) : Own base w' v' (ps ++ [p]) := by
  have all : ∀ q ∈ ps ++ [p], IntsAt w q.2.1 q.1.next.length q.2.2 q.1.next ∧ ∀ ad, q.2.1 = some ad → v.ownBlock ≠ some ad.block ∧ ad.block < w.heap.size := by
    intro q hq
    rcases List.mem_append.1 hq with hq | hq
    · exact ⟨h.nexts q hq, h.apart q hq⟩
    · obtain rfl : q = p := by simpa using hq
      exact ⟨hp, ha⟩
  refine ⟨?_, fun q hq => (all q hq).1.grown g (fun ad e => ((all q hq).2 ad e).1), fun q hq ad e => ?_⟩
  · rw [List.length_append, cellsOf_append]
    have : cellsOf [p] = cell3 p := by show cell3 p ++ [] = _; rw [List.append_nil]
    rw [this]; exact hrow
  · have := (all q hq).2 ad e
    refine ⟨?_, Nat.lt_of_lt_of_le this.2 g.size⟩
    rcases hl with hl | hl
    · rw [hl]; exact this.1
    · rw [hl]; intro e2; injection e2 with e2; omega
theorem Own.blks {base : Nat} {w : World} {v : Value} {ps : List (Bk × (Option Addr × Nat))} (h : Own base w v ps) : ∃ a cap, v = .slice a ps.length cap ∧ Blks w a ps.length cap (ps.map (·.1)) := by
  rcases h.row.2 with ⟨rfl, h0⟩ | ⟨g, cap, cur, rfl, e2, e3, e4, e5, e6, e7⟩
  · exact ⟨none, 0, by rw [h0], by rw [h0]; exact ⟨by simp [h0], Nat.le_refl _, by omega, fun h => absurd h (by omega)⟩⟩
  · refine ⟨_, cap, rfl, ⟨by simp, e4, by unfold maxLen at e5; omega, fun _ => ⟨g, 0, rfl, fun i x hx => ?_⟩⟩⟩
    rw [List.getElem?_map] at hx
    cases hq : ps[i]? with
    | none => rw [hq] at hx; cases hx
    | some q =>
      rw [hq] at hx
      obtain rfl : q.1 = x := by simpa using hx
      refine ⟨q.2.1, q.2.2, ?_, h.nexts q (List.mem_of_getElem? hq)⟩
      intro k u hu
      have hk : k < 3 := (List.getElem?_eq_some_iff.1 hu).1
      have hi : i < ps.length := (List.getElem?_eq_some_iff.1 hq).1
      have h1 := cellsOf_get hq hk
      rw [← e7, List.getElem?_take_of_lt (by omega), Array.getElem?_toList] at h1
      simp only [World.cell?, e3, Nat.zero_add]
      rw [h1]; exact hu

theorem cells_new (w : World) (cs : List Value) (t : TypeId) : ∀ j u, cs[j]? = some u → (w.alloc (.cells cs.toArray t)).cell? ((⟨w.heap.size, 0, none⟩ : Addr).add j) = some u := by
  intro j u hu
  have := heap_last w (.cells cs.toArray t) _ rfl
  rw [Go.WideShapes.add_plain, Nat.zero_add]
  simp only [World.cell?]
  rw [this]
  simpa using hu

def Ran (s : Sh) (len : Nat) (W : World) (e : Ending) (w' : World) : Prop :=
  ∃ a cap, e = .returned (.tuple #[.slice a (bksF s len len).length cap, .int .i64 0]) ∧ Blks w' a (bksF s len len).length cap (bksF s len len) ∧ Below W.heap.size W w'

theorem info_blk : (Try.prog.info? 55).map (fun i => (i.zero, i.size, i.bytes)) = some (some (.agg #[.int .i64 0, .int .i64 0, .slice none 0 0]), 3, 40) := by kernel_rfl
theorem info_blka : ∃ i, Try.prog.info? 55 = some i ∧ i.zero = some (.agg #[.int .i64 0, .int .i64 0, .slice none 0 0]) ∧ i.size = 3 ∧ i.bytes = 40 := by
  have h := info_blk
  cases hi : Try.prog.info? 55 with
  | none => rw [hi] at h; simp at h
  | some i => rw [hi] at h; simp at h; exact ⟨i, rfl, h.1, h.2.1, h.2.2⟩

set_option maxRecDepth 100000 in
set_option maxHeartbeats 2000000 in
theorem run_no (c : Int) (a : Option Addr) (len cap : Nat) (xs : Nat → In) (W : World) (hx : Insts W a len cap xs) (h0 : ¬ (checkI c len xs).2 = 0) :
    Calls Try.prog 59 #[.agg #[.int .i64 c, .slice a len cap]] W fun e w' => e = .returned (.tuple #[.slice none 0 0, .int .i64 (checkI c len xs).2]) ∧ Below W.heap.size W w' := by
  have C := Lib.hid (fun W h => check_any c a len cap xs W h)
  have HX := Lib.hid hx; clear hx
  generalize (checkI c len xs).2 = r at *
  generalize (checkI c len xs).1 = i at *
  have e0 : (r != 0) = true := by simpa using h0
  clear h0
  go_enter Try.func59, Try.ntmps59
  go_wp2_with fail
  refine (C.out _ (HX.out.below (below_new (Below.refl _ _) _))).mono ?_
  rintro e w2 ⟨rfl, b2⟩
  go_wp2_with fail
  go_ret2
  exact ⟨rfl, below_call (below_new (Below.refl _ W) _) b2⟩

set_option maxRecDepth 100000 in
set_option maxHeartbeats 4000000 in
theorem run_yes (c : Int) (a : Option Addr) (len cap : Nat) (xs : Nat → In) (W : World) (hx : Insts W a len cap xs) (h0 : (checkI c len xs).2 = 0) :
    Calls Try.prog 59 #[.agg #[.int .i64 c, .slice a len cap]] W (Ran (sh xs) len W) := by
  have C := Lib.hid (fun W h => check_any c a len cap xs W h)
  rw [h0] at C
  have hfit := hx.fit
  have hle := hx.le
  have HX := Lib.hid hx; clear hx
  obtain ⟨hF, h64⟩ := fine_of h0
  have FN := Lib.hid hF; clear hF
  have J4 := Lib.hid (show ∀ k, k < len → (xs k).kind = 4 → jumpsI k (xs k) = true from fun k hk h4 => by rw [((ends_facts h0).2.2 k hk).2.1]; simp [h4])
  have BG := Lib.hid (fun W h => beginnings_any a len cap xs W h FN.out h64)
  have SU := Lib.hid (fun i b N D W hi hb own nums => successors_any i len xs b N D W hi h64 (J4.out i hi) hb FN.out own nums)
  clear h0
  generalize (checkI c len xs).1 = i0 at *
  generalize sh xs = s at *
  go_enter Try.func59, Try.ntmps59
  go_wp2_with fail
  refine (C.out _ (HX.out.below (below_new (Below.refl _ _) _))).mono ?_
  rintro e w2 ⟨rfl, b2⟩
  have hP1 : w2.cell? ⟨W.heap.size, 1, none⟩ = some (.slice a len cap) := (b2.cell (by simp)).trans (by simp)
  have B2 := Lib.hid (below_call (below_new (Below.refl _ W) _) b2)
  have hz2 : W.heap.size < w2.heap.size := by have := b2.size; simp at this; omega
  clear b2 C
  go_wp2_with fail
  refine (BG.out _ (HX.out.below B2.out)).mono ?_
  rintro e w3 ⟨b, D, rfl, hb, own, nums, b3⟩
  have hP3 := (b3.cell (p := ⟨W.heap.size, 1, none⟩) hz2).trans hP1
  have B3 := Lib.hid (below_call B2.out b3)
  have O3 := Lib.hid own
  have NU := Lib.hid nums
  have hbl : b < w3.heap.size := own.lt
  clear b3 own nums hP1 BG B2
  go_wp2_with fail
  obtain ⟨ti, hi1, hi2, hi3, hi4⟩ := info_blka
  have TI := Lib.hid (And.intro hi1 (And.intro hi2 (And.intro hi3 hi4)))
  clear hi1 hi2 hi3 hi4 hP3
  have hbB := Lib.hid hb
  generalize hB0 : w3.heap.size = B0 at hbl
  have HB0 := Lib.hid hB0; clear hB0
  go_loopw [7, 8, 27] (fun v f i wr => ∃ k : Nat, k ≤ len ∧ i = .int .i64 k ∧ f = .int .i64 (openF s len k) ∧ Hid (Below W.heap.size W wr ∧ B0 ≤ wr.heap.size ∧ wr.ownsMap Try.prog 3 (plainElem (H := Unit) Try.prog 3) b (1 + 4 * len) D ∧ ∃ ps : List (Bk × (Option Addr × Nat)), ps.map (·.1) = bksF s len k ∧ Own B0 wr v ps)) (fun _ _ i _ => len - (intOf i).toNat)
  case atStart => exact ⟨0, by omega, rfl, rfl, Lib.hid ⟨B3.out, by rw [HB0.out]; exact Nat.le_refl _, O3.out, [], rfl, Own.nil _ _⟩⟩
  case round =>
    clear O3 B3 HB0
    obtain ⟨k, hk, rfl, rfl, hR⟩ := hrel
    obtain ⟨ps, hps, hown⟩ := hR.out.2.2.2
    have PS := Lib.hid hps
    have OB := Lib.hid hown
    have OM := Lib.hid hR.out.2.2.1
    have BW := Lib.hid hR.out.1
    have SZ := Lib.hid hR.out.2.1
    clear hR hps hown
    by_cases hlt : k < len
    · obtain ⟨B, q, rfl, hcells⟩ := HX.out.here (by omega)
      have HA := Lib.hid (rangeAt_below BW.out (hcells k hlt))
      have i9 : (Try.prog.info? 26).map (·.size) = some (xs k).cells.toList.length := info_ins
      have HI := Lib.hid i9
      have OC := Lib.hid (one_cells (xs k))
      clear i9 hcells
      have S := Lib.hid (fun W hb own => SU.out k b (1 + 4 * len) D W hlt hb own NU.out)
      have OF := Lib.hid (openF_step s len k)
      have BF := Lib.hid (bksF_succ s len k)
      have hol := openF_le s len k
      generalize openF s len k = ofk at *
      go_wp2_with (first | (refine wpList_load_mid rfl 26 _ rfl B (q + k * 9) rfl (xs k).cells.toList _ HA.out Try.underlying26 rfl HI.out ?_) | (refine (halt_store 26 _ _ rfl ?_)))
      refine ⟨?_, trivial⟩
      refine wpList_store_is rfl 26 _ _ rfl wr.heap.size (xs k).cells rfl rfl 26 _ (heap_last wr _ _ rfl) HI.out rfl OC.out ?_
      intro w5 s5
      have b5 : Below wr.heap.size wr w5 := s5.below ((Below.refl _ wr).alloc (Nat.le_refl _) _) (Nat.le_refl _)
      have W5 := Lib.hid (below_call BW.out b5)
      have R5 := Lib.hid s5.row
      have M5 := Lib.hid (owns_below_map OM.out b5)
      have V5 := Lib.hid (OB.out.below b5)
      have Z5 := Lib.hid (Nat.le_trans SZ.out b5.size)
      clear s5 b5 BW OM OB SZ
      generalize wr.heap.size = X at *
      generalize (xs k).cells = cc at *
      go_wp2_with (refine (halt_lookup 125 _ _ _ rfl ?_))
      refine ⟨?_, trivial⟩
      refine wpList_lookup_own_ok_int _ rfl _ _ 125 rfl 3 3 .i64 lawI Try.underlying125 Try.underlying3 (zero_int _) b _ D rfl M5.out _ (.int .i64 ((k : Int) + 1)) rfl (keyOf_int_mk Try.underlying3 (WalkArith.wf_i64 (by omega))) ?_
      intro c1 _ _
      rw [NU.out.keys]
      cases hbeg : begB s len ((k : Int) + 1)
      · have OF2 := Lib.hid (show openF s len (k + 1) = ofk by rw [OF.out, if_neg (by show ¬ begB s len ((k + 1 : Nat) : Int) = true; rw [show ((k + 1 : Nat) : Int) = (k : Int) + 1 by omega, hbeg]; simp)])
        have BF2 := Lib.hid (show bksF s len (k + 1) = bksF s len k by rw [BF.out, if_neg (by show ¬ begB s len ((k + 1 : Nat) : Int) = true; rw [show ((k + 1 : Nat) : Int) = (k : Int) + 1 by omega, hbeg]; simp)])
        clear hbeg
        go_wp2_with fail
        go_roundw
        case rel => exact ⟨k + 1, by omega, by go_num, by rw [OF2.out], Lib.hid ⟨W5.out, Z5.out, M5.out, ps, by rw [BF2.out]; exact PS.out, V5.out⟩⟩
        case measure => simp [intOf]; omega
      · have HBG := Lib.hid hbeg
        have OF2 := Lib.hid (show openF s len (k + 1) = k + 1 by rw [OF.out, if_pos (by show begB s len ((k + 1 : Nat) : Int) = true; rw [show ((k + 1 : Nat) : Int) = (k : Int) + 1 by omega, hbeg])])
        have BF2 := Lib.hid (show bksF s len (k + 1) = bksF s len k ++ [⟨ofk, (k : Int) + 1, nextL s len k⟩] by rw [BF.out, if_pos (by show begB s len ((k + 1 : Nat) : Int) = true; rw [show ((k + 1 : Nat) : Int) = (k : Int) + 1 by omega, hbeg])])
        clear hbeg
        go_wp2_with (refine (halt_load 26 _ rfl ?_))
        refine ⟨?_, trivial⟩
        refine wpList_load_row rfl 26 _ rfl X rfl _ cc _ _ R5.out Try.underlying26 rfl HI.out ?_
        go_wp2_with fail
        refine (S.out _ HBG.out M5.out).mono ?_
        rintro e w6 ⟨na, nc, rfl, hints, hnew, b6⟩
        have W6 := Lib.hid (below_call W5.out b6)
        have M6 := Lib.hid (owns_below_map M5.out b6)
        have V6 := Lib.hid (V5.out.below b6)
        have Z6 := Lib.hid (Nat.le_trans Z5.out b6.size)
        have I6 := Lib.hid hints
        have vlt := Lib.hid (show ∀ j, u7.ownBlock = some j → j < w5.heap.size from fun j hj => (World.ownsRow.lt V5.out.row j hj).2)
        have N6 := Lib.hid hnew
        clear b6 hints hnew W5 M5 V5 Z5 R5 S
        generalize nextL s len k = nl at *
        have PL := Lib.hid (show ps.length ≤ k by
          have h1 := congrArg List.length PS.out
          rw [List.length_map] at h1
          have h2 := bksF_len s len k
          have h3 := cnt_le_self (beg s len) (k + 1)
          omega)
        go_wp2_with (at_builtin; refine wpList_append_own_at _ rfl _ _ 42 rfl B0 55 ti _ 3 40 Try.underlying42 TI.out.1 TI.out.2.1 TI.out.2.2.1 TI.out.2.2.2 rfl (by decide) _ ps.length _ rfl (V6.out.below ((Below.refl _ w6).alloc (Nat.le_refl _) _)).row ⟨w6.heap.size, 0, none⟩ 1 1 (cell3 (⟨(ofk : Int), (k : Int) + 1, nl⟩, (na, nc))) rfl rfl (cells_new w6 _ _) (cell3_one _) (by have := PL.out; unfold maxLen; omega) (by have := PL.out; omega) (by have := Z6.out; simp; omega) ?_)
        intro v7 w7 o7 g7 n7 l7
        have ball := Lib.hid ((Below.refl w6.heap.size w6).alloc (Nat.le_refl _) (.cells #[Value.int IntKind.i64 ofk, Value.int IntKind.i64 ((k : Int) + 1), Value.slice na nl.length nc] 55))
        have V7 := Lib.hid (Own.append (V6.out.below ball.out) (p := (⟨(ofk : Int), (k : Int) + 1, nl⟩, (na, nc))) (I6.out.below ball.out) (fun ad e => by
          have h1 := N6.out ad e
          refine ⟨fun e2 => ?_, by simp; omega⟩
          have := vlt.out _ e2
          omega) o7 g7 (by simpa using l7))
        have hub : ∀ j, u7.ownBlock = some j → B0 ≤ j := fun j hj => (World.ownsRow.lt V6.out.row j hj).1
        have W7 := Lib.hid ((below_new W6.out (.cells #[Value.int IntKind.i64 ofk, Value.int IntKind.i64 ((k : Int) + 1), Value.slice na nl.length nc] 55)).grown g7 (by have := W6.out.size; simp; omega) (fun j hj => by have := hub j hj; have := hbB.out; omega))
        have M7 := Lib.hid (((M6.out.alloc (.cells #[Value.int IntKind.i64 ofk, Value.int IntKind.i64 ((k : Int) + 1), Value.slice na nl.length nc] 55)).kept g7 (fun e => by have := hub b e.symm; omega)))
        have Z7 := Lib.hid (show B0 ≤ w7.heap.size by have := g7.size; have := Z6.out; simp at *; omega)
        clear o7 g7 n7 l7 hub
        go_wp2_with fail
        go_roundw
        case rel => exact ⟨k + 1, by omega, by go_num, by rw [OF2.out]; go_num, Lib.hid ⟨W7.out, Z7.out, M7.out, _, by rw [BF2.out, List.map_append, PS.out]; rfl, V7.out⟩⟩
        case measure => simp [intOf]; omega
    · obtain rfl : k = len := by omega
      obtain ⟨av, cv, rfl, hb9⟩ := OB.out.blks
      rw [PS.out] at hb9
      have hpl : ps.length = (bksF s k k).length := by rw [← PS.out, List.length_map]
      rw [hpl] at hb9 ⊢
      have H9 := Lib.hid hb9
      clear hb9 hpl OB
      go_wp2_with fail
      go_ret2
      exact ⟨_, _, rfl, H9.out, BW.out⟩
end Go.Proofs.Ytbpefomjmjkciaa.Blk
