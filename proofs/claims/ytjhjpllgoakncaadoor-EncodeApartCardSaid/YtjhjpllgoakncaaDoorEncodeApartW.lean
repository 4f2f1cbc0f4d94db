/-
  The walk of the law EncodeApart. (Written by gen_eap.py.)
-/
import Derived.Test.YtjhjpllgoakncaaDoorEdB
import Derived.Test.YtjhjpllgoakncaaDoorMqK
import Derived.Deep.RegionHeld3
namespace Go.Proofs.YtjhjpllgoakncaaDoor.Mrm
open Go Go.RowKit
set_option linter.unusedVariables false
set_option linter.unnecessarySimpa false
set_option linter.unusedSimpArgs false
set_option maxRecDepth 100000

theorem apart_take {x y : Xi} (hX : XOk x) (hY : XOk y) (hx : mayX x = true) (hy : mayX y = true) (e : (bytL x).take (min (bytL x).length (bytL y).length) = (bytL y).take (min (bytL x).length (bytL y).length)) : x = y := by
  rw [(bytL_yes hx).1, (bytL_yes hy).1] at e
  rcases Nat.le_total (bytesX x).length (bytesX y).length with h | h
  · rw [Nat.min_eq_left h, List.take_length] at e
    refine bytes_apart hX hY hx hy (t := (bytesX y).drop (bytesX x).length) (u := []) ?_
    rw [List.append_nil]
    conv => lhs; lhs; rw [e]
    exact List.take_append_drop _ _
  · rw [Nat.min_eq_right h, List.take_length] at e
    refine bytes_apart hX hY hx hy (t := []) (u := (bytesX x).drop (bytesX y).length) ?_
    rw [List.append_nil]
    conv => rhs; lhs; rw [← e]
    exact (List.take_append_drop _ _).symm
theorem oks_take {l : List Int} (h : Oks l) (n : Nat) : Oks (l.take n) := fun z hz => h z (List.mem_of_mem_take hz)
theorem bts_at {base : Nat} {w : World} {p : Option Addr} {n c : Nat} {l : List Int} (h : Bts base w (.slice p n c) l) (ok : Oks l) : BytesAt w p l.length c l := by
  obtain ⟨a, c', e, h⟩ := h.at ok
  injection e with e1 e2 e3
  subst e1 e3
  exact h
set_option maxHeartbeats 4000000 in
theorem apart_nn (x y : Xi) (w : World) (hT : Tabs w) (hX : XOk x) (hY : XOk y) (hx : mayX x = false) (hy : mayX y = false) (hxy : ¬ x = y) :
    Calls Tryd.prog 7 #[.agg (xC x), .agg (xC y)] w fun e w' => e = .returned (.bool true) ∧ Below w.heap.size w w' := by
  have HT := Lib.hid hT
  have BX := Lib.hid (fun W hT => bytes_n x hX W hT)
  have XO := Lib.hid (bytL_ok x hX)
  have XN := bytL_len x hX
  rw [(bytL_no hx).2] at BX
  have BY := Lib.hid (fun W hT => bytes_n y hY W hT)
  have YO := Lib.hid (bytL_ok y hY)
  have YN := bytL_len y hY
  rw [(bytL_no hy).2] at BY
  have EQ := fun w => eq_x x y w
  rw [eqX_false hxy] at EQ
  have WK := Lib.hid (fun W hT => wakes_n W hT)
  have SX := Lib.hid (show (xC x).size = 8 from rfl)
  have SY := Lib.hid (show (xC y).size = 8 from rfl)
  unfold RetX at BX BY
  clear hT hX hx hY hy hxy
  generalize bytL x = lx at *
  generalize xC x = X at *
  generalize bytL y = ly at *
  generalize xC y = Y at *
  go_enter Tryd.func7, Tryd.ntmps7
  go_wp2_with (with_reducible refine (halt_load0 24 _ rfl rfl ?_))
  refine ⟨?_, trivial⟩
  refine wpList_load_row rfl 24 _ rfl _ rfl _ _ _ _ ((heap_past _ _ _ (by rw [size_alloc]; omega)).trans (heap_last w _ _ rfl)) Tryd.underlying24 rfl (info_X SX.out) ?_
  go_wp2_with fail
  refine (BX.out _ (HT.out.below (below_new (below_new (Below.refl _ _) _) _) (Nat.le_refl _))).mono ?_
  rintro e w1 ⟨v1, rfl, o1, b1⟩
  have B1 := Lib.hid (below_call (below_new (below_new (Below.refl _ _) _) _) b1)
  have R1 := Lib.hid (rows2 b1 (Nat.le_refl _))
  have O1 := Lib.hid o1
  clear o1 b1
  go_wp2_with (with_reducible refine (halt_load0 24 _ rfl rfl ?_))
  refine ⟨?_, trivial⟩
  refine wpList_load_row rfl 24 _ rfl _ rfl _ _ _ _ R1.out.2 Tryd.underlying24 rfl (info_X SY.out) ?_
  go_wp2_with fail
  refine (BY.out _ (HT.out.below B1.out (Nat.le_refl _))).mono ?_
  rintro e w2 ⟨v2, rfl, o2, b2⟩
  have B2 := Lib.hid (below_call B1.out b2)
  have R2 := Lib.hid (And.intro (heap_below b2 R1.out.1 (Nat.le_refl _)) (heap_below b2 R1.out.2 (Nat.le_refl _)))
  have O1 := Lib.hid (O1.out.below b2)
  have O2 := Lib.hid o2
  clear o2 b2
  obtain ⟨p1, k1, rfl⟩ := bts_slice O1.out
  obtain ⟨p2, k2, rfl⟩ := bts_slice O2.out
  go_wp2_with (with_reducible refine (halt_load0 24 _ rfl rfl ?_))
  refine ⟨?_, trivial⟩
  refine wpList_load_row rfl 24 _ rfl _ rfl _ _ _ _ R2.out.1 Tryd.underlying24 rfl (info_X SX.out) ?_
  go_wp2_with (with_reducible refine (halt_load0 24 _ rfl rfl ?_))
  refine ⟨?_, trivial⟩
  refine wpList_load_row rfl 24 _ rfl _ rfl _ _ _ _ R2.out.2 Tryd.underlying24 rfl (info_X SY.out) ?_
  go_wp2_with fail
  refine (WK.out _ (HT.out.below B2.out (Nat.le_refl _))).mono ?_
  rintro e w3 ⟨rfl, b3⟩
  go_wp2_with fail
  go_ret
  exact ⟨rfl, below_call B2.out b3⟩
set_option maxHeartbeats 4000000 in
theorem apart_ny (x y : Xi) (w : World) (hT : Tabs w) (hX : XOk x) (hY : XOk y) (hx : mayX x = false) (hy : mayX y = true) (hxy : ¬ x = y) :
    Calls Tryd.prog 7 #[.agg (xC x), .agg (xC y)] w fun e w' => e = .returned (.bool true) ∧ Below w.heap.size w w' := by
  have HT := Lib.hid hT
  have BX := Lib.hid (fun W hT => bytes_n x hX W hT)
  have XO := Lib.hid (bytL_ok x hX)
  have XN := bytL_len x hX
  rw [(bytL_no hx).2] at BX
  have BY := Lib.hid (fun W hT => bytes_n y hY W hT)
  have YO := Lib.hid (bytL_ok y hY)
  have YN := bytL_len y hY
  rw [(bytL_yes hy).2] at BY
  have EQ := fun w => eq_x x y w
  rw [eqX_false hxy] at EQ
  have WK := Lib.hid (fun W hT => wakes_n W hT)
  have SX := Lib.hid (show (xC x).size = 8 from rfl)
  have SY := Lib.hid (show (xC y).size = 8 from rfl)
  unfold RetX at BX BY
  clear hT hX hx hY hy hxy
  generalize bytL x = lx at *
  generalize xC x = X at *
  generalize bytL y = ly at *
  generalize xC y = Y at *
  go_enter Tryd.func7, Tryd.ntmps7
  go_wp2_with (with_reducible refine (halt_load0 24 _ rfl rfl ?_))
  refine ⟨?_, trivial⟩
  refine wpList_load_row rfl 24 _ rfl _ rfl _ _ _ _ ((heap_past _ _ _ (by rw [size_alloc]; omega)).trans (heap_last w _ _ rfl)) Tryd.underlying24 rfl (info_X SX.out) ?_
  go_wp2_with fail
  refine (BX.out _ (HT.out.below (below_new (below_new (Below.refl _ _) _) _) (Nat.le_refl _))).mono ?_
  rintro e w1 ⟨v1, rfl, o1, b1⟩
  have B1 := Lib.hid (below_call (below_new (below_new (Below.refl _ _) _) _) b1)
  have R1 := Lib.hid (rows2 b1 (Nat.le_refl _))
  have O1 := Lib.hid o1
  clear o1 b1
  go_wp2_with (with_reducible refine (halt_load0 24 _ rfl rfl ?_))
  refine ⟨?_, trivial⟩
  refine wpList_load_row rfl 24 _ rfl _ rfl _ _ _ _ R1.out.2 Tryd.underlying24 rfl (info_X SY.out) ?_
  go_wp2_with fail
  refine (BY.out _ (HT.out.below B1.out (Nat.le_refl _))).mono ?_
  rintro e w2 ⟨v2, rfl, o2, b2⟩
  have B2 := Lib.hid (below_call B1.out b2)
  have R2 := Lib.hid (And.intro (heap_below b2 R1.out.1 (Nat.le_refl _)) (heap_below b2 R1.out.2 (Nat.le_refl _)))
  have O1 := Lib.hid (O1.out.below b2)
  have O2 := Lib.hid o2
  clear o2 b2
  obtain ⟨p1, k1, rfl⟩ := bts_slice O1.out
  obtain ⟨p2, k2, rfl⟩ := bts_slice O2.out
  go_wp2_with (with_reducible refine (halt_load0 24 _ rfl rfl ?_))
  refine ⟨?_, trivial⟩
  refine wpList_load_row rfl 24 _ rfl _ rfl _ _ _ _ R2.out.1 Tryd.underlying24 rfl (info_X SX.out) ?_
  go_wp2_with (with_reducible refine (halt_load0 24 _ rfl rfl ?_))
  refine ⟨?_, trivial⟩
  refine wpList_load_row rfl 24 _ rfl _ rfl _ _ _ _ R2.out.2 Tryd.underlying24 rfl (info_X SY.out) ?_
  go_wp2_with fail
  refine (WK.out _ (HT.out.below B2.out (Nat.le_refl _))).mono ?_
  rintro e w3 ⟨rfl, b3⟩
  go_wp2_with fail
  go_ret
  exact ⟨rfl, below_call B2.out b3⟩
set_option maxHeartbeats 4000000 in
theorem apart_yn (x y : Xi) (w : World) (hT : Tabs w) (hX : XOk x) (hY : XOk y) (hx : mayX x = true) (hy : mayX y = false) (hxy : ¬ x = y) :
    Calls Tryd.prog 7 #[.agg (xC x), .agg (xC y)] w fun e w' => e = .returned (.bool true) ∧ Below w.heap.size w w' := by
  have HT := Lib.hid hT
  have BX := Lib.hid (fun W hT => bytes_n x hX W hT)
  have XO := Lib.hid (bytL_ok x hX)
  have XN := bytL_len x hX
  rw [(bytL_yes hx).2] at BX
  have BY := Lib.hid (fun W hT => bytes_n y hY W hT)
  have YO := Lib.hid (bytL_ok y hY)
  have YN := bytL_len y hY
  rw [(bytL_no hy).2] at BY
  have EQ := fun w => eq_x x y w
  rw [eqX_false hxy] at EQ
  have WK := Lib.hid (fun W hT => wakes_n W hT)
  have SX := Lib.hid (show (xC x).size = 8 from rfl)
  have SY := Lib.hid (show (xC y).size = 8 from rfl)
  unfold RetX at BX BY
  clear hT hX hx hY hy hxy
  generalize bytL x = lx at *
  generalize xC x = X at *
  generalize bytL y = ly at *
  generalize xC y = Y at *
  go_enter Tryd.func7, Tryd.ntmps7
  go_wp2_with (with_reducible refine (halt_load0 24 _ rfl rfl ?_))
  refine ⟨?_, trivial⟩
  refine wpList_load_row rfl 24 _ rfl _ rfl _ _ _ _ ((heap_past _ _ _ (by rw [size_alloc]; omega)).trans (heap_last w _ _ rfl)) Tryd.underlying24 rfl (info_X SX.out) ?_
  go_wp2_with fail
  refine (BX.out _ (HT.out.below (below_new (below_new (Below.refl _ _) _) _) (Nat.le_refl _))).mono ?_
  rintro e w1 ⟨v1, rfl, o1, b1⟩
  have B1 := Lib.hid (below_call (below_new (below_new (Below.refl _ _) _) _) b1)
  have R1 := Lib.hid (rows2 b1 (Nat.le_refl _))
  have O1 := Lib.hid o1
  clear o1 b1
  go_wp2_with (with_reducible refine (halt_load0 24 _ rfl rfl ?_))
  refine ⟨?_, trivial⟩
  refine wpList_load_row rfl 24 _ rfl _ rfl _ _ _ _ R1.out.2 Tryd.underlying24 rfl (info_X SY.out) ?_
  go_wp2_with fail
  refine (BY.out _ (HT.out.below B1.out (Nat.le_refl _))).mono ?_
  rintro e w2 ⟨v2, rfl, o2, b2⟩
  have B2 := Lib.hid (below_call B1.out b2)
  have R2 := Lib.hid (And.intro (heap_below b2 R1.out.1 (Nat.le_refl _)) (heap_below b2 R1.out.2 (Nat.le_refl _)))
  have O1 := Lib.hid (O1.out.below b2)
  have O2 := Lib.hid o2
  clear o2 b2
  obtain ⟨p1, k1, rfl⟩ := bts_slice O1.out
  obtain ⟨p2, k2, rfl⟩ := bts_slice O2.out
  go_wp2_with (with_reducible refine (halt_load0 24 _ rfl rfl ?_))
  refine ⟨?_, trivial⟩
  refine wpList_load_row rfl 24 _ rfl _ rfl _ _ _ _ R2.out.1 Tryd.underlying24 rfl (info_X SX.out) ?_
  go_wp2_with (with_reducible refine (halt_load0 24 _ rfl rfl ?_))
  refine ⟨?_, trivial⟩
  refine wpList_load_row rfl 24 _ rfl _ rfl _ _ _ _ R2.out.2 Tryd.underlying24 rfl (info_X SY.out) ?_
  go_wp2_with fail
  refine (WK.out _ (HT.out.below B2.out (Nat.le_refl _))).mono ?_
  rintro e w3 ⟨rfl, b3⟩
  go_wp2_with fail
  go_ret
  exact ⟨rfl, below_call B2.out b3⟩
set_option maxHeartbeats 4000000 in
theorem apart_ns (x : Xi) (w : World) (hT : Tabs w) (hX : XOk x) (hx : mayX x = false) :
    Calls Tryd.prog 7 #[.agg (xC x), .agg (xC x)] w fun e w' => e = .returned (.bool true) ∧ Below w.heap.size w w' := by
  have HT := Lib.hid hT
  have BX := Lib.hid (fun W hT => bytes_n x hX W hT)
  have XO := Lib.hid (bytL_ok x hX)
  have XN := bytL_len x hX
  rw [(bytL_no hx).2] at BX
  have BY := BX
  have YO := XO
  have EQ := fun w => eq_x x x w
  rw [eqX_refl x] at EQ
  have WK := Lib.hid (fun W hT => wakes_n W hT)
  have SX := Lib.hid (show (xC x).size = 8 from rfl)
  unfold RetX at BX BY
  clear hT hX hx
  generalize bytL x = lx at *
  generalize xC x = X at *
  go_enter Tryd.func7, Tryd.ntmps7
  go_wp2_with (with_reducible refine (halt_load0 24 _ rfl rfl ?_))
  refine ⟨?_, trivial⟩
  refine wpList_load_row rfl 24 _ rfl _ rfl _ _ _ _ ((heap_past _ _ _ (by rw [size_alloc]; omega)).trans (heap_last w _ _ rfl)) Tryd.underlying24 rfl (info_X SX.out) ?_
  go_wp2_with fail
  refine (BX.out _ (HT.out.below (below_new (below_new (Below.refl _ _) _) _) (Nat.le_refl _))).mono ?_
  rintro e w1 ⟨v1, rfl, o1, b1⟩
  have B1 := Lib.hid (below_call (below_new (below_new (Below.refl _ _) _) _) b1)
  have R1 := Lib.hid (rows2 b1 (Nat.le_refl _))
  have O1 := Lib.hid o1
  clear o1 b1
  go_wp2_with (with_reducible refine (halt_load0 24 _ rfl rfl ?_))
  refine ⟨?_, trivial⟩
  refine wpList_load_row rfl 24 _ rfl _ rfl _ _ _ _ R1.out.2 Tryd.underlying24 rfl (info_X SX.out) ?_
  go_wp2_with fail
  refine (BY.out _ (HT.out.below B1.out (Nat.le_refl _))).mono ?_
  rintro e w2 ⟨v2, rfl, o2, b2⟩
  have B2 := Lib.hid (below_call B1.out b2)
  have R2 := Lib.hid (And.intro (heap_below b2 R1.out.1 (Nat.le_refl _)) (heap_below b2 R1.out.2 (Nat.le_refl _)))
  have O1 := Lib.hid (O1.out.below b2)
  have O2 := Lib.hid o2
  clear o2 b2
  obtain ⟨p1, k1, rfl⟩ := bts_slice O1.out
  obtain ⟨p2, k2, rfl⟩ := bts_slice O2.out
  go_wp2_with (with_reducible refine (halt_load0 24 _ rfl rfl ?_))
  refine ⟨?_, trivial⟩
  refine wpList_load_row rfl 24 _ rfl _ rfl _ _ _ _ R2.out.1 Tryd.underlying24 rfl (info_X SX.out) ?_
  go_wp2_with (with_reducible refine (halt_load0 24 _ rfl rfl ?_))
  refine ⟨?_, trivial⟩
  refine wpList_load_row rfl 24 _ rfl _ rfl _ _ _ _ R2.out.2 Tryd.underlying24 rfl (info_X SX.out) ?_
  have c1 := conv_own O1.out XO.out
  have c2 := conv_own O2.out YO.out
  have es : ((strOfNums lx).toList == (strOfNums lx).toList) = true := beq_self_eq_true _
  go_wp2_with fail
  refine (WK.out _ (HT.out.below B2.out (Nat.le_refl _))).mono ?_
  rintro e w3 ⟨rfl, b3⟩
  go_wp2_with fail
  go_ret
  exact ⟨rfl, below_call B2.out b3⟩
set_option maxHeartbeats 4000000 in
theorem apart_ys (x : Xi) (w : World) (hT : Tabs w) (hX : XOk x) (hx : mayX x = true) :
    Calls Tryd.prog 7 #[.agg (xC x), .agg (xC x)] w fun e w' => e = .returned (.bool true) ∧ Below w.heap.size w w' := by
  have HT := Lib.hid hT
  have BX := Lib.hid (fun W hT => bytes_n x hX W hT)
  have XO := Lib.hid (bytL_ok x hX)
  have XN := bytL_len x hX
  rw [(bytL_yes hx).2] at BX
  have BY := BX
  have YO := XO
  have EQ := fun w => eq_x x x w
  rw [eqX_refl x] at EQ
  have WK := Lib.hid (fun W hT => wakes_n W hT)
  have SX := Lib.hid (show (xC x).size = 8 from rfl)
  unfold RetX at BX BY
  clear hT hX hx
  generalize bytL x = lx at *
  generalize xC x = X at *
  go_enter Tryd.func7, Tryd.ntmps7
  go_wp2_with (with_reducible refine (halt_load0 24 _ rfl rfl ?_))
  refine ⟨?_, trivial⟩
  refine wpList_load_row rfl 24 _ rfl _ rfl _ _ _ _ ((heap_past _ _ _ (by rw [size_alloc]; omega)).trans (heap_last w _ _ rfl)) Tryd.underlying24 rfl (info_X SX.out) ?_
  go_wp2_with fail
  refine (BX.out _ (HT.out.below (below_new (below_new (Below.refl _ _) _) _) (Nat.le_refl _))).mono ?_
  rintro e w1 ⟨v1, rfl, o1, b1⟩
  have B1 := Lib.hid (below_call (below_new (below_new (Below.refl _ _) _) _) b1)
  have R1 := Lib.hid (rows2 b1 (Nat.le_refl _))
  have O1 := Lib.hid o1
  clear o1 b1
  go_wp2_with (with_reducible refine (halt_load0 24 _ rfl rfl ?_))
  refine ⟨?_, trivial⟩
  refine wpList_load_row rfl 24 _ rfl _ rfl _ _ _ _ R1.out.2 Tryd.underlying24 rfl (info_X SX.out) ?_
  go_wp2_with fail
  refine (BY.out _ (HT.out.below B1.out (Nat.le_refl _))).mono ?_
  rintro e w2 ⟨v2, rfl, o2, b2⟩
  have B2 := Lib.hid (below_call B1.out b2)
  have R2 := Lib.hid (And.intro (heap_below b2 R1.out.1 (Nat.le_refl _)) (heap_below b2 R1.out.2 (Nat.le_refl _)))
  have O1 := Lib.hid (O1.out.below b2)
  have O2 := Lib.hid o2
  clear o2 b2
  obtain ⟨p1, k1, rfl⟩ := bts_slice O1.out
  obtain ⟨p2, k2, rfl⟩ := bts_slice O2.out
  go_wp2_with (with_reducible refine (halt_load 24 _ rfl ?_))
  refine ⟨?_, trivial⟩
  refine wpList_gload_row rfl 24 _ rfl _ rfl _ _ _ _ R2.out.1 Tryd.underlying24 rfl (info_X SX.out) ?_
  go_wp2_with (with_reducible refine (halt_load 24 _ rfl ?_))
  refine ⟨?_, trivial⟩
  refine wpList_gload_row rfl 24 _ rfl _ rfl _ _ _ _ R2.out.2 Tryd.underlying24 rfl (info_X SX.out) ?_
  go_wp2_with (with_reducible refine (halt_load0 24 _ rfl rfl ?_))
  refine ⟨?_, trivial⟩
  refine wpList_load_row rfl 24 _ rfl _ rfl _ _ _ _ R2.out.1 Tryd.underlying24 rfl (info_X SX.out) ?_
  go_wp2_with (with_reducible refine (halt_load0 24 _ rfl rfl ?_))
  refine ⟨?_, trivial⟩
  refine wpList_load_row rfl 24 _ rfl _ rfl _ _ _ _ R2.out.2 Tryd.underlying24 rfl (info_X SX.out) ?_
  have c1 := conv_own O1.out XO.out
  have c2 := conv_own O2.out YO.out
  have es : ((strOfNums lx).toList == (strOfNums lx).toList) = true := beq_self_eq_true _
  go_wp2_with fail
  refine (WK.out _ (HT.out.below B2.out (Nat.le_refl _))).mono ?_
  rintro e w3 ⟨rfl, b3⟩
  go_wp2_with fail
  go_ret
  exact ⟨rfl, below_call B2.out b3⟩
set_option maxHeartbeats 4000000 in
theorem apart_yy (x y : Xi) (w : World) (hT : Tabs w) (hX : XOk x) (hY : XOk y) (hx : mayX x = true) (hy : mayX y = true) (hxy : ¬ x = y) :
    Calls Tryd.prog 7 #[.agg (xC x), .agg (xC y)] w fun e w' => e = .returned (.bool true) ∧ Below w.heap.size w w' := by
  have HT := Lib.hid hT
  have BX := Lib.hid (fun W hT => bytes_n x hX W hT)
  have XO := Lib.hid (bytL_ok x hX)
  have XN := bytL_len x hX
  rw [(bytL_yes hx).2] at BX
  have BY := Lib.hid (fun W hT => bytes_n y hY W hT)
  have YO := Lib.hid (bytL_ok y hY)
  have YN := bytL_len y hY
  rw [(bytL_yes hy).2] at BY
  have EQ := fun w => eq_x x y w
  rw [eqX_false hxy] at EQ
  have AP := Lib.hid (fun (e : (bytL x).take (min (bytL x).length (bytL y).length) = (bytL y).take (min (bytL x).length (bytL y).length)) => hxy (apart_take hX hY hx hy e))
  have XP := Lib.hid (show 0 < (bytL x).length from by rw [(bytL_yes hx).1]; exact bytes_some x hX hx)
  have YP := Lib.hid (show 0 < (bytL y).length from by rw [(bytL_yes hy).1]; exact bytes_some y hY hy)
  have WK := Lib.hid (fun W hT => wakes_n W hT)
  have SX := Lib.hid (show (xC x).size = 8 from rfl)
  have SY := Lib.hid (show (xC y).size = 8 from rfl)
  unfold RetX at BX BY
  clear hT hX hx hY hy hxy
  generalize bytL x = lx at *
  generalize xC x = X at *
  generalize bytL y = ly at *
  generalize xC y = Y at *
  go_enter Tryd.func7, Tryd.ntmps7
  go_wp2_with (with_reducible refine (halt_load0 24 _ rfl rfl ?_))
  refine ⟨?_, trivial⟩
  refine wpList_load_row rfl 24 _ rfl _ rfl _ _ _ _ ((heap_past _ _ _ (by rw [size_alloc]; omega)).trans (heap_last w _ _ rfl)) Tryd.underlying24 rfl (info_X SX.out) ?_
  go_wp2_with fail
  refine (BX.out _ (HT.out.below (below_new (below_new (Below.refl _ _) _) _) (Nat.le_refl _))).mono ?_
  rintro e w1 ⟨v1, rfl, o1, b1⟩
  have B1 := Lib.hid (below_call (below_new (below_new (Below.refl _ _) _) _) b1)
  have R1 := Lib.hid (rows2 b1 (Nat.le_refl _))
  have O1 := Lib.hid o1
  clear o1 b1
  go_wp2_with (with_reducible refine (halt_load0 24 _ rfl rfl ?_))
  refine ⟨?_, trivial⟩
  refine wpList_load_row rfl 24 _ rfl _ rfl _ _ _ _ R1.out.2 Tryd.underlying24 rfl (info_X SY.out) ?_
  go_wp2_with fail
  refine (BY.out _ (HT.out.below B1.out (Nat.le_refl _))).mono ?_
  rintro e w2 ⟨v2, rfl, o2, b2⟩
  have B2 := Lib.hid (below_call B1.out b2)
  have R2 := Lib.hid (And.intro (heap_below b2 R1.out.1 (Nat.le_refl _)) (heap_below b2 R1.out.2 (Nat.le_refl _)))
  have O1 := Lib.hid (O1.out.below b2)
  have O2 := Lib.hid o2
  clear o2 b2
  obtain ⟨p1, k1, rfl⟩ := bts_slice O1.out
  obtain ⟨p2, k2, rfl⟩ := bts_slice O2.out
  go_wp2_with (with_reducible refine (halt_load 24 _ rfl ?_))
  refine ⟨?_, trivial⟩
  refine wpList_gload_row rfl 24 _ rfl _ rfl _ _ _ _ R2.out.1 Tryd.underlying24 rfl (info_X SX.out) ?_
  go_wp2_with (with_reducible refine (halt_load 24 _ rfl ?_))
  refine ⟨?_, trivial⟩
  refine wpList_gload_row rfl 24 _ rfl _ rfl _ _ _ _ R2.out.2 Tryd.underlying24 rfl (info_X SY.out) ?_
  have HB := bts_at O1.out XO.out
  have HC := bts_at O2.out YO.out
  obtain ⟨A1, q1, rfl, -⟩ := HB.here XP.out
  obtain ⟨A2, q2, rfl, -⟩ := HC.here YP.out
  have HB := Lib.hid HB
  have HC := Lib.hid HC
  rcases Nat.le_total lx.length ly.length with hle | hle
  · have hmn : min lx.length ly.length = lx.length := by omega
    rw [hmn] at AP
    have hi1 : (lx.length : Int) ≤ (ly.length : Int) := by omega
    have hmi : min (lx.length : Int) (ly.length : Int) = (lx.length : Int) := by omega
    have hk1 : (lx.length : Int) ≤ (k1 : Int) := by have := HB.out.le; omega
    have hk2 : (lx.length : Int) ≤ (k2 : Int) := by have := HC.out.le; omega
    have CA := Lib.hid (fun w' (b : Below w2.heap.size w2 w') => conv_bytes ((at_cut HB.out 0 lx.length k1 (by omega) (by have := HB.out.le; omega) HB.out.fit).below (w := w') b))
    have CB := Lib.hid (fun w' (b : Below w2.heap.size w2 w') => conv_bytes ((at_cut HC.out 0 lx.length k2 (by omega) (by have := HC.out.le; omega) HC.out.fit).below (w := w') b))
    rw [List.drop_zero, Nat.add_zero] at CA CB
    have es := str_ne (oks_take XO.out lx.length) (oks_take YO.out lx.length) AP.out
    clear hmn hle
    generalize strOfNums (lx.take lx.length) = s1 at *
    generalize strOfNums (ly.take lx.length) = s2 at *
    have KN := Lib.hid (fun w' (b : Below w2.heap.size w2 w') => show (convert 25 9 (.slice (some ⟨A1, q1, none⟩) lx.length k1)).run Tryd.prog w' = .ok (.string s1) w' ∧ (convert 25 9 (.slice (some ⟨A2, q2, none⟩) lx.length k2)).run Tryd.prog w' = .ok (.string s2) w' ∧ Below w2.heap.size w2 w' from ⟨CA.out w' b, CB.out w' b, b⟩)
    go_wp2_with fail
    go_region_held3 (fun w' => (convert 25 9 (.slice (some ⟨A1, q1, none⟩) lx.length k1)).run Tryd.prog w' = .ok (.string s1) w' ∧ (convert 25 9 (.slice (some ⟨A2, q2, none⟩) lx.length k2)).run Tryd.prog w' = .ok (.string s2) w' ∧ Below w2.heap.size w2 w') ((go_split_ands; refine KN.out _ ?_; repeat' (first | assumption | exact Below.refl _ _ | apply Below.drew | (refine below_call ?_ b3)))) ((go_at_call 19; refine (WK.out _ (HT.out.below (below_call B2.out (by repeat' (first | assumption | exact Below.refl _ _ | apply Below.drew | (refine below_call ?_ b3)))) (Nat.le_refl _))).mono ?_; rintro e w3 ⟨rfl, b3⟩))
    all_goals (
      go_wp2_with fail
      go_ret
      exact ⟨rfl, below_call B2.out (by repeat' (first | assumption | exact Below.refl _ _ | apply Below.drew | (refine below_call ?_ b3)))⟩)
  · have hmn : min lx.length ly.length = ly.length := by omega
    rw [hmn] at AP
    have hi1 : (ly.length : Int) ≤ (lx.length : Int) := by omega
    have hmi : min (lx.length : Int) (ly.length : Int) = (ly.length : Int) := by omega
    have hk1 : (ly.length : Int) ≤ (k1 : Int) := by have := HB.out.le; omega
    have hk2 : (ly.length : Int) ≤ (k2 : Int) := by have := HC.out.le; omega
    have CA := Lib.hid (fun w' (b : Below w2.heap.size w2 w') => conv_bytes ((at_cut HB.out 0 ly.length k1 (by omega) (by have := HB.out.le; omega) HB.out.fit).below (w := w') b))
    have CB := Lib.hid (fun w' (b : Below w2.heap.size w2 w') => conv_bytes ((at_cut HC.out 0 ly.length k2 (by omega) (by have := HC.out.le; omega) HC.out.fit).below (w := w') b))
    rw [List.drop_zero, Nat.add_zero] at CA CB
    have es := str_ne (oks_take XO.out ly.length) (oks_take YO.out ly.length) AP.out
    clear hmn hle
    generalize strOfNums (lx.take ly.length) = s1 at *
    generalize strOfNums (ly.take ly.length) = s2 at *
    have KN := Lib.hid (fun w' (b : Below w2.heap.size w2 w') => show (convert 25 9 (.slice (some ⟨A1, q1, none⟩) ly.length k1)).run Tryd.prog w' = .ok (.string s1) w' ∧ (convert 25 9 (.slice (some ⟨A2, q2, none⟩) ly.length k2)).run Tryd.prog w' = .ok (.string s2) w' ∧ Below w2.heap.size w2 w' from ⟨CA.out w' b, CB.out w' b, b⟩)
    go_wp2_with fail
    go_region_held3 (fun w' => (convert 25 9 (.slice (some ⟨A1, q1, none⟩) ly.length k1)).run Tryd.prog w' = .ok (.string s1) w' ∧ (convert 25 9 (.slice (some ⟨A2, q2, none⟩) ly.length k2)).run Tryd.prog w' = .ok (.string s2) w' ∧ Below w2.heap.size w2 w') ((go_split_ands; refine KN.out _ ?_; repeat' (first | assumption | exact Below.refl _ _ | apply Below.drew | (refine below_call ?_ b3)))) ((go_at_call 19; refine (WK.out _ (HT.out.below (below_call B2.out (by repeat' (first | assumption | exact Below.refl _ _ | apply Below.drew | (refine below_call ?_ b3)))) (Nat.le_refl _))).mono ?_; rintro e w3 ⟨rfl, b3⟩))
    all_goals (
      go_wp2_with fail
      go_ret
      exact ⟨rfl, below_call B2.out (by repeat' (first | assumption | exact Below.refl _ _ | apply Below.drew | (refine below_call ?_ b3)))⟩)
theorem apart_law (x y : Xi) (w : World) (hX : XOk x) (hY : XOk y) (hT : Tabs w) : Calls Tryd.prog 7 #[.agg (xC x), .agg (xC y)] w fun e w' => e = .returned (.bool true) ∧ Below w.heap.size w w' := by
  by_cases h : x = y
  · subst h
    cases hx : mayX x
    · exact apart_ns x w hT hX hx
    · exact apart_ys x w hT hX hx
  · cases hx : mayX x
    · cases hy : mayX y
      · exact apart_nn x y w hT hX hY hx hy h
      · exact apart_ny x y w hT hX hY hx hy h
    · cases hy : mayX y
      · exact apart_yn x y w hT hX hY hx hy h
      · exact apart_yy x y w hT hX hY hx hy h
end Go.Proofs.YtjhjpllgoakncaaDoor.Mrm
