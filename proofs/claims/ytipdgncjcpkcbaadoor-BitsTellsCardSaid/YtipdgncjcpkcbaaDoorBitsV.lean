/-
  The calls Do and Holds of package bits, as contracts over all arguments.
-/
import Derived.Test.YtipdgncjcpkcbaaDoorBitsWb
import Derived.Test.YtipdgncjcpkcbaaDoorBitsWc
import Derived.Test.YtipdgncjcpkcbaaDoorBitsWd
import Derived.WalkKit
import Derived.WalkSpells
import Derived.WalkLawsBesides
import Derived.Lib.Hide
namespace Go.Proofs.YtipdgncjcpkcbaaDoor
open Go.RowKit

def widthB (w : Int) : Bool := w == 8 || w == 16 || w == 32 || w == 64

theorem compute_any (op w a b : Int) (W : World) (h0 : 0 ≤ op) (h12 : op ≤ 12) (hl : longB w = true) (ha0 : 0 ≤ a) (ha1 : a < 18446744073709551616) (hb0 : 0 ≤ b) (hb1 : b < 18446744073709551616) :
    Calls Tryd.prog 19 #[.int .i8 op, .int .i8 w, .int .u64 a, .int .u64 b] W fun e w' => e = .returned (.int .u64 (opI op w a b)) ∧ Below W.heap.size W w' := by
  have hc : op = 0 ∨ op = 1 ∨ op = 2 ∨ op = 3 ∨ op = 4 ∨ op = 5 ∨ op = 6 ∨ op = 7 ∨ op = 8 ∨ op = 9 ∨ op = 10 ∨ op = 11 ∨ op = 12 := by omega
  rcases hc with rfl | rfl | rfl | rfl | rfl | rfl | rfl | rfl | rfl | rfl | rfl | rfl | rfl
  · exact compute_0 w a b W
  · exact compute_1 w a b W
  · exact compute_2 w a b W
  · exact compute_3 w a b W ha0 ha1 hb0 hb1
  · exact compute_4 w a b W ha0 ha1 hb0 hb1
  · exact compute_5 w a b W ha0 ha1 hb0 hb1
  · rcases longB_cases hl with rfl | rfl
    · exact compute_6_32 a b W hb0 hb1
    · exact compute_6_64 a b W hb0 hb1
  · rcases longB_cases hl with rfl | rfl
    · exact compute_7_32 a b W hb0 hb1
    · exact compute_7_64 a b W hb0 hb1
  · exact compute_8 w a b W
  · exact compute_9 w a b W ha0 ha1 hb0 hb1
  · exact compute_10 w a b W ha0 ha1 hb0 hb1
  · exact compute_11 w a b W
  · rcases longB_cases hl with rfl | rfl
    · exact compute_12_32 a b W hb0 hb1
    · exact compute_12_64 a b W hb0 hb1

theorem computes_t (w : Int) (W : World) (h : longB w = true) : Calls Tryd.prog 18 #[.int .i8 w] W fun e w' => e = .returned (.bool true) ∧ W = w' := by
  have := computes_any w W; rw [h] at this; exact this
theorem computes_f (w : Int) (W : World) (h : longB w = false) : Calls Tryd.prog 18 #[.int .i8 w] W fun e w' => e = .returned (.bool false) ∧ W = w' := by
  have := computes_any w W; rw [h] at this; exact this

set_option maxHeartbeats 1000000 in
theorem do_any (op w a b : Int) (W : World) (ha0 : 0 ≤ a) (ha1 : a < 18446744073709551616) (hb0 : 0 ≤ b) (hb1 : b < 18446744073709551616) :
    Calls Tryd.prog 5 #[.int .i8 op, .int .i8 w, .int .u64 a, .int .u64 b] W fun e w' => e = .returned (.tuple #[.int .u64 (doI op w a b), .int .i64 (doE op w)]) ∧ Below W.heap.size W w' := by
  by_cases h1 : op < 0
  · have e1 : doI op w a b = 0 := if_neg (by omega)
    have e2 : doE op w = 2 := if_neg (by omega)
    rw [e1, e2]; clear e1 e2
    go_enter Tryd.func5, Tryd.ntmps5
    go_wp2
    go_ret2
    exact ⟨rfl, Below.refl _ _⟩
  by_cases h2 : 12 < op
  · have e1 : doI op w a b = 0 := if_neg (by omega)
    have e2 : doE op w = 2 := if_neg (by omega)
    rw [e1, e2]; clear e1 e2
    go_enter Tryd.func5, Tryd.ntmps5
    go_wp2
    go_ret2
    exact ⟨rfl, Below.refl _ _⟩
  cases hl : longB w
  · have e1 : doI op w a b = 0 := if_neg (by simp [hl])
    have e2 : doE op w = 2 := if_neg (by simp [hl])
    rw [e1, e2]; clear e1 e2
    have HL := Lib.hid hl; clear hl
    go_enter Tryd.func5, Tryd.ntmps5
    go_wp2_with (go_at_call 18; refine (computes_f _ _ HL.out).mono ?_; rintro e w' ⟨rfl, rfl⟩)
    go_ret2
    exact ⟨rfl, Below.refl _ _⟩
  · have e1 : doI op w a b = cutI (opI op w (cutI a w) (cutI b w)) w := if_pos ⟨by omega, by omega, hl⟩
    have e2 : doE op w = 0 := if_pos ⟨by omega, by omega, hl⟩
    rw [e1, e2]; clear e1 e2
    have HL := Lib.hid hl; clear hl
    obtain ⟨c0, c1⟩ := cutI_bd a w ha0 ha1
    obtain ⟨d0, d1⟩ := cutI_bd b w hb0 hb1
    go_enter Tryd.func5, Tryd.ntmps5
    go_wp2_with (first | (go_at_call 18; refine (computes_t _ _ HL.out).mono ?_; rintro e w' ⟨rfl, rfl⟩) | (go_at_call 13; refine (cut_any _ _ _).mono ?_; rintro e w' ⟨rfl, rfl⟩) | (go_at_call 19; refine (compute_any op w (cutI a w) (cutI b w) _ (by omega) (by omega) HL.out c0 c1 d0 d1).mono ?_; rintro e w' ⟨rfl, hb⟩))
    go_ret2
    exact ⟨rfl, by assumption⟩

set_option maxHeartbeats 2000000 in
theorem holds_in (cc w a b : Int) (W : World) (h0 : 0 ≤ cc) (h10 : cc ≤ 10) (hl : longB w = true) (ha0 : 0 ≤ a) (ha1 : a < 18446744073709551616) (hb0 : 0 ≤ b) (hb1 : b < 18446744073709551616) :
    Calls Tryd.prog 21 #[.int .i8 cc, .int .i8 w, .int .u64 a, .int .u64 b] W fun e w' => e = .returned (.bool (ccB cc w a b)) ∧ W = w' := by
  have sa : wrap64 (signI a w) = sgnI a w := by
    rcases longB_cases hl with rfl | rfl
    · exact (IntWalk.i64_left _).symm.trans (wrap64_sign32 a)
    · exact (IntWalk.i64_left _).symm.trans (wrap64_sign64 a)
  have sb : wrap64 (signI b w) = sgnI b w := by
    rcases longB_cases hl with rfl | rfl
    · exact (IntWalk.i64_left _).symm.trans (wrap64_sign32 b)
    · exact (IntWalk.i64_left _).symm.trans (wrap64_sign64 b)
  have hc : cc = 0 ∨ cc = 1 ∨ cc = 2 ∨ cc = 3 ∨ cc = 4 ∨ cc = 5 ∨ cc = 6 ∨ cc = 7 ∨ cc = 8 ∨ cc = 9 ∨ cc = 10 := by omega
  clear h0 h10
  rcases hc with rfl | rfl | rfl | rfl | rfl | rfl | rfl | rfl | rfl | rfl | rfl
  all_goals
    go_enter Tryd.func21, Tryd.ntmps21
    go_wp2_with (go_at_call 15; refine (sign_any _ _ _).mono ?_; rintro e w' ⟨rfl, rfl⟩)
    go_ret
    refine ⟨retB ?_, rfl⟩
    first | rfl | (rw [u64_and a b ha0 ha1 hb0 hb1]; rfl)
set_option maxHeartbeats 1000000 in
theorem holds_any (cc w a b : Int) (W : World) (ha0 : 0 ≤ a) (ha1 : a < 18446744073709551616) (hb0 : 0 ≤ b) (hb1 : b < 18446744073709551616) :
    Calls Tryd.prog 7 #[.int .i8 cc, .int .i8 w, .int .u64 a, .int .u64 b] W fun e w' => e = .returned (.tuple #[.bool (holdsB cc w a b), .int .i64 (holdsE cc w)]) ∧ W = w' := by
  by_cases h1 : cc < 0
  · have e1 : holdsB cc w a b = false := if_neg (by omega)
    have e2 : holdsE cc w = 2 := if_neg (by omega)
    rw [e1, e2]; clear e1 e2
    go_enter Tryd.func7, Tryd.ntmps7
    go_wp2
    go_ret2
    exact ⟨rfl, rfl⟩
  by_cases h2 : 10 < cc
  · have e1 : holdsB cc w a b = false := if_neg (by omega)
    have e2 : holdsE cc w = 2 := if_neg (by omega)
    rw [e1, e2]; clear e1 e2
    go_enter Tryd.func7, Tryd.ntmps7
    go_wp2
    go_ret2
    exact ⟨rfl, rfl⟩
  cases hl : longB w
  · have e1 : holdsB cc w a b = false := if_neg (by simp [hl])
    have e2 : holdsE cc w = 2 := if_neg (by simp [hl])
    rw [e1, e2]; clear e1 e2
    have HL := Lib.hid hl; clear hl
    go_enter Tryd.func7, Tryd.ntmps7
    go_wp2_with (go_at_call 18; refine (computes_f _ _ HL.out).mono ?_; rintro e w' ⟨rfl, rfl⟩)
    go_ret2
    exact ⟨rfl, rfl⟩
  · have e1 : holdsB cc w a b = ccB cc w (cutI a w) (cutI b w) := if_pos ⟨by omega, by omega, hl⟩
    have e2 : holdsE cc w = 0 := if_pos ⟨by omega, by omega, hl⟩
    rw [e1, e2]; clear e1 e2
    have HL := Lib.hid hl; clear hl
    obtain ⟨c0, c1⟩ := cutI_bd a w ha0 ha1
    obtain ⟨d0, d1⟩ := cutI_bd b w hb0 hb1
    go_enter Tryd.func7, Tryd.ntmps7
    go_wp2_with (first | (go_at_call 18; refine (computes_t _ _ HL.out).mono ?_; rintro e w' ⟨rfl, rfl⟩) | (go_at_call 13; refine (cut_any _ _ _).mono ?_; rintro e w' ⟨rfl, rfl⟩) | (go_at_call 21; refine (holds_in cc w (cutI a w) (cutI b w) _ (by omega) (by omega) HL.out c0 c1 d0 d1).mono ?_; rintro e w' ⟨rfl, rfl⟩))
    go_ret2
    exact ⟨rfl, rfl⟩

set_option maxHeartbeats 400000 in
theorem width_any (w : Int) (W : World) :
    Calls Tryd.prog 11 #[.int .i8 w] W fun e w' => e = .returned (.bool (widthB w)) ∧ W = w' := by
  by_cases a : w = 8
  · subst a
    go_enter Tryd.func11, Tryd.ntmps11
    go_wp2
    go_ret
    exact ⟨rfl, rfl⟩
  by_cases b : w = 16
  · subst b
    go_enter Tryd.func11, Tryd.ntmps11
    go_wp2
    go_ret
    exact ⟨rfl, rfl⟩
  by_cases c : w = 32
  · subst c
    go_enter Tryd.func11, Tryd.ntmps11
    go_wp2
    go_ret
    exact ⟨rfl, rfl⟩
  have d : widthB w = (w == 64) := by unfold widthB; rw [neq_of a, neq_of b, neq_of c]; rfl
  rw [d]; clear d
  have a' := neq_of a
  have b' := neq_of b
  have c' := neq_of c
  go_enter Tryd.func11, Tryd.ntmps11
  go_wp2
  go_ret
  exact ⟨rfl, rfl⟩

-- What wakes asks: three calls whose answers the document names.
theorem wake_1 (W : World) : Calls Tryd.prog 5 #[.int .i8 12, .int .i8 32, .int .u64 2147483648, .int .u64 4] W fun e w' => e = .returned (.tuple #[.int .u64 4160749568, .int .i64 0]) ∧ Below W.heap.size W w' :=
  do_any 12 32 2147483648 4 W (by omega) (by omega) (by omega) (by omega)
theorem wake_2 (W : World) : Calls Tryd.prog 5 #[.int .i8 3, .int .i8 64, .int .u64 5, .int .u64 0] W fun e w' => e = .returned (.tuple #[.int .u64 0, .int .i64 0]) ∧ Below W.heap.size W w' :=
  do_any 3 64 5 0 W (by omega) (by omega) (by omega) (by omega)
theorem wake_3 (W : World) : Calls Tryd.prog 5 #[.int .i8 6, .int .i8 32, .int .u64 1, .int .u64 33] W fun e w' => e = .returned (.tuple #[.int .u64 2, .int .i64 0]) ∧ Below W.heap.size W w' :=
  do_any 6 32 1 33 W (by omega) (by omega) (by omega) (by omega)
set_option maxHeartbeats 400000 in
theorem wakes_any (W : World) : Calls Tryd.prog 17 #[] W fun e w' => e = .returned (.bool true) ∧ Below W.heap.size W w' := by
  go_enter Tryd.func17, Tryd.ntmps17
  go_wp2_with fail
  refine (wake_1 _).mono ?_
  rintro e w1 ⟨rfl, hb1⟩
  go_wp2_with fail
  refine (wake_2 _).mono ?_
  rintro e w2 ⟨rfl, hb2⟩
  go_wp2_with fail
  refine (wake_3 _).mono ?_
  rintro e w3 ⟨rfl, hb3⟩
  go_wp2
  go_ret
  exact ⟨rfl, hb1.trans ((hb2.mono hb1.size).trans (hb3.mono (Nat.le_trans hb1.size hb2.size)))⟩
end Go.Proofs.YtipdgncjcpkcbaaDoor
