/-
  The calls Do and Holds of package bits, as contracts over all arguments.
-/
import Derived.Test.YtfededcmelhjjaaBitsWb
import Derived.Test.YtfededcmelhjjaaBitsWc
import Derived.Test.YtfededcmelhjjaaBitsWd
import Derived.WalkKit
import Derived.WalkSpells
import Derived.WalkLawsBesides
import Derived.Lib.Hide
namespace Go.Proofs.Ytfededcmelhjjaa
open Go.RowKit

def widthB (w : Int) : Bool := w == 8 || w == 16 || w == 32 || w == 64

theorem compute_any (op w a b : Int) (W : World) (h0 : 0 ≤ op) (h12 : op ≤ 12) (hl : longB w = true) (ha0 : 0 ≤ a) (ha1 : a < 18446744073709551616) (hb0 : 0 ≤ b) (hb1 : b < 18446744073709551616) :
    Calls Try.prog 101 #[.int .i8 op, .int .i8 w, .int .u64 a, .int .u64 b] W fun e w' => e = .returned (.int .u64 (opI op w a b)) ∧ Below W.heap.size W w' := by
  have hc : op = 0 ∨ op = 1 ∨ op = 2 ∨ op = 3 ∨ op = 4 ∨ op = 5 ∨ op = 6 ∨ op = 7 ∨ op = 8 ∨ op = 9 ∨ op = 10 ∨ op = 11 ∨ op = 12 := by omega
  rcases hc with rfl | rfl | rfl | rfl | rfl | rfl | rfl | rfl | rfl | rfl | rfl | rfl | rfl
  · exact compute_0 w a b W
  · exact compute_1 w a b W
  · exact compute_2 w a b W
  · exact compute_3 w a b W ha0 ha1 hb0 hb1
  · exact compute_4 w a b W ha0 ha1 hb0 hb1
  · exact compute_5 w a b W ha0 ha1 hb0 hb1
  · rcases longB_cases hl with rfl | rfl
    · exact compute_6_32 a b W hb0 hb1
    · exact compute_6_64 a b W hb0 hb1
  · rcases longB_cases hl with rfl | rfl
    · exact compute_7_32 a b W hb0 hb1
    · exact compute_7_64 a b W hb0 hb1
  · exact compute_8 w a b W
  · exact compute_9 w a b W ha0 ha1 hb0 hb1
  · exact compute_10 w a b W ha0 ha1 hb0 hb1
  · exact compute_11 w a b W
  · rcases longB_cases hl with rfl | rfl
    · exact compute_12_32 a b W hb0 hb1
    · exact compute_12_64 a b W hb0 hb1

theorem computes_t (w : Int) (W : World) (h : longB w = true) : Calls Try.prog 99 #[.int .i8 w] W fun e w' => e = .returned (.bool true) ∧ W = w' := by
  have := computes_any w W; rw [h] at this; exact this
theorem computes_f (w : Int) (W : World) (h : longB w = false) : Calls Try.prog 99 #[.int .i8 w] W fun e w' => e = .returned (.bool false) ∧ W = w' := by
  have := computes_any w W; rw [h] at this; exact this

set_option maxHeartbeats 1000000 in
theorem do_any (op w a b : Int) (W : World) (ha0 : 0 ≤ a) (ha1 : a < 18446744073709551616) (hb0 : 0 ≤ b) (hb1 : b < 18446744073709551616) :
    Calls Try.prog 48 #[.int .i8 op, .int .i8 w, .int .u64 a, .int .u64 b] W fun e w' => e = .returned (.tuple #[.int .u64 (doI op w a b), .int .i64 (doE op w)]) ∧ Below W.heap.size W w' := by
  by_cases h1 : op < 0
  · have e1 : doI op w a b = 0 := if_neg (by omega)
    have e2 : doE op w = 2 := if_neg (by omega)
    rw [e1, e2]; clear e1 e2
    go_enter Try.func48, Try.ntmps48
    go_wp2
    go_ret2
    exact ⟨rfl, Below.refl _ _⟩
  by_cases h2 : 12 < op
  · have e1 : doI op w a b = 0 := if_neg (by omega)
    have e2 : doE op w = 2 := if_neg (by omega)
    rw [e1, e2]; clear e1 e2
    go_enter Try.func48, Try.ntmps48
    go_wp2
    go_ret2
    exact ⟨rfl, Below.refl _ _⟩
  cases hl : longB w
  · have e1 : doI op w a b = 0 := if_neg (by simp [hl])
    have e2 : doE op w = 2 := if_neg (by simp [hl])
    rw [e1, e2]; clear e1 e2
    have HL := Lib.hid hl; clear hl
    go_enter Try.func48, Try.ntmps48
    go_wp2_with (go_at_call 99; refine (computes_f _ _ HL.out).mono ?_; rintro e w' ⟨rfl, rfl⟩)
    go_ret2
    exact ⟨rfl, Below.refl _ _⟩
  · have e1 : doI op w a b = cutI (opI op w (cutI a w) (cutI b w)) w := if_pos ⟨by omega, by omega, hl⟩
    have e2 : doE op w = 0 := if_pos ⟨by omega, by omega, hl⟩
    rw [e1, e2]; clear e1 e2
    have HL := Lib.hid hl; clear hl
    obtain ⟨c0, c1⟩ := cutI_bd a w ha0 ha1
    obtain ⟨d0, d1⟩ := cutI_bd b w hb0 hb1
    go_enter Try.func48, Try.ntmps48
    go_wp2_with (first | (go_at_call 99; refine (computes_t _ _ HL.out).mono ?_; rintro e w' ⟨rfl, rfl⟩) | (go_at_call 100; refine (cut_any _ _ _).mono ?_; rintro e w' ⟨rfl, rfl⟩) | (go_at_call 101; refine (compute_any op w (cutI a w) (cutI b w) _ (by omega) (by omega) HL.out c0 c1 d0 d1).mono ?_; rintro e w' ⟨rfl, hb⟩))
    go_ret2
    exact ⟨rfl, by assumption⟩

set_option maxHeartbeats 2000000 in
theorem holds_in (cc w a b : Int) (W : World) (h0 : 0 ≤ cc) (h10 : cc ≤ 10) (hl : longB w = true) (ha0 : 0 ≤ a) (ha1 : a < 18446744073709551616) (hb0 : 0 ≤ b) (hb1 : b < 18446744073709551616) :
    Calls Try.prog 102 #[.int .i8 cc, .int .i8 w, .int .u64 a, .int .u64 b] W fun e w' => e = .returned (.bool (ccB cc w a b)) ∧ W = w' := by
  have sa : wrap64 (signI a w) = sgnI a w := by
    rcases longB_cases hl with rfl | rfl
    · exact (IntWalk.i64_left _).symm.trans (wrap64_sign32 a)
    · exact (IntWalk.i64_left _).symm.trans (wrap64_sign64 a)
  have sb : wrap64 (signI b w) = sgnI b w := by
    rcases longB_cases hl with rfl | rfl
    · exact (IntWalk.i64_left _).symm.trans (wrap64_sign32 b)
    · exact (IntWalk.i64_left _).symm.trans (wrap64_sign64 b)
  have hc : cc = 0 ∨ cc = 1 ∨ cc = 2 ∨ cc = 3 ∨ cc = 4 ∨ cc = 5 ∨ cc = 6 ∨ cc = 7 ∨ cc = 8 ∨ cc = 9 ∨ cc = 10 := by omega
  clear h0 h10
  rcases hc with rfl | rfl | rfl | rfl | rfl | rfl | rfl | rfl | rfl | rfl | rfl
  all_goals
    go_enter Try.func102, Try.ntmps102
    go_wp2_with (go_at_call 145; refine (sign_any _ _ _).mono ?_; rintro e w' ⟨rfl, rfl⟩)
    go_ret
    refine ⟨retB ?_, rfl⟩
    first | rfl | (rw [u64_and a b ha0 ha1 hb0 hb1]; rfl)
set_option maxHeartbeats 1000000 in
theorem holds_any (cc w a b : Int) (W : World) (ha0 : 0 ≤ a) (ha1 : a < 18446744073709551616) (hb0 : 0 ≤ b) (hb1 : b < 18446744073709551616) :
    Calls Try.prog 49 #[.int .i8 cc, .int .i8 w, .int .u64 a, .int .u64 b] W fun e w' => e = .returned (.tuple #[.bool (holdsB cc w a b), .int .i64 (holdsE cc w)]) ∧ W = w' := by
  by_cases h1 : cc < 0
  · have e1 : holdsB cc w a b = false := if_neg (by omega)
    have e2 : holdsE cc w = 2 := if_neg (by omega)
    rw [e1, e2]; clear e1 e2
    go_enter Try.func49, Try.ntmps49
    go_wp2
    go_ret2
    exact ⟨rfl, rfl⟩
  by_cases h2 : 10 < cc
  · have e1 : holdsB cc w a b = false := if_neg (by omega)
    have e2 : holdsE cc w = 2 := if_neg (by omega)
    rw [e1, e2]; clear e1 e2
    go_enter Try.func49, Try.ntmps49
    go_wp2
    go_ret2
    exact ⟨rfl, rfl⟩
  cases hl : longB w
  · have e1 : holdsB cc w a b = false := if_neg (by simp [hl])
    have e2 : holdsE cc w = 2 := if_neg (by simp [hl])
    rw [e1, e2]; clear e1 e2
    have HL := Lib.hid hl; clear hl
    go_enter Try.func49, Try.ntmps49
    go_wp2_with (go_at_call 99; refine (computes_f _ _ HL.out).mono ?_; rintro e w' ⟨rfl, rfl⟩)
    go_ret2
    exact ⟨rfl, rfl⟩
  · have e1 : holdsB cc w a b = ccB cc w (cutI a w) (cutI b w) := if_pos ⟨by omega, by omega, hl⟩
    have e2 : holdsE cc w = 0 := if_pos ⟨by omega, by omega, hl⟩
    rw [e1, e2]; clear e1 e2
    have HL := Lib.hid hl; clear hl
    obtain ⟨c0, c1⟩ := cutI_bd a w ha0 ha1
    obtain ⟨d0, d1⟩ := cutI_bd b w hb0 hb1
    go_enter Try.func49, Try.ntmps49
    go_wp2_with (first | (go_at_call 99; refine (computes_t _ _ HL.out).mono ?_; rintro e w' ⟨rfl, rfl⟩) | (go_at_call 100; refine (cut_any _ _ _).mono ?_; rintro e w' ⟨rfl, rfl⟩) | (go_at_call 102; refine (holds_in cc w (cutI a w) (cutI b w) _ (by omega) (by omega) HL.out c0 c1 d0 d1).mono ?_; rintro e w' ⟨rfl, rfl⟩))
    go_ret2
    exact ⟨rfl, rfl⟩

end Go.Proofs.Ytfededcmelhjjaa
