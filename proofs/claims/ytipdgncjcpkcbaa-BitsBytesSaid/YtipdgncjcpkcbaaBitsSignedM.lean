/-
  The walk of the law BitsSigned.
-/
import Derived.Test.YtipdgncjcpkcbaaBitsV
namespace Go.Proofs.Ytipdgncjcpkcbaa
open Go.RowKit

theorem bd_i8 {a : Int} (h : (Lit.int .i8 a).wf = true) : -128 ≤ a ∧ a ≤ 127 := by simpa [Lit.wf, IntKind.min, IntKind.max, IntKind.bits, IntKind.signed] using h
theorem bd_u64 {a : Int} (h : (Lit.int .u64 a).wf = true) : 0 ≤ a ∧ a < 18446744073709551616 := by
  have : 0 ≤ a ∧ a ≤ 18446744073709551615 := by simpa [Lit.wf, IntKind.min, IntKind.max, IntKind.bits, IntKind.signed] using h
  omega
theorem neqF {a b : Int} (h : a = b) : (a != b) = false := by simpa using h

theorem width_t (w : Int) (W : World) (h : widthB w = true) : Calls Try.prog 13 #[.int .i8 w] W fun e w' => e = .returned (.bool true) ∧ W = w' := by
  have := width_any w W; rw [h] at this; exact this
theorem width_f (w : Int) (W : World) (h : widthB w = false) : Calls Try.prog 13 #[.int .i8 w] W fun e w' => e = .returned (.bool false) ∧ W = w' := by
  have := width_any w W; rw [h] at this; exact this
theorem widthB_f {w : Int} (h : widthB w = false) : ¬ w = 8 ∧ ¬ w = 16 ∧ ¬ w = 32 ∧ ¬ w = 64 := by
  unfold widthB at h; simpa [and_assoc] using h
theorem widthB_t {w : Int} (h : widthB w = true) : w = 8 ∨ w = 16 ∨ w = 32 ∨ w = 64 := by
  unfold widthB at h; simpa [or_assoc] using h
theorem cut_id (v w : Int) (W : World) (h : widthB w = false) : Calls Try.prog 10 #[.int .u64 v, .int .i8 w] W fun e w' => e = .returned (.int .u64 v) ∧ W = w' := by
  have c := cut_any v w W
  obtain ⟨h1, h2, h3, _⟩ := widthB_f h
  unfold cutI at c; rw [if_neg h1, if_neg h2, if_neg h3] at c; exact c
theorem sign_id (v w : Int) (W : World) (h : widthB w = false) : Calls Try.prog 14 #[.int .u64 v, .int .i8 w] W fun e w' => e = .returned (.int .u64 v) ∧ W = w' := by
  have c := sign_any v w W
  obtain ⟨h1, h2, h3, _⟩ := widthB_f h
  unfold signI at c; rw [if_neg h1, if_neg h2, if_neg h3] at c; exact c

theorem wrap64_is (n : Int) : wrap64 n = (n + 9223372036854775808) % 18446744073709551616 - 9223372036854775808 := by rw [← IntWalk.i64_left, IntKind.wrap_i64]
theorem cutsign (a w : Int) : cutI (signI a w) w = cutI a w := by
  unfold cutI signI
  by_cases h1 : w = 8
  · rw [if_pos h1, if_pos h1, if_pos h1]; omega
  by_cases h2 : w = 16
  · rw [if_neg h1, if_neg h1, if_neg h1, if_pos h2, if_pos h2, if_pos h2]; omega
  by_cases h3 : w = 32
  · rw [if_neg h1, if_neg h1, if_neg h1, if_neg h2, if_neg h2, if_neg h2, if_pos h3, if_pos h3, if_pos h3]; omega
  · rw [if_neg h1, if_neg h1, if_neg h1, if_neg h2, if_neg h2, if_neg h2, if_neg h3, if_neg h3, if_neg h3]
theorem signcut (a w : Int) : signI (cutI a w) w = signI a w := by
  unfold cutI signI
  by_cases h1 : w = 8
  · rw [if_pos h1, if_pos h1, if_pos h1]; omega
  by_cases h2 : w = 16
  · rw [if_neg h1, if_neg h1, if_neg h1, if_pos h2, if_pos h2, if_pos h2]; omega
  by_cases h3 : w = 32
  · rw [if_neg h1, if_neg h1, if_neg h1, if_neg h2, if_neg h2, if_neg h2, if_pos h3, if_pos h3, if_pos h3]; omega
  · rw [if_neg h1, if_neg h1, if_neg h1, if_neg h2, if_neg h2, if_neg h2, if_neg h3, if_neg h3, if_neg h3]
theorem less_32 (a b : Int) : holdsB 8 32 a b = decide (wrap64 (signI a 32) < wrap64 (signI b 32)) := by
  show decide (sgnI (cutI a 32) 32 < sgnI (cutI b 32) 32) = _
  rw [wrap64_is, wrap64_is, ← IntKind.wrap_i64, ← IntKind.wrap_i64, wrap64_sign32, wrap64_sign32]
  have e (v : Int) : sgnI (cutI v 32) 32 = sgnI v 32 := by
    rw [← wrap64_sign32, ← wrap64_sign32, signcut]
  rw [e, e]
theorem less_64 (a b : Int) : holdsB 8 64 a b = decide (wrap64 (signI a 64) < wrap64 (signI b 64)) := by
  show decide (sgnI (cutI a 64) 64 < sgnI (cutI b 64) 64) = _
  rw [wrap64_is, wrap64_is, ← IntKind.wrap_i64, ← IntKind.wrap_i64, wrap64_sign64, wrap64_sign64]
  rfl
theorem same_32 (a b : Int) : holdsB 0 32 a b = (wrap64 (signI a 32) == wrap64 (signI b 32)) := by
  show (a % 4294967296 == b % 4294967296) = _
  rw [wrap64_is, wrap64_is, signI_32, signI_32, Bool.eq_iff_iff, beq_iff_eq, beq_iff_eq]
  omega
theorem same_64 (a b : Int) (ha0 : 0 ≤ a) (ha1 : a < 18446744073709551616) (hb0 : 0 ≤ b) (hb1 : b < 18446744073709551616) : holdsB 0 64 a b = (wrap64 (signI a 64) == wrap64 (signI b 64)) := by
  show (a == b) = _
  rw [wrap64_is, wrap64_is, signI_64, signI_64, Bool.eq_iff_iff, beq_iff_eq, beq_iff_eq]
  omega

set_option maxHeartbeats 1000000 in
theorem bitsSigned_no (w a b : Int) (hw : widthB w = false) (W : World) :
    Calls Try.prog 7 #[.int .i8 w, .int .u64 a, .int .u64 b] W fun e w' => e = .returned (.bool true) ∧ Below W.heap.size W w' := by
  have HW := Lib.hid hw; clear hw
  go_enter Try.func7, Try.ntmps7
  go_wp2_with (first | (go_at_call 13; refine (width_f _ _ HW.out).mono ?_; rintro e w' ⟨rfl, rfl⟩) | (go_at_call 10; refine (cut_id _ _ _ HW.out).mono ?_; rintro e w' ⟨rfl, rfl⟩) | (go_at_call 14; refine (sign_id _ _ _ HW.out).mono ?_; rintro e w' ⟨rfl, rfl⟩) | (go_at_call 9; refine (wakes_any _).mono ?_; rintro e w' ⟨rfl, hb⟩))
  go_ret
  exact ⟨rfl, by assumption⟩

end Go.Proofs.Ytipdgncjcpkcbaa
