/-
  Package instr: fits and May.
-/
import Derived.Test.YtbpefomjmjkciaaInsA
namespace Go.Proofs.Ytbpefomjmjkciaa.Ins
open Go.RowKit
set_option linter.unusedVariables false

theorem reg_t (r : Int) (W : World) (h : regI r = true) : Calls Try.prog 110 #[.int .i8 r] W fun e w' => e = .returned (.bool true) ∧ W = w' := by
  have := register_any r W; rw [h] at this; exact this
theorem reg_f (r : Int) (W : World) (h : regI r = false) : Calls Try.prog 110 #[.int .i8 r] W fun e w' => e = .returned (.bool false) ∧ W = w' := by
  have := register_any r W; rw [h] at this; exact this
theorem sized_t (n : Int) (W : World) (h : n = 1 ∨ n = 2 ∨ n = 4 ∨ n = 8) : Calls Try.prog 111 #[.int .i8 n] W fun e w' => e = .returned (.bool true) ∧ W = w' := by
  have := sized_any n W; rw [show sizedI n = true from decide_eq_true h] at this; exact this
theorem sized_f (n : Int) (W : World) (h : ¬ (n = 1 ∨ n = 2 ∨ n = 4 ∨ n = 8)) : Calls Try.prog 111 #[.int .i8 n] W fun e w' => e = .returned (.bool false) ∧ W = w' := by
  have := sized_any n W; rw [show sizedI n = false from decide_eq_false h] at this; exact this
theorem i16_in {n : Int} (h : -32768 ≤ n ∧ n ≤ 32767) : wrap64 (IntKind.i16.wrap n) = n := by
  have e : IntKind.i16.wrap n = n := by simp [IntKind.wrap, IntKind.signed, IntKind.bits]; omega
  rw [e]; unfold wrap64; omega
theorem i16_out {n : Int} (h : ¬ (-32768 ≤ n ∧ n ≤ 32767)) : ¬ wrap64 (IntKind.i16.wrap n) = n := by
  have e : -32768 ≤ IntKind.i16.wrap n ∧ IntKind.i16.wrap n ≤ 32767 := by simp [IntKind.wrap, IntKind.signed, IntKind.bits]; omega
  intro h'
  have : wrap64 (IntKind.i16.wrap n) = IntKind.i16.wrap n := by unfold wrap64; omega
  omega
theorem i32_in {n : Int} (h : -2147483648 ≤ n ∧ n ≤ 2147483647) : wrap64 (wrap32 n) = n := by unfold wrap64 wrap32; omega
theorem i32_out {n : Int} (h : ¬ (-2147483648 ≤ n ∧ n ≤ 2147483647)) : ¬ wrap64 (wrap32 n) = n := by unfold wrap64 wrap32; omega

end Go.Proofs.Ytbpefomjmjkciaa.Ins
