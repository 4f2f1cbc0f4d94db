/-
  Layer 12: wakes. (Written by gen_mrw.py.)
-/
import Derived.Test.YtnechhoknaepiaaMrK
namespace Go.Proofs.Ytnechhoknaepiaa.Mrm
open Go.RowKit
set_option linter.unusedVariables false
set_option linter.unnecessarySimpa false
set_option linter.unusedSimpArgs false
set_option maxRecDepth 100000

theorem wk_mem : memB 1 4 16 = true := by decide
theorem wk_l : memL 1 4 16 = [140, 36, 16, 0, 0, 0] := by decide
theorem wk_str : strOfNums [140, 36, 16, 0, 0, 0] = (⟨#[140, 36, 16, 0, 0, 0]⟩ : ByteArray) := by decide
theorem wakes_n (W : World) : Calls Try.prog 19 #[] W fun e w' => e = .returned (.bool true) ∧ Below W.heap.size W w' := by
  have R := Lib.hid (fun W => rex_n true 9 3 W)
  rw [show bothB 9 3 = true by decide, show (bif true then rexI true 9 3 else 0) = 76 by decide, cond_true] at R
  have M := Lib.hid (fun W => mem_n 1 4 16 (by decide) (by decide) W)
  unfold MemB at M
  rw [wk_mem, wk_l, cond_true, cond_true] at M
  go_enter Try.func19, Try.ntmps19
  go_wp2_with fail
  refine (R.out _).mono ?_
  rintro e w1 ⟨rfl, rfl⟩
  go_wp2_with fail
  refine (M.out _).mono ?_
  rintro e w2 ⟨v, rfl, o2, b2⟩
  have c1 := conv_own o2 (by intro z hz; simp at hz; omega)
  rw [wk_str] at c1
  have B2 := Lib.hid b2
  clear o2 b2 R M
  go_wp2_with fail
  go_ret
  exact ⟨rfl, B2.out⟩
end Go.Proofs.Ytnechhoknaepiaa.Mrm
