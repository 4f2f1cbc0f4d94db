/-
  Package instr: two instructions compared.
-/
import Derived.Test.YtbpefomjmjkciaaInsA
import Derived.Laws.StructEq
namespace Go.Proofs.Ytbpefomjmjkciaa.Ins
open Go.RowKit
set_option linter.unusedVariables false

/-- Two instructions compared. -/
theorem eq_run (x y : In) (w : World) : (Op.equalIn 10000 26 (.agg x.cells) (.agg y.cells)).run Try.prog w = .ok (eqI x y) w := by
  unfold In.cells
  simp [go_sem]
  unfold eqI
  (repeat' split) <;> simp [*]
end Go.Proofs.Ytbpefomjmjkciaa.Ins
