/-
  Known bits: cuts, shifts, and why what an operation makes of them holds, and is no less where less is known. No program is named here.
-/
import Derived.Test.YtcnneeimkcnjfaaKnwM
namespace Go.Proofs.Ytcnneeimkcnjfaa.Knw
set_option linter.unusedVariables false
set_option linter.unusedSimpArgs false
/-! ### Operations of words -/
/-! ### What an operation makes of it -/
end Go.Proofs.Ytcnneeimkcnjfaa.Knw
