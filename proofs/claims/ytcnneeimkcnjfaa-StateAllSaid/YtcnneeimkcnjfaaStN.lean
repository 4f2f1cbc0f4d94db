/-
  Known bits in the document's own spellings; scalars that hold numbers. No program is named here.
-/
import Derived.Test.YtcnneeimkcnjfaaStM
import Derived.Test.YtcnneeimkcnjfaaKnwN
namespace Go.Proofs.Ytcnneeimkcnjfaa.Sta
open Bnd Knw
set_option linter.unusedVariables false
set_option linter.unusedSimpArgs false
theorem may_ok (k : Kn) : k.mayB = true ↔ Knw.Ok k := Knw.may_iff k
/-! ### 2^k - 1 -/
end Go.Proofs.Ytcnneeimkcnjfaa.Sta
