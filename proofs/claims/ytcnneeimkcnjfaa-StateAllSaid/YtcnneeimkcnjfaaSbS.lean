/-
  The document's own answer for layer 7: Single, Join, Meet, In, Low, sums, filled. (Written by gen_bndd.py.)
-/
import Derived.Test.YtcnneeimkcnjfaaSbR
import Derived.Test.YtcnneeimkcnjfaaSbD
import Derived.Test.YtcnneeimkcnjfaaSbL
namespace Go.Proofs.Ytcnneeimkcnjfaa.Bnd
open Go.RowKit
set_option linter.unusedVariables false
set_option linter.unusedSimpArgs false
set_option linter.unnecessarySimpa false
set_option maxRecDepth 100000
end Go.Proofs.Ytcnneeimkcnjfaa.Bnd
