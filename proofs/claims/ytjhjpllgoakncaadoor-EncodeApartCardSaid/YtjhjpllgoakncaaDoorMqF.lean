/-
  Layer 12: the document's own operands, as contracts.
-/
import Derived.Test.YtjhjpllgoakncaaDoorMqE
namespace Go.Proofs.YtjhjpllgoakncaaDoor.Mrm
open Go.RowKit
set_option linter.unusedVariables false
set_option linter.unnecessarySimpa false
set_option linter.unusedSimpArgs false
set_option maxRecDepth 100000

end Go.Proofs.YtjhjpllgoakncaaDoor.Mrm
