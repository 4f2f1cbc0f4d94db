/-
  The calls Put and Get of package bits, as contracts.
-/
import Derived.Test.YtcnneeimkcnjfaaRows
import Derived.WalkKit
import Derived.WalkSpells
import Derived.WalkLawsBesides
import Derived.Lib.Hide
import Derived.Test.YtcnneeimkcnjfaaRow
import Derived.Deep.LoopGhost
import Derived.Deep.OwnRows
import Derived.Handy
namespace Go.Proofs.Ytcnneeimkcnjfaa
open Go.RowKit
set_option linter.unusedVariables false
end Go.Proofs.Ytcnneeimkcnjfaa
