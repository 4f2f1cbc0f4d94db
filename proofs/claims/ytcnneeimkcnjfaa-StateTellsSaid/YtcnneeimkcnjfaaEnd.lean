import Derived.Test.YtcnneeimkcnjfaaRows
import Derived.ProofKit
import Derived.Below
namespace Go.Proofs.Ytcnneeimkcnjfaa
open Go.RowKit Go.WideShapes Go.ChangeShapes
variable {H:Type} {enc:TypeId × Value → H} {P:Program}
end Go.Proofs.Ytcnneeimkcnjfaa
