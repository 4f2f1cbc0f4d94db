import Derived.WalkKit
import Derived.ProofKit
namespace Go.Proofs.Ytcnneeimkcnjfaa
open Go.RowKit
end Go.Proofs.Ytcnneeimkcnjfaa
