/-
  What a walk is told of a slice of integers that came in: it is nil, or it leads to a row of 'cap' cells.
-/
import Derived.WalkKit
import Derived.ProofKit
namespace Go.Proofs.Ytcnneeimkcnjfaa
open Go.RowKit
end Go.Proofs.Ytcnneeimkcnjfaa
