/-
  The last step of a law's row where of the world behind the call it is known that nothing below the heap's old end has turned.
-/
import Derived.Test.YtcnneeimkcnjfaaRows
import Derived.ProofKit
import Derived.Below
namespace Go.Proofs.Ytcnneeimkcnjfaa
open Go.RowKit Go.WideShapes Go.ChangeShapes
variable {H : Type} {enc : TypeId × Value → H} {P : Program}
end Go.Proofs.Ytcnneeimkcnjfaa
