/-
  Plain arithmetic of machine words, as functions on integers: what cutting, signs, operations and conditions come to. No program is named here.
-/
import Derived.WalkKit
namespace Go.Proofs.Ytcnneeimkcnjfaa
end Go.Proofs.Ytcnneeimkcnjfaa
