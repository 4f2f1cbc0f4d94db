/-
  What a walk is told of a slice of integers that came in: it is nil, or it leads to a row of 'cap' cells.
-/
import Derived.WalkKit
import Derived.ProofKit
namespace Go.Proofs.YtjhjpllgoakncaaDoor
open Go.RowKit
set_option maxRecDepth 100000

def IsRow (k : IntKind) (w : World) (a : Option Addr) (len cap : Nat) (zs : List Int) : Prop :=
  (a = none ∧ len = 0 ∧ cap = 0 ∧ zs = []) ∨
  ∃ x, a = some x ∧ len ≤ cap ∧ cap ≤ maxLen ∧ zs.length = cap ∧ (∀ i, i < zs.length → w.cell? (x.add i) = some (.int k (zs.getD i 0))) ∧ ∀ n ∈ zs, (Lit.int k n).wf = true
end Go.Proofs.YtjhjpllgoakncaaDoor
