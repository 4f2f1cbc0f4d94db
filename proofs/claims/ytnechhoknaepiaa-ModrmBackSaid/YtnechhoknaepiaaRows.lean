/-
  No cell of these rows narrows 'for every input' (looked for: loops, veiled, ifaces, maps, wideKeys, modest, calm, conditions, laid).
  DERIVED. THE GIVEN ROWS OF THIS SEAT. 6 by the template 'for every input the law returns true; each argument reads behind the call as it read before'; 0 by the template 'total and deterministic' (their statements: YtnechhoknaepiaaTotals.lean).
  GIVEN WITH THE SEED: the statements are not yours to turn. If you find one false, say at which input.
  Laid BY PROGRAM, IN A SANDBOX (cutbox-rows.mjs): the forced cells as the released guide's own fill.sh prints them over the translation fa773293e057d943… (all of the seat's roots in one cut). By AI agents, Wed Nov 11 2026. No macro, syntax, notation, axiom, sorry.
-/
import Derived.Test.YtnechhoknaepiaaChecked
import GoSem.Claim
import GoSem.ClaimJoined
import GoSem.ClaimMapViews
import Derived.JoinedTies
import Derived.KernelRfl
namespace Go.Proofs.Ytnechhoknaepiaa
/- THE CELL 'sum', in the pinned program and in every row, IS THE sha256 OF THE DUMP (.gsa) THAT YtnechhoknaepiaaProg.lean LOADS. Nothing in Lean hashes anything: it is a label: what it is worth is what the hold of that sum in a sandbox is worth. -/
noncomputable def Try.pinned : Pinned := { name := "ytnechhoknaepiaa", sum := "fa773293e057d943bc0d484cf3f2e451066a66fcb8d450127ce7ec6195d138b6", checked := Try.checked }
namespace Rows
def none {H : Type} : Left H := { results := [], args := [] }

/-- 'lathelaw12.ModrmBytes': WHATEVER THE INPUT: true; the input reads as it did. -/
def modrmBytesSpec : ChangeSpec := { name := "modrmBytes", fn := fun _ => fun
  | [d1, d2, d3, d4, d5, d6] => { results := [.lit (.bool true)], args := [d1, d2, d3, d4, d5, d6] }
  | _ => none }
def modrmBytesRow : OpenClaim := { program := "ytnechhoknaepiaa", sum := "fa773293e057d943bc0d484cf3f2e451066a66fcb8d450127ce7ec6195d138b6", func := "lathe/lathelaw12.ModrmBytes", spec := "modrmBytes", apart := false }
def ModrmBytesSaid : Prop := modrmBytesRow.holds Try.pinned (OpenSpec.ofChange modrmBytesSpec)

/-- ITS FALSE NEIGHBOUR: 'it returns false'. Refute it at one input. -/
def modrmBytesWrong : ChangeSpec := { name := "modrmBytes", fn := fun _ => fun
  | [d1, d2, d3, d4, d5, d6] => { results := [.lit (.bool false)], args := [d1, d2, d3, d4, d5, d6] }
  | _ => none }
def ModrmBytesWrongFalsely : Prop := modrmBytesRow.holds Try.pinned (OpenSpec.ofChange modrmBytesWrong)

/-- 'lathelaw12.ModrmReads': WHATEVER THE INPUT: true; the input reads as it did. -/
def modrmReadsSpec : ChangeSpec := { name := "modrmReads", fn := fun _ => fun
  | [d1, d2] => { results := [.lit (.bool true)], args := [d1, d2] }
  | _ => none }
def modrmReadsRow : OpenClaim := { program := "ytnechhoknaepiaa", sum := "fa773293e057d943bc0d484cf3f2e451066a66fcb8d450127ce7ec6195d138b6", func := "lathe/lathelaw12.ModrmReads", spec := "modrmReads", apart := false }
def ModrmReadsSaid : Prop := modrmReadsRow.holds Try.pinned (OpenSpec.ofChange modrmReadsSpec)

/-- ITS FALSE NEIGHBOUR: 'it returns false'. Refute it at one input. -/
def modrmReadsWrong : ChangeSpec := { name := "modrmReads", fn := fun _ => fun
  | [d1, d2] => { results := [.lit (.bool false)], args := [d1, d2] }
  | _ => none }
def ModrmReadsWrongFalsely : Prop := modrmReadsRow.holds Try.pinned (OpenSpec.ofChange modrmReadsWrong)

/-- 'lathelaw12.ModrmBack': WHATEVER THE INPUT: true; the input reads as it did. -/
def modrmBackSpec : ChangeSpec := { name := "modrmBack", fn := fun _ => fun
  | [d1, d2, d3, d4, d5, d6, d7] => { results := [.lit (.bool true)], args := [d1, d2, d3, d4, d5, d6, d7] }
  | _ => none }
def modrmBackRow : OpenClaim := { program := "ytnechhoknaepiaa", sum := "fa773293e057d943bc0d484cf3f2e451066a66fcb8d450127ce7ec6195d138b6", func := "lathe/lathelaw12.ModrmBack", spec := "modrmBack", apart := false }
def ModrmBackSaid : Prop := modrmBackRow.holds Try.pinned (OpenSpec.ofChange modrmBackSpec)

/-- ITS FALSE NEIGHBOUR: 'it returns false'. Refute it at one input. -/
def modrmBackWrong : ChangeSpec := { name := "modrmBack", fn := fun _ => fun
  | [d1, d2, d3, d4, d5, d6, d7] => { results := [.lit (.bool false)], args := [d1, d2, d3, d4, d5, d6, d7] }
  | _ => none }
def ModrmBackWrongFalsely : Prop := modrmBackRow.holds Try.pinned (OpenSpec.ofChange modrmBackWrong)

/-- 'lathelaw12.ModrmApart': WHATEVER THE INPUT: true; the input reads as it did. -/
def modrmApartSpec : ChangeSpec := { name := "modrmApart", fn := fun _ => fun
  | [d1, d2, d3, d4, d5, d6] => { results := [.lit (.bool true)], args := [d1, d2, d3, d4, d5, d6] }
  | _ => none }
def modrmApartRow : OpenClaim := { program := "ytnechhoknaepiaa", sum := "fa773293e057d943bc0d484cf3f2e451066a66fcb8d450127ce7ec6195d138b6", func := "lathe/lathelaw12.ModrmApart", spec := "modrmApart", apart := false }
def ModrmApartSaid : Prop := modrmApartRow.holds Try.pinned (OpenSpec.ofChange modrmApartSpec)

/-- ITS FALSE NEIGHBOUR: 'it returns false'. Refute it at one input. -/
def modrmApartWrong : ChangeSpec := { name := "modrmApart", fn := fun _ => fun
  | [d1, d2, d3, d4, d5, d6] => { results := [.lit (.bool false)], args := [d1, d2, d3, d4, d5, d6] }
  | _ => none }
def ModrmApartWrongFalsely : Prop := modrmApartRow.holds Try.pinned (OpenSpec.ofChange modrmApartWrong)

/-- 'lathelaw12.ModrmRexes': WHATEVER THE INPUT: true; the input reads as it did. -/
def modrmRexesSpec : ChangeSpec := { name := "modrmRexes", fn := fun _ => fun
  | [d] => { results := [.lit (.bool true)], args := [d] }
  | _ => none }
def modrmRexesRow : OpenClaim := { program := "ytnechhoknaepiaa", sum := "fa773293e057d943bc0d484cf3f2e451066a66fcb8d450127ce7ec6195d138b6", func := "lathe/lathelaw12.ModrmRexes", spec := "modrmRexes", apart := false }
def ModrmRexesSaid : Prop := modrmRexesRow.holds Try.pinned (OpenSpec.ofChange modrmRexesSpec)

/-- ITS FALSE NEIGHBOUR: 'it returns false'. Refute it at one input. -/
def modrmRexesWrong : ChangeSpec := { name := "modrmRexes", fn := fun _ => fun
  | [d] => { results := [.lit (.bool false)], args := [d] }
  | _ => none }
def ModrmRexesWrongFalsely : Prop := modrmRexesRow.holds Try.pinned (OpenSpec.ofChange modrmRexesWrong)

/-- 'lathelaw12.ModrmLens': WHATEVER THE INPUT: true; the input reads as it did. -/
def modrmLensSpec : ChangeSpec := { name := "modrmLens", fn := fun _ => fun
  | [d1, d2, d3, d4] => { results := [.lit (.bool true)], args := [d1, d2, d3, d4] }
  | _ => none }
def modrmLensRow : OpenClaim := { program := "ytnechhoknaepiaa", sum := "fa773293e057d943bc0d484cf3f2e451066a66fcb8d450127ce7ec6195d138b6", func := "lathe/lathelaw12.ModrmLens", spec := "modrmLens", apart := false }
def ModrmLensSaid : Prop := modrmLensRow.holds Try.pinned (OpenSpec.ofChange modrmLensSpec)

/-- ITS FALSE NEIGHBOUR: 'it returns false'. Refute it at one input. -/
def modrmLensWrong : ChangeSpec := { name := "modrmLens", fn := fun _ => fun
  | [d1, d2, d3, d4] => { results := [.lit (.bool false)], args := [d1, d2, d3, d4] }
  | _ => none }
def ModrmLensWrongFalsely : Prop := modrmLensRow.holds Try.pinned (OpenSpec.ofChange modrmLensWrong)

/- THE SECOND FORM. 'bulk': how many values and letters a reading holds, each counted each time it is reached (what is shared counts as often as it is met; a slice's spare places count too). A statement '..UptoSaid' is the law's where the arguments, and the package variables that the reading takes, are together of bulk at most 1048576: NARROWER than '..Said'. Prove '..Said' where nothing that the law and all that it calls make is longer than what came in: it says more and counts as full. Else prove '..UptoSaid'. A law counts once. -/
mutual
def uptoBulk {H : Type} : DataW H → Nat
  | .lit (.string bytes) => bytes.length + 1
  | .lit _ => 1
  | .nil => 1
  | .ptr d => uptoBulk d + 1
  | .slice elems spare => uptoBulkAll elems + uptoBulkAll spare + 1
  | .agg parts => uptoBulkAll parts + 1
  | .iface _ d => uptoBulk d + 1
  | .map entries => uptoBulkEntries entries + 1
  | .held _ => 1
def uptoBulkAll {H : Type} : List (DataW H) → Nat
  | [] => 0
  | d :: r => uptoBulk d + uptoBulkAll r
def uptoBulkEntries {H : Type} : List (Lit × DataW H) → Nat
  | [] => 0
  | x :: r => uptoBulkEntry x + uptoBulkEntries r
def uptoBulkEntry {H : Type} : Lit × DataW H → Nat
  | (.string bytes, d) => bytes.length + uptoBulk d + 1
  | (_, d) => uptoBulk d + 1
 end
def uptoSmall : (H : Type) → List (DataW H) → Bool := fun _ ds => decide (uptoBulkAll ds ≤ 1048576)
def OpenSpec.upto (s : _root_.Go.ChangeSpec) : _root_.Go.OpenSpec := { _root_.Go.OpenSpec.ofChange s with cond := some uptoSmall }

/-- 'lathelaw12.ModrmBytes', WHERE WHAT IT READS IS OF BULK AT MOST 1048576: true; the input reads as it did. -/
def modrmBytesUptoRow : OpenClaim := { program := "ytnechhoknaepiaa", sum := "fa773293e057d943bc0d484cf3f2e451066a66fcb8d450127ce7ec6195d138b6", func := "lathe/lathelaw12.ModrmBytes", spec := "modrmBytes", apart := false, narrowed := true }
def ModrmBytesUptoSaid : Prop := modrmBytesUptoRow.holds Try.pinned (OpenSpec.upto modrmBytesSpec)

/-- 'lathelaw12.ModrmReads', WHERE WHAT IT READS IS OF BULK AT MOST 1048576: true; the input reads as it did. -/
def modrmReadsUptoRow : OpenClaim := { program := "ytnechhoknaepiaa", sum := "fa773293e057d943bc0d484cf3f2e451066a66fcb8d450127ce7ec6195d138b6", func := "lathe/lathelaw12.ModrmReads", spec := "modrmReads", apart := false, narrowed := true }
def ModrmReadsUptoSaid : Prop := modrmReadsUptoRow.holds Try.pinned (OpenSpec.upto modrmReadsSpec)

/-- 'lathelaw12.ModrmBack', WHERE WHAT IT READS IS OF BULK AT MOST 1048576: true; the input reads as it did. -/
def modrmBackUptoRow : OpenClaim := { program := "ytnechhoknaepiaa", sum := "fa773293e057d943bc0d484cf3f2e451066a66fcb8d450127ce7ec6195d138b6", func := "lathe/lathelaw12.ModrmBack", spec := "modrmBack", apart := false, narrowed := true }
def ModrmBackUptoSaid : Prop := modrmBackUptoRow.holds Try.pinned (OpenSpec.upto modrmBackSpec)

/-- 'lathelaw12.ModrmApart', WHERE WHAT IT READS IS OF BULK AT MOST 1048576: true; the input reads as it did. -/
def modrmApartUptoRow : OpenClaim := { program := "ytnechhoknaepiaa", sum := "fa773293e057d943bc0d484cf3f2e451066a66fcb8d450127ce7ec6195d138b6", func := "lathe/lathelaw12.ModrmApart", spec := "modrmApart", apart := false, narrowed := true }
def ModrmApartUptoSaid : Prop := modrmApartUptoRow.holds Try.pinned (OpenSpec.upto modrmApartSpec)

/-- 'lathelaw12.ModrmRexes', WHERE WHAT IT READS IS OF BULK AT MOST 1048576: true; the input reads as it did. -/
def modrmRexesUptoRow : OpenClaim := { program := "ytnechhoknaepiaa", sum := "fa773293e057d943bc0d484cf3f2e451066a66fcb8d450127ce7ec6195d138b6", func := "lathe/lathelaw12.ModrmRexes", spec := "modrmRexes", apart := false, narrowed := true }
def ModrmRexesUptoSaid : Prop := modrmRexesUptoRow.holds Try.pinned (OpenSpec.upto modrmRexesSpec)

/-- 'lathelaw12.ModrmLens', WHERE WHAT IT READS IS OF BULK AT MOST 1048576: true; the input reads as it did. -/
def modrmLensUptoRow : OpenClaim := { program := "ytnechhoknaepiaa", sum := "fa773293e057d943bc0d484cf3f2e451066a66fcb8d450127ce7ec6195d138b6", func := "lathe/lathelaw12.ModrmLens", spec := "modrmLens", apart := false, narrowed := true }
def ModrmLensUptoSaid : Prop := modrmLensUptoRow.holds Try.pinned (OpenSpec.upto modrmLensSpec)

end Rows
end Go.Proofs.Ytnechhoknaepiaa
