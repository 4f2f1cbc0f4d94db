/-
  No cell of these rows narrows 'for every input' (looked for: loops, veiled, ifaces, maps, wideKeys, modest, calm, conditions, laid).
  DERIVED. THE GIVEN ROWS OF THIS SEAT. 6 by the template 'for every input the law returns true; each argument reads behind the call as it read before'; 0 by the template 'total and deterministic' (their statements: YtllnengcmfgmhaaTotals.lean).
  GIVEN WITH THE SEED: the statements are not yours to turn. If you find one false, say at which input.
  Laid BY PROGRAM, IN A SANDBOX (cutbox-rows.mjs): the forced cells as the released guide's own fill.sh prints them over the translation b796316d52130df2… (all of the seat's roots in one cut). By AI agents, Wed Nov 11 2026. No macro, syntax, notation, axiom, sorry.
-/
import Derived.Test.YtllnengcmfgmhaaChecked
import GoSem.Claim
import GoSem.ClaimJoined
import GoSem.ClaimMapViews
import Derived.JoinedTies
import Derived.KernelRfl
namespace Go.Proofs.Ytllnengcmfgmhaa
/- THE CELL 'sum', in the pinned program and in every row, IS THE sha256 OF THE DUMP (.gsa) THAT YtllnengcmfgmhaaProg.lean LOADS. Nothing in Lean hashes anything: it is a label: what it is worth is what the hold of that sum in a sandbox is worth. -/
noncomputable def Try.pinned : Pinned := { name := "ytllnengcmfgmhaa", sum := "b796316d52130df2b61f06183949176f88892b41c06ef4b050b2fc174fdaeeaf", checked := Try.checked }
namespace Rows
def none {H : Type} : Left H := { results := [], args := [] }

/-- 'lathelaw14.FlagsTell': WHATEVER THE INPUT: true; the input reads as it did. -/
def flagsTellSpec : ChangeSpec := { name := "flagsTell", fn := fun _ => fun
  | [d1, d2, d3] => { results := [.lit (.bool true)], args := [d1, d2, d3] }
  | _ => none }
def flagsTellRow : OpenClaim := { program := "ytllnengcmfgmhaa", sum := "b796316d52130df2b61f06183949176f88892b41c06ef4b050b2fc174fdaeeaf", func := "lathe/lathelaw14.FlagsTell", spec := "flagsTell", unfollowed := true, recurses := true, apart := false }
def FlagsTellSaid : Prop := flagsTellRow.holds Try.pinned (OpenSpec.ofChange flagsTellSpec)

/-- ITS FALSE NEIGHBOUR: 'it returns false'. Refute it at one input. -/
def flagsTellWrong : ChangeSpec := { name := "flagsTell", fn := fun _ => fun
  | [d1, d2, d3] => { results := [.lit (.bool false)], args := [d1, d2, d3] }
  | _ => none }
def FlagsTellWrongFalsely : Prop := flagsTellRow.holds Try.pinned (OpenSpec.ofChange flagsTellWrong)

/-- 'lathelaw14.FlagsHold': WHATEVER THE INPUT: true; the input reads as it did. -/
def flagsHoldSpec : ChangeSpec := { name := "flagsHold", fn := fun _ => fun
  | [d1, d2] => { results := [.lit (.bool true)], args := [d1, d2] }
  | _ => none }
def flagsHoldRow : OpenClaim := { program := "ytllnengcmfgmhaa", sum := "b796316d52130df2b61f06183949176f88892b41c06ef4b050b2fc174fdaeeaf", func := "lathe/lathelaw14.FlagsHold", spec := "flagsHold", unfollowed := true, recurses := true, apart := false }
def FlagsHoldSaid : Prop := flagsHoldRow.holds Try.pinned (OpenSpec.ofChange flagsHoldSpec)

/-- ITS FALSE NEIGHBOUR: 'it returns false'. Refute it at one input. -/
def flagsHoldWrong : ChangeSpec := { name := "flagsHold", fn := fun _ => fun
  | [d1, d2] => { results := [.lit (.bool false)], args := [d1, d2] }
  | _ => none }
def FlagsHoldWrongFalsely : Prop := flagsHoldRow.holds Try.pinned (OpenSpec.ofChange flagsHoldWrong)

/-- 'lathelaw14.FlagsCompare': WHATEVER THE INPUT: true; the input reads as it did. -/
def flagsCompareSpec : ChangeSpec := { name := "flagsCompare", fn := fun _ => fun
  | [d1, d2, d3] => { results := [.lit (.bool true)], args := [d1, d2, d3] }
  | _ => none }
def flagsCompareRow : OpenClaim := { program := "ytllnengcmfgmhaa", sum := "b796316d52130df2b61f06183949176f88892b41c06ef4b050b2fc174fdaeeaf", func := "lathe/lathelaw14.FlagsCompare", spec := "flagsCompare", unfollowed := true, recurses := true, apart := false }
def FlagsCompareSaid : Prop := flagsCompareRow.holds Try.pinned (OpenSpec.ofChange flagsCompareSpec)

/-- ITS FALSE NEIGHBOUR: 'it returns false'. Refute it at one input. -/
def flagsCompareWrong : ChangeSpec := { name := "flagsCompare", fn := fun _ => fun
  | [d1, d2, d3] => { results := [.lit (.bool false)], args := [d1, d2, d3] }
  | _ => none }
def FlagsCompareWrongFalsely : Prop := flagsCompareRow.holds Try.pinned (OpenSpec.ofChange flagsCompareWrong)

/-- 'lathelaw14.FlagsCut': WHATEVER THE INPUT: true; the input reads as it did. -/
def flagsCutSpec : ChangeSpec := { name := "flagsCut", fn := fun _ => fun
  | [d1, d2, d3, d4] => { results := [.lit (.bool true)], args := [d1, d2, d3, d4] }
  | _ => none }
def flagsCutRow : OpenClaim := { program := "ytllnengcmfgmhaa", sum := "b796316d52130df2b61f06183949176f88892b41c06ef4b050b2fc174fdaeeaf", func := "lathe/lathelaw14.FlagsCut", spec := "flagsCut", unfollowed := true, recurses := true, apart := false }
def FlagsCutSaid : Prop := flagsCutRow.holds Try.pinned (OpenSpec.ofChange flagsCutSpec)

/-- ITS FALSE NEIGHBOUR: 'it returns false'. Refute it at one input. -/
def flagsCutWrong : ChangeSpec := { name := "flagsCut", fn := fun _ => fun
  | [d1, d2, d3, d4] => { results := [.lit (.bool false)], args := [d1, d2, d3, d4] }
  | _ => none }
def FlagsCutWrongFalsely : Prop := flagsCutRow.holds Try.pinned (OpenSpec.ofChange flagsCutWrong)

/-- 'lathelaw14.FlagsTurned': WHATEVER THE INPUT: true; the input reads as it did. -/
def flagsTurnedSpec : ChangeSpec := { name := "flagsTurned", fn := fun _ => fun
  | [d1, d2, d3] => { results := [.lit (.bool true)], args := [d1, d2, d3] }
  | _ => none }
def flagsTurnedRow : OpenClaim := { program := "ytllnengcmfgmhaa", sum := "b796316d52130df2b61f06183949176f88892b41c06ef4b050b2fc174fdaeeaf", func := "lathe/lathelaw14.FlagsTurned", spec := "flagsTurned", unfollowed := true, recurses := true, apart := false }
def FlagsTurnedSaid : Prop := flagsTurnedRow.holds Try.pinned (OpenSpec.ofChange flagsTurnedSpec)

/-- ITS FALSE NEIGHBOUR: 'it returns false'. Refute it at one input. -/
def flagsTurnedWrong : ChangeSpec := { name := "flagsTurned", fn := fun _ => fun
  | [d1, d2, d3] => { results := [.lit (.bool false)], args := [d1, d2, d3] }
  | _ => none }
def FlagsTurnedWrongFalsely : Prop := flagsTurnedRow.holds Try.pinned (OpenSpec.ofChange flagsTurnedWrong)

/-- 'lathelaw14.FlagsOf': WHATEVER THE INPUT: true; the input reads as it did. -/
def flagsOfSpec : ChangeSpec := { name := "flagsOf", fn := fun _ => fun
  | [d1, d2, d3] => { results := [.lit (.bool true)], args := [d1, d2, d3] }
  | _ => none }
def flagsOfRow : OpenClaim := { program := "ytllnengcmfgmhaa", sum := "b796316d52130df2b61f06183949176f88892b41c06ef4b050b2fc174fdaeeaf", func := "lathe/lathelaw14.FlagsOf", spec := "flagsOf", unfollowed := true, recurses := true, apart := false }
def FlagsOfSaid : Prop := flagsOfRow.holds Try.pinned (OpenSpec.ofChange flagsOfSpec)

/-- ITS FALSE NEIGHBOUR: 'it returns false'. Refute it at one input. -/
def flagsOfWrong : ChangeSpec := { name := "flagsOf", fn := fun _ => fun
  | [d1, d2, d3] => { results := [.lit (.bool false)], args := [d1, d2, d3] }
  | _ => none }
def FlagsOfWrongFalsely : Prop := flagsOfRow.holds Try.pinned (OpenSpec.ofChange flagsOfWrong)

/- THE SECOND FORM. 'bulk': how many values and letters a reading holds, each counted each time it is reached (what is shared counts as often as it is met; a slice's spare places count too). A statement '..UptoSaid' is the law's where the arguments, and the package variables that the reading takes, are together of bulk at most 1048576: NARROWER than '..Said'. Prove '..Said' where nothing that the law and all that it calls make is longer than what came in: it says more and counts as full. Else prove '..UptoSaid'. A law counts once. -/
mutual
def uptoBulk {H : Type} : DataW H → Nat
  | .lit (.string bytes) => bytes.length + 1
  | .lit _ => 1
  | .nil => 1
  | .ptr d => uptoBulk d + 1
  | .slice elems spare => uptoBulkAll elems + uptoBulkAll spare + 1
  | .agg parts => uptoBulkAll parts + 1
  | .iface _ d => uptoBulk d + 1
  | .map entries => uptoBulkEntries entries + 1
  | .held _ => 1
def uptoBulkAll {H : Type} : List (DataW H) → Nat
  | [] => 0
  | d :: r => uptoBulk d + uptoBulkAll r
def uptoBulkEntries {H : Type} : List (Lit × DataW H) → Nat
  | [] => 0
  | x :: r => uptoBulkEntry x + uptoBulkEntries r
def uptoBulkEntry {H : Type} : Lit × DataW H → Nat
  | (.string bytes, d) => bytes.length + uptoBulk d + 1
  | (_, d) => uptoBulk d + 1
 end
def uptoSmall : (H : Type) → List (DataW H) → Bool := fun _ ds => decide (uptoBulkAll ds ≤ 1048576)
def OpenSpec.upto (s : _root_.Go.ChangeSpec) : _root_.Go.OpenSpec := { _root_.Go.OpenSpec.ofChange s with cond := some uptoSmall }

/-- 'lathelaw14.FlagsTell', WHERE WHAT IT READS IS OF BULK AT MOST 1048576: true; the input reads as it did. -/
def flagsTellUptoRow : OpenClaim := { program := "ytllnengcmfgmhaa", sum := "b796316d52130df2b61f06183949176f88892b41c06ef4b050b2fc174fdaeeaf", func := "lathe/lathelaw14.FlagsTell", spec := "flagsTell", unfollowed := true, recurses := true, apart := false, narrowed := true }
def FlagsTellUptoSaid : Prop := flagsTellUptoRow.holds Try.pinned (OpenSpec.upto flagsTellSpec)

/-- 'lathelaw14.FlagsHold', WHERE WHAT IT READS IS OF BULK AT MOST 1048576: true; the input reads as it did. -/
def flagsHoldUptoRow : OpenClaim := { program := "ytllnengcmfgmhaa", sum := "b796316d52130df2b61f06183949176f88892b41c06ef4b050b2fc174fdaeeaf", func := "lathe/lathelaw14.FlagsHold", spec := "flagsHold", unfollowed := true, recurses := true, apart := false, narrowed := true }
def FlagsHoldUptoSaid : Prop := flagsHoldUptoRow.holds Try.pinned (OpenSpec.upto flagsHoldSpec)

/-- 'lathelaw14.FlagsCompare', WHERE WHAT IT READS IS OF BULK AT MOST 1048576: true; the input reads as it did. -/
def flagsCompareUptoRow : OpenClaim := { program := "ytllnengcmfgmhaa", sum := "b796316d52130df2b61f06183949176f88892b41c06ef4b050b2fc174fdaeeaf", func := "lathe/lathelaw14.FlagsCompare", spec := "flagsCompare", unfollowed := true, recurses := true, apart := false, narrowed := true }
def FlagsCompareUptoSaid : Prop := flagsCompareUptoRow.holds Try.pinned (OpenSpec.upto flagsCompareSpec)

/-- 'lathelaw14.FlagsCut', WHERE WHAT IT READS IS OF BULK AT MOST 1048576: true; the input reads as it did. -/
def flagsCutUptoRow : OpenClaim := { program := "ytllnengcmfgmhaa", sum := "b796316d52130df2b61f06183949176f88892b41c06ef4b050b2fc174fdaeeaf", func := "lathe/lathelaw14.FlagsCut", spec := "flagsCut", unfollowed := true, recurses := true, apart := false, narrowed := true }
def FlagsCutUptoSaid : Prop := flagsCutUptoRow.holds Try.pinned (OpenSpec.upto flagsCutSpec)

/-- 'lathelaw14.FlagsTurned', WHERE WHAT IT READS IS OF BULK AT MOST 1048576: true; the input reads as it did. -/
def flagsTurnedUptoRow : OpenClaim := { program := "ytllnengcmfgmhaa", sum := "b796316d52130df2b61f06183949176f88892b41c06ef4b050b2fc174fdaeeaf", func := "lathe/lathelaw14.FlagsTurned", spec := "flagsTurned", unfollowed := true, recurses := true, apart := false, narrowed := true }
def FlagsTurnedUptoSaid : Prop := flagsTurnedUptoRow.holds Try.pinned (OpenSpec.upto flagsTurnedSpec)

/-- 'lathelaw14.FlagsOf', WHERE WHAT IT READS IS OF BULK AT MOST 1048576: true; the input reads as it did. -/
def flagsOfUptoRow : OpenClaim := { program := "ytllnengcmfgmhaa", sum := "b796316d52130df2b61f06183949176f88892b41c06ef4b050b2fc174fdaeeaf", func := "lathe/lathelaw14.FlagsOf", spec := "flagsOf", unfollowed := true, recurses := true, apart := false, narrowed := true }
def FlagsOfUptoSaid : Prop := flagsOfUptoRow.holds Try.pinned (OpenSpec.upto flagsOfSpec)

end Rows
end Go.Proofs.Ytllnengcmfgmhaa
