/-
  NARROWER THAN 'FOR EVERY INPUT', by the rows' own cells (each row's printed sentence says how): ExecTells: laid.
  DERIVED. THE GIVEN ROWS OF THIS SEAT. 1 by the template 'for every input the law returns true; each argument reads behind the call as it read before'; 0 by the template 'total and deterministic' (their statements: YtjhedldplmhmjaaGreatDoorTotals.lean).
  GIVEN WITH THE SEED: the statements are not yours to turn. If you find one false, say at which input.
  Laid BY PROGRAM, IN A SANDBOX (cutbox-rows.mjs): the forced cells as the released guide's own fill.sh prints them over the translation 1801450329231c3c… (all of the seat's roots in one cut). By AI agents, Wed Nov 11 2026. No macro, syntax, notation, axiom, sorry.
-/
import Derived.Test.YtjhedldplmhmjaaGreatDoorChecked
import GoSem.Claim
import GoSem.ClaimJoined
import GoSem.ClaimMapViews
import Derived.JoinedTies
import Derived.KernelRfl
namespace Go.Proofs.YtjhedldplmhmjaaGreatDoor
/- THE CELL 'sum', in the pinned program and in every row, IS THE sha256 OF THE DUMP (.gsa) THAT YtjhedldplmhmjaaGreatDoorProg.lean LOADS. Nothing in Lean hashes anything: it is a label: what it is worth is what the hold of that sum in a sandbox is worth. -/
noncomputable def Tryz.pinned : Pinned := { name := "ytjhedldplmhmjaagreatdoor", sum := "1801450329231c3cc19384bf8494dc6f06ef5e0d3bbf150694fcde68518647a7", checked := Tryz.checked }
namespace Rows
def none {H : Type} : Left H := { results := [], args := [] }

/- WHAT THE LISTED PACKAGE-LEVEL VARIABLES READ AS WHEN THE CALL BEGINS. Each datum BY PROGRAM (the guide's laid-datum.mjs) off the statement by which the dump's own 'gosem.cut.vars' lays the variable. In a bare row this is a premise. The card (YtjhedldplmhmjaaGreatDoorCards.lean) ties it to the program's text. -/
def laid_lathe_encode_codes {H : Type} : DataW H := .agg [.agg [.lit (.int .i8 1), .lit (.int .i8 96), .lit (.int .u16 137), .lit (.int .i8 0), .lit (.int .u16 0)], .agg [.lit (.int .i8 3), .lit (.int .i8 64), .lit (.int .u16 199), .lit (.int .i8 0), .lit (.int .u16 0)], .agg [.lit (.int .i8 1), .lit (.int .i8 96), .lit (.int .u16 1), .lit (.int .i8 0), .lit (.int .u16 0)], .agg [.lit (.int .i8 1), .lit (.int .i8 96), .lit (.int .u16 9), .lit (.int .i8 0), .lit (.int .u16 0)], .agg [.lit (.int .i8 1), .lit (.int .i8 96), .lit (.int .u16 33), .lit (.int .i8 0), .lit (.int .u16 0)], .agg [.lit (.int .i8 1), .lit (.int .i8 96), .lit (.int .u16 41), .lit (.int .i8 0), .lit (.int .u16 0)], .agg [.lit (.int .i8 1), .lit (.int .i8 96), .lit (.int .u16 49), .lit (.int .i8 0), .lit (.int .u16 0)], .agg [.lit (.int .i8 1), .lit (.int .i8 96), .lit (.int .u16 57), .lit (.int .i8 0), .lit (.int .u16 0)], .agg [.lit (.int .i8 1), .lit (.int .i8 96), .lit (.int .u16 133), .lit (.int .i8 0), .lit (.int .u16 0)], .agg [.lit (.int .i8 3), .lit (.int .i8 96), .lit (.int .u16 129), .lit (.int .i8 0), .lit (.int .u16 0)], .agg [.lit (.int .i8 3), .lit (.int .i8 96), .lit (.int .u16 129), .lit (.int .i8 1), .lit (.int .u16 0)], .agg [.lit (.int .i8 3), .lit (.int .i8 96), .lit (.int .u16 129), .lit (.int .i8 4), .lit (.int .u16 0)], .agg [.lit (.int .i8 3), .lit (.int .i8 96), .lit (.int .u16 129), .lit (.int .i8 5), .lit (.int .u16 0)], .agg [.lit (.int .i8 3), .lit (.int .i8 96), .lit (.int .u16 129), .lit (.int .i8 6), .lit (.int .u16 0)], .agg [.lit (.int .i8 3), .lit (.int .i8 96), .lit (.int .u16 129), .lit (.int .i8 7), .lit (.int .u16 0)], .agg [.lit (.int .i8 3), .lit (.int .i8 96), .lit (.int .u16 247), .lit (.int .i8 0), .lit (.int .u16 0)], .agg [.lit (.int .i8 2), .lit (.int .i8 96), .lit (.int .u16 4015), .lit (.int .i8 0), .lit (.int .u16 0)], .agg [.lit (.int .i8 4), .lit (.int .i8 96), .lit (.int .u16 193), .lit (.int .i8 4), .lit (.int .u16 0)], .agg [.lit (.int .i8 4), .lit (.int .i8 96), .lit (.int .u16 193), .lit (.int .i8 5), .lit (.int .u16 0)], .agg [.lit (.int .i8 4), .lit (.int .i8 96), .lit (.int .u16 193), .lit (.int .i8 7), .lit (.int .u16 0)], .agg [.lit (.int .i8 5), .lit (.int .i8 96), .lit (.int .u16 211), .lit (.int .i8 4), .lit (.int .u16 0)], .agg [.lit (.int .i8 5), .lit (.int .i8 96), .lit (.int .u16 211), .lit (.int .i8 5), .lit (.int .u16 0)], .agg [.lit (.int .i8 5), .lit (.int .i8 96), .lit (.int .u16 211), .lit (.int .i8 7), .lit (.int .u16 0)], .agg [.lit (.int .i8 5), .lit (.int .i8 96), .lit (.int .u16 247), .lit (.int .i8 3), .lit (.int .u16 0)], .agg [.lit (.int .i8 5), .lit (.int .i8 96), .lit (.int .u16 247), .lit (.int .i8 6), .lit (.int .u16 0)], .agg [.lit (.int .i8 2), .lit (.int .i8 96), .lit (.int .u16 3904), .lit (.int .i8 0), .lit (.int .u16 15)], .agg [.lit (.int .i8 7), .lit (.int .i8 96), .lit (.int .u16 139), .lit (.int .i8 0), .lit (.int .u16 0)], .agg [.lit (.int .i8 8), .lit (.int .i8 112), .lit (.int .u16 137), .lit (.int .i8 0), .lit (.int .u16 0)], .agg [.lit (.int .i8 9), .lit (.int .i8 32), .lit (.int .u16 233), .lit (.int .i8 0), .lit (.int .u16 0)], .agg [.lit (.int .i8 9), .lit (.int .i8 32), .lit (.int .u16 3968), .lit (.int .i8 0), .lit (.int .u16 15)], .agg [.lit (.int .i8 0), .lit (.int .i8 0), .lit (.int .u16 195), .lit (.int .i8 0), .lit (.int .u16 0)], .agg [.lit (.int .i8 0), .lit (.int .i8 0), .lit (.int .u16 3845), .lit (.int .i8 0), .lit (.int .u16 0)]]
def laid_lathe_encode_others {H : Type} : DataW H := .agg [.agg [.lit (.int .i8 1), .agg [.lit (.int .i8 6), .lit (.int .i8 32), .lit (.int .u16 184), .lit (.int .i8 0), .lit (.int .u16 7)]], .agg [.lit (.int .i8 26), .agg [.lit (.int .i8 7), .lit (.int .i8 8), .lit (.int .u16 4022), .lit (.int .i8 0), .lit (.int .u16 0)]], .agg [.lit (.int .i8 26), .agg [.lit (.int .i8 7), .lit (.int .i8 16), .lit (.int .u16 4023), .lit (.int .i8 0), .lit (.int .u16 0)]], .agg [.lit (.int .i8 27), .agg [.lit (.int .i8 8), .lit (.int .i8 8), .lit (.int .u16 136), .lit (.int .i8 0), .lit (.int .u16 0)]], .agg [.lit (.int .i8 28), .agg [.lit (.int .i8 10), .lit (.int .i8 8), .lit (.int .u16 235), .lit (.int .i8 0), .lit (.int .u16 0)]], .agg [.lit (.int .i8 29), .agg [.lit (.int .i8 10), .lit (.int .i8 8), .lit (.int .u16 112), .lit (.int .i8 0), .lit (.int .u16 15)]]]

/-- 'lathelaw15.ExecTells': WHATEVER THE INPUT: true; the input reads as it did. -/
def execTellsSpec : ChangeSpec := { name := "execTells", fn := fun _ => fun
  | [d1, d2, d3, d4] => { results := [.lit (.bool true)], args := [d1, d2, d3, d4] }
  | _ => none }
def execTellsRow : OpenClaim := { program := "ytjhedldplmhmjaagreatdoor", sum := "1801450329231c3cc19384bf8494dc6f06ef5e0d3bbf150694fcde68518647a7", func := "lathe/lathelaw15.ExecTells", spec := "execTells", unfollowed := true, recurses := true, named := ["lathe/encode.codes", "lathe/encode.others"], apart := false, laid := [("lathe/encode.codes", laid_lathe_encode_codes), ("lathe/encode.others", laid_lathe_encode_others)] }
def ExecTellsSaid : Prop := execTellsRow.holds Tryz.pinned (OpenSpec.ofChange execTellsSpec)

/-- ITS FALSE NEIGHBOUR: 'it returns false'. Refute it at one input. -/
def execTellsWrong : ChangeSpec := { name := "execTells", fn := fun _ => fun
  | [d1, d2, d3, d4] => { results := [.lit (.bool false)], args := [d1, d2, d3, d4] }
  | _ => none }
def ExecTellsWrongFalsely : Prop := execTellsRow.holds Tryz.pinned (OpenSpec.ofChange execTellsWrong)

/- THE SECOND FORM. 'bulk': how many values and letters a reading holds, each counted each time it is reached (what is shared counts as often as it is met; a slice's spare places count too). A statement '..UptoSaid' is the law's where the arguments, and the package variables that the reading takes, are together of bulk at most 1048576: NARROWER than '..Said'. Prove '..Said' where nothing that the law and all that it calls make is longer than what came in: it says more and counts as full. Else prove '..UptoSaid'. A law counts once. -/
mutual
def uptoBulk {H : Type} : DataW H → Nat
  | .lit (.string bytes) => bytes.length + 1
  | .lit _ => 1
  | .nil => 1
  | .ptr d => uptoBulk d + 1
  | .slice elems spare => uptoBulkAll elems + uptoBulkAll spare + 1
  | .agg parts => uptoBulkAll parts + 1
  | .iface _ d => uptoBulk d + 1
  | .map entries => uptoBulkEntries entries + 1
  | .held _ => 1
def uptoBulkAll {H : Type} : List (DataW H) → Nat
  | [] => 0
  | d :: r => uptoBulk d + uptoBulkAll r
def uptoBulkEntries {H : Type} : List (Lit × DataW H) → Nat
  | [] => 0
  | x :: r => uptoBulkEntry x + uptoBulkEntries r
def uptoBulkEntry {H : Type} : Lit × DataW H → Nat
  | (.string bytes, d) => bytes.length + uptoBulk d + 1
  | (_, d) => uptoBulk d + 1
 end
def uptoSmall : (H : Type) → List (DataW H) → Bool := fun _ ds => decide (uptoBulkAll ds ≤ 1048576)
def OpenSpec.upto (s : _root_.Go.ChangeSpec) : _root_.Go.OpenSpec := { _root_.Go.OpenSpec.ofChange s with cond := some uptoSmall }

/-- 'lathelaw15.ExecTells', WHERE WHAT IT READS IS OF BULK AT MOST 1048576: true; the input reads as it did. -/
def execTellsUptoRow : OpenClaim := { program := "ytjhedldplmhmjaagreatdoor", sum := "1801450329231c3cc19384bf8494dc6f06ef5e0d3bbf150694fcde68518647a7", func := "lathe/lathelaw15.ExecTells", spec := "execTells", unfollowed := true, recurses := true, named := ["lathe/encode.codes", "lathe/encode.others"], apart := false, laid := [("lathe/encode.codes", laid_lathe_encode_codes), ("lathe/encode.others", laid_lathe_encode_others)], narrowed := true }
def ExecTellsUptoSaid : Prop := execTellsUptoRow.holds Tryz.pinned (OpenSpec.upto execTellsSpec)

end Rows
end Go.Proofs.YtjhedldplmhmjaaGreatDoor
