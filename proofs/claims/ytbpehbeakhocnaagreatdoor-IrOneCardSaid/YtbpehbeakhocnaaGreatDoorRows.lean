/-
  NARROWER THAN 'FOR EVERY INPUT', by the rows' own cells (each row's printed sentence says how): IrTells: laid · IrKeeps: laid · IrParts: laid · IrBehind: laid · IrOne: laid.
  DERIVED. THE GIVEN ROWS OF THIS SEAT. 5 by the template 'for every input the law returns true; each argument reads behind the call as it read before'; 0 by the template 'total and deterministic' (their statements: YtbpehbeakhocnaaGreatDoorTotals.lean).
  GIVEN WITH THE SEED: the statements are not yours to turn. If you find one false, say at which input.
  Laid BY PROGRAM, IN A SANDBOX (cutbox-rows.mjs): the forced cells as the released guide's own fill.sh prints them over the translation 52d2ed74d990a2a3… (all of the seat's roots in one cut). By AI agents, Wed Nov 11 2026. No macro, syntax, notation, axiom, sorry.
-/
import Derived.Test.YtbpehbeakhocnaaGreatDoorChecked
import GoSem.Claim
import GoSem.ClaimJoined
import GoSem.ClaimMapViews
import Derived.JoinedTies
import Derived.KernelRfl
namespace Go.Proofs.YtbpehbeakhocnaaGreatDoor
/- THE CELL 'sum', in the pinned program and in every row, IS THE sha256 OF THE DUMP (.gsa) THAT YtbpehbeakhocnaaGreatDoorProg.lean LOADS. Nothing in Lean hashes anything: it is a label: what it is worth is what the hold of that sum in a sandbox is worth. -/
noncomputable def Tryz.pinned : Pinned := { name := "ytbpehbeakhocnaagreatdoor", sum := "52d2ed74d990a2a371465bdee761370bc615728ae3564aa101cd26209f586946", checked := Tryz.checked }
namespace Rows
def none {H : Type} : Left H := { results := [], args := [] }

/- WHAT THE LISTED PACKAGE-LEVEL VARIABLES READ AS WHEN THE CALL BEGINS. Each datum BY PROGRAM (the guide's laid-datum.mjs) off the statement by which the dump's own 'gosem.cut.vars' lays the variable. In a bare row this is a premise. The card (YtbpehbeakhocnaaGreatDoorCards.lean) ties it to the program's text. -/
def laid_lathe_encode_codes {H : Type} : DataW H := .agg [.agg [.lit (.int .i8 1), .lit (.int .i8 96), .lit (.int .u16 137), .lit (.int .i8 0), .lit (.int .u16 0)], .agg [.lit (.int .i8 3), .lit (.int .i8 64), .lit (.int .u16 199), .lit (.int .i8 0), .lit (.int .u16 0)], .agg [.lit (.int .i8 1), .lit (.int .i8 96), .lit (.int .u16 1), .lit (.int .i8 0), .lit (.int .u16 0)], .agg [.lit (.int .i8 1), .lit (.int .i8 96), .lit (.int .u16 9), .lit (.int .i8 0), .lit (.int .u16 0)], .agg [.lit (.int .i8 1), .lit (.int .i8 96), .lit (.int .u16 33), .lit (.int .i8 0), .lit (.int .u16 0)], .agg [.lit (.int .i8 1), .lit (.int .i8 96), .lit (.int .u16 41), .lit (.int .i8 0), .lit (.int .u16 0)], .agg [.lit (.int .i8 1), .lit (.int .i8 96), .lit (.int .u16 49), .lit (.int .i8 0), .lit (.int .u16 0)], .agg [.lit (.int .i8 1), .lit (.int .i8 96), .lit (.int .u16 57), .lit (.int .i8 0), .lit (.int .u16 0)], .agg [.lit (.int .i8 1), .lit (.int .i8 96), .lit (.int .u16 133), .lit (.int .i8 0), .lit (.int .u16 0)], .agg [.lit (.int .i8 3), .lit (.int .i8 96), .lit (.int .u16 129), .lit (.int .i8 0), .lit (.int .u16 0)], .agg [.lit (.int .i8 3), .lit (.int .i8 96), .lit (.int .u16 129), .lit (.int .i8 1), .lit (.int .u16 0)], .agg [.lit (.int .i8 3), .lit (.int .i8 96), .lit (.int .u16 129), .lit (.int .i8 4), .lit (.int .u16 0)], .agg [.lit (.int .i8 3), .lit (.int .i8 96), .lit (.int .u16 129), .lit (.int .i8 5), .lit (.int .u16 0)], .agg [.lit (.int .i8 3), .lit (.int .i8 96), .lit (.int .u16 129), .lit (.int .i8 6), .lit (.int .u16 0)], .agg [.lit (.int .i8 3), .lit (.int .i8 96), .lit (.int .u16 129), .lit (.int .i8 7), .lit (.int .u16 0)], .agg [.lit (.int .i8 3), .lit (.int .i8 96), .lit (.int .u16 247), .lit (.int .i8 0), .lit (.int .u16 0)], .agg [.lit (.int .i8 2), .lit (.int .i8 96), .lit (.int .u16 4015), .lit (.int .i8 0), .lit (.int .u16 0)], .agg [.lit (.int .i8 4), .lit (.int .i8 96), .lit (.int .u16 193), .lit (.int .i8 4), .lit (.int .u16 0)], .agg [.lit (.int .i8 4), .lit (.int .i8 96), .lit (.int .u16 193), .lit (.int .i8 5), .lit (.int .u16 0)], .agg [.lit (.int .i8 4), .lit (.int .i8 96), .lit (.int .u16 193), .lit (.int .i8 7), .lit (.int .u16 0)], .agg [.lit (.int .i8 5), .lit (.int .i8 96), .lit (.int .u16 211), .lit (.int .i8 4), .lit (.int .u16 0)], .agg [.lit (.int .i8 5), .lit (.int .i8 96), .lit (.int .u16 211), .lit (.int .i8 5), .lit (.int .u16 0)], .agg [.lit (.int .i8 5), .lit (.int .i8 96), .lit (.int .u16 211), .lit (.int .i8 7), .lit (.int .u16 0)], .agg [.lit (.int .i8 5), .lit (.int .i8 96), .lit (.int .u16 247), .lit (.int .i8 3), .lit (.int .u16 0)], .agg [.lit (.int .i8 5), .lit (.int .i8 96), .lit (.int .u16 247), .lit (.int .i8 6), .lit (.int .u16 0)], .agg [.lit (.int .i8 2), .lit (.int .i8 96), .lit (.int .u16 3904), .lit (.int .i8 0), .lit (.int .u16 15)], .agg [.lit (.int .i8 7), .lit (.int .i8 96), .lit (.int .u16 139), .lit (.int .i8 0), .lit (.int .u16 0)], .agg [.lit (.int .i8 8), .lit (.int .i8 112), .lit (.int .u16 137), .lit (.int .i8 0), .lit (.int .u16 0)], .agg [.lit (.int .i8 9), .lit (.int .i8 32), .lit (.int .u16 233), .lit (.int .i8 0), .lit (.int .u16 0)], .agg [.lit (.int .i8 9), .lit (.int .i8 32), .lit (.int .u16 3968), .lit (.int .i8 0), .lit (.int .u16 15)], .agg [.lit (.int .i8 0), .lit (.int .i8 0), .lit (.int .u16 195), .lit (.int .i8 0), .lit (.int .u16 0)], .agg [.lit (.int .i8 0), .lit (.int .i8 0), .lit (.int .u16 3845), .lit (.int .i8 0), .lit (.int .u16 0)]]
def laid_lathe_encode_others {H : Type} : DataW H := .agg [.agg [.lit (.int .i8 1), .agg [.lit (.int .i8 6), .lit (.int .i8 32), .lit (.int .u16 184), .lit (.int .i8 0), .lit (.int .u16 7)]], .agg [.lit (.int .i8 26), .agg [.lit (.int .i8 7), .lit (.int .i8 8), .lit (.int .u16 4022), .lit (.int .i8 0), .lit (.int .u16 0)]], .agg [.lit (.int .i8 26), .agg [.lit (.int .i8 7), .lit (.int .i8 16), .lit (.int .u16 4023), .lit (.int .i8 0), .lit (.int .u16 0)]], .agg [.lit (.int .i8 27), .agg [.lit (.int .i8 8), .lit (.int .i8 8), .lit (.int .u16 136), .lit (.int .i8 0), .lit (.int .u16 0)]], .agg [.lit (.int .i8 28), .agg [.lit (.int .i8 10), .lit (.int .i8 8), .lit (.int .u16 235), .lit (.int .i8 0), .lit (.int .u16 0)]], .agg [.lit (.int .i8 29), .agg [.lit (.int .i8 10), .lit (.int .i8 8), .lit (.int .u16 112), .lit (.int .i8 0), .lit (.int .u16 15)]]]
def laid_lathe_ir_scratch {H : Type} : DataW H := .agg [.lit (.int .i8 0), .lit (.int .i8 1), .lit (.int .i8 2), .lit (.int .i8 11)]

/-- 'lathelaw17.IrTells': WHATEVER THE INPUT: true; the input reads as it did. -/
def irTellsSpec : ChangeSpec := { name := "irTells", fn := fun _ => fun
  | [d1, d2, d3] => { results := [.lit (.bool true)], args := [d1, d2, d3] }
  | _ => none }
def irTellsRow : OpenClaim := { program := "ytbpehbeakhocnaagreatdoor", sum := "52d2ed74d990a2a371465bdee761370bc615728ae3564aa101cd26209f586946", func := "lathe/lathelaw17.IrTells", spec := "irTells", unfollowed := true, recurses := true, named := ["lathe/ir.scratch", "lathe/encode.codes", "lathe/encode.others"], apart := false, laid := [("lathe/encode.codes", laid_lathe_encode_codes), ("lathe/encode.others", laid_lathe_encode_others), ("lathe/ir.scratch", laid_lathe_ir_scratch)] }
def IrTellsSaid : Prop := irTellsRow.holds Tryz.pinned (OpenSpec.ofChange irTellsSpec)

/-- ITS FALSE NEIGHBOUR: 'it returns false'. Refute it at one input. -/
def irTellsWrong : ChangeSpec := { name := "irTells", fn := fun _ => fun
  | [d1, d2, d3] => { results := [.lit (.bool false)], args := [d1, d2, d3] }
  | _ => none }
def IrTellsWrongFalsely : Prop := irTellsRow.holds Tryz.pinned (OpenSpec.ofChange irTellsWrong)

/-- 'lathelaw17.IrKeeps': WHATEVER THE INPUT: true; the input reads as it did. -/
def irKeepsSpec : ChangeSpec := { name := "irKeeps", fn := fun _ => fun
  | [d1, d2, d3, d4] => { results := [.lit (.bool true)], args := [d1, d2, d3, d4] }
  | _ => none }
def irKeepsRow : OpenClaim := { program := "ytbpehbeakhocnaagreatdoor", sum := "52d2ed74d990a2a371465bdee761370bc615728ae3564aa101cd26209f586946", func := "lathe/lathelaw17.IrKeeps", spec := "irKeeps", unfollowed := true, recurses := true, named := ["lathe/ir.scratch", "lathe/encode.codes", "lathe/encode.others"], apart := false, laid := [("lathe/encode.codes", laid_lathe_encode_codes), ("lathe/encode.others", laid_lathe_encode_others), ("lathe/ir.scratch", laid_lathe_ir_scratch)] }
def IrKeepsSaid : Prop := irKeepsRow.holds Tryz.pinned (OpenSpec.ofChange irKeepsSpec)

/-- ITS FALSE NEIGHBOUR: 'it returns false'. Refute it at one input. -/
def irKeepsWrong : ChangeSpec := { name := "irKeeps", fn := fun _ => fun
  | [d1, d2, d3, d4] => { results := [.lit (.bool false)], args := [d1, d2, d3, d4] }
  | _ => none }
def IrKeepsWrongFalsely : Prop := irKeepsRow.holds Tryz.pinned (OpenSpec.ofChange irKeepsWrong)

/-- 'lathelaw17.IrParts': WHATEVER THE INPUT: true; the input reads as it did. -/
def irPartsSpec : ChangeSpec := { name := "irParts", fn := fun _ => fun
  | [d1, d2, d3] => { results := [.lit (.bool true)], args := [d1, d2, d3] }
  | _ => none }
def irPartsRow : OpenClaim := { program := "ytbpehbeakhocnaagreatdoor", sum := "52d2ed74d990a2a371465bdee761370bc615728ae3564aa101cd26209f586946", func := "lathe/lathelaw17.IrParts", spec := "irParts", unfollowed := true, recurses := true, named := ["lathe/ir.scratch", "lathe/encode.codes", "lathe/encode.others"], apart := false, laid := [("lathe/encode.codes", laid_lathe_encode_codes), ("lathe/encode.others", laid_lathe_encode_others), ("lathe/ir.scratch", laid_lathe_ir_scratch)] }
def IrPartsSaid : Prop := irPartsRow.holds Tryz.pinned (OpenSpec.ofChange irPartsSpec)

/-- ITS FALSE NEIGHBOUR: 'it returns false'. Refute it at one input. -/
def irPartsWrong : ChangeSpec := { name := "irParts", fn := fun _ => fun
  | [d1, d2, d3] => { results := [.lit (.bool false)], args := [d1, d2, d3] }
  | _ => none }
def IrPartsWrongFalsely : Prop := irPartsRow.holds Tryz.pinned (OpenSpec.ofChange irPartsWrong)

/-- 'lathelaw17.IrBehind': WHATEVER THE INPUT: true; the input reads as it did. -/
def irBehindSpec : ChangeSpec := { name := "irBehind", fn := fun _ => fun
  | [d1, d2, d3] => { results := [.lit (.bool true)], args := [d1, d2, d3] }
  | _ => none }
def irBehindRow : OpenClaim := { program := "ytbpehbeakhocnaagreatdoor", sum := "52d2ed74d990a2a371465bdee761370bc615728ae3564aa101cd26209f586946", func := "lathe/lathelaw17.IrBehind", spec := "irBehind", unfollowed := true, recurses := true, named := ["lathe/ir.scratch", "lathe/encode.codes", "lathe/encode.others"], apart := false, laid := [("lathe/encode.codes", laid_lathe_encode_codes), ("lathe/encode.others", laid_lathe_encode_others), ("lathe/ir.scratch", laid_lathe_ir_scratch)] }
def IrBehindSaid : Prop := irBehindRow.holds Tryz.pinned (OpenSpec.ofChange irBehindSpec)

/-- ITS FALSE NEIGHBOUR: 'it returns false'. Refute it at one input. -/
def irBehindWrong : ChangeSpec := { name := "irBehind", fn := fun _ => fun
  | [d1, d2, d3] => { results := [.lit (.bool false)], args := [d1, d2, d3] }
  | _ => none }
def IrBehindWrongFalsely : Prop := irBehindRow.holds Tryz.pinned (OpenSpec.ofChange irBehindWrong)

/-- 'lathelaw17.IrOne': WHATEVER THE INPUT: true; the input reads as it did. -/
def irOneSpec : ChangeSpec := { name := "irOne", fn := fun _ => fun
  | [d1, d2] => { results := [.lit (.bool true)], args := [d1, d2] }
  | _ => none }
def irOneRow : OpenClaim := { program := "ytbpehbeakhocnaagreatdoor", sum := "52d2ed74d990a2a371465bdee761370bc615728ae3564aa101cd26209f586946", func := "lathe/lathelaw17.IrOne", spec := "irOne", unfollowed := true, recurses := true, named := ["lathe/ir.scratch", "lathe/encode.codes", "lathe/encode.others"], apart := false, laid := [("lathe/encode.codes", laid_lathe_encode_codes), ("lathe/encode.others", laid_lathe_encode_others), ("lathe/ir.scratch", laid_lathe_ir_scratch)] }
def IrOneSaid : Prop := irOneRow.holds Tryz.pinned (OpenSpec.ofChange irOneSpec)

/-- ITS FALSE NEIGHBOUR: 'it returns false'. Refute it at one input. -/
def irOneWrong : ChangeSpec := { name := "irOne", fn := fun _ => fun
  | [d1, d2] => { results := [.lit (.bool false)], args := [d1, d2] }
  | _ => none }
def IrOneWrongFalsely : Prop := irOneRow.holds Tryz.pinned (OpenSpec.ofChange irOneWrong)

/- THE SECOND FORM. 'bulk': how many values and letters a reading holds, each counted each time it is reached (what is shared counts as often as it is met; a slice's spare places count too). A statement '..UptoSaid' is the law's where the arguments, and the package variables that the reading takes, are together of bulk at most 1048576: NARROWER than '..Said'. Prove '..Said' where nothing that the law and all that it calls make is longer than what came in: it says more and counts as full. Else prove '..UptoSaid'. A law counts once. -/
mutual
def uptoBulk {H : Type} : DataW H → Nat
  | .lit (.string bytes) => bytes.length + 1
  | .lit _ => 1
  | .nil => 1
  | .ptr d => uptoBulk d + 1
  | .slice elems spare => uptoBulkAll elems + uptoBulkAll spare + 1
  | .agg parts => uptoBulkAll parts + 1
  | .iface _ d => uptoBulk d + 1
  | .map entries => uptoBulkEntries entries + 1
  | .held _ => 1
def uptoBulkAll {H : Type} : List (DataW H) → Nat
  | [] => 0
  | d :: r => uptoBulk d + uptoBulkAll r
def uptoBulkEntries {H : Type} : List (Lit × DataW H) → Nat
  | [] => 0
  | x :: r => uptoBulkEntry x + uptoBulkEntries r
def uptoBulkEntry {H : Type} : Lit × DataW H → Nat
  | (.string bytes, d) => bytes.length + uptoBulk d + 1
  | (_, d) => uptoBulk d + 1
 end
def uptoSmall : (H : Type) → List (DataW H) → Bool := fun _ ds => decide (uptoBulkAll ds ≤ 1048576)
def OpenSpec.upto (s : _root_.Go.ChangeSpec) : _root_.Go.OpenSpec := { _root_.Go.OpenSpec.ofChange s with cond := some uptoSmall }

/-- 'lathelaw17.IrTells', WHERE WHAT IT READS IS OF BULK AT MOST 1048576: true; the input reads as it did. -/
def irTellsUptoRow : OpenClaim := { program := "ytbpehbeakhocnaagreatdoor", sum := "52d2ed74d990a2a371465bdee761370bc615728ae3564aa101cd26209f586946", func := "lathe/lathelaw17.IrTells", spec := "irTells", unfollowed := true, recurses := true, named := ["lathe/ir.scratch", "lathe/encode.codes", "lathe/encode.others"], apart := false, laid := [("lathe/encode.codes", laid_lathe_encode_codes), ("lathe/encode.others", laid_lathe_encode_others), ("lathe/ir.scratch", laid_lathe_ir_scratch)], narrowed := true }
def IrTellsUptoSaid : Prop := irTellsUptoRow.holds Tryz.pinned (OpenSpec.upto irTellsSpec)

/-- 'lathelaw17.IrKeeps', WHERE WHAT IT READS IS OF BULK AT MOST 1048576: true; the input reads as it did. -/
def irKeepsUptoRow : OpenClaim := { program := "ytbpehbeakhocnaagreatdoor", sum := "52d2ed74d990a2a371465bdee761370bc615728ae3564aa101cd26209f586946", func := "lathe/lathelaw17.IrKeeps", spec := "irKeeps", unfollowed := true, recurses := true, named := ["lathe/ir.scratch", "lathe/encode.codes", "lathe/encode.others"], apart := false, laid := [("lathe/encode.codes", laid_lathe_encode_codes), ("lathe/encode.others", laid_lathe_encode_others), ("lathe/ir.scratch", laid_lathe_ir_scratch)], narrowed := true }
def IrKeepsUptoSaid : Prop := irKeepsUptoRow.holds Tryz.pinned (OpenSpec.upto irKeepsSpec)

/-- 'lathelaw17.IrParts', WHERE WHAT IT READS IS OF BULK AT MOST 1048576: true; the input reads as it did. -/
def irPartsUptoRow : OpenClaim := { program := "ytbpehbeakhocnaagreatdoor", sum := "52d2ed74d990a2a371465bdee761370bc615728ae3564aa101cd26209f586946", func := "lathe/lathelaw17.IrParts", spec := "irParts", unfollowed := true, recurses := true, named := ["lathe/ir.scratch", "lathe/encode.codes", "lathe/encode.others"], apart := false, laid := [("lathe/encode.codes", laid_lathe_encode_codes), ("lathe/encode.others", laid_lathe_encode_others), ("lathe/ir.scratch", laid_lathe_ir_scratch)], narrowed := true }
def IrPartsUptoSaid : Prop := irPartsUptoRow.holds Tryz.pinned (OpenSpec.upto irPartsSpec)

/-- 'lathelaw17.IrBehind', WHERE WHAT IT READS IS OF BULK AT MOST 1048576: true; the input reads as it did. -/
def irBehindUptoRow : OpenClaim := { program := "ytbpehbeakhocnaagreatdoor", sum := "52d2ed74d990a2a371465bdee761370bc615728ae3564aa101cd26209f586946", func := "lathe/lathelaw17.IrBehind", spec := "irBehind", unfollowed := true, recurses := true, named := ["lathe/ir.scratch", "lathe/encode.codes", "lathe/encode.others"], apart := false, laid := [("lathe/encode.codes", laid_lathe_encode_codes), ("lathe/encode.others", laid_lathe_encode_others), ("lathe/ir.scratch", laid_lathe_ir_scratch)], narrowed := true }
def IrBehindUptoSaid : Prop := irBehindUptoRow.holds Tryz.pinned (OpenSpec.upto irBehindSpec)

/-- 'lathelaw17.IrOne', WHERE WHAT IT READS IS OF BULK AT MOST 1048576: true; the input reads as it did. -/
def irOneUptoRow : OpenClaim := { program := "ytbpehbeakhocnaagreatdoor", sum := "52d2ed74d990a2a371465bdee761370bc615728ae3564aa101cd26209f586946", func := "lathe/lathelaw17.IrOne", spec := "irOne", unfollowed := true, recurses := true, named := ["lathe/ir.scratch", "lathe/encode.codes", "lathe/encode.others"], apart := false, laid := [("lathe/encode.codes", laid_lathe_encode_codes), ("lathe/encode.others", laid_lathe_encode_others), ("lathe/ir.scratch", laid_lathe_ir_scratch)], narrowed := true }
def IrOneUptoSaid : Prop := irOneUptoRow.holds Tryz.pinned (OpenSpec.upto irOneSpec)

end Rows
end Go.Proofs.YtbpehbeakhocnaaGreatDoor
