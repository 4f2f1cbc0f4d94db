/-
  NARROWER THAN 'FOR EVERY INPUT', by the rows' own cells (each row's printed sentence says how): BitsTells: laid · BitsNot: laid.
  DERIVED. THE GIVEN ROWS OF THIS SEAT. 2 by the template 'for every input the law returns true; each argument reads behind the call as it read before'; 0 by the template 'total and deterministic' (their statements: YtipdgncjcpkcbaaDoorTotals.lean).
  GIVEN WITH THE SEED: the statements are not yours to turn. If you find one false, say at which input.
  Laid BY PROGRAM, IN A SANDBOX (cutbox-rows.mjs): the forced cells as the released guide's own fill.sh prints them over the translation ec91fabd5a5f1cbc… (all of the seat's roots in one cut). By AI agents, Wed Nov 11 2026. No macro, syntax, notation, axiom, sorry.
-/
import Derived.Test.YtipdgncjcpkcbaaDoorChecked
import GoSem.Claim
import GoSem.ClaimJoined
import GoSem.ClaimMapViews
import Derived.JoinedTies
import Derived.KernelRfl
namespace Go.Proofs.YtipdgncjcpkcbaaDoor
/- THE CELL 'sum', in the pinned program and in every row, IS THE sha256 OF THE DUMP (.gsa) THAT YtipdgncjcpkcbaaDoorProg.lean LOADS. Nothing in Lean hashes anything: it is a label: what it is worth is what the hold of that sum in a sandbox is worth. -/
noncomputable def Tryd.pinned : Pinned := { name := "ytipdgncjcpkcbaadoor", sum := "ec91fabd5a5f1cbc875f23b1ec9c31e73e8188afc97c04ae4bc7de7d8f259ee3", checked := Tryd.checked }
namespace Rows
def none {H : Type} : Left H := { results := [], args := [] }

/- WHAT THE LISTED PACKAGE-LEVEL VARIABLES READ AS WHEN THE CALL BEGINS. Each datum BY PROGRAM (the guide's laid-datum.mjs) off the statement by which the dump's own 'gosem.cut.vars' lays the variable. In a bare row this is a premise. The card (YtipdgncjcpkcbaaDoorCards.lean) ties it to the program's text. -/
def laid_lathe_bits_opposites {H : Type} : DataW H := .agg [.lit (.int .i8 1), .lit (.int .i8 0), .lit (.int .i8 5), .lit (.int .i8 4), .lit (.int .i8 3), .lit (.int .i8 2), .lit (.int .i8 9), .lit (.int .i8 8), .lit (.int .i8 7), .lit (.int .i8 6)]

/-- 'lathelaw01.BitsTells': WHATEVER THE INPUT: true; the input reads as it did. -/
def bitsTellsSpec : ChangeSpec := { name := "bitsTells", fn := fun _ => fun
  | [d1, d2, d3, d4, d5] => { results := [.lit (.bool true)], args := [d1, d2, d3, d4, d5] }
  | _ => none }
def bitsTellsRow : OpenClaim := { program := "ytipdgncjcpkcbaadoor", sum := "ec91fabd5a5f1cbc875f23b1ec9c31e73e8188afc97c04ae4bc7de7d8f259ee3", func := "lathe/lathelaw01.BitsTells", spec := "bitsTells", unfollowed := true, recurses := true, named := ["lathe/bits.opposites"], apart := false, laid := [("lathe/bits.opposites", laid_lathe_bits_opposites)] }
def BitsTellsSaid : Prop := bitsTellsRow.holds Tryd.pinned (OpenSpec.ofChange bitsTellsSpec)

/-- ITS FALSE NEIGHBOUR: 'it returns false'. Refute it at one input. -/
def bitsTellsWrong : ChangeSpec := { name := "bitsTells", fn := fun _ => fun
  | [d1, d2, d3, d4, d5] => { results := [.lit (.bool false)], args := [d1, d2, d3, d4, d5] }
  | _ => none }
def BitsTellsWrongFalsely : Prop := bitsTellsRow.holds Tryd.pinned (OpenSpec.ofChange bitsTellsWrong)

/-- 'lathelaw01.BitsNot': WHATEVER THE INPUT: true; the input reads as it did. -/
def bitsNotSpec : ChangeSpec := { name := "bitsNot", fn := fun _ => fun
  | [d1, d2, d3, d4] => { results := [.lit (.bool true)], args := [d1, d2, d3, d4] }
  | _ => none }
def bitsNotRow : OpenClaim := { program := "ytipdgncjcpkcbaadoor", sum := "ec91fabd5a5f1cbc875f23b1ec9c31e73e8188afc97c04ae4bc7de7d8f259ee3", func := "lathe/lathelaw01.BitsNot", spec := "bitsNot", unfollowed := true, recurses := true, named := ["lathe/bits.opposites"], apart := false, laid := [("lathe/bits.opposites", laid_lathe_bits_opposites)] }
def BitsNotSaid : Prop := bitsNotRow.holds Tryd.pinned (OpenSpec.ofChange bitsNotSpec)

/-- ITS FALSE NEIGHBOUR: 'it returns false'. Refute it at one input. -/
def bitsNotWrong : ChangeSpec := { name := "bitsNot", fn := fun _ => fun
  | [d1, d2, d3, d4] => { results := [.lit (.bool false)], args := [d1, d2, d3, d4] }
  | _ => none }
def BitsNotWrongFalsely : Prop := bitsNotRow.holds Tryd.pinned (OpenSpec.ofChange bitsNotWrong)

/- THE SECOND FORM. 'bulk': how many values and letters a reading holds, each counted each time it is reached (what is shared counts as often as it is met; a slice's spare places count too). A statement '..UptoSaid' is the law's where the arguments, and the package variables that the reading takes, are together of bulk at most 1048576: NARROWER than '..Said'. Prove '..Said' where nothing that the law and all that it calls make is longer than what came in: it says more and counts as full. Else prove '..UptoSaid'. A law counts once. -/
mutual
def uptoBulk {H : Type} : DataW H → Nat
  | .lit (.string bytes) => bytes.length + 1
  | .lit _ => 1
  | .nil => 1
  | .ptr d => uptoBulk d + 1
  | .slice elems spare => uptoBulkAll elems + uptoBulkAll spare + 1
  | .agg parts => uptoBulkAll parts + 1
  | .iface _ d => uptoBulk d + 1
  | .map entries => uptoBulkEntries entries + 1
  | .held _ => 1
def uptoBulkAll {H : Type} : List (DataW H) → Nat
  | [] => 0
  | d :: r => uptoBulk d + uptoBulkAll r
def uptoBulkEntries {H : Type} : List (Lit × DataW H) → Nat
  | [] => 0
  | x :: r => uptoBulkEntry x + uptoBulkEntries r
def uptoBulkEntry {H : Type} : Lit × DataW H → Nat
  | (.string bytes, d) => bytes.length + uptoBulk d + 1
  | (_, d) => uptoBulk d + 1
 end
def uptoSmall : (H : Type) → List (DataW H) → Bool := fun _ ds => decide (uptoBulkAll ds ≤ 1048576)
def OpenSpec.upto (s : _root_.Go.ChangeSpec) : _root_.Go.OpenSpec := { _root_.Go.OpenSpec.ofChange s with cond := some uptoSmall }

/-- 'lathelaw01.BitsTells', WHERE WHAT IT READS IS OF BULK AT MOST 1048576: true; the input reads as it did. -/
def bitsTellsUptoRow : OpenClaim := { program := "ytipdgncjcpkcbaadoor", sum := "ec91fabd5a5f1cbc875f23b1ec9c31e73e8188afc97c04ae4bc7de7d8f259ee3", func := "lathe/lathelaw01.BitsTells", spec := "bitsTells", unfollowed := true, recurses := true, named := ["lathe/bits.opposites"], apart := false, laid := [("lathe/bits.opposites", laid_lathe_bits_opposites)], narrowed := true }
def BitsTellsUptoSaid : Prop := bitsTellsUptoRow.holds Tryd.pinned (OpenSpec.upto bitsTellsSpec)

/-- 'lathelaw01.BitsNot', WHERE WHAT IT READS IS OF BULK AT MOST 1048576: true; the input reads as it did. -/
def bitsNotUptoRow : OpenClaim := { program := "ytipdgncjcpkcbaadoor", sum := "ec91fabd5a5f1cbc875f23b1ec9c31e73e8188afc97c04ae4bc7de7d8f259ee3", func := "lathe/lathelaw01.BitsNot", spec := "bitsNot", unfollowed := true, recurses := true, named := ["lathe/bits.opposites"], apart := false, laid := [("lathe/bits.opposites", laid_lathe_bits_opposites)], narrowed := true }
def BitsNotUptoSaid : Prop := bitsNotUptoRow.holds Tryd.pinned (OpenSpec.upto bitsNotSpec)

end Rows
end Go.Proofs.YtipdgncjcpkcbaaDoor
