/-
  No cell of these rows narrows 'for every input' (looked for: loops, veiled, ifaces, maps, wideKeys, modest, calm, conditions, laid).
  DERIVED. THE GIVEN ROWS OF THIS SEAT. 10 by the template 'for every input the law returns true; each argument reads behind the call as it read before'; 0 by the template 'total and deterministic' (their statements: YtpbnmbeedjhloaaTotals.lean).
  GIVEN WITH THE SEED: the statements are not yours to turn. If you find one false, say at which input.
  Laid BY PROGRAM, IN A SANDBOX (cutbox-rows.mjs): the forced cells as the released guide's own fill.sh prints them over the translation 04687ec7d244f8d9… (all of the seat's roots in one cut). By AI agents, Wed Nov 11 2026. No macro, syntax, notation, axiom, sorry.
-/
import Derived.Test.YtpbnmbeedjhloaaChecked
import GoSem.Claim
import GoSem.ClaimJoined
import GoSem.ClaimMapViews
import Derived.JoinedTies
import Derived.KernelRfl
namespace Go.Proofs.Ytpbnmbeedjhloaa
/- THE CELL 'sum', in the pinned program and in every row, IS THE sha256 OF THE DUMP (.gsa) THAT YtpbnmbeedjhloaaProg.lean LOADS. Nothing in Lean hashes anything: it is a label: what it is worth is what the hold of that sum in a sandbox is worth. -/
noncomputable def Try.pinned : Pinned := { name := "ytpbnmbeedjhloaa", sum := "04687ec7d244f8d9be64dabc2fc7c890ba0808b7f0030bab1526b424e7b10f9b", checked := Try.checked }
namespace Rows
def none {H : Type} : Left H := { results := [], args := [] }

/-- 'lathelaw02.MemPlays': WHATEVER THE INPUT: true; the input reads as it did. -/
def memPlaysSpec : ChangeSpec := { name := "memPlays", fn := fun _ => fun
  | [d1, d2, d3, d4] => { results := [.lit (.bool true)], args := [d1, d2, d3, d4] }
  | _ => none }
def memPlaysRow : OpenClaim := { program := "ytpbnmbeedjhloaa", sum := "04687ec7d244f8d9be64dabc2fc7c890ba0808b7f0030bab1526b424e7b10f9b", func := "lathe/lathelaw02.MemPlays", spec := "memPlays", unfollowed := true, recurses := true, apart := false }
def MemPlaysSaid : Prop := memPlaysRow.holds Try.pinned (OpenSpec.ofChange memPlaysSpec)

/-- ITS FALSE NEIGHBOUR: 'it returns false'. Refute it at one input. -/
def memPlaysWrong : ChangeSpec := { name := "memPlays", fn := fun _ => fun
  | [d1, d2, d3, d4] => { results := [.lit (.bool false)], args := [d1, d2, d3, d4] }
  | _ => none }
def MemPlaysWrongFalsely : Prop := memPlaysRow.holds Try.pinned (OpenSpec.ofChange memPlaysWrong)

/-- 'lathelaw03.InstrReads': WHATEVER THE INPUT: true; the input reads as it did. -/
def instrReadsSpec : ChangeSpec := { name := "instrReads", fn := fun _ => fun
  | [d] => { results := [.lit (.bool true)], args := [d] }
  | _ => none }
def instrReadsRow : OpenClaim := { program := "ytpbnmbeedjhloaa", sum := "04687ec7d244f8d9be64dabc2fc7c890ba0808b7f0030bab1526b424e7b10f9b", func := "lathe/lathelaw03.InstrReads", spec := "instrReads", unfollowed := true, recurses := true, apart := false }
def InstrReadsSaid : Prop := instrReadsRow.holds Try.pinned (OpenSpec.ofChange instrReadsSpec)

/-- ITS FALSE NEIGHBOUR: 'it returns false'. Refute it at one input. -/
def instrReadsWrong : ChangeSpec := { name := "instrReads", fn := fun _ => fun
  | [d] => { results := [.lit (.bool false)], args := [d] }
  | _ => none }
def InstrReadsWrongFalsely : Prop := instrReadsRow.holds Try.pinned (OpenSpec.ofChange instrReadsWrong)

/-- 'lathelaw03.InstrBack': WHATEVER THE INPUT: true; the input reads as it did. -/
def instrBackSpec : ChangeSpec := { name := "instrBack", fn := fun _ => fun
  | [d1, d2, d3] => { results := [.lit (.bool true)], args := [d1, d2, d3] }
  | _ => none }
def instrBackRow : OpenClaim := { program := "ytpbnmbeedjhloaa", sum := "04687ec7d244f8d9be64dabc2fc7c890ba0808b7f0030bab1526b424e7b10f9b", func := "lathe/lathelaw03.InstrBack", spec := "instrBack", unfollowed := true, recurses := true, apart := false }
def InstrBackSaid : Prop := instrBackRow.holds Try.pinned (OpenSpec.ofChange instrBackSpec)

/-- ITS FALSE NEIGHBOUR: 'it returns false'. Refute it at one input. -/
def instrBackWrong : ChangeSpec := { name := "instrBack", fn := fun _ => fun
  | [d1, d2, d3] => { results := [.lit (.bool false)], args := [d1, d2, d3] }
  | _ => none }
def InstrBackWrongFalsely : Prop := instrBackRow.holds Try.pinned (OpenSpec.ofChange instrBackWrong)

/-- 'lathelaw04.BlocksWays': WHATEVER THE INPUT: true; the input reads as it did. -/
def blocksWaysSpec : ChangeSpec := { name := "blocksWays", fn := fun _ => fun
  | [d1, d2, d3] => { results := [.lit (.bool true)], args := [d1, d2, d3] }
  | _ => none }
def blocksWaysRow : OpenClaim := { program := "ytpbnmbeedjhloaa", sum := "04687ec7d244f8d9be64dabc2fc7c890ba0808b7f0030bab1526b424e7b10f9b", func := "lathe/lathelaw04.BlocksWays", spec := "blocksWays", unfollowed := true, recurses := true, apart := false }
def BlocksWaysSaid : Prop := blocksWaysRow.holds Try.pinned (OpenSpec.ofChange blocksWaysSpec)

/-- ITS FALSE NEIGHBOUR: 'it returns false'. Refute it at one input. -/
def blocksWaysWrong : ChangeSpec := { name := "blocksWays", fn := fun _ => fun
  | [d1, d2, d3] => { results := [.lit (.bool false)], args := [d1, d2, d3] }
  | _ => none }
def BlocksWaysWrongFalsely : Prop := blocksWaysRow.holds Try.pinned (OpenSpec.ofChange blocksWaysWrong)

/-- 'lathelaw04.BlocksReach': WHATEVER THE INPUT: true; the input reads as it did. -/
def blocksReachSpec : ChangeSpec := { name := "blocksReach", fn := fun _ => fun
  | [d] => { results := [.lit (.bool true)], args := [d] }
  | _ => none }
def blocksReachRow : OpenClaim := { program := "ytpbnmbeedjhloaa", sum := "04687ec7d244f8d9be64dabc2fc7c890ba0808b7f0030bab1526b424e7b10f9b", func := "lathe/lathelaw04.BlocksReach", spec := "blocksReach", unfollowed := true, recurses := true, apart := false }
def BlocksReachSaid : Prop := blocksReachRow.holds Try.pinned (OpenSpec.ofChange blocksReachSpec)

/-- ITS FALSE NEIGHBOUR: 'it returns false'. Refute it at one input. -/
def blocksReachWrong : ChangeSpec := { name := "blocksReach", fn := fun _ => fun
  | [d] => { results := [.lit (.bool false)], args := [d] }
  | _ => none }
def BlocksReachWrongFalsely : Prop := blocksReachRow.holds Try.pinned (OpenSpec.ofChange blocksReachWrong)

/-- 'lathelaw05.TraceTells': WHATEVER THE INPUT: true; the input reads as it did. -/
def traceTellsSpec : ChangeSpec := { name := "traceTells", fn := fun _ => fun
  | [d1, d2, d3, d4] => { results := [.lit (.bool true)], args := [d1, d2, d3, d4] }
  | _ => none }
def traceTellsRow : OpenClaim := { program := "ytpbnmbeedjhloaa", sum := "04687ec7d244f8d9be64dabc2fc7c890ba0808b7f0030bab1526b424e7b10f9b", func := "lathe/lathelaw05.TraceTells", spec := "traceTells", unfollowed := true, recurses := true, apart := false }
def TraceTellsSaid : Prop := traceTellsRow.holds Try.pinned (OpenSpec.ofChange traceTellsSpec)

/-- ITS FALSE NEIGHBOUR: 'it returns false'. Refute it at one input. -/
def traceTellsWrong : ChangeSpec := { name := "traceTells", fn := fun _ => fun
  | [d1, d2, d3, d4] => { results := [.lit (.bool false)], args := [d1, d2, d3, d4] }
  | _ => none }
def TraceTellsWrongFalsely : Prop := traceTellsRow.holds Try.pinned (OpenSpec.ofChange traceTellsWrong)

/-- 'lathelaw05.TraceOrder': WHATEVER THE INPUT: true; the input reads as it did. -/
def traceOrderSpec : ChangeSpec := { name := "traceOrder", fn := fun _ => fun
  | [d1, d2, d3] => { results := [.lit (.bool true)], args := [d1, d2, d3] }
  | _ => none }
def traceOrderRow : OpenClaim := { program := "ytpbnmbeedjhloaa", sum := "04687ec7d244f8d9be64dabc2fc7c890ba0808b7f0030bab1526b424e7b10f9b", func := "lathe/lathelaw05.TraceOrder", spec := "traceOrder", unfollowed := true, recurses := true, apart := false }
def TraceOrderSaid : Prop := traceOrderRow.holds Try.pinned (OpenSpec.ofChange traceOrderSpec)

/-- ITS FALSE NEIGHBOUR: 'it returns false'. Refute it at one input. -/
def traceOrderWrong : ChangeSpec := { name := "traceOrder", fn := fun _ => fun
  | [d1, d2, d3] => { results := [.lit (.bool false)], args := [d1, d2, d3] }
  | _ => none }
def TraceOrderWrongFalsely : Prop := traceOrderRow.holds Try.pinned (OpenSpec.ofChange traceOrderWrong)

/-- 'lathelaw05.TraceLike': WHATEVER THE INPUT: true; the input reads as it did. -/
def traceLikeSpec : ChangeSpec := { name := "traceLike", fn := fun _ => fun
  | [d1, d2, d3, d4] => { results := [.lit (.bool true)], args := [d1, d2, d3, d4] }
  | _ => none }
def traceLikeRow : OpenClaim := { program := "ytpbnmbeedjhloaa", sum := "04687ec7d244f8d9be64dabc2fc7c890ba0808b7f0030bab1526b424e7b10f9b", func := "lathe/lathelaw05.TraceLike", spec := "traceLike", unfollowed := true, recurses := true, apart := false }
def TraceLikeSaid : Prop := traceLikeRow.holds Try.pinned (OpenSpec.ofChange traceLikeSpec)

/-- ITS FALSE NEIGHBOUR: 'it returns false'. Refute it at one input. -/
def traceLikeWrong : ChangeSpec := { name := "traceLike", fn := fun _ => fun
  | [d1, d2, d3, d4] => { results := [.lit (.bool false)], args := [d1, d2, d3, d4] }
  | _ => none }
def TraceLikeWrongFalsely : Prop := traceLikeRow.holds Try.pinned (OpenSpec.ofChange traceLikeWrong)

/-- 'lathelaw05.TraceFuel': WHATEVER THE INPUT: true; the input reads as it did. -/
def traceFuelSpec : ChangeSpec := { name := "traceFuel", fn := fun _ => fun
  | [d1, d2] => { results := [.lit (.bool true)], args := [d1, d2] }
  | _ => none }
def traceFuelRow : OpenClaim := { program := "ytpbnmbeedjhloaa", sum := "04687ec7d244f8d9be64dabc2fc7c890ba0808b7f0030bab1526b424e7b10f9b", func := "lathe/lathelaw05.TraceFuel", spec := "traceFuel", unfollowed := true, recurses := true, apart := false }
def TraceFuelSaid : Prop := traceFuelRow.holds Try.pinned (OpenSpec.ofChange traceFuelSpec)

/-- ITS FALSE NEIGHBOUR: 'it returns false'. Refute it at one input. -/
def traceFuelWrong : ChangeSpec := { name := "traceFuel", fn := fun _ => fun
  | [d1, d2] => { results := [.lit (.bool false)], args := [d1, d2] }
  | _ => none }
def TraceFuelWrongFalsely : Prop := traceFuelRow.holds Try.pinned (OpenSpec.ofChange traceFuelWrong)

/-- 'lathelaw05.TraceChain': WHATEVER THE INPUT: true; the input reads as it did. -/
def traceChainSpec : ChangeSpec := { name := "traceChain", fn := fun _ => fun
  | [d1, d2, d3] => { results := [.lit (.bool true)], args := [d1, d2, d3] }
  | _ => none }
def traceChainRow : OpenClaim := { program := "ytpbnmbeedjhloaa", sum := "04687ec7d244f8d9be64dabc2fc7c890ba0808b7f0030bab1526b424e7b10f9b", func := "lathe/lathelaw05.TraceChain", spec := "traceChain", unfollowed := true, recurses := true, apart := false }
def TraceChainSaid : Prop := traceChainRow.holds Try.pinned (OpenSpec.ofChange traceChainSpec)

/-- ITS FALSE NEIGHBOUR: 'it returns false'. Refute it at one input. -/
def traceChainWrong : ChangeSpec := { name := "traceChain", fn := fun _ => fun
  | [d1, d2, d3] => { results := [.lit (.bool false)], args := [d1, d2, d3] }
  | _ => none }
def TraceChainWrongFalsely : Prop := traceChainRow.holds Try.pinned (OpenSpec.ofChange traceChainWrong)

/- THE SECOND FORM. 'bulk': how many values and letters a reading holds, each counted each time it is reached (what is shared counts as often as it is met; a slice's spare places count too). A statement '..UptoSaid' is the law's where the arguments, and the package variables that the reading takes, are together of bulk at most 1048576: NARROWER than '..Said'. Prove '..Said' where nothing that the law and all that it calls make is longer than what came in: it says more and counts as full. Else prove '..UptoSaid'. A law counts once. -/
mutual
def uptoBulk {H : Type} : DataW H → Nat
  | .lit (.string bytes) => bytes.length + 1
  | .lit _ => 1
  | .nil => 1
  | .ptr d => uptoBulk d + 1
  | .slice elems spare => uptoBulkAll elems + uptoBulkAll spare + 1
  | .agg parts => uptoBulkAll parts + 1
  | .iface _ d => uptoBulk d + 1
  | .map entries => uptoBulkEntries entries + 1
  | .held _ => 1
def uptoBulkAll {H : Type} : List (DataW H) → Nat
  | [] => 0
  | d :: r => uptoBulk d + uptoBulkAll r
def uptoBulkEntries {H : Type} : List (Lit × DataW H) → Nat
  | [] => 0
  | x :: r => uptoBulkEntry x + uptoBulkEntries r
def uptoBulkEntry {H : Type} : Lit × DataW H → Nat
  | (.string bytes, d) => bytes.length + uptoBulk d + 1
  | (_, d) => uptoBulk d + 1
 end
def uptoSmall : (H : Type) → List (DataW H) → Bool := fun _ ds => decide (uptoBulkAll ds ≤ 1048576)
def OpenSpec.upto (s : _root_.Go.ChangeSpec) : _root_.Go.OpenSpec := { _root_.Go.OpenSpec.ofChange s with cond := some uptoSmall }

/-- 'lathelaw02.MemPlays', WHERE WHAT IT READS IS OF BULK AT MOST 1048576: true; the input reads as it did. -/
def memPlaysUptoRow : OpenClaim := { program := "ytpbnmbeedjhloaa", sum := "04687ec7d244f8d9be64dabc2fc7c890ba0808b7f0030bab1526b424e7b10f9b", func := "lathe/lathelaw02.MemPlays", spec := "memPlays", unfollowed := true, recurses := true, apart := false, narrowed := true }
def MemPlaysUptoSaid : Prop := memPlaysUptoRow.holds Try.pinned (OpenSpec.upto memPlaysSpec)

/-- 'lathelaw03.InstrReads', WHERE WHAT IT READS IS OF BULK AT MOST 1048576: true; the input reads as it did. -/
def instrReadsUptoRow : OpenClaim := { program := "ytpbnmbeedjhloaa", sum := "04687ec7d244f8d9be64dabc2fc7c890ba0808b7f0030bab1526b424e7b10f9b", func := "lathe/lathelaw03.InstrReads", spec := "instrReads", unfollowed := true, recurses := true, apart := false, narrowed := true }
def InstrReadsUptoSaid : Prop := instrReadsUptoRow.holds Try.pinned (OpenSpec.upto instrReadsSpec)

/-- 'lathelaw03.InstrBack', WHERE WHAT IT READS IS OF BULK AT MOST 1048576: true; the input reads as it did. -/
def instrBackUptoRow : OpenClaim := { program := "ytpbnmbeedjhloaa", sum := "04687ec7d244f8d9be64dabc2fc7c890ba0808b7f0030bab1526b424e7b10f9b", func := "lathe/lathelaw03.InstrBack", spec := "instrBack", unfollowed := true, recurses := true, apart := false, narrowed := true }
def InstrBackUptoSaid : Prop := instrBackUptoRow.holds Try.pinned (OpenSpec.upto instrBackSpec)

/-- 'lathelaw04.BlocksWays', WHERE WHAT IT READS IS OF BULK AT MOST 1048576: true; the input reads as it did. -/
def blocksWaysUptoRow : OpenClaim := { program := "ytpbnmbeedjhloaa", sum := "04687ec7d244f8d9be64dabc2fc7c890ba0808b7f0030bab1526b424e7b10f9b", func := "lathe/lathelaw04.BlocksWays", spec := "blocksWays", unfollowed := true, recurses := true, apart := false, narrowed := true }
def BlocksWaysUptoSaid : Prop := blocksWaysUptoRow.holds Try.pinned (OpenSpec.upto blocksWaysSpec)

/-- 'lathelaw04.BlocksReach', WHERE WHAT IT READS IS OF BULK AT MOST 1048576: true; the input reads as it did. -/
def blocksReachUptoRow : OpenClaim := { program := "ytpbnmbeedjhloaa", sum := "04687ec7d244f8d9be64dabc2fc7c890ba0808b7f0030bab1526b424e7b10f9b", func := "lathe/lathelaw04.BlocksReach", spec := "blocksReach", unfollowed := true, recurses := true, apart := false, narrowed := true }
def BlocksReachUptoSaid : Prop := blocksReachUptoRow.holds Try.pinned (OpenSpec.upto blocksReachSpec)

/-- 'lathelaw05.TraceTells', WHERE WHAT IT READS IS OF BULK AT MOST 1048576: true; the input reads as it did. -/
def traceTellsUptoRow : OpenClaim := { program := "ytpbnmbeedjhloaa", sum := "04687ec7d244f8d9be64dabc2fc7c890ba0808b7f0030bab1526b424e7b10f9b", func := "lathe/lathelaw05.TraceTells", spec := "traceTells", unfollowed := true, recurses := true, apart := false, narrowed := true }
def TraceTellsUptoSaid : Prop := traceTellsUptoRow.holds Try.pinned (OpenSpec.upto traceTellsSpec)

/-- 'lathelaw05.TraceOrder', WHERE WHAT IT READS IS OF BULK AT MOST 1048576: true; the input reads as it did. -/
def traceOrderUptoRow : OpenClaim := { program := "ytpbnmbeedjhloaa", sum := "04687ec7d244f8d9be64dabc2fc7c890ba0808b7f0030bab1526b424e7b10f9b", func := "lathe/lathelaw05.TraceOrder", spec := "traceOrder", unfollowed := true, recurses := true, apart := false, narrowed := true }
def TraceOrderUptoSaid : Prop := traceOrderUptoRow.holds Try.pinned (OpenSpec.upto traceOrderSpec)

/-- 'lathelaw05.TraceLike', WHERE WHAT IT READS IS OF BULK AT MOST 1048576: true; the input reads as it did. -/
def traceLikeUptoRow : OpenClaim := { program := "ytpbnmbeedjhloaa", sum := "04687ec7d244f8d9be64dabc2fc7c890ba0808b7f0030bab1526b424e7b10f9b", func := "lathe/lathelaw05.TraceLike", spec := "traceLike", unfollowed := true, recurses := true, apart := false, narrowed := true }
def TraceLikeUptoSaid : Prop := traceLikeUptoRow.holds Try.pinned (OpenSpec.upto traceLikeSpec)

/-- 'lathelaw05.TraceFuel', WHERE WHAT IT READS IS OF BULK AT MOST 1048576: true; the input reads as it did. -/
def traceFuelUptoRow : OpenClaim := { program := "ytpbnmbeedjhloaa", sum := "04687ec7d244f8d9be64dabc2fc7c890ba0808b7f0030bab1526b424e7b10f9b", func := "lathe/lathelaw05.TraceFuel", spec := "traceFuel", unfollowed := true, recurses := true, apart := false, narrowed := true }
def TraceFuelUptoSaid : Prop := traceFuelUptoRow.holds Try.pinned (OpenSpec.upto traceFuelSpec)

/-- 'lathelaw05.TraceChain', WHERE WHAT IT READS IS OF BULK AT MOST 1048576: true; the input reads as it did. -/
def traceChainUptoRow : OpenClaim := { program := "ytpbnmbeedjhloaa", sum := "04687ec7d244f8d9be64dabc2fc7c890ba0808b7f0030bab1526b424e7b10f9b", func := "lathe/lathelaw05.TraceChain", spec := "traceChain", unfollowed := true, recurses := true, apart := false, narrowed := true }
def TraceChainUptoSaid : Prop := traceChainUptoRow.holds Try.pinned (OpenSpec.upto traceChainSpec)

end Rows
end Go.Proofs.Ytpbnmbeedjhloaa
