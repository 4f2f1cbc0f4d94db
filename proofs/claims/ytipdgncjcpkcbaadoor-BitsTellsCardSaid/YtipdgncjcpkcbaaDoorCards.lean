/-
  DERIVED. GIVEN WITH THE SEED: THE CARDS: each row of YtipdgncjcpkcbaaDoorRows.lean that lists a variable, with what it lists TIED to the program's text (the seventh form; the later family's looks); each row that meets fmt, with fmt's text TOLD by the authors' own Lean function (tested against real Go, not proved from fmt's source: count such statements apart). THE CARD IS WHAT COUNTS. Prove the row's statement (the work); the ties are given (YtipdgncjcpkcbaaDoorTie.lean); close each card by the builder's one call (the guide's Derived/Test/ToyasCard.lean, 'card_holds'). Laid BY PROGRAM, IN A SANDBOX (cutbox-door.mjs). By AI agents, Wed Nov 11 2026. No macro, syntax, notation, axiom, sorry.
-/
import Derived.Test.YtipdgncjcpkcbaaDoorRows
import GoSem.ClaimSeven
namespace Go.Proofs.YtipdgncjcpkcbaaDoor
namespace Rows

/-- THE TIED CARD OF 'lathelaw01.BitsTells'. -/
def bitsTellsCard : Claim7 := { stood := { row := bitsTellsRow, standIns := [], harness := (true, "aa2f0e6ecec579ec33b9e19f615ade6323b9903e600cad2a5b6096975e490432"), looks := false }, kinds := [], alts := [], laidByText := true, laidKinds := [.data], laidTests := true, laidLooks := .later }
def BitsTellsCardSaid : Prop := Claim7.holds Tryd.pinned (.plain (OpenSpec.ofChange bitsTellsSpec)) bitsTellsCard

/-- THE TIED CARD OF 'lathelaw01.BitsNot'. -/
def bitsNotCard : Claim7 := { stood := { row := bitsNotRow, standIns := [], harness := (true, "aa2f0e6ecec579ec33b9e19f615ade6323b9903e600cad2a5b6096975e490432"), looks := false }, kinds := [], alts := [], laidByText := true, laidKinds := [.data], laidTests := true, laidLooks := .later }
def BitsNotCardSaid : Prop := Claim7.holds Tryd.pinned (.plain (OpenSpec.ofChange bitsNotSpec)) bitsNotCard

/-- THE SECOND FORM's CARD OF 'lathelaw01.BitsTells'. -/
def bitsTellsUptoCard : Claim7 := { stood := { row := bitsTellsUptoRow, standIns := [], harness := (true, "aa2f0e6ecec579ec33b9e19f615ade6323b9903e600cad2a5b6096975e490432"), looks := false }, kinds := [], alts := [], laidByText := true, laidKinds := [.data], laidTests := true, laidLooks := .later }
def BitsTellsUptoCardSaid : Prop := Claim7.holds Tryd.pinned (.plain (OpenSpec.upto bitsTellsSpec)) bitsTellsUptoCard

/-- THE SECOND FORM's CARD OF 'lathelaw01.BitsNot'. -/
def bitsNotUptoCard : Claim7 := { stood := { row := bitsNotUptoRow, standIns := [], harness := (true, "aa2f0e6ecec579ec33b9e19f615ade6323b9903e600cad2a5b6096975e490432"), looks := false }, kinds := [], alts := [], laidByText := true, laidKinds := [.data], laidTests := true, laidLooks := .later }
def BitsNotUptoCardSaid : Prop := Claim7.holds Tryd.pinned (.plain (OpenSpec.upto bitsNotSpec)) bitsNotUptoCard
end Rows
end Go.Proofs.YtipdgncjcpkcbaaDoor
