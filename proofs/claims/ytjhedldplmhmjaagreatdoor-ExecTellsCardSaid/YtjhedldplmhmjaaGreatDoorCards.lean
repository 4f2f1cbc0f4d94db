/-
  DERIVED. GIVEN WITH THE SEED: THE CARDS: each row of YtjhedldplmhmjaaGreatDoorRows.lean that lists a variable, with what it lists TIED to the program's text (the seventh form; the later family's looks); each row that meets fmt, with fmt's text TOLD by the authors' own Lean function (tested against real Go, not proved from fmt's source: count such statements apart). THE CARD IS WHAT COUNTS. Prove the row's statement (the work); the ties are given (YtjhedldplmhmjaaGreatDoorTie.lean); close each card by the builder's one call (the guide's Derived/Test/ToyasCard.lean, 'card_holds'). Laid BY PROGRAM, IN A SANDBOX (cutbox-door.mjs). By AI agents, Wed Nov 11 2026. No macro, syntax, notation, axiom, sorry.
-/
import Derived.Test.YtjhedldplmhmjaaGreatDoorRows
import GoSem.ClaimSeven
namespace Go.Proofs.YtjhedldplmhmjaaGreatDoor
namespace Rows

/-- THE TIED CARD OF 'lathelaw15.ExecTells'. -/
def execTellsCard : Claim7 := { stood := { row := execTellsRow, standIns := [], harness := (true, "6607d1274d9b2cb38f628efcb7e87610d51ecd7b874bfe97cf2390dc9902e787"), looks := false }, kinds := [], alts := [], laidByText := true, laidKinds := [.data, .data], laidTests := true, laidLooks := .later }
def ExecTellsCardSaid : Prop := Claim7.holds Tryz.pinned (.plain (OpenSpec.ofChange execTellsSpec)) execTellsCard

/-- THE SECOND FORM's CARD OF 'lathelaw15.ExecTells'. -/
def execTellsUptoCard : Claim7 := { stood := { row := execTellsUptoRow, standIns := [], harness := (true, "6607d1274d9b2cb38f628efcb7e87610d51ecd7b874bfe97cf2390dc9902e787"), looks := false }, kinds := [], alts := [], laidByText := true, laidKinds := [.data, .data], laidTests := true, laidLooks := .later }
def ExecTellsUptoCardSaid : Prop := Claim7.holds Tryz.pinned (.plain (OpenSpec.upto execTellsSpec)) execTellsUptoCard
end Rows
end Go.Proofs.YtjhedldplmhmjaaGreatDoor
