/-
  DERIVED. GIVEN WITH THE SEED: THE CARDS: each row of YtjhedldplmhmjaaDoorRows.lean that lists a variable, with what it lists TIED to the program's text (the seventh form; the later family's looks); each row that meets fmt, with fmt's text TOLD by the authors' own Lean function (tested against real Go, not proved from fmt's source: count such statements apart). THE CARD IS WHAT COUNTS. Prove the row's statement (the work); the ties are given (YtjhedldplmhmjaaDoorTie.lean); close each card by the builder's one call (the guide's Derived/Test/ToyasCard.lean, 'card_holds'). Laid BY PROGRAM, IN A SANDBOX (cutbox-door.mjs). By AI agents, Wed Nov 11 2026. No macro, syntax, notation, axiom, sorry.
-/
import Derived.Test.YtjhedldplmhmjaaDoorRows
import GoSem.ClaimSeven
namespace Go.Proofs.YtjhedldplmhmjaaDoor
namespace Rows

/-- THE TIED CARD OF 'lathelaw13.EncodeReads'. -/
def encodeReadsCard : Claim7 := { stood := { row := encodeReadsRow, standIns := [], harness := (true, "50a7d4292a2f265945f49a85ce3522ae2894618a0b75e6b90fd26bbca8857320"), looks := false }, kinds := [], alts := [], laidByText := true, laidKinds := [.data, .data, .data], laidTests := true, laidLooks := .later }
def EncodeReadsCardSaid : Prop := Claim7.holds Tryd.pinned (.plain (OpenSpec.ofChange encodeReadsSpec)) encodeReadsCard

/-- THE SECOND FORM's CARD OF 'lathelaw13.EncodeReads'. -/
def encodeReadsUptoCard : Claim7 := { stood := { row := encodeReadsUptoRow, standIns := [], harness := (true, "50a7d4292a2f265945f49a85ce3522ae2894618a0b75e6b90fd26bbca8857320"), looks := false }, kinds := [], alts := [], laidByText := true, laidKinds := [.data, .data, .data], laidTests := true, laidLooks := .later }
def EncodeReadsUptoCardSaid : Prop := Claim7.holds Tryd.pinned (.plain (OpenSpec.upto encodeReadsSpec)) encodeReadsUptoCard
end Rows
end Go.Proofs.YtjhedldplmhmjaaDoor
