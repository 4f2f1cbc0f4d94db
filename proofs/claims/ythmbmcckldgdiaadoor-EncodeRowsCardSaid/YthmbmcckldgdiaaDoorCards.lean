/-
  DERIVED. GIVEN WITH THE SEED: THE CARDS: each row of YthmbmcckldgdiaaDoorRows.lean that lists a variable, with what it lists TIED to the program's text (the seventh form; the later family's looks); each row that meets fmt, with fmt's text TOLD by the authors' own Lean function (tested against real Go, not proved from fmt's source: count such statements apart). THE CARD IS WHAT COUNTS. Prove the row's statement (the work); the ties are given (YthmbmcckldgdiaaDoorTie.lean); close each card by the builder's one call (the guide's Derived/Test/ToyasCard.lean, 'card_holds'). Laid BY PROGRAM, IN A SANDBOX (cutbox-door.mjs). By AI agents, Wed Nov 11 2026. No macro, syntax, notation, axiom, sorry.
-/
import Derived.Test.YthmbmcckldgdiaaDoorRows
import GoSem.ClaimSeven
namespace Go.Proofs.YthmbmcckldgdiaaDoor
namespace Rows

/-- THE TIED CARD OF 'lathelaw13.EncodeBack'. -/
def encodeBackCard : Claim7 := { stood := { row := encodeBackRow, standIns := [], harness := (true, "73adf47fa9126a946561a4c644cdad4f8bcd48b23f7c4a4ca4eb3c8d1daffb4f"), looks := false }, kinds := [], alts := [], laidByText := true, laidKinds := [.data, .data, .data], laidTests := true, laidLooks := .later }
def EncodeBackCardSaid : Prop := Claim7.holds Tryd.pinned (.plain (OpenSpec.ofChange encodeBackSpec)) encodeBackCard

/-- THE TIED CARD OF 'lathelaw13.EncodeRows'. -/
def encodeRowsCard : Claim7 := { stood := { row := encodeRowsRow, standIns := [], harness := (true, "73adf47fa9126a946561a4c644cdad4f8bcd48b23f7c4a4ca4eb3c8d1daffb4f"), looks := false }, kinds := [], alts := [], laidByText := true, laidKinds := [.data, .data, .data], laidTests := true, laidLooks := .later }
def EncodeRowsCardSaid : Prop := Claim7.holds Tryd.pinned (.plain (OpenSpec.ofChange encodeRowsSpec)) encodeRowsCard

/-- THE TIED CARD OF 'lathelaw13.EncodeReads'. -/
def encodeReadsCard : Claim7 := { stood := { row := encodeReadsRow, standIns := [], harness := (true, "73adf47fa9126a946561a4c644cdad4f8bcd48b23f7c4a4ca4eb3c8d1daffb4f"), looks := false }, kinds := [], alts := [], laidByText := true, laidKinds := [.data, .data, .data], laidTests := true, laidLooks := .later }
def EncodeReadsCardSaid : Prop := Claim7.holds Tryd.pinned (.plain (OpenSpec.ofChange encodeReadsSpec)) encodeReadsCard

/-- THE SECOND FORM's CARD OF 'lathelaw13.EncodeBack'. -/
def encodeBackUptoCard : Claim7 := { stood := { row := encodeBackUptoRow, standIns := [], harness := (true, "73adf47fa9126a946561a4c644cdad4f8bcd48b23f7c4a4ca4eb3c8d1daffb4f"), looks := false }, kinds := [], alts := [], laidByText := true, laidKinds := [.data, .data, .data], laidTests := true, laidLooks := .later }
def EncodeBackUptoCardSaid : Prop := Claim7.holds Tryd.pinned (.plain (OpenSpec.upto encodeBackSpec)) encodeBackUptoCard

/-- THE SECOND FORM's CARD OF 'lathelaw13.EncodeRows'. -/
def encodeRowsUptoCard : Claim7 := { stood := { row := encodeRowsUptoRow, standIns := [], harness := (true, "73adf47fa9126a946561a4c644cdad4f8bcd48b23f7c4a4ca4eb3c8d1daffb4f"), looks := false }, kinds := [], alts := [], laidByText := true, laidKinds := [.data, .data, .data], laidTests := true, laidLooks := .later }
def EncodeRowsUptoCardSaid : Prop := Claim7.holds Tryd.pinned (.plain (OpenSpec.upto encodeRowsSpec)) encodeRowsUptoCard

/-- THE SECOND FORM's CARD OF 'lathelaw13.EncodeReads'. -/
def encodeReadsUptoCard : Claim7 := { stood := { row := encodeReadsUptoRow, standIns := [], harness := (true, "73adf47fa9126a946561a4c644cdad4f8bcd48b23f7c4a4ca4eb3c8d1daffb4f"), looks := false }, kinds := [], alts := [], laidByText := true, laidKinds := [.data, .data, .data], laidTests := true, laidLooks := .later }
def EncodeReadsUptoCardSaid : Prop := Claim7.holds Tryd.pinned (.plain (OpenSpec.upto encodeReadsSpec)) encodeReadsUptoCard
end Rows
end Go.Proofs.YthmbmcckldgdiaaDoor
