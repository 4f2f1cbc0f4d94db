/-
  DERIVED. GIVEN WITH THE SEED: THE CARDS: each row of YtbpehbeakhocnaaGreatDoorRows.lean that lists a variable, with what it lists TIED to the program's text (the seventh form; the later family's looks); each row that meets fmt, with fmt's text TOLD by the authors' own Lean function (tested against real Go, not proved from fmt's source: count such statements apart). THE CARD IS WHAT COUNTS. Prove the row's statement (the work); the ties are given (YtbpehbeakhocnaaGreatDoorTie.lean); close each card by the builder's one call (the guide's Derived/Test/ToyasCard.lean, 'card_holds'). Laid BY PROGRAM, IN A SANDBOX (cutbox-door.mjs). By AI agents, Wed Nov 11 2026. No macro, syntax, notation, axiom, sorry.
-/
import Derived.Test.YtbpehbeakhocnaaGreatDoorRows
import GoSem.ClaimSeven
namespace Go.Proofs.YtbpehbeakhocnaaGreatDoor
namespace Rows

/-- THE TIED CARD OF 'lathelaw17.IrTells'. -/
def irTellsCard : Claim7 := { stood := { row := irTellsRow, standIns := [], harness := (true, "27607a5d293c3062ac133fcaf9f5ca435d170c65870eea80b98ef12da8916ea3"), looks := false }, kinds := [], alts := [], laidByText := true, laidKinds := [.data, .data, .data], laidTests := true, laidLooks := .later }
def IrTellsCardSaid : Prop := Claim7.holds Tryz.pinned (.plain (OpenSpec.ofChange irTellsSpec)) irTellsCard

/-- THE TIED CARD OF 'lathelaw17.IrKeeps'. -/
def irKeepsCard : Claim7 := { stood := { row := irKeepsRow, standIns := [], harness := (true, "27607a5d293c3062ac133fcaf9f5ca435d170c65870eea80b98ef12da8916ea3"), looks := false }, kinds := [], alts := [], laidByText := true, laidKinds := [.data, .data, .data], laidTests := true, laidLooks := .later }
def IrKeepsCardSaid : Prop := Claim7.holds Tryz.pinned (.plain (OpenSpec.ofChange irKeepsSpec)) irKeepsCard

/-- THE TIED CARD OF 'lathelaw17.IrParts'. -/
def irPartsCard : Claim7 := { stood := { row := irPartsRow, standIns := [], harness := (true, "27607a5d293c3062ac133fcaf9f5ca435d170c65870eea80b98ef12da8916ea3"), looks := false }, kinds := [], alts := [], laidByText := true, laidKinds := [.data, .data, .data], laidTests := true, laidLooks := .later }
def IrPartsCardSaid : Prop := Claim7.holds Tryz.pinned (.plain (OpenSpec.ofChange irPartsSpec)) irPartsCard

/-- THE TIED CARD OF 'lathelaw17.IrBehind'. -/
def irBehindCard : Claim7 := { stood := { row := irBehindRow, standIns := [], harness := (true, "27607a5d293c3062ac133fcaf9f5ca435d170c65870eea80b98ef12da8916ea3"), looks := false }, kinds := [], alts := [], laidByText := true, laidKinds := [.data, .data, .data], laidTests := true, laidLooks := .later }
def IrBehindCardSaid : Prop := Claim7.holds Tryz.pinned (.plain (OpenSpec.ofChange irBehindSpec)) irBehindCard

/-- THE TIED CARD OF 'lathelaw17.IrOne'. -/
def irOneCard : Claim7 := { stood := { row := irOneRow, standIns := [], harness := (true, "27607a5d293c3062ac133fcaf9f5ca435d170c65870eea80b98ef12da8916ea3"), looks := false }, kinds := [], alts := [], laidByText := true, laidKinds := [.data, .data, .data], laidTests := true, laidLooks := .later }
def IrOneCardSaid : Prop := Claim7.holds Tryz.pinned (.plain (OpenSpec.ofChange irOneSpec)) irOneCard

/-- THE SECOND FORM's CARD OF 'lathelaw17.IrTells'. -/
def irTellsUptoCard : Claim7 := { stood := { row := irTellsUptoRow, standIns := [], harness := (true, "27607a5d293c3062ac133fcaf9f5ca435d170c65870eea80b98ef12da8916ea3"), looks := false }, kinds := [], alts := [], laidByText := true, laidKinds := [.data, .data, .data], laidTests := true, laidLooks := .later }
def IrTellsUptoCardSaid : Prop := Claim7.holds Tryz.pinned (.plain (OpenSpec.upto irTellsSpec)) irTellsUptoCard

/-- THE SECOND FORM's CARD OF 'lathelaw17.IrKeeps'. -/
def irKeepsUptoCard : Claim7 := { stood := { row := irKeepsUptoRow, standIns := [], harness := (true, "27607a5d293c3062ac133fcaf9f5ca435d170c65870eea80b98ef12da8916ea3"), looks := false }, kinds := [], alts := [], laidByText := true, laidKinds := [.data, .data, .data], laidTests := true, laidLooks := .later }
def IrKeepsUptoCardSaid : Prop := Claim7.holds Tryz.pinned (.plain (OpenSpec.upto irKeepsSpec)) irKeepsUptoCard

/-- THE SECOND FORM's CARD OF 'lathelaw17.IrParts'. -/
def irPartsUptoCard : Claim7 := { stood := { row := irPartsUptoRow, standIns := [], harness := (true, "27607a5d293c3062ac133fcaf9f5ca435d170c65870eea80b98ef12da8916ea3"), looks := false }, kinds := [], alts := [], laidByText := true, laidKinds := [.data, .data, .data], laidTests := true, laidLooks := .later }
def IrPartsUptoCardSaid : Prop := Claim7.holds Tryz.pinned (.plain (OpenSpec.upto irPartsSpec)) irPartsUptoCard

/-- THE SECOND FORM's CARD OF 'lathelaw17.IrBehind'. -/
def irBehindUptoCard : Claim7 := { stood := { row := irBehindUptoRow, standIns := [], harness := (true, "27607a5d293c3062ac133fcaf9f5ca435d170c65870eea80b98ef12da8916ea3"), looks := false }, kinds := [], alts := [], laidByText := true, laidKinds := [.data, .data, .data], laidTests := true, laidLooks := .later }
def IrBehindUptoCardSaid : Prop := Claim7.holds Tryz.pinned (.plain (OpenSpec.upto irBehindSpec)) irBehindUptoCard

/-- THE SECOND FORM's CARD OF 'lathelaw17.IrOne'. -/
def irOneUptoCard : Claim7 := { stood := { row := irOneUptoRow, standIns := [], harness := (true, "27607a5d293c3062ac133fcaf9f5ca435d170c65870eea80b98ef12da8916ea3"), looks := false }, kinds := [], alts := [], laidByText := true, laidKinds := [.data, .data, .data], laidTests := true, laidLooks := .later }
def IrOneUptoCardSaid : Prop := Claim7.holds Tryz.pinned (.plain (OpenSpec.upto irOneSpec)) irOneUptoCard
end Rows
end Go.Proofs.YtbpehbeakhocnaaGreatDoor
