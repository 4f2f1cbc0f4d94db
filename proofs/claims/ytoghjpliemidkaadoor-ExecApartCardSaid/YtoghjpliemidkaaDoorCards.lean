/-
  DERIVED. GIVEN WITH THE SEED: THE CARDS: each row of YtoghjpliemidkaaDoorRows.lean that lists a variable, with what it lists TIED to the program's text (the seventh form; the later family's looks); each row that meets fmt, with fmt's text TOLD by the authors' own Lean function (tested against real Go, not proved from fmt's source: count such statements apart). THE CARD IS WHAT COUNTS. Prove the row's statement (the work); the ties are given (YtoghjpliemidkaaDoorTie.lean); close each card by the builder's one call (the guide's Derived/Test/ToyasCard.lean, 'card_holds'). Laid BY PROGRAM, IN A SANDBOX (cutbox-door.mjs). By AI agents, Wed Nov 11 2026. No macro, syntax, notation, axiom, sorry.
-/
import Derived.Test.YtoghjpliemidkaaDoorRows
import GoSem.ClaimSeven
namespace Go.Proofs.YtoghjpliemidkaaDoor
namespace Rows

/-- THE TIED CARD OF 'lathelaw13.EncodeReads'. -/
def encodeReadsCard : Claim7 := { stood := { row := encodeReadsRow, standIns := [], harness := (true, "eaaf9a5078ea1428a6bbb4f6421894863ae32b24f79c8cbaf7752e1f5c37cf18"), looks := false }, kinds := [], alts := [], laidByText := true, laidKinds := [.data, .data, .data], laidTests := true, laidLooks := .later }
def EncodeReadsCardSaid : Prop := Claim7.holds Tryd.pinned (.plain (OpenSpec.ofChange encodeReadsSpec)) encodeReadsCard

/-- THE TIED CARD OF 'lathelaw15.ExecApart'. -/
def execApartCard : Claim7 := { stood := { row := execApartRow, standIns := [], harness := (true, "eaaf9a5078ea1428a6bbb4f6421894863ae32b24f79c8cbaf7752e1f5c37cf18"), looks := false }, kinds := [], alts := [], laidByText := true, laidKinds := [.data, .data], laidTests := true, laidLooks := .later }
def ExecApartCardSaid : Prop := Claim7.holds Tryd.pinned (.plain (OpenSpec.ofChange execApartSpec)) execApartCard

/-- THE TIED CARD OF 'lathelaw15.ExecFlags'. -/
def execFlagsCard : Claim7 := { stood := { row := execFlagsRow, standIns := [], harness := (true, "eaaf9a5078ea1428a6bbb4f6421894863ae32b24f79c8cbaf7752e1f5c37cf18"), looks := false }, kinds := [], alts := [], laidByText := true, laidKinds := [.data, .data], laidTests := true, laidLooks := .later }
def ExecFlagsCardSaid : Prop := Claim7.holds Tryd.pinned (.plain (OpenSpec.ofChange execFlagsSpec)) execFlagsCard

/-- THE TIED CARD OF 'lathelaw15.ExecDiv'. -/
def execDivCard : Claim7 := { stood := { row := execDivRow, standIns := [], harness := (true, "eaaf9a5078ea1428a6bbb4f6421894863ae32b24f79c8cbaf7752e1f5c37cf18"), looks := false }, kinds := [], alts := [], laidByText := true, laidKinds := [.data, .data], laidTests := true, laidLooks := .later }
def ExecDivCardSaid : Prop := Claim7.holds Tryd.pinned (.plain (OpenSpec.ofChange execDivSpec)) execDivCard

/-- THE TIED CARD OF 'lathelaw15.ExecLoads'. -/
def execLoadsCard : Claim7 := { stood := { row := execLoadsRow, standIns := [], harness := (true, "eaaf9a5078ea1428a6bbb4f6421894863ae32b24f79c8cbaf7752e1f5c37cf18"), looks := false }, kinds := [], alts := [], laidByText := true, laidKinds := [.data, .data], laidTests := true, laidLooks := .later }
def ExecLoadsCardSaid : Prop := Claim7.holds Tryd.pinned (.plain (OpenSpec.ofChange execLoadsSpec)) execLoadsCard

/-- THE SECOND FORM's CARD OF 'lathelaw13.EncodeReads'. -/
def encodeReadsUptoCard : Claim7 := { stood := { row := encodeReadsUptoRow, standIns := [], harness := (true, "eaaf9a5078ea1428a6bbb4f6421894863ae32b24f79c8cbaf7752e1f5c37cf18"), looks := false }, kinds := [], alts := [], laidByText := true, laidKinds := [.data, .data, .data], laidTests := true, laidLooks := .later }
def EncodeReadsUptoCardSaid : Prop := Claim7.holds Tryd.pinned (.plain (OpenSpec.upto encodeReadsSpec)) encodeReadsUptoCard

/-- THE SECOND FORM's CARD OF 'lathelaw15.ExecApart'. -/
def execApartUptoCard : Claim7 := { stood := { row := execApartUptoRow, standIns := [], harness := (true, "eaaf9a5078ea1428a6bbb4f6421894863ae32b24f79c8cbaf7752e1f5c37cf18"), looks := false }, kinds := [], alts := [], laidByText := true, laidKinds := [.data, .data], laidTests := true, laidLooks := .later }
def ExecApartUptoCardSaid : Prop := Claim7.holds Tryd.pinned (.plain (OpenSpec.upto execApartSpec)) execApartUptoCard

/-- THE SECOND FORM's CARD OF 'lathelaw15.ExecFlags'. -/
def execFlagsUptoCard : Claim7 := { stood := { row := execFlagsUptoRow, standIns := [], harness := (true, "eaaf9a5078ea1428a6bbb4f6421894863ae32b24f79c8cbaf7752e1f5c37cf18"), looks := false }, kinds := [], alts := [], laidByText := true, laidKinds := [.data, .data], laidTests := true, laidLooks := .later }
def ExecFlagsUptoCardSaid : Prop := Claim7.holds Tryd.pinned (.plain (OpenSpec.upto execFlagsSpec)) execFlagsUptoCard

/-- THE SECOND FORM's CARD OF 'lathelaw15.ExecDiv'. -/
def execDivUptoCard : Claim7 := { stood := { row := execDivUptoRow, standIns := [], harness := (true, "eaaf9a5078ea1428a6bbb4f6421894863ae32b24f79c8cbaf7752e1f5c37cf18"), looks := false }, kinds := [], alts := [], laidByText := true, laidKinds := [.data, .data], laidTests := true, laidLooks := .later }
def ExecDivUptoCardSaid : Prop := Claim7.holds Tryd.pinned (.plain (OpenSpec.upto execDivSpec)) execDivUptoCard

/-- THE SECOND FORM's CARD OF 'lathelaw15.ExecLoads'. -/
def execLoadsUptoCard : Claim7 := { stood := { row := execLoadsUptoRow, standIns := [], harness := (true, "eaaf9a5078ea1428a6bbb4f6421894863ae32b24f79c8cbaf7752e1f5c37cf18"), looks := false }, kinds := [], alts := [], laidByText := true, laidKinds := [.data, .data], laidTests := true, laidLooks := .later }
def ExecLoadsUptoCardSaid : Prop := Claim7.holds Tryd.pinned (.plain (OpenSpec.upto execLoadsSpec)) execLoadsUptoCard
end Rows
end Go.Proofs.YtoghjpliemidkaaDoor
