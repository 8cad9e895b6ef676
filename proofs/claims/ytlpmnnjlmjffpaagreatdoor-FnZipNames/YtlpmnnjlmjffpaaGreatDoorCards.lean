/-
  DERIVED. GIVEN WITH THE SEED: THE CARDS: each row of YtlpmnnjlmjffpaaGreatDoorRows.lean that lists a variable, with what it lists TIED to the program's text (the seventh form; the later family's looks); each row that meets fmt, with fmt's text TOLD by the authors' own Lean function (tested against real Go, not proved from fmt's source: count such statements apart). THE CARD IS WHAT COUNTS. Prove the row's statement (the work); the ties are given (YtlpmnnjlmjffpaaGreatDoorTie.lean); close each card by the builder's one call (the guide's Derived/Test/ToyasCard.lean, 'card_holds'). Laid BY PROGRAM, IN A SANDBOX (cutbox-door.mjs). By AI agents, Wed Nov 11 2026. No macro, syntax, notation, axiom, sorry.
-/
import Derived.Test.YtlpmnnjlmjffpaaGreatDoorRows
import GoSem.ClaimSeven
namespace Go.Proofs.YtlpmnnjlmjffpaaGreatDoor
namespace Rows

/-- THE TIED CARD OF 'laws.FnZipNames'. -/
def fnZipNamesCard : Claim7 := { stood := { row := fnZipNamesRow, standIns := [], harness := (true, "23140b3bd9c039d760094b529168885b67103dac4cb077f43dadd444543d53c8"), looks := true }, kinds := [], alts := [], laidByText := true, laidKinds := [.data, .handle, .data, .pinned], laidTests := true, laidLooks := .later }
def FnZipNamesCardSaid : Prop := Claim7.holds Tryz.pinned (.plain (OpenSpec.ofChange fnZipNamesSpec)) fnZipNamesCard

/-- THE TIED CARD OF 'laws.FnZipFind'. -/
def fnZipFindCard : Claim7 := { stood := { row := fnZipFindRow, standIns := [], harness := (true, "23140b3bd9c039d760094b529168885b67103dac4cb077f43dadd444543d53c8"), looks := true }, kinds := [], alts := [], laidByText := true, laidKinds := [.data, .handle, .data, .pinned], laidTests := true, laidLooks := .later }
def FnZipFindCardSaid : Prop := Claim7.holds Tryz.pinned (.plain (OpenSpec.ofChange fnZipFindSpec)) fnZipFindCard

/-- THE TIED CARD OF 'laws.FnDiskTear'. -/
def fnDiskTearCard : Claim7 := { stood := { row := fnDiskTearRow, standIns := [], harness := (true, "23140b3bd9c039d760094b529168885b67103dac4cb077f43dadd444543d53c8"), looks := true }, kinds := [], alts := [], laidByText := true, laidKinds := [.data, .data, .data, .data, .handle, .data, .pinned], laidTests := true, laidLooks := .later }
def FnDiskTearCardSaid : Prop := Claim7.holds Tryz.pinned (.plain (OpenSpec.ofChange fnDiskTearSpec)) fnDiskTearCard

/-- THE TIED CARD OF 'laws.FnDiskRise'. -/
def fnDiskRiseCard : Claim7 := { stood := { row := fnDiskRiseRow, standIns := [], harness := (true, "23140b3bd9c039d760094b529168885b67103dac4cb077f43dadd444543d53c8"), looks := true }, kinds := [], alts := [], laidByText := true, laidKinds := [.data, .data, .data, .data, .handle, .data, .pinned], laidTests := true, laidLooks := .later }
def FnDiskRiseCardSaid : Prop := Claim7.holds Tryz.pinned (.plain (OpenSpec.ofChange fnDiskRiseSpec)) fnDiskRiseCard

/-- THE TIED CARD OF 'laws.FnDiskOver'. -/
def fnDiskOverCard : Claim7 := { stood := { row := fnDiskOverRow, standIns := [], harness := (true, "23140b3bd9c039d760094b529168885b67103dac4cb077f43dadd444543d53c8"), looks := true }, kinds := [], alts := [], laidByText := true, laidKinds := [.data, .data, .data, .data, .handle, .data, .pinned], laidTests := true, laidLooks := .later }
def FnDiskOverCardSaid : Prop := Claim7.holds Tryz.pinned (.plain (OpenSpec.ofChange fnDiskOverSpec)) fnDiskOverCard

/-- THE TIED CARD OF 'laws.FnDiskNone'. -/
def fnDiskNoneCard : Claim7 := { stood := { row := fnDiskNoneRow, standIns := [], harness := (true, "23140b3bd9c039d760094b529168885b67103dac4cb077f43dadd444543d53c8"), looks := true }, kinds := [], alts := [], laidByText := true, laidKinds := [.data, .data, .data, .data, .handle, .data, .pinned], laidTests := true, laidLooks := .later }
def FnDiskNoneCardSaid : Prop := Claim7.holds Tryz.pinned (.plain (OpenSpec.ofChange fnDiskNoneSpec)) fnDiskNoneCard

/-- THE SECOND FORM's CARD OF 'laws.FnZipNames'. -/
def fnZipNamesUptoCard : Claim7 := { stood := { row := fnZipNamesUptoRow, standIns := [], harness := (true, "23140b3bd9c039d760094b529168885b67103dac4cb077f43dadd444543d53c8"), looks := true }, kinds := [], alts := [], laidByText := true, laidKinds := [.data, .handle, .data, .pinned], laidTests := true, laidLooks := .later }
def FnZipNamesUptoCardSaid : Prop := Claim7.holds Tryz.pinned (.plain (OpenSpec.upto fnZipNamesSpec)) fnZipNamesUptoCard

/-- THE SECOND FORM's CARD OF 'laws.FnZipFind'. -/
def fnZipFindUptoCard : Claim7 := { stood := { row := fnZipFindUptoRow, standIns := [], harness := (true, "23140b3bd9c039d760094b529168885b67103dac4cb077f43dadd444543d53c8"), looks := true }, kinds := [], alts := [], laidByText := true, laidKinds := [.data, .handle, .data, .pinned], laidTests := true, laidLooks := .later }
def FnZipFindUptoCardSaid : Prop := Claim7.holds Tryz.pinned (.plain (OpenSpec.upto fnZipFindSpec)) fnZipFindUptoCard

/-- THE SECOND FORM's CARD OF 'laws.FnDiskTear'. -/
def fnDiskTearUptoCard : Claim7 := { stood := { row := fnDiskTearUptoRow, standIns := [], harness := (true, "23140b3bd9c039d760094b529168885b67103dac4cb077f43dadd444543d53c8"), looks := true }, kinds := [], alts := [], laidByText := true, laidKinds := [.data, .data, .data, .data, .handle, .data, .pinned], laidTests := true, laidLooks := .later }
def FnDiskTearUptoCardSaid : Prop := Claim7.holds Tryz.pinned (.plain (OpenSpec.upto fnDiskTearSpec)) fnDiskTearUptoCard

/-- THE SECOND FORM's CARD OF 'laws.FnDiskRise'. -/
def fnDiskRiseUptoCard : Claim7 := { stood := { row := fnDiskRiseUptoRow, standIns := [], harness := (true, "23140b3bd9c039d760094b529168885b67103dac4cb077f43dadd444543d53c8"), looks := true }, kinds := [], alts := [], laidByText := true, laidKinds := [.data, .data, .data, .data, .handle, .data, .pinned], laidTests := true, laidLooks := .later }
def FnDiskRiseUptoCardSaid : Prop := Claim7.holds Tryz.pinned (.plain (OpenSpec.upto fnDiskRiseSpec)) fnDiskRiseUptoCard

/-- THE SECOND FORM's CARD OF 'laws.FnDiskOver'. -/
def fnDiskOverUptoCard : Claim7 := { stood := { row := fnDiskOverUptoRow, standIns := [], harness := (true, "23140b3bd9c039d760094b529168885b67103dac4cb077f43dadd444543d53c8"), looks := true }, kinds := [], alts := [], laidByText := true, laidKinds := [.data, .data, .data, .data, .handle, .data, .pinned], laidTests := true, laidLooks := .later }
def FnDiskOverUptoCardSaid : Prop := Claim7.holds Tryz.pinned (.plain (OpenSpec.upto fnDiskOverSpec)) fnDiskOverUptoCard

/-- THE SECOND FORM's CARD OF 'laws.FnDiskNone'. -/
def fnDiskNoneUptoCard : Claim7 := { stood := { row := fnDiskNoneUptoRow, standIns := [], harness := (true, "23140b3bd9c039d760094b529168885b67103dac4cb077f43dadd444543d53c8"), looks := true }, kinds := [], alts := [], laidByText := true, laidKinds := [.data, .data, .data, .data, .handle, .data, .pinned], laidTests := true, laidLooks := .later }
def FnDiskNoneUptoCardSaid : Prop := Claim7.holds Tryz.pinned (.plain (OpenSpec.upto fnDiskNoneSpec)) fnDiskNoneUptoCard
end Rows
end Go.Proofs.YtlpmnnjlmjffpaaGreatDoor
