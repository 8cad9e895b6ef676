/-
  DERIVED. GIVEN WITH THE SEED: THE CARDS: each row of YtfpnnlekblamhaaGreatDoorRows.lean that lists a variable, with what it lists TIED to the program's text (the seventh form; the later family's looks); each row that meets fmt, with fmt's text TOLD by the authors' own Lean function (tested against real Go, not proved from fmt's source: count such statements apart). THE CARD IS WHAT COUNTS. Prove the row's statement (the work); the ties are given (YtfpnnlekblamhaaGreatDoorTie.lean); close each card by the builder's one call (the guide's Derived/Test/ToyasCard.lean, 'card_holds'). Laid BY PROGRAM, IN A SANDBOX (cutbox-door.mjs). By AI agents, Wed Nov 11 2026. No macro, syntax, notation, axiom, sorry.
-/
import Derived.Test.YtfpnnlekblamhaaGreatDoorRows
import GoSem.ClaimSeven
namespace Go.Proofs.YtfpnnlekblamhaaGreatDoor
namespace Rows

/-- THE TIED CARD OF 'laws.FnExactZipGet'. -/
def fnExactZipGetCard : Claim7 := { stood := { row := fnExactZipGetRow, standIns := [], harness := (true, "c0e2270a9a5ae44388af602b1fad4097a99b413ac1653f07cc77a60cc0ccff0a"), looks := true }, kinds := [], alts := [], laidByText := true, laidKinds := [.data, .handle, .data, .pinned], laidTests := true, laidLooks := .later }
def FnExactZipGetCardSaid : Prop := Claim7.holds Tryz.pinned (.plain (OpenSpec.ofChange fnExactZipGetSpec)) fnExactZipGetCard

/-- THE TIED CARD OF 'laws.FnExactZipNames'. -/
def fnExactZipNamesCard : Claim7 := { stood := { row := fnExactZipNamesRow, standIns := [], harness := (true, "c0e2270a9a5ae44388af602b1fad4097a99b413ac1653f07cc77a60cc0ccff0a"), looks := true }, kinds := [], alts := [], laidByText := true, laidKinds := [.data, .handle, .data, .pinned], laidTests := true, laidLooks := .later }
def FnExactZipNamesCardSaid : Prop := Claim7.holds Tryz.pinned (.plain (OpenSpec.ofChange fnExactZipNamesSpec)) fnExactZipNamesCard

/-- THE TIED CARD OF 'laws.FnExactZipFind'. -/
def fnExactZipFindCard : Claim7 := { stood := { row := fnExactZipFindRow, standIns := [], harness := (true, "c0e2270a9a5ae44388af602b1fad4097a99b413ac1653f07cc77a60cc0ccff0a"), looks := true }, kinds := [], alts := [], laidByText := true, laidKinds := [.data, .handle, .data, .pinned], laidTests := true, laidLooks := .later }
def FnExactZipFindCardSaid : Prop := Claim7.holds Tryz.pinned (.plain (OpenSpec.ofChange fnExactZipFindSpec)) fnExactZipFindCard

/-- THE TIED CARD OF 'laws.FnExactDiskOk'. -/
def fnExactDiskOkCard : Claim7 := { stood := { row := fnExactDiskOkRow, standIns := [], harness := (true, "c0e2270a9a5ae44388af602b1fad4097a99b413ac1653f07cc77a60cc0ccff0a"), looks := true }, kinds := [], alts := [], laidByText := true, laidKinds := [.data, .handle, .data, .pinned], laidTests := true, laidLooks := .later }
def FnExactDiskOkCardSaid : Prop := Claim7.holds Tryz.pinned (.plain (OpenSpec.ofChange fnExactDiskOkSpec)) fnExactDiskOkCard

/-- THE SECOND FORM's CARD OF 'laws.FnExactZipGet'. -/
def fnExactZipGetUptoCard : Claim7 := { stood := { row := fnExactZipGetUptoRow, standIns := [], harness := (true, "c0e2270a9a5ae44388af602b1fad4097a99b413ac1653f07cc77a60cc0ccff0a"), looks := true }, kinds := [], alts := [], laidByText := true, laidKinds := [.data, .handle, .data, .pinned], laidTests := true, laidLooks := .later }
def FnExactZipGetUptoCardSaid : Prop := Claim7.holds Tryz.pinned (.plain (OpenSpec.upto fnExactZipGetSpec)) fnExactZipGetUptoCard

/-- THE SECOND FORM's CARD OF 'laws.FnExactZipNames'. -/
def fnExactZipNamesUptoCard : Claim7 := { stood := { row := fnExactZipNamesUptoRow, standIns := [], harness := (true, "c0e2270a9a5ae44388af602b1fad4097a99b413ac1653f07cc77a60cc0ccff0a"), looks := true }, kinds := [], alts := [], laidByText := true, laidKinds := [.data, .handle, .data, .pinned], laidTests := true, laidLooks := .later }
def FnExactZipNamesUptoCardSaid : Prop := Claim7.holds Tryz.pinned (.plain (OpenSpec.upto fnExactZipNamesSpec)) fnExactZipNamesUptoCard

/-- THE SECOND FORM's CARD OF 'laws.FnExactZipFind'. -/
def fnExactZipFindUptoCard : Claim7 := { stood := { row := fnExactZipFindUptoRow, standIns := [], harness := (true, "c0e2270a9a5ae44388af602b1fad4097a99b413ac1653f07cc77a60cc0ccff0a"), looks := true }, kinds := [], alts := [], laidByText := true, laidKinds := [.data, .handle, .data, .pinned], laidTests := true, laidLooks := .later }
def FnExactZipFindUptoCardSaid : Prop := Claim7.holds Tryz.pinned (.plain (OpenSpec.upto fnExactZipFindSpec)) fnExactZipFindUptoCard

/-- THE SECOND FORM's CARD OF 'laws.FnExactDiskOk'. -/
def fnExactDiskOkUptoCard : Claim7 := { stood := { row := fnExactDiskOkUptoRow, standIns := [], harness := (true, "c0e2270a9a5ae44388af602b1fad4097a99b413ac1653f07cc77a60cc0ccff0a"), looks := true }, kinds := [], alts := [], laidByText := true, laidKinds := [.data, .handle, .data, .pinned], laidTests := true, laidLooks := .later }
def FnExactDiskOkUptoCardSaid : Prop := Claim7.holds Tryz.pinned (.plain (OpenSpec.upto fnExactDiskOkSpec)) fnExactDiskOkUptoCard
end Rows
end Go.Proofs.YtfpnnlekblamhaaGreatDoor
