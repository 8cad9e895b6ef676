/-
  DERIVED. GIVEN WITH THE SEED: THE CARDS: each row of YtkdlcomfpffhhaaGreatDoorRows.lean that lists a variable, with what it lists TIED to the program's text (the seventh form; the later family's looks); each row that meets fmt, with fmt's text TOLD by the authors' own Lean function (tested against real Go, not proved from fmt's source: count such statements apart). THE CARD IS WHAT COUNTS. Prove the row's statement (the work); the ties are given (YtkdlcomfpffhhaaGreatDoorTie.lean); close each card by the builder's one call (the guide's Derived/Test/ToyasCard.lean, 'card_holds'). Laid BY PROGRAM, IN A SANDBOX (cutbox-door.mjs). By AI agents, Wed Nov 11 2026. No macro, syntax, notation, axiom, sorry.
-/
import Derived.Test.YtkdlcomfpffhhaaGreatDoorRows
import GoSem.ClaimSeven
namespace Go.Proofs.YtkdlcomfpffhhaaGreatDoor
namespace Rows

/-- THE TIED CARD OF 'laws.FnTreeUnder'. -/
def fnTreeUnderCard : Claim7 := { stood := { row := fnTreeUnderRow, standIns := [], harness := (true, "3a4a643acb361646c17e640c7330003d34d57fd536c351b57939e80983c7dc14"), looks := true }, kinds := [], alts := [], laidByText := true, laidKinds := [.data, .handle, .data, .pinned], laidTests := true, laidLooks := .later }
def FnTreeUnderCardSaid : Prop := Claim7.holds Tryz.pinned (.plain (OpenSpec.ofChange fnTreeUnderSpec)) fnTreeUnderCard

/-- THE TIED CARD OF 'laws.FnExactTreeTake'. -/
def fnExactTreeTakeCard : Claim7 := { stood := { row := fnExactTreeTakeRow, standIns := [], harness := (true, "3a4a643acb361646c17e640c7330003d34d57fd536c351b57939e80983c7dc14"), looks := true }, kinds := [], alts := [], laidByText := true, laidKinds := [.data, .handle, .data, .pinned], laidTests := true, laidLooks := .later }
def FnExactTreeTakeCardSaid : Prop := Claim7.holds Tryz.pinned (.plain (OpenSpec.ofChange fnExactTreeTakeSpec)) fnExactTreeTakeCard

/-- THE TIED CARD OF 'laws.FnTreeTake'. -/
def fnTreeTakeCard : Claim7 := { stood := { row := fnTreeTakeRow, standIns := [], harness := (true, "3a4a643acb361646c17e640c7330003d34d57fd536c351b57939e80983c7dc14"), looks := true }, kinds := [], alts := [], laidByText := true, laidKinds := [.data, .handle, .data, .pinned], laidTests := true, laidLooks := .later }
def FnTreeTakeCardSaid : Prop := Claim7.holds Tryz.pinned (.plain (OpenSpec.ofChange fnTreeTakeSpec)) fnTreeTakeCard

/-- THE SECOND FORM's CARD OF 'laws.FnTreeUnder'. -/
def fnTreeUnderUptoCard : Claim7 := { stood := { row := fnTreeUnderUptoRow, standIns := [], harness := (true, "3a4a643acb361646c17e640c7330003d34d57fd536c351b57939e80983c7dc14"), looks := true }, kinds := [], alts := [], laidByText := true, laidKinds := [.data, .handle, .data, .pinned], laidTests := true, laidLooks := .later }
def FnTreeUnderUptoCardSaid : Prop := Claim7.holds Tryz.pinned (.plain (OpenSpec.upto fnTreeUnderSpec)) fnTreeUnderUptoCard

/-- THE SECOND FORM's CARD OF 'laws.FnExactTreeTake'. -/
def fnExactTreeTakeUptoCard : Claim7 := { stood := { row := fnExactTreeTakeUptoRow, standIns := [], harness := (true, "3a4a643acb361646c17e640c7330003d34d57fd536c351b57939e80983c7dc14"), looks := true }, kinds := [], alts := [], laidByText := true, laidKinds := [.data, .handle, .data, .pinned], laidTests := true, laidLooks := .later }
def FnExactTreeTakeUptoCardSaid : Prop := Claim7.holds Tryz.pinned (.plain (OpenSpec.upto fnExactTreeTakeSpec)) fnExactTreeTakeUptoCard

/-- THE SECOND FORM's CARD OF 'laws.FnTreeTake'. -/
def fnTreeTakeUptoCard : Claim7 := { stood := { row := fnTreeTakeUptoRow, standIns := [], harness := (true, "3a4a643acb361646c17e640c7330003d34d57fd536c351b57939e80983c7dc14"), looks := true }, kinds := [], alts := [], laidByText := true, laidKinds := [.data, .handle, .data, .pinned], laidTests := true, laidLooks := .later }
def FnTreeTakeUptoCardSaid : Prop := Claim7.holds Tryz.pinned (.plain (OpenSpec.upto fnTreeTakeSpec)) fnTreeTakeUptoCard
end Rows
end Go.Proofs.YtkdlcomfpffhhaaGreatDoor
