/-
  DERIVED. GIVEN WITH THE SEED: THE CARDS: each row of YtllhielelnfpaaaGreatDoorRows.lean that lists a variable, with what it lists TIED to the program's text (the seventh form; the later family's looks); each row that meets fmt, with fmt's text TOLD by the authors' own Lean function (tested against real Go, not proved from fmt's source: count such statements apart). THE CARD IS WHAT COUNTS. Prove the row's statement (the work); the ties are given (YtllhielelnfpaaaGreatDoorTie.lean); close each card by the builder's one call (the guide's Derived/Test/ToyasCard.lean, 'card_holds'). Laid BY PROGRAM, IN A SANDBOX (cutbox-door.mjs). By AI agents, Wed Nov 11 2026. No macro, syntax, notation, axiom, sorry.
-/
import Derived.Test.YtllhielelnfpaaaGreatDoorRows
import GoSem.ClaimSeven
namespace Go.Proofs.YtllhielelnfpaaaGreatDoor
namespace Rows

/-- THE TIED CARD OF 'laws.FnExactZipAdd'. -/
def fnExactZipAddCard : Claim7 := { stood := { row := fnExactZipAddRow, standIns := [], harness := (true, "e3b3fc8074cf5a2e005e18aef4b2cf72a84338088700093175ec3ee168fd5148"), looks := true }, kinds := [], alts := [], laidByText := true, laidKinds := [.data, .handle, .data, .pinned], laidTests := true, laidLooks := .later }
def FnExactZipAddCardSaid : Prop := Claim7.holds Tryz.pinned (.plain (OpenSpec.ofChange fnExactZipAddSpec)) fnExactZipAddCard

/-- THE TIED CARD OF 'laws.FnExactZipDrop'. -/
def fnExactZipDropCard : Claim7 := { stood := { row := fnExactZipDropRow, standIns := [], harness := (true, "e3b3fc8074cf5a2e005e18aef4b2cf72a84338088700093175ec3ee168fd5148"), looks := true }, kinds := [], alts := [], laidByText := true, laidKinds := [.data, .handle, .data, .pinned], laidTests := true, laidLooks := .later }
def FnExactZipDropCardSaid : Prop := Claim7.holds Tryz.pinned (.plain (OpenSpec.ofChange fnExactZipDropSpec)) fnExactZipDropCard

/-- THE TIED CARD OF 'laws.FnExactZipSwap'. -/
def fnExactZipSwapCard : Claim7 := { stood := { row := fnExactZipSwapRow, standIns := [], harness := (true, "e3b3fc8074cf5a2e005e18aef4b2cf72a84338088700093175ec3ee168fd5148"), looks := true }, kinds := [], alts := [], laidByText := true, laidKinds := [.data, .handle, .data, .pinned], laidTests := true, laidLooks := .later }
def FnExactZipSwapCardSaid : Prop := Claim7.holds Tryz.pinned (.plain (OpenSpec.ofChange fnExactZipSwapSpec)) fnExactZipSwapCard

/-- THE TIED CARD OF 'laws.FnExactZipMove'. -/
def fnExactZipMoveCard : Claim7 := { stood := { row := fnExactZipMoveRow, standIns := [], harness := (true, "e3b3fc8074cf5a2e005e18aef4b2cf72a84338088700093175ec3ee168fd5148"), looks := true }, kinds := [], alts := [], laidByText := true, laidKinds := [.data, .handle, .data, .pinned], laidTests := true, laidLooks := .later }
def FnExactZipMoveCardSaid : Prop := Claim7.holds Tryz.pinned (.plain (OpenSpec.ofChange fnExactZipMoveSpec)) fnExactZipMoveCard

/-- THE TIED CARD OF 'laws.FnExactZipJoin'. -/
def fnExactZipJoinCard : Claim7 := { stood := { row := fnExactZipJoinRow, standIns := [], harness := (true, "e3b3fc8074cf5a2e005e18aef4b2cf72a84338088700093175ec3ee168fd5148"), looks := true }, kinds := [], alts := [], laidByText := true, laidKinds := [.data, .handle, .data, .pinned], laidTests := true, laidLooks := .later }
def FnExactZipJoinCardSaid : Prop := Claim7.holds Tryz.pinned (.plain (OpenSpec.ofChange fnExactZipJoinSpec)) fnExactZipJoinCard

/-- THE SECOND FORM's CARD OF 'laws.FnExactZipAdd'. -/
def fnExactZipAddUptoCard : Claim7 := { stood := { row := fnExactZipAddUptoRow, standIns := [], harness := (true, "e3b3fc8074cf5a2e005e18aef4b2cf72a84338088700093175ec3ee168fd5148"), looks := true }, kinds := [], alts := [], laidByText := true, laidKinds := [.data, .handle, .data, .pinned], laidTests := true, laidLooks := .later }
def FnExactZipAddUptoCardSaid : Prop := Claim7.holds Tryz.pinned (.plain (OpenSpec.upto fnExactZipAddSpec)) fnExactZipAddUptoCard

/-- THE SECOND FORM's CARD OF 'laws.FnExactZipDrop'. -/
def fnExactZipDropUptoCard : Claim7 := { stood := { row := fnExactZipDropUptoRow, standIns := [], harness := (true, "e3b3fc8074cf5a2e005e18aef4b2cf72a84338088700093175ec3ee168fd5148"), looks := true }, kinds := [], alts := [], laidByText := true, laidKinds := [.data, .handle, .data, .pinned], laidTests := true, laidLooks := .later }
def FnExactZipDropUptoCardSaid : Prop := Claim7.holds Tryz.pinned (.plain (OpenSpec.upto fnExactZipDropSpec)) fnExactZipDropUptoCard

/-- THE SECOND FORM's CARD OF 'laws.FnExactZipSwap'. -/
def fnExactZipSwapUptoCard : Claim7 := { stood := { row := fnExactZipSwapUptoRow, standIns := [], harness := (true, "e3b3fc8074cf5a2e005e18aef4b2cf72a84338088700093175ec3ee168fd5148"), looks := true }, kinds := [], alts := [], laidByText := true, laidKinds := [.data, .handle, .data, .pinned], laidTests := true, laidLooks := .later }
def FnExactZipSwapUptoCardSaid : Prop := Claim7.holds Tryz.pinned (.plain (OpenSpec.upto fnExactZipSwapSpec)) fnExactZipSwapUptoCard

/-- THE SECOND FORM's CARD OF 'laws.FnExactZipMove'. -/
def fnExactZipMoveUptoCard : Claim7 := { stood := { row := fnExactZipMoveUptoRow, standIns := [], harness := (true, "e3b3fc8074cf5a2e005e18aef4b2cf72a84338088700093175ec3ee168fd5148"), looks := true }, kinds := [], alts := [], laidByText := true, laidKinds := [.data, .handle, .data, .pinned], laidTests := true, laidLooks := .later }
def FnExactZipMoveUptoCardSaid : Prop := Claim7.holds Tryz.pinned (.plain (OpenSpec.upto fnExactZipMoveSpec)) fnExactZipMoveUptoCard

/-- THE SECOND FORM's CARD OF 'laws.FnExactZipJoin'. -/
def fnExactZipJoinUptoCard : Claim7 := { stood := { row := fnExactZipJoinUptoRow, standIns := [], harness := (true, "e3b3fc8074cf5a2e005e18aef4b2cf72a84338088700093175ec3ee168fd5148"), looks := true }, kinds := [], alts := [], laidByText := true, laidKinds := [.data, .handle, .data, .pinned], laidTests := true, laidLooks := .later }
def FnExactZipJoinUptoCardSaid : Prop := Claim7.holds Tryz.pinned (.plain (OpenSpec.upto fnExactZipJoinSpec)) fnExactZipJoinUptoCard
end Rows
end Go.Proofs.YtllhielelnfpaaaGreatDoor
