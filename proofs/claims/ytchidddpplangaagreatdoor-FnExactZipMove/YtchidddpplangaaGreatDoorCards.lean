/-
  DERIVED. GIVEN WITH THE SEED: THE CARDS: each row of YtchidddpplangaaGreatDoorRows.lean that lists a variable, with what it lists TIED to the program's text (the seventh form; the later family's looks); each row that meets fmt, with fmt's text TOLD by the authors' own Lean function (tested against real Go, not proved from fmt's source: count such statements apart). THE CARD IS WHAT COUNTS. Prove the row's statement (the work); the ties are given (YtchidddpplangaaGreatDoorTie.lean); close each card by the builder's one call (the guide's Derived/Test/ToyasCard.lean, 'card_holds'). Laid BY PROGRAM, IN A SANDBOX (cutbox-door.mjs). By AI agents, Wed Nov 11 2026. No macro, syntax, notation, axiom, sorry.
-/
import Derived.Test.YtchidddpplangaaGreatDoorRows
import GoSem.ClaimSeven
namespace Go.Proofs.YtchidddpplangaaGreatDoor
namespace Rows

/-- THE TIED CARD OF 'laws.FnExactZipAdd'. -/
def fnExactZipAddCard : Claim7 := { stood := { row := fnExactZipAddRow, standIns := [], harness := (true, "73e01c62d07029542f156fcab2c616db2cca8858fc58168a53431cb08d4066ff"), looks := true }, kinds := [], alts := [], laidByText := true, laidKinds := [.data, .handle, .data, .pinned], laidTests := true, laidLooks := .later }
def FnExactZipAddCardSaid : Prop := Claim7.holds Tryz.pinned (.plain (OpenSpec.ofChange fnExactZipAddSpec)) fnExactZipAddCard

/-- THE TIED CARD OF 'laws.FnExactZipMove'. -/
def fnExactZipMoveCard : Claim7 := { stood := { row := fnExactZipMoveRow, standIns := [], harness := (true, "73e01c62d07029542f156fcab2c616db2cca8858fc58168a53431cb08d4066ff"), looks := true }, kinds := [], alts := [], laidByText := true, laidKinds := [.data, .handle, .data, .pinned], laidTests := true, laidLooks := .later }
def FnExactZipMoveCardSaid : Prop := Claim7.holds Tryz.pinned (.plain (OpenSpec.ofChange fnExactZipMoveSpec)) fnExactZipMoveCard

/-- THE SECOND FORM's CARD OF 'laws.FnExactZipAdd'. -/
def fnExactZipAddUptoCard : Claim7 := { stood := { row := fnExactZipAddUptoRow, standIns := [], harness := (true, "73e01c62d07029542f156fcab2c616db2cca8858fc58168a53431cb08d4066ff"), looks := true }, kinds := [], alts := [], laidByText := true, laidKinds := [.data, .handle, .data, .pinned], laidTests := true, laidLooks := .later }
def FnExactZipAddUptoCardSaid : Prop := Claim7.holds Tryz.pinned (.plain (OpenSpec.upto fnExactZipAddSpec)) fnExactZipAddUptoCard

/-- THE SECOND FORM's CARD OF 'laws.FnExactZipMove'. -/
def fnExactZipMoveUptoCard : Claim7 := { stood := { row := fnExactZipMoveUptoRow, standIns := [], harness := (true, "73e01c62d07029542f156fcab2c616db2cca8858fc58168a53431cb08d4066ff"), looks := true }, kinds := [], alts := [], laidByText := true, laidKinds := [.data, .handle, .data, .pinned], laidTests := true, laidLooks := .later }
def FnExactZipMoveUptoCardSaid : Prop := Claim7.holds Tryz.pinned (.plain (OpenSpec.upto fnExactZipMoveSpec)) fnExactZipMoveUptoCard
end Rows
end Go.Proofs.YtchidddpplangaaGreatDoor
