/-
  DERIVED. GIVEN WITH THE SEED: THE CARDS: each row of YtemopnjckikkaaaGreatDoorRows.lean that lists a variable, with what it lists TIED to the program's text (the seventh form; the later family's looks); each row that meets fmt, with fmt's text TOLD by the authors' own Lean function (tested against real Go, not proved from fmt's source: count such statements apart). THE CARD IS WHAT COUNTS. Prove the row's statement (the work); the ties are given (YtemopnjckikkaaaGreatDoorTie.lean); close each card by the builder's one call (the guide's Derived/Test/ToyasCard.lean, 'card_holds'). Laid BY PROGRAM, IN A SANDBOX (cutbox-door.mjs). By AI agents, Wed Nov 11 2026. No macro, syntax, notation, axiom, sorry.
-/
import Derived.Test.YtemopnjckikkaaaGreatDoorRows
import GoSem.ClaimSeven
namespace Go.Proofs.YtemopnjckikkaaaGreatDoor
namespace Rows

/-- THE TIED CARD OF 'laws.FnZipGet'. -/
def fnZipGetCard : Claim7 := { stood := { row := fnZipGetRow, standIns := [], harness := (true, "7a962a0c93a3f3641e1c63fac4ef63a7f214eb0b296eba078fe7020a8b0d8043"), looks := true }, kinds := [], alts := [], laidByText := true, laidKinds := [.data, .handle, .data, .pinned], laidTests := true, laidLooks := .later }
def FnZipGetCardSaid : Prop := Claim7.holds Tryz.pinned (.plain (OpenSpec.ofChange fnZipGetSpec)) fnZipGetCard

/-- THE SECOND FORM's CARD OF 'laws.FnZipGet'. -/
def fnZipGetUptoCard : Claim7 := { stood := { row := fnZipGetUptoRow, standIns := [], harness := (true, "7a962a0c93a3f3641e1c63fac4ef63a7f214eb0b296eba078fe7020a8b0d8043"), looks := true }, kinds := [], alts := [], laidByText := true, laidKinds := [.data, .handle, .data, .pinned], laidTests := true, laidLooks := .later }
def FnZipGetUptoCardSaid : Prop := Claim7.holds Tryz.pinned (.plain (OpenSpec.upto fnZipGetSpec)) fnZipGetUptoCard
end Rows
end Go.Proofs.YtemopnjckikkaaaGreatDoor
