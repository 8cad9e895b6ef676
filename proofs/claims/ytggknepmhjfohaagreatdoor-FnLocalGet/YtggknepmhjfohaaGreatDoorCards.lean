/-
  DERIVED. GIVEN WITH THE SEED: THE CARDS: each row of YtggknepmhjfohaaGreatDoorRows.lean that lists a variable, with what it lists TIED to the program's text (the seventh form; the later family's looks); each row that meets fmt, with fmt's text TOLD by the authors' own Lean function (tested against real Go, not proved from fmt's source: count such statements apart). THE CARD IS WHAT COUNTS. Prove the row's statement (the work); the ties are given (YtggknepmhjfohaaGreatDoorTie.lean); close each card by the builder's one call (the guide's Derived/Test/ToyasCard.lean, 'card_holds'). Laid BY PROGRAM, IN A SANDBOX (cutbox-door.mjs). By AI agents, Wed Nov 11 2026. No macro, syntax, notation, axiom, sorry.
-/
import Derived.Test.YtggknepmhjfohaaGreatDoorRows
import GoSem.ClaimSeven
namespace Go.Proofs.YtggknepmhjfohaaGreatDoor
namespace Rows

/-- THE TIED CARD OF 'laws.FnLocalGet'. -/
def fnLocalGetCard : Claim7 := { stood := { row := fnLocalGetRow, standIns := [], harness := (true, "1cddbc82f9598ba87d219a0f5bb7c9b2bf556e6ce38959988bce837fa38a0fb4"), looks := true }, kinds := [], alts := [], laidByText := true, laidKinds := [.data, .data, .pinned], laidTests := true, laidLooks := .later }
def FnLocalGetCardSaid : Prop := Claim7.holds Tryz.pinned (.plain (OpenSpec.ofChange fnLocalGetSpec)) fnLocalGetCard

/-- THE SECOND FORM's CARD OF 'laws.FnLocalGet'. -/
def fnLocalGetUptoCard : Claim7 := { stood := { row := fnLocalGetUptoRow, standIns := [], harness := (true, "1cddbc82f9598ba87d219a0f5bb7c9b2bf556e6ce38959988bce837fa38a0fb4"), looks := true }, kinds := [], alts := [], laidByText := true, laidKinds := [.data, .data, .pinned], laidTests := true, laidLooks := .later }
def FnLocalGetUptoCardSaid : Prop := Claim7.holds Tryz.pinned (.plain (OpenSpec.upto fnLocalGetSpec)) fnLocalGetUptoCard
end Rows
end Go.Proofs.YtggknepmhjfohaaGreatDoor
