/-
  DERIVED. GIVEN WITH THE SEED: THE CARDS: each row of YtkpfkgoiaicgbaaGreatDoorRows.lean that lists a variable, with what it lists TIED to the program's text (the seventh form; the later family's looks); each row that meets fmt, with fmt's text TOLD by the authors' own Lean function (tested against real Go, not proved from fmt's source: count such statements apart). THE CARD IS WHAT COUNTS. Prove the row's statement (the work); the ties are given (YtkpfkgoiaicgbaaGreatDoorTie.lean); close each card by the builder's one call (the guide's Derived/Test/ToyasCard.lean, 'card_holds'). Laid BY PROGRAM, IN A SANDBOX (cutbox-door.mjs). By AI agents, Wed Nov 11 2026. No macro, syntax, notation, axiom, sorry.
-/
import Derived.Test.YtkpfkgoiaicgbaaGreatDoorRows
import GoSem.ClaimSeven
namespace Go.Proofs.YtkpfkgoiaicgbaaGreatDoor
namespace Rows

/-- THE TIED CARD OF 'laws.FnTreeNone'. -/
def fnTreeNoneCard : Claim7 := { stood := { row := fnTreeNoneRow, standIns := [], harness := (true, "81bd76b75c3ea76d53238d39af8c1ec711313a45a1b5e2b49976edec0b93b584"), looks := true }, kinds := [], alts := [], goes := true, laidByText := true, laidKinds := [.data, .handle, .data, .pinned], laidTests := true, laidLooks := .later }
def FnTreeNoneCardSaid : Prop := Claim7.holds Tryz.pinned (.plain (OpenSpec.ofChange fnTreeNoneSpec)) fnTreeNoneCard

/-- THE SECOND FORM's CARD OF 'laws.FnTreeNone'. -/
def fnTreeNoneUptoCard : Claim7 := { stood := { row := fnTreeNoneUptoRow, standIns := [], harness := (true, "81bd76b75c3ea76d53238d39af8c1ec711313a45a1b5e2b49976edec0b93b584"), looks := true }, kinds := [], alts := [], goes := true, laidByText := true, laidKinds := [.data, .handle, .data, .pinned], laidTests := true, laidLooks := .later }
def FnTreeNoneUptoCardSaid : Prop := Claim7.holds Tryz.pinned (.plain (OpenSpec.upto fnTreeNoneSpec)) fnTreeNoneUptoCard
end Rows
end Go.Proofs.YtkpfkgoiaicgbaaGreatDoor
