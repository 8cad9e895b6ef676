/-
  DERIVED. GIVEN WITH THE SEED: THE CARDS: each row of YthlmoakigdlboaaDoorRows.lean that lists a variable, with what it lists TIED to the program's text (the seventh form; the later family's looks); each row that meets fmt, with fmt's text TOLD by the authors' own Lean function (tested against real Go, not proved from fmt's source: count such statements apart). THE CARD IS WHAT COUNTS. Prove the row's statement (the work); the ties are given (YthlmoakigdlboaaDoorTie.lean); close each card by the builder's one call (the guide's Derived/Test/ToyasCard.lean, 'card_holds'). Laid BY PROGRAM, IN A SANDBOX (cutbox-door.mjs). By AI agents, Wed Nov 11 2026. No macro, syntax, notation, axiom, sorry.
-/
import Derived.Test.YthlmoakigdlboaaDoorRows
import GoSem.ClaimSeven
namespace Go.Proofs.YthlmoakigdlboaaDoor
namespace Rows

/-- THE TIED CARD OF 'laws.FnExactZipOk'. -/
def fnExactZipOkCard : Claim7 := { stood := { row := fnExactZipOkRow, standIns := [], harness := (true, "b30d25498ef2732359afcd3026d7a1abde6fbc3ae91b62c600ab269be2eea903"), looks := true }, kinds := [], alts := [], laidByText := true, laidKinds := [.data, .handle, .pinned], laidTests := true, laidLooks := .later }
def FnExactZipOkCardSaid : Prop := Claim7.holds Tryd.pinned (.plain (OpenSpec.ofChange fnExactZipOkSpec)) fnExactZipOkCard

/-- THE SECOND FORM's CARD OF 'laws.FnExactZipOk'. -/
def fnExactZipOkUptoCard : Claim7 := { stood := { row := fnExactZipOkUptoRow, standIns := [], harness := (true, "b30d25498ef2732359afcd3026d7a1abde6fbc3ae91b62c600ab269be2eea903"), looks := true }, kinds := [], alts := [], laidByText := true, laidKinds := [.data, .handle, .pinned], laidTests := true, laidLooks := .later }
def FnExactZipOkUptoCardSaid : Prop := Claim7.holds Tryd.pinned (.plain (OpenSpec.upto fnExactZipOkSpec)) fnExactZipOkUptoCard
end Rows
end Go.Proofs.YthlmoakigdlboaaDoor
