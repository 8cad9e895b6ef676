/-
  DERIVED. GIVEN WITH THE SEED: THE CARDS: each row of YtihncnlbnlmefaaDoorRows.lean that lists a variable, with what it lists TIED to the program's text (the seventh form; the later family's looks); each row that meets fmt, with fmt's text TOLD by the authors' own Lean function (tested against real Go, not proved from fmt's source: count such statements apart). THE CARD IS WHAT COUNTS. Prove the row's statement (the work); the ties are given (YtihncnlbnlmefaaDoorTie.lean); close each card by the builder's one call (the guide's Derived/Test/ToyasCard.lean, 'card_holds'). Laid BY PROGRAM, IN A SANDBOX (cutbox-door.mjs). By AI agents, Wed Nov 11 2026. No macro, syntax, notation, axiom, sorry.
-/
import Derived.Test.YtihncnlbnlmefaaDoorRows
import GoSem.ClaimSeven
namespace Go.Proofs.YtihncnlbnlmefaaDoor
namespace Rows

/-- THE TIED CARD OF 'laws.FnExactFlateGet'. -/
def fnExactFlateGetCard : Claim7 := { stood := { row := fnExactFlateGetRow, standIns := [], harness := (true, "afc4343d0b6c3e674fb5a858c31d427f02993b591af8697096acea86194be7eb"), looks := true }, kinds := [], alts := [], laidByText := true, laidKinds := [.data], laidTests := true, laidLooks := .later }
def FnExactFlateGetCardSaid : Prop := Claim7.holds Tryd.pinned (.plain (OpenSpec.ofChange fnExactFlateGetSpec)) fnExactFlateGetCard

/-- THE TIED CARD OF 'laws.FnExactFlateKind'. -/
def fnExactFlateKindCard : Claim7 := { stood := { row := fnExactFlateKindRow, standIns := [], harness := (true, "afc4343d0b6c3e674fb5a858c31d427f02993b591af8697096acea86194be7eb"), looks := true }, kinds := [], alts := [], laidByText := true, laidKinds := [.data], laidTests := true, laidLooks := .later }
def FnExactFlateKindCardSaid : Prop := Claim7.holds Tryd.pinned (.plain (OpenSpec.ofChange fnExactFlateKindSpec)) fnExactFlateKindCard

/-- THE SECOND FORM's CARD OF 'laws.FnExactFlateGet'. -/
def fnExactFlateGetUptoCard : Claim7 := { stood := { row := fnExactFlateGetUptoRow, standIns := [], harness := (true, "afc4343d0b6c3e674fb5a858c31d427f02993b591af8697096acea86194be7eb"), looks := true }, kinds := [], alts := [], laidByText := true, laidKinds := [.data], laidTests := true, laidLooks := .later }
def FnExactFlateGetUptoCardSaid : Prop := Claim7.holds Tryd.pinned (.plain (OpenSpec.upto fnExactFlateGetSpec)) fnExactFlateGetUptoCard

/-- THE SECOND FORM's CARD OF 'laws.FnExactFlateKind'. -/
def fnExactFlateKindUptoCard : Claim7 := { stood := { row := fnExactFlateKindUptoRow, standIns := [], harness := (true, "afc4343d0b6c3e674fb5a858c31d427f02993b591af8697096acea86194be7eb"), looks := true }, kinds := [], alts := [], laidByText := true, laidKinds := [.data], laidTests := true, laidLooks := .later }
def FnExactFlateKindUptoCardSaid : Prop := Claim7.holds Tryd.pinned (.plain (OpenSpec.upto fnExactFlateKindSpec)) fnExactFlateKindUptoCard
end Rows
end Go.Proofs.YtihncnlbnlmefaaDoor
