/-
  DERIVED. GIVEN WITH THE SEED: THE CARDS: each row of YtemjckkocljgnaaGreatDoorRows.lean that lists a variable, with what it lists TIED to the program's text (the seventh form; the later family's looks); each row that meets fmt, with fmt's text TOLD by the authors' own Lean function (tested against real Go, not proved from fmt's source: count such statements apart). THE CARD IS WHAT COUNTS. Prove the row's statement (the work); the ties are given (YtemjckkocljgnaaGreatDoorTie.lean); close each card by the builder's one call (the guide's Derived/Test/ToyasCard.lean, 'card_holds'). Laid BY PROGRAM, IN A SANDBOX (cutbox-door.mjs). By AI agents, Wed Nov 11 2026. No macro, syntax, notation, axiom, sorry.
-/
import Derived.Test.YtemjckkocljgnaaGreatDoorRows
import GoSem.ClaimSeven
namespace Go.Proofs.YtemjckkocljgnaaGreatDoor
namespace Rows

/-- THE TIED CARD OF 'laws.FnExactDiskTear'. -/
def fnExactDiskTearCard : Claim7 := { stood := { row := fnExactDiskTearRow, standIns := [], harness := (true, "712a499a9dc1fb077d017169e0b5a3f72f047810473a5e245d2eb14c0909b67f"), looks := true }, kinds := [], alts := [], laidByText := true, laidKinds := [.data, .data, .data, .data, .handle, .data, .pinned], laidTests := true, laidLooks := .later }
def FnExactDiskTearCardSaid : Prop := Claim7.holds Tryz.pinned (.plain (OpenSpec.ofChange fnExactDiskTearSpec)) fnExactDiskTearCard

/-- THE TIED CARD OF 'laws.FnExactDiskRise'. -/
def fnExactDiskRiseCard : Claim7 := { stood := { row := fnExactDiskRiseRow, standIns := [], harness := (true, "712a499a9dc1fb077d017169e0b5a3f72f047810473a5e245d2eb14c0909b67f"), looks := true }, kinds := [], alts := [], laidByText := true, laidKinds := [.data, .data, .data, .data, .handle, .data, .pinned], laidTests := true, laidLooks := .later }
def FnExactDiskRiseCardSaid : Prop := Claim7.holds Tryz.pinned (.plain (OpenSpec.ofChange fnExactDiskRiseSpec)) fnExactDiskRiseCard

/-- THE SECOND FORM's CARD OF 'laws.FnExactDiskTear'. -/
def fnExactDiskTearUptoCard : Claim7 := { stood := { row := fnExactDiskTearUptoRow, standIns := [], harness := (true, "712a499a9dc1fb077d017169e0b5a3f72f047810473a5e245d2eb14c0909b67f"), looks := true }, kinds := [], alts := [], laidByText := true, laidKinds := [.data, .data, .data, .data, .handle, .data, .pinned], laidTests := true, laidLooks := .later }
def FnExactDiskTearUptoCardSaid : Prop := Claim7.holds Tryz.pinned (.plain (OpenSpec.upto fnExactDiskTearSpec)) fnExactDiskTearUptoCard

/-- THE SECOND FORM's CARD OF 'laws.FnExactDiskRise'. -/
def fnExactDiskRiseUptoCard : Claim7 := { stood := { row := fnExactDiskRiseUptoRow, standIns := [], harness := (true, "712a499a9dc1fb077d017169e0b5a3f72f047810473a5e245d2eb14c0909b67f"), looks := true }, kinds := [], alts := [], laidByText := true, laidKinds := [.data, .data, .data, .data, .handle, .data, .pinned], laidTests := true, laidLooks := .later }
def FnExactDiskRiseUptoCardSaid : Prop := Claim7.holds Tryz.pinned (.plain (OpenSpec.upto fnExactDiskRiseSpec)) fnExactDiskRiseUptoCard
end Rows
end Go.Proofs.YtemjckkocljgnaaGreatDoor
