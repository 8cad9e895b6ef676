/-
  DERIVED. GIVEN WITH THE SEED: THE CARDS: each row of YtgpghapnmalipaaGreatDoorRows.lean that lists a variable, with what it lists TIED to the program's text (the seventh form; the later family's looks); each row that meets fmt, with fmt's text TOLD by the authors' own Lean function (tested against real Go, not proved from fmt's source: count such statements apart). THE CARD IS WHAT COUNTS. Prove the row's statement (the work); the ties are given (YtgpghapnmalipaaGreatDoorTie.lean); close each card by the builder's one call (the guide's Derived/Test/ToyasCard.lean, 'card_holds'). Laid BY PROGRAM, IN A SANDBOX (cutbox-door.mjs). By AI agents, Wed Nov 11 2026. No macro, syntax, notation, axiom, sorry.
-/
import Derived.Test.YtgpghapnmalipaaGreatDoorRows
import GoSem.ClaimSeven
namespace Go.Proofs.YtgpghapnmalipaaGreatDoor
namespace Rows

/-- THE TIED CARD OF 'laws.FnExactZipPut'. -/
def fnExactZipPutCard : Claim7 := { stood := { row := fnExactZipPutRow, standIns := [], harness := (true, "f0f4ad099d098f2c70afb062dc6a825d47d3d7df4c259ffe9b89c1b6d214a9d6"), looks := true }, kinds := [], alts := [], laidByText := true, laidKinds := [.data, .handle, .data, .pinned], laidTests := true, laidLooks := .later }
def FnExactZipPutCardSaid : Prop := Claim7.holds Tryz.pinned (.plain (OpenSpec.ofChange fnExactZipPutSpec)) fnExactZipPutCard

/-- THE TIED CARD OF 'laws.FnExactDiskNew'. -/
def fnExactDiskNewCard : Claim7 := { stood := { row := fnExactDiskNewRow, standIns := [], harness := (true, "f0f4ad099d098f2c70afb062dc6a825d47d3d7df4c259ffe9b89c1b6d214a9d6"), looks := true }, kinds := [], alts := [], laidByText := true, laidKinds := [.data, .handle, .data, .pinned], laidTests := true, laidLooks := .later }
def FnExactDiskNewCardSaid : Prop := Claim7.holds Tryz.pinned (.plain (OpenSpec.ofChange fnExactDiskNewSpec)) fnExactDiskNewCard

/-- THE SECOND FORM's CARD OF 'laws.FnExactZipPut'. -/
def fnExactZipPutUptoCard : Claim7 := { stood := { row := fnExactZipPutUptoRow, standIns := [], harness := (true, "f0f4ad099d098f2c70afb062dc6a825d47d3d7df4c259ffe9b89c1b6d214a9d6"), looks := true }, kinds := [], alts := [], laidByText := true, laidKinds := [.data, .handle, .data, .pinned], laidTests := true, laidLooks := .later }
def FnExactZipPutUptoCardSaid : Prop := Claim7.holds Tryz.pinned (.plain (OpenSpec.upto fnExactZipPutSpec)) fnExactZipPutUptoCard

/-- THE SECOND FORM's CARD OF 'laws.FnExactDiskNew'. -/
def fnExactDiskNewUptoCard : Claim7 := { stood := { row := fnExactDiskNewUptoRow, standIns := [], harness := (true, "f0f4ad099d098f2c70afb062dc6a825d47d3d7df4c259ffe9b89c1b6d214a9d6"), looks := true }, kinds := [], alts := [], laidByText := true, laidKinds := [.data, .handle, .data, .pinned], laidTests := true, laidLooks := .later }
def FnExactDiskNewUptoCardSaid : Prop := Claim7.holds Tryz.pinned (.plain (OpenSpec.upto fnExactDiskNewSpec)) fnExactDiskNewUptoCard
end Rows
end Go.Proofs.YtgpghapnmalipaaGreatDoor
