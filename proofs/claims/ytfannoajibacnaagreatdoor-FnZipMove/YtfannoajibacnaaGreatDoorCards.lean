/-
  DERIVED. GIVEN WITH THE SEED: THE CARDS: each row of YtfannoajibacnaaGreatDoorRows.lean that lists a variable, with what it lists TIED to the program's text (the seventh form; the later family's looks); each row that meets fmt, with fmt's text TOLD by the authors' own Lean function (tested against real Go, not proved from fmt's source: count such statements apart). THE CARD IS WHAT COUNTS. Prove the row's statement (the work); the ties are given (YtfannoajibacnaaGreatDoorTie.lean); close each card by the builder's one call (the guide's Derived/Test/ToyasCard.lean, 'card_holds'). Laid BY PROGRAM, IN A SANDBOX (cutbox-door.mjs). By AI agents, Wed Nov 11 2026. No macro, syntax, notation, axiom, sorry.
-/
import Derived.Test.YtfannoajibacnaaGreatDoorRows
import GoSem.ClaimSeven
namespace Go.Proofs.YtfannoajibacnaaGreatDoor
namespace Rows

/-- THE TIED CARD OF 'laws.FnZipSwap'. -/
def fnZipSwapCard : Claim7 := { stood := { row := fnZipSwapRow, standIns := [], harness := (true, "9de8d34f2ee0d949376c47532a29dc2f1d48b4194e471baab56abcf01aa4321c"), looks := true }, kinds := [], alts := [], laidByText := true, laidKinds := [.data, .handle, .data, .pinned], laidTests := true, laidLooks := .later }
def FnZipSwapCardSaid : Prop := Claim7.holds Tryz.pinned (.plain (OpenSpec.ofChange fnZipSwapSpec)) fnZipSwapCard

/-- THE TIED CARD OF 'laws.FnZipMove'. -/
def fnZipMoveCard : Claim7 := { stood := { row := fnZipMoveRow, standIns := [], harness := (true, "9de8d34f2ee0d949376c47532a29dc2f1d48b4194e471baab56abcf01aa4321c"), looks := true }, kinds := [], alts := [], laidByText := true, laidKinds := [.data, .handle, .data, .pinned], laidTests := true, laidLooks := .later }
def FnZipMoveCardSaid : Prop := Claim7.holds Tryz.pinned (.plain (OpenSpec.ofChange fnZipMoveSpec)) fnZipMoveCard

/-- THE TIED CARD OF 'laws.FnZipAdd'. -/
def fnZipAddCard : Claim7 := { stood := { row := fnZipAddRow, standIns := [], harness := (true, "9de8d34f2ee0d949376c47532a29dc2f1d48b4194e471baab56abcf01aa4321c"), looks := true }, kinds := [], alts := [], laidByText := true, laidKinds := [.data, .handle, .data, .pinned], laidTests := true, laidLooks := .later }
def FnZipAddCardSaid : Prop := Claim7.holds Tryz.pinned (.plain (OpenSpec.ofChange fnZipAddSpec)) fnZipAddCard

/-- THE SECOND FORM's CARD OF 'laws.FnZipSwap'. -/
def fnZipSwapUptoCard : Claim7 := { stood := { row := fnZipSwapUptoRow, standIns := [], harness := (true, "9de8d34f2ee0d949376c47532a29dc2f1d48b4194e471baab56abcf01aa4321c"), looks := true }, kinds := [], alts := [], laidByText := true, laidKinds := [.data, .handle, .data, .pinned], laidTests := true, laidLooks := .later }
def FnZipSwapUptoCardSaid : Prop := Claim7.holds Tryz.pinned (.plain (OpenSpec.upto fnZipSwapSpec)) fnZipSwapUptoCard

/-- THE SECOND FORM's CARD OF 'laws.FnZipMove'. -/
def fnZipMoveUptoCard : Claim7 := { stood := { row := fnZipMoveUptoRow, standIns := [], harness := (true, "9de8d34f2ee0d949376c47532a29dc2f1d48b4194e471baab56abcf01aa4321c"), looks := true }, kinds := [], alts := [], laidByText := true, laidKinds := [.data, .handle, .data, .pinned], laidTests := true, laidLooks := .later }
def FnZipMoveUptoCardSaid : Prop := Claim7.holds Tryz.pinned (.plain (OpenSpec.upto fnZipMoveSpec)) fnZipMoveUptoCard

/-- THE SECOND FORM's CARD OF 'laws.FnZipAdd'. -/
def fnZipAddUptoCard : Claim7 := { stood := { row := fnZipAddUptoRow, standIns := [], harness := (true, "9de8d34f2ee0d949376c47532a29dc2f1d48b4194e471baab56abcf01aa4321c"), looks := true }, kinds := [], alts := [], laidByText := true, laidKinds := [.data, .handle, .data, .pinned], laidTests := true, laidLooks := .later }
def FnZipAddUptoCardSaid : Prop := Claim7.holds Tryz.pinned (.plain (OpenSpec.upto fnZipAddSpec)) fnZipAddUptoCard
end Rows
end Go.Proofs.YtfannoajibacnaaGreatDoor
