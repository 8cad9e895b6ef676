/-
  DERIVED. GIVEN WITH THE SEED: THE CARDS: each row of YtckocaibjciplaaGreatDoorRows.lean that lists a variable, with what it lists TIED to the program's text (the seventh form; the later family's looks); each row that meets fmt, with fmt's text TOLD by the authors' own Lean function (tested against real Go, not proved from fmt's source: count such statements apart). THE CARD IS WHAT COUNTS. Prove the row's statement (the work); the ties are given (YtckocaibjciplaaGreatDoorTie.lean); close each card by the builder's one call (the guide's Derived/Test/ToyasCard.lean, 'card_holds'). Laid BY PROGRAM, IN A SANDBOX (cutbox-door.mjs). By AI agents, Wed Nov 11 2026. No macro, syntax, notation, axiom, sorry.
-/
import Derived.Test.YtckocaibjciplaaGreatDoorRows
import GoSem.ClaimSeven
namespace Go.Proofs.YtckocaibjciplaaGreatDoor
namespace Rows

/-- THE TIED CARD OF 'laws.FnZipJoinOne'. -/
def fnZipJoinOneCard : Claim7 := { stood := { row := fnZipJoinOneRow, standIns := [], harness := (true, "cef34c8af0c13faf0f26d1feeff4566cbbcc409f4ea2f94d5c6a725b98be9dbc"), looks := true }, kinds := [], alts := [], laidByText := true, laidKinds := [.data, .handle, .data, .pinned], laidTests := true, laidLooks := .later }
def FnZipJoinOneCardSaid : Prop := Claim7.holds Tryz.pinned (.plain (OpenSpec.ofChange fnZipJoinOneSpec)) fnZipJoinOneCard

/-- THE TIED CARD OF 'laws.FnZipJoin'. -/
def fnZipJoinCard : Claim7 := { stood := { row := fnZipJoinRow, standIns := [], harness := (true, "cef34c8af0c13faf0f26d1feeff4566cbbcc409f4ea2f94d5c6a725b98be9dbc"), looks := true }, kinds := [], alts := [], laidByText := true, laidKinds := [.data, .handle, .data, .pinned], laidTests := true, laidLooks := .later }
def FnZipJoinCardSaid : Prop := Claim7.holds Tryz.pinned (.plain (OpenSpec.ofChange fnZipJoinSpec)) fnZipJoinCard

/-- THE TIED CARD OF 'laws.FnZipDrop'. -/
def fnZipDropCard : Claim7 := { stood := { row := fnZipDropRow, standIns := [], harness := (true, "cef34c8af0c13faf0f26d1feeff4566cbbcc409f4ea2f94d5c6a725b98be9dbc"), looks := true }, kinds := [], alts := [], laidByText := true, laidKinds := [.data, .handle, .data, .pinned], laidTests := true, laidLooks := .later }
def FnZipDropCardSaid : Prop := Claim7.holds Tryz.pinned (.plain (OpenSpec.ofChange fnZipDropSpec)) fnZipDropCard

/-- THE TIED CARD OF 'laws.FnZipTwice'. -/
def fnZipTwiceCard : Claim7 := { stood := { row := fnZipTwiceRow, standIns := [], harness := (true, "cef34c8af0c13faf0f26d1feeff4566cbbcc409f4ea2f94d5c6a725b98be9dbc"), looks := true }, kinds := [], alts := [], laidByText := true, laidKinds := [.data, .handle, .data, .pinned], laidTests := true, laidLooks := .later }
def FnZipTwiceCardSaid : Prop := Claim7.holds Tryz.pinned (.plain (OpenSpec.ofChange fnZipTwiceSpec)) fnZipTwiceCard

/-- THE SECOND FORM's CARD OF 'laws.FnZipJoinOne'. -/
def fnZipJoinOneUptoCard : Claim7 := { stood := { row := fnZipJoinOneUptoRow, standIns := [], harness := (true, "cef34c8af0c13faf0f26d1feeff4566cbbcc409f4ea2f94d5c6a725b98be9dbc"), looks := true }, kinds := [], alts := [], laidByText := true, laidKinds := [.data, .handle, .data, .pinned], laidTests := true, laidLooks := .later }
def FnZipJoinOneUptoCardSaid : Prop := Claim7.holds Tryz.pinned (.plain (OpenSpec.upto fnZipJoinOneSpec)) fnZipJoinOneUptoCard

/-- THE SECOND FORM's CARD OF 'laws.FnZipJoin'. -/
def fnZipJoinUptoCard : Claim7 := { stood := { row := fnZipJoinUptoRow, standIns := [], harness := (true, "cef34c8af0c13faf0f26d1feeff4566cbbcc409f4ea2f94d5c6a725b98be9dbc"), looks := true }, kinds := [], alts := [], laidByText := true, laidKinds := [.data, .handle, .data, .pinned], laidTests := true, laidLooks := .later }
def FnZipJoinUptoCardSaid : Prop := Claim7.holds Tryz.pinned (.plain (OpenSpec.upto fnZipJoinSpec)) fnZipJoinUptoCard

/-- THE SECOND FORM's CARD OF 'laws.FnZipDrop'. -/
def fnZipDropUptoCard : Claim7 := { stood := { row := fnZipDropUptoRow, standIns := [], harness := (true, "cef34c8af0c13faf0f26d1feeff4566cbbcc409f4ea2f94d5c6a725b98be9dbc"), looks := true }, kinds := [], alts := [], laidByText := true, laidKinds := [.data, .handle, .data, .pinned], laidTests := true, laidLooks := .later }
def FnZipDropUptoCardSaid : Prop := Claim7.holds Tryz.pinned (.plain (OpenSpec.upto fnZipDropSpec)) fnZipDropUptoCard

/-- THE SECOND FORM's CARD OF 'laws.FnZipTwice'. -/
def fnZipTwiceUptoCard : Claim7 := { stood := { row := fnZipTwiceUptoRow, standIns := [], harness := (true, "cef34c8af0c13faf0f26d1feeff4566cbbcc409f4ea2f94d5c6a725b98be9dbc"), looks := true }, kinds := [], alts := [], laidByText := true, laidKinds := [.data, .handle, .data, .pinned], laidTests := true, laidLooks := .later }
def FnZipTwiceUptoCardSaid : Prop := Claim7.holds Tryz.pinned (.plain (OpenSpec.upto fnZipTwiceSpec)) fnZipTwiceUptoCard
end Rows
end Go.Proofs.YtckocaibjciplaaGreatDoor
