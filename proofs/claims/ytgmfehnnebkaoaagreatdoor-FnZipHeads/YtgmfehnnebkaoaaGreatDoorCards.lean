/-
  DERIVED. GIVEN WITH THE SEED: THE CARDS: each row of YtgmfehnnebkaoaaGreatDoorRows.lean that lists a variable, with what it lists TIED to the program's text (the seventh form; the later family's looks); each row that meets fmt, with fmt's text TOLD by the authors' own Lean function (tested against real Go, not proved from fmt's source: count such statements apart). THE CARD IS WHAT COUNTS. Prove the row's statement (the work); the ties are given (YtgmfehnnebkaoaaGreatDoorTie.lean); close each card by the builder's one call (the guide's Derived/Test/ToyasCard.lean, 'card_holds'). Laid BY PROGRAM, IN A SANDBOX (cutbox-door.mjs). By AI agents, Wed Nov 11 2026. No macro, syntax, notation, axiom, sorry.
-/
import Derived.Test.YtgmfehnnebkaoaaGreatDoorRows
import GoSem.ClaimSeven
namespace Go.Proofs.YtgmfehnnebkaoaaGreatDoor
namespace Rows

/-- THE TIED CARD OF 'laws.FnZip'. -/
def fnZipCard : Claim7 := { stood := { row := fnZipRow, standIns := [], harness := (true, "b13d742c1ca3ac1eaf08d02fc339e497681eb6a91f0de6a2055c8a5091a5c25b"), looks := true }, kinds := [], alts := [], laidByText := true, laidKinds := [.data, .handle, .data, .pinned], laidTests := true, laidLooks := .later }
def FnZipCardSaid : Prop := Claim7.holds Tryz.pinned (.plain (OpenSpec.ofChange fnZipSpec)) fnZipCard

/-- THE TIED CARD OF 'laws.FnZipCut'. -/
def fnZipCutCard : Claim7 := { stood := { row := fnZipCutRow, standIns := [], harness := (true, "b13d742c1ca3ac1eaf08d02fc339e497681eb6a91f0de6a2055c8a5091a5c25b"), looks := true }, kinds := [], alts := [], laidByText := true, laidKinds := [.data, .handle, .data, .pinned], laidTests := true, laidLooks := .later }
def FnZipCutCardSaid : Prop := Claim7.holds Tryz.pinned (.plain (OpenSpec.ofChange fnZipCutSpec)) fnZipCutCard

/-- THE TIED CARD OF 'laws.FnDiskNew'. -/
def fnDiskNewCard : Claim7 := { stood := { row := fnDiskNewRow, standIns := [], harness := (true, "b13d742c1ca3ac1eaf08d02fc339e497681eb6a91f0de6a2055c8a5091a5c25b"), looks := true }, kinds := [], alts := [], laidByText := true, laidKinds := [.data, .data, .data, .data, .handle, .data, .pinned], laidTests := true, laidLooks := .later }
def FnDiskNewCardSaid : Prop := Claim7.holds Tryz.pinned (.plain (OpenSpec.ofChange fnDiskNewSpec)) fnDiskNewCard

/-- THE TIED CARD OF 'laws.FnZipOrder'. -/
def fnZipOrderCard : Claim7 := { stood := { row := fnZipOrderRow, standIns := [], harness := (true, "b13d742c1ca3ac1eaf08d02fc339e497681eb6a91f0de6a2055c8a5091a5c25b"), looks := true }, kinds := [], alts := [], laidByText := true, laidKinds := [.data, .handle, .data, .pinned], laidTests := true, laidLooks := .later }
def FnZipOrderCardSaid : Prop := Claim7.holds Tryz.pinned (.plain (OpenSpec.ofChange fnZipOrderSpec)) fnZipOrderCard

/-- THE TIED CARD OF 'laws.FnZipHeads'. -/
def fnZipHeadsCard : Claim7 := { stood := { row := fnZipHeadsRow, standIns := [], harness := (true, "b13d742c1ca3ac1eaf08d02fc339e497681eb6a91f0de6a2055c8a5091a5c25b"), looks := true }, kinds := [], alts := [], laidByText := true, laidKinds := [.data, .handle, .data, .pinned], laidTests := true, laidLooks := .later }
def FnZipHeadsCardSaid : Prop := Claim7.holds Tryz.pinned (.plain (OpenSpec.ofChange fnZipHeadsSpec)) fnZipHeadsCard

/-- THE SECOND FORM's CARD OF 'laws.FnZip'. -/
def fnZipUptoCard : Claim7 := { stood := { row := fnZipUptoRow, standIns := [], harness := (true, "b13d742c1ca3ac1eaf08d02fc339e497681eb6a91f0de6a2055c8a5091a5c25b"), looks := true }, kinds := [], alts := [], laidByText := true, laidKinds := [.data, .handle, .data, .pinned], laidTests := true, laidLooks := .later }
def FnZipUptoCardSaid : Prop := Claim7.holds Tryz.pinned (.plain (OpenSpec.upto fnZipSpec)) fnZipUptoCard

/-- THE SECOND FORM's CARD OF 'laws.FnZipCut'. -/
def fnZipCutUptoCard : Claim7 := { stood := { row := fnZipCutUptoRow, standIns := [], harness := (true, "b13d742c1ca3ac1eaf08d02fc339e497681eb6a91f0de6a2055c8a5091a5c25b"), looks := true }, kinds := [], alts := [], laidByText := true, laidKinds := [.data, .handle, .data, .pinned], laidTests := true, laidLooks := .later }
def FnZipCutUptoCardSaid : Prop := Claim7.holds Tryz.pinned (.plain (OpenSpec.upto fnZipCutSpec)) fnZipCutUptoCard

/-- THE SECOND FORM's CARD OF 'laws.FnDiskNew'. -/
def fnDiskNewUptoCard : Claim7 := { stood := { row := fnDiskNewUptoRow, standIns := [], harness := (true, "b13d742c1ca3ac1eaf08d02fc339e497681eb6a91f0de6a2055c8a5091a5c25b"), looks := true }, kinds := [], alts := [], laidByText := true, laidKinds := [.data, .data, .data, .data, .handle, .data, .pinned], laidTests := true, laidLooks := .later }
def FnDiskNewUptoCardSaid : Prop := Claim7.holds Tryz.pinned (.plain (OpenSpec.upto fnDiskNewSpec)) fnDiskNewUptoCard

/-- THE SECOND FORM's CARD OF 'laws.FnZipOrder'. -/
def fnZipOrderUptoCard : Claim7 := { stood := { row := fnZipOrderUptoRow, standIns := [], harness := (true, "b13d742c1ca3ac1eaf08d02fc339e497681eb6a91f0de6a2055c8a5091a5c25b"), looks := true }, kinds := [], alts := [], laidByText := true, laidKinds := [.data, .handle, .data, .pinned], laidTests := true, laidLooks := .later }
def FnZipOrderUptoCardSaid : Prop := Claim7.holds Tryz.pinned (.plain (OpenSpec.upto fnZipOrderSpec)) fnZipOrderUptoCard

/-- THE SECOND FORM's CARD OF 'laws.FnZipHeads'. -/
def fnZipHeadsUptoCard : Claim7 := { stood := { row := fnZipHeadsUptoRow, standIns := [], harness := (true, "b13d742c1ca3ac1eaf08d02fc339e497681eb6a91f0de6a2055c8a5091a5c25b"), looks := true }, kinds := [], alts := [], laidByText := true, laidKinds := [.data, .handle, .data, .pinned], laidTests := true, laidLooks := .later }
def FnZipHeadsUptoCardSaid : Prop := Claim7.holds Tryz.pinned (.plain (OpenSpec.upto fnZipHeadsSpec)) fnZipHeadsUptoCard
end Rows
end Go.Proofs.YtgmfehnnebkaoaaGreatDoor
