/-
  DERIVED. GIVEN WITH THE SEED: THE CARDS: each row of YtfhdadkcophoaaaGreatDoorRows.lean that lists a variable, with what it lists TIED to the program's text (the seventh form; the later family's looks); each row that meets fmt, with fmt's text TOLD by the authors' own Lean function (tested against real Go, not proved from fmt's source: count such statements apart). THE CARD IS WHAT COUNTS. Prove the row's statement (the work); the ties are given (YtfhdadkcophoaaaGreatDoorTie.lean); close each card by the builder's one call (the guide's Derived/Test/ToyasCard.lean, 'card_holds'). Laid BY PROGRAM, IN A SANDBOX (cutbox-door.mjs). By AI agents, Wed Nov 11 2026. No macro, syntax, notation, axiom, sorry.
-/
import Derived.Test.YtfhdadkcophoaaaGreatDoorRows
import GoSem.ClaimSeven
namespace Go.Proofs.YtfhdadkcophoaaaGreatDoor
namespace Rows

/-- THE TIED CARD OF 'laws.FnZipNone'. -/
def fnZipNoneCard : Claim7 := { stood := { row := fnZipNoneRow, standIns := [], harness := (true, "0185f0ebc97a8f7ab45e6731224023e6c20acb09b0fb65323e58fd0b2c01f292"), looks := true }, kinds := [], alts := [], laidByText := true, laidKinds := [.data, .handle, .data, .pinned], laidTests := true, laidLooks := .later }
def FnZipNoneCardSaid : Prop := Claim7.holds Tryz.pinned (.plain (OpenSpec.ofChange fnZipNoneSpec)) fnZipNoneCard

/-- THE TIED CARD OF 'laws.FnZipUnder'. -/
def fnZipUnderCard : Claim7 := { stood := { row := fnZipUnderRow, standIns := [], harness := (true, "0185f0ebc97a8f7ab45e6731224023e6c20acb09b0fb65323e58fd0b2c01f292"), looks := true }, kinds := [], alts := [], laidByText := true, laidKinds := [.data, .handle, .data, .pinned], laidTests := true, laidLooks := .later }
def FnZipUnderCardSaid : Prop := Claim7.holds Tryz.pinned (.plain (OpenSpec.ofChange fnZipUnderSpec)) fnZipUnderCard

/-- THE TIED CARD OF 'laws.FnZipFull'. -/
def fnZipFullCard : Claim7 := { stood := { row := fnZipFullRow, standIns := [], harness := (true, "0185f0ebc97a8f7ab45e6731224023e6c20acb09b0fb65323e58fd0b2c01f292"), looks := true }, kinds := [], alts := [], laidByText := true, laidKinds := [.data, .handle, .data, .pinned], laidTests := true, laidLooks := .later }
def FnZipFullCardSaid : Prop := Claim7.holds Tryz.pinned (.plain (OpenSpec.ofChange fnZipFullSpec)) fnZipFullCard

/-- THE TIED CARD OF 'laws.FnZipDropAll'. -/
def fnZipDropAllCard : Claim7 := { stood := { row := fnZipDropAllRow, standIns := [], harness := (true, "0185f0ebc97a8f7ab45e6731224023e6c20acb09b0fb65323e58fd0b2c01f292"), looks := true }, kinds := [], alts := [], laidByText := true, laidKinds := [.data, .handle, .data, .pinned], laidTests := true, laidLooks := .later }
def FnZipDropAllCardSaid : Prop := Claim7.holds Tryz.pinned (.plain (OpenSpec.ofChange fnZipDropAllSpec)) fnZipDropAllCard

/-- THE TIED CARD OF 'laws.FnZipMoveSame'. -/
def fnZipMoveSameCard : Claim7 := { stood := { row := fnZipMoveSameRow, standIns := [], harness := (true, "0185f0ebc97a8f7ab45e6731224023e6c20acb09b0fb65323e58fd0b2c01f292"), looks := true }, kinds := [], alts := [], laidByText := true, laidKinds := [.data, .handle, .data, .pinned], laidTests := true, laidLooks := .later }
def FnZipMoveSameCardSaid : Prop := Claim7.holds Tryz.pinned (.plain (OpenSpec.ofChange fnZipMoveSameSpec)) fnZipMoveSameCard

/-- THE TIED CARD OF 'laws.FnZipJoinSelf'. -/
def fnZipJoinSelfCard : Claim7 := { stood := { row := fnZipJoinSelfRow, standIns := [], harness := (true, "0185f0ebc97a8f7ab45e6731224023e6c20acb09b0fb65323e58fd0b2c01f292"), looks := true }, kinds := [], alts := [], laidByText := true, laidKinds := [.data, .handle, .data, .pinned], laidTests := true, laidLooks := .later }
def FnZipJoinSelfCardSaid : Prop := Claim7.holds Tryz.pinned (.plain (OpenSpec.ofChange fnZipJoinSelfSpec)) fnZipJoinSelfCard

/-- THE SECOND FORM's CARD OF 'laws.FnZipNone'. -/
def fnZipNoneUptoCard : Claim7 := { stood := { row := fnZipNoneUptoRow, standIns := [], harness := (true, "0185f0ebc97a8f7ab45e6731224023e6c20acb09b0fb65323e58fd0b2c01f292"), looks := true }, kinds := [], alts := [], laidByText := true, laidKinds := [.data, .handle, .data, .pinned], laidTests := true, laidLooks := .later }
def FnZipNoneUptoCardSaid : Prop := Claim7.holds Tryz.pinned (.plain (OpenSpec.upto fnZipNoneSpec)) fnZipNoneUptoCard

/-- THE SECOND FORM's CARD OF 'laws.FnZipUnder'. -/
def fnZipUnderUptoCard : Claim7 := { stood := { row := fnZipUnderUptoRow, standIns := [], harness := (true, "0185f0ebc97a8f7ab45e6731224023e6c20acb09b0fb65323e58fd0b2c01f292"), looks := true }, kinds := [], alts := [], laidByText := true, laidKinds := [.data, .handle, .data, .pinned], laidTests := true, laidLooks := .later }
def FnZipUnderUptoCardSaid : Prop := Claim7.holds Tryz.pinned (.plain (OpenSpec.upto fnZipUnderSpec)) fnZipUnderUptoCard

/-- THE SECOND FORM's CARD OF 'laws.FnZipFull'. -/
def fnZipFullUptoCard : Claim7 := { stood := { row := fnZipFullUptoRow, standIns := [], harness := (true, "0185f0ebc97a8f7ab45e6731224023e6c20acb09b0fb65323e58fd0b2c01f292"), looks := true }, kinds := [], alts := [], laidByText := true, laidKinds := [.data, .handle, .data, .pinned], laidTests := true, laidLooks := .later }
def FnZipFullUptoCardSaid : Prop := Claim7.holds Tryz.pinned (.plain (OpenSpec.upto fnZipFullSpec)) fnZipFullUptoCard

/-- THE SECOND FORM's CARD OF 'laws.FnZipDropAll'. -/
def fnZipDropAllUptoCard : Claim7 := { stood := { row := fnZipDropAllUptoRow, standIns := [], harness := (true, "0185f0ebc97a8f7ab45e6731224023e6c20acb09b0fb65323e58fd0b2c01f292"), looks := true }, kinds := [], alts := [], laidByText := true, laidKinds := [.data, .handle, .data, .pinned], laidTests := true, laidLooks := .later }
def FnZipDropAllUptoCardSaid : Prop := Claim7.holds Tryz.pinned (.plain (OpenSpec.upto fnZipDropAllSpec)) fnZipDropAllUptoCard

/-- THE SECOND FORM's CARD OF 'laws.FnZipMoveSame'. -/
def fnZipMoveSameUptoCard : Claim7 := { stood := { row := fnZipMoveSameUptoRow, standIns := [], harness := (true, "0185f0ebc97a8f7ab45e6731224023e6c20acb09b0fb65323e58fd0b2c01f292"), looks := true }, kinds := [], alts := [], laidByText := true, laidKinds := [.data, .handle, .data, .pinned], laidTests := true, laidLooks := .later }
def FnZipMoveSameUptoCardSaid : Prop := Claim7.holds Tryz.pinned (.plain (OpenSpec.upto fnZipMoveSameSpec)) fnZipMoveSameUptoCard

/-- THE SECOND FORM's CARD OF 'laws.FnZipJoinSelf'. -/
def fnZipJoinSelfUptoCard : Claim7 := { stood := { row := fnZipJoinSelfUptoRow, standIns := [], harness := (true, "0185f0ebc97a8f7ab45e6731224023e6c20acb09b0fb65323e58fd0b2c01f292"), looks := true }, kinds := [], alts := [], laidByText := true, laidKinds := [.data, .handle, .data, .pinned], laidTests := true, laidLooks := .later }
def FnZipJoinSelfUptoCardSaid : Prop := Claim7.holds Tryz.pinned (.plain (OpenSpec.upto fnZipJoinSelfSpec)) fnZipJoinSelfUptoCard
end Rows
end Go.Proofs.YtfhdadkcophoaaaGreatDoor
