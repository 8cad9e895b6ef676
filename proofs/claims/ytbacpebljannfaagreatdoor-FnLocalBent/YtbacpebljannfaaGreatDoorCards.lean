/-
  DERIVED. GIVEN WITH THE SEED: THE CARDS: each row of YtbacpebljannfaaGreatDoorRows.lean that lists a variable, with what it lists TIED to the program's text (the seventh form; the later family's looks); each row that meets fmt, with fmt's text TOLD by the authors' own Lean function (tested against real Go, not proved from fmt's source: count such statements apart). THE CARD IS WHAT COUNTS. Prove the row's statement (the work); the ties are given (YtbacpebljannfaaGreatDoorTie.lean); close each card by the builder's one call (the guide's Derived/Test/ToyasCard.lean, 'card_holds'). Laid BY PROGRAM, IN A SANDBOX (cutbox-door.mjs). By AI agents, Wed Nov 11 2026. No macro, syntax, notation, axiom, sorry.
-/
import Derived.Test.YtbacpebljannfaaGreatDoorRows
import GoSem.ClaimSeven
namespace Go.Proofs.YtbacpebljannfaaGreatDoor
namespace Rows

/-- THE TIED CARD OF 'laws.FnExactLocalPut'. -/
def fnExactLocalPutCard : Claim7 := { stood := { row := fnExactLocalPutRow, standIns := [], harness := (true, "40b3d7091b012f48f4d26b5f569d966aee7363f2e23af395d6ef1562e50ef490"), looks := true }, kinds := [], alts := [], laidByText := true, laidKinds := [.data, .data, .pinned], laidTests := true, laidLooks := .later }
def FnExactLocalPutCardSaid : Prop := Claim7.holds Tryz.pinned (.plain (OpenSpec.ofChange fnExactLocalPutSpec)) fnExactLocalPutCard

/-- THE TIED CARD OF 'laws.FnLocalShort'. -/
def fnLocalShortCard : Claim7 := { stood := { row := fnLocalShortRow, standIns := [], harness := (true, "40b3d7091b012f48f4d26b5f569d966aee7363f2e23af395d6ef1562e50ef490"), looks := true }, kinds := [], alts := [], laidByText := true, laidKinds := [.data, .data, .pinned], laidTests := true, laidLooks := .later }
def FnLocalShortCardSaid : Prop := Claim7.holds Tryz.pinned (.plain (OpenSpec.ofChange fnLocalShortSpec)) fnLocalShortCard

/-- THE TIED CARD OF 'laws.FnExactLocalGet'. -/
def fnExactLocalGetCard : Claim7 := { stood := { row := fnExactLocalGetRow, standIns := [], harness := (true, "40b3d7091b012f48f4d26b5f569d966aee7363f2e23af395d6ef1562e50ef490"), looks := true }, kinds := [], alts := [], laidByText := true, laidKinds := [.data, .data, .pinned], laidTests := true, laidLooks := .later }
def FnExactLocalGetCardSaid : Prop := Claim7.holds Tryz.pinned (.plain (OpenSpec.ofChange fnExactLocalGetSpec)) fnExactLocalGetCard

/-- THE TIED CARD OF 'laws.FnLocal'. -/
def fnLocalCard : Claim7 := { stood := { row := fnLocalRow, standIns := [], harness := (true, "40b3d7091b012f48f4d26b5f569d966aee7363f2e23af395d6ef1562e50ef490"), looks := true }, kinds := [], alts := [], laidByText := true, laidKinds := [.data, .data, .pinned], laidTests := true, laidLooks := .later }
def FnLocalCardSaid : Prop := Claim7.holds Tryz.pinned (.plain (OpenSpec.ofChange fnLocalSpec)) fnLocalCard

/-- THE TIED CARD OF 'laws.FnLocalGet'. -/
def fnLocalGetCard : Claim7 := { stood := { row := fnLocalGetRow, standIns := [], harness := (true, "40b3d7091b012f48f4d26b5f569d966aee7363f2e23af395d6ef1562e50ef490"), looks := true }, kinds := [], alts := [], laidByText := true, laidKinds := [.data, .data, .pinned], laidTests := true, laidLooks := .later }
def FnLocalGetCardSaid : Prop := Claim7.holds Tryz.pinned (.plain (OpenSpec.ofChange fnLocalGetSpec)) fnLocalGetCard

/-- THE TIED CARD OF 'laws.FnLocalTwo'. -/
def fnLocalTwoCard : Claim7 := { stood := { row := fnLocalTwoRow, standIns := [], harness := (true, "40b3d7091b012f48f4d26b5f569d966aee7363f2e23af395d6ef1562e50ef490"), looks := true }, kinds := [], alts := [], laidByText := true, laidKinds := [.data, .data, .pinned], laidTests := true, laidLooks := .later }
def FnLocalTwoCardSaid : Prop := Claim7.holds Tryz.pinned (.plain (OpenSpec.ofChange fnLocalTwoSpec)) fnLocalTwoCard

/-- THE TIED CARD OF 'laws.FnLocalBent'. -/
def fnLocalBentCard : Claim7 := { stood := { row := fnLocalBentRow, standIns := [], harness := (true, "40b3d7091b012f48f4d26b5f569d966aee7363f2e23af395d6ef1562e50ef490"), looks := true }, kinds := [], alts := [], laidByText := true, laidKinds := [.data, .data, .pinned], laidTests := true, laidLooks := .later }
def FnLocalBentCardSaid : Prop := Claim7.holds Tryz.pinned (.plain (OpenSpec.ofChange fnLocalBentSpec)) fnLocalBentCard

/-- THE SECOND FORM's CARD OF 'laws.FnExactLocalPut'. -/
def fnExactLocalPutUptoCard : Claim7 := { stood := { row := fnExactLocalPutUptoRow, standIns := [], harness := (true, "40b3d7091b012f48f4d26b5f569d966aee7363f2e23af395d6ef1562e50ef490"), looks := true }, kinds := [], alts := [], laidByText := true, laidKinds := [.data, .data, .pinned], laidTests := true, laidLooks := .later }
def FnExactLocalPutUptoCardSaid : Prop := Claim7.holds Tryz.pinned (.plain (OpenSpec.upto fnExactLocalPutSpec)) fnExactLocalPutUptoCard

/-- THE SECOND FORM's CARD OF 'laws.FnLocalShort'. -/
def fnLocalShortUptoCard : Claim7 := { stood := { row := fnLocalShortUptoRow, standIns := [], harness := (true, "40b3d7091b012f48f4d26b5f569d966aee7363f2e23af395d6ef1562e50ef490"), looks := true }, kinds := [], alts := [], laidByText := true, laidKinds := [.data, .data, .pinned], laidTests := true, laidLooks := .later }
def FnLocalShortUptoCardSaid : Prop := Claim7.holds Tryz.pinned (.plain (OpenSpec.upto fnLocalShortSpec)) fnLocalShortUptoCard

/-- THE SECOND FORM's CARD OF 'laws.FnExactLocalGet'. -/
def fnExactLocalGetUptoCard : Claim7 := { stood := { row := fnExactLocalGetUptoRow, standIns := [], harness := (true, "40b3d7091b012f48f4d26b5f569d966aee7363f2e23af395d6ef1562e50ef490"), looks := true }, kinds := [], alts := [], laidByText := true, laidKinds := [.data, .data, .pinned], laidTests := true, laidLooks := .later }
def FnExactLocalGetUptoCardSaid : Prop := Claim7.holds Tryz.pinned (.plain (OpenSpec.upto fnExactLocalGetSpec)) fnExactLocalGetUptoCard

/-- THE SECOND FORM's CARD OF 'laws.FnLocal'. -/
def fnLocalUptoCard : Claim7 := { stood := { row := fnLocalUptoRow, standIns := [], harness := (true, "40b3d7091b012f48f4d26b5f569d966aee7363f2e23af395d6ef1562e50ef490"), looks := true }, kinds := [], alts := [], laidByText := true, laidKinds := [.data, .data, .pinned], laidTests := true, laidLooks := .later }
def FnLocalUptoCardSaid : Prop := Claim7.holds Tryz.pinned (.plain (OpenSpec.upto fnLocalSpec)) fnLocalUptoCard

/-- THE SECOND FORM's CARD OF 'laws.FnLocalGet'. -/
def fnLocalGetUptoCard : Claim7 := { stood := { row := fnLocalGetUptoRow, standIns := [], harness := (true, "40b3d7091b012f48f4d26b5f569d966aee7363f2e23af395d6ef1562e50ef490"), looks := true }, kinds := [], alts := [], laidByText := true, laidKinds := [.data, .data, .pinned], laidTests := true, laidLooks := .later }
def FnLocalGetUptoCardSaid : Prop := Claim7.holds Tryz.pinned (.plain (OpenSpec.upto fnLocalGetSpec)) fnLocalGetUptoCard

/-- THE SECOND FORM's CARD OF 'laws.FnLocalTwo'. -/
def fnLocalTwoUptoCard : Claim7 := { stood := { row := fnLocalTwoUptoRow, standIns := [], harness := (true, "40b3d7091b012f48f4d26b5f569d966aee7363f2e23af395d6ef1562e50ef490"), looks := true }, kinds := [], alts := [], laidByText := true, laidKinds := [.data, .data, .pinned], laidTests := true, laidLooks := .later }
def FnLocalTwoUptoCardSaid : Prop := Claim7.holds Tryz.pinned (.plain (OpenSpec.upto fnLocalTwoSpec)) fnLocalTwoUptoCard

/-- THE SECOND FORM's CARD OF 'laws.FnLocalBent'. -/
def fnLocalBentUptoCard : Claim7 := { stood := { row := fnLocalBentUptoRow, standIns := [], harness := (true, "40b3d7091b012f48f4d26b5f569d966aee7363f2e23af395d6ef1562e50ef490"), looks := true }, kinds := [], alts := [], laidByText := true, laidKinds := [.data, .data, .pinned], laidTests := true, laidLooks := .later }
def FnLocalBentUptoCardSaid : Prop := Claim7.holds Tryz.pinned (.plain (OpenSpec.upto fnLocalBentSpec)) fnLocalBentUptoCard
end Rows
end Go.Proofs.YtbacpebljannfaaGreatDoor
