/-
  DERIVED. GIVEN WITH THE SEED: THE CARDS: each row of YtpmidjddjdejmaaGreatDoorRows.lean that lists a variable, with what it lists TIED to the program's text (the seventh form; the later family's looks); each row that meets fmt, with fmt's text TOLD by the authors' own Lean function (tested against real Go, not proved from fmt's source: count such statements apart). THE CARD IS WHAT COUNTS. Prove the row's statement (the work); the ties are given (YtpmidjddjdejmaaGreatDoorTie.lean); close each card by the builder's one call (the guide's Derived/Test/ToyasCard.lean, 'card_holds'). Laid BY PROGRAM, IN A SANDBOX (cutbox-door.mjs). By AI agents, Wed Nov 11 2026. No macro, syntax, notation, axiom, sorry.
-/
import Derived.Test.YtpmidjddjdejmaaGreatDoorRows
import GoSem.ClaimSeven
namespace Go.Proofs.YtpmidjddjdejmaaGreatDoor
namespace Rows

/-- THE TIED CARD OF 'laws.FnOwn'. -/
def fnOwnCard : Claim7 := { stood := { row := fnOwnRow, standIns := [], harness := (true, "f7b554ad6d7267885c0dd22847609d19287a17a817676167375a83f1d6a09353"), looks := true }, kinds := [], alts := [], laidByText := true, laidKinds := [.data], laidTests := true, laidLooks := .later }
def FnOwnCardSaid : Prop := Claim7.holds Tryz.pinned (.plain (OpenSpec.ofChange fnOwnSpec)) fnOwnCard

/-- THE TIED CARD OF 'laws.FnFlate'. -/
def fnFlateCard : Claim7 := { stood := { row := fnFlateRow, standIns := [], harness := (true, "f7b554ad6d7267885c0dd22847609d19287a17a817676167375a83f1d6a09353"), looks := true }, kinds := [], alts := [], laidByText := true, laidKinds := [.data], laidTests := true, laidLooks := .later }
def FnFlateCardSaid : Prop := Claim7.holds Tryz.pinned (.plain (OpenSpec.ofChange fnFlateSpec)) fnFlateCard

/-- THE TIED CARD OF 'laws.FnFlateGet'. -/
def fnFlateGetCard : Claim7 := { stood := { row := fnFlateGetRow, standIns := [], harness := (true, "f7b554ad6d7267885c0dd22847609d19287a17a817676167375a83f1d6a09353"), looks := true }, kinds := [], alts := [], laidByText := true, laidKinds := [.data], laidTests := true, laidLooks := .later }
def FnFlateGetCardSaid : Prop := Claim7.holds Tryz.pinned (.plain (OpenSpec.ofChange fnFlateGetSpec)) fnFlateGetCard

/-- THE TIED CARD OF 'laws.FnFlateMany'. -/
def fnFlateManyCard : Claim7 := { stood := { row := fnFlateManyRow, standIns := [], harness := (true, "f7b554ad6d7267885c0dd22847609d19287a17a817676167375a83f1d6a09353"), looks := true }, kinds := [], alts := [], laidByText := true, laidKinds := [.data], laidTests := true, laidLooks := .later }
def FnFlateManyCardSaid : Prop := Claim7.holds Tryz.pinned (.plain (OpenSpec.ofChange fnFlateManySpec)) fnFlateManyCard

/-- THE TIED CARD OF 'laws.FnFlateBad'. -/
def fnFlateBadCard : Claim7 := { stood := { row := fnFlateBadRow, standIns := [], harness := (true, "f7b554ad6d7267885c0dd22847609d19287a17a817676167375a83f1d6a09353"), looks := true }, kinds := [], alts := [], laidByText := true, laidKinds := [.data], laidTests := true, laidLooks := .later }
def FnFlateBadCardSaid : Prop := Claim7.holds Tryz.pinned (.plain (OpenSpec.ofChange fnFlateBadSpec)) fnFlateBadCard

/-- THE TIED CARD OF 'laws.FnFlateKinds'. -/
def fnFlateKindsCard : Claim7 := { stood := { row := fnFlateKindsRow, standIns := [], harness := (true, "f7b554ad6d7267885c0dd22847609d19287a17a817676167375a83f1d6a09353"), looks := true }, kinds := [], alts := [], laidByText := true, laidKinds := [.data], laidTests := true, laidLooks := .later }
def FnFlateKindsCardSaid : Prop := Claim7.holds Tryz.pinned (.plain (OpenSpec.ofChange fnFlateKindsSpec)) fnFlateKindsCard

/-- THE TIED CARD OF 'laws.FnFlateTwo'. -/
def fnFlateTwoCard : Claim7 := { stood := { row := fnFlateTwoRow, standIns := [], harness := (true, "f7b554ad6d7267885c0dd22847609d19287a17a817676167375a83f1d6a09353"), looks := true }, kinds := [], alts := [], laidByText := true, laidKinds := [.data], laidTests := true, laidLooks := .later }
def FnFlateTwoCardSaid : Prop := Claim7.holds Tryz.pinned (.plain (OpenSpec.ofChange fnFlateTwoSpec)) fnFlateTwoCard

/-- THE TIED CARD OF 'laws.FnFlateShort'. -/
def fnFlateShortCard : Claim7 := { stood := { row := fnFlateShortRow, standIns := [], harness := (true, "f7b554ad6d7267885c0dd22847609d19287a17a817676167375a83f1d6a09353"), looks := true }, kinds := [], alts := [], laidByText := true, laidKinds := [.data], laidTests := true, laidLooks := .later }
def FnFlateShortCardSaid : Prop := Claim7.holds Tryz.pinned (.plain (OpenSpec.ofChange fnFlateShortSpec)) fnFlateShortCard

/-- THE SECOND FORM's CARD OF 'laws.FnOwn'. -/
def fnOwnUptoCard : Claim7 := { stood := { row := fnOwnUptoRow, standIns := [], harness := (true, "f7b554ad6d7267885c0dd22847609d19287a17a817676167375a83f1d6a09353"), looks := true }, kinds := [], alts := [], laidByText := true, laidKinds := [.data], laidTests := true, laidLooks := .later }
def FnOwnUptoCardSaid : Prop := Claim7.holds Tryz.pinned (.plain (OpenSpec.upto fnOwnSpec)) fnOwnUptoCard

/-- THE SECOND FORM's CARD OF 'laws.FnFlate'. -/
def fnFlateUptoCard : Claim7 := { stood := { row := fnFlateUptoRow, standIns := [], harness := (true, "f7b554ad6d7267885c0dd22847609d19287a17a817676167375a83f1d6a09353"), looks := true }, kinds := [], alts := [], laidByText := true, laidKinds := [.data], laidTests := true, laidLooks := .later }
def FnFlateUptoCardSaid : Prop := Claim7.holds Tryz.pinned (.plain (OpenSpec.upto fnFlateSpec)) fnFlateUptoCard

/-- THE SECOND FORM's CARD OF 'laws.FnFlateGet'. -/
def fnFlateGetUptoCard : Claim7 := { stood := { row := fnFlateGetUptoRow, standIns := [], harness := (true, "f7b554ad6d7267885c0dd22847609d19287a17a817676167375a83f1d6a09353"), looks := true }, kinds := [], alts := [], laidByText := true, laidKinds := [.data], laidTests := true, laidLooks := .later }
def FnFlateGetUptoCardSaid : Prop := Claim7.holds Tryz.pinned (.plain (OpenSpec.upto fnFlateGetSpec)) fnFlateGetUptoCard

/-- THE SECOND FORM's CARD OF 'laws.FnFlateMany'. -/
def fnFlateManyUptoCard : Claim7 := { stood := { row := fnFlateManyUptoRow, standIns := [], harness := (true, "f7b554ad6d7267885c0dd22847609d19287a17a817676167375a83f1d6a09353"), looks := true }, kinds := [], alts := [], laidByText := true, laidKinds := [.data], laidTests := true, laidLooks := .later }
def FnFlateManyUptoCardSaid : Prop := Claim7.holds Tryz.pinned (.plain (OpenSpec.upto fnFlateManySpec)) fnFlateManyUptoCard

/-- THE SECOND FORM's CARD OF 'laws.FnFlateBad'. -/
def fnFlateBadUptoCard : Claim7 := { stood := { row := fnFlateBadUptoRow, standIns := [], harness := (true, "f7b554ad6d7267885c0dd22847609d19287a17a817676167375a83f1d6a09353"), looks := true }, kinds := [], alts := [], laidByText := true, laidKinds := [.data], laidTests := true, laidLooks := .later }
def FnFlateBadUptoCardSaid : Prop := Claim7.holds Tryz.pinned (.plain (OpenSpec.upto fnFlateBadSpec)) fnFlateBadUptoCard

/-- THE SECOND FORM's CARD OF 'laws.FnFlateKinds'. -/
def fnFlateKindsUptoCard : Claim7 := { stood := { row := fnFlateKindsUptoRow, standIns := [], harness := (true, "f7b554ad6d7267885c0dd22847609d19287a17a817676167375a83f1d6a09353"), looks := true }, kinds := [], alts := [], laidByText := true, laidKinds := [.data], laidTests := true, laidLooks := .later }
def FnFlateKindsUptoCardSaid : Prop := Claim7.holds Tryz.pinned (.plain (OpenSpec.upto fnFlateKindsSpec)) fnFlateKindsUptoCard

/-- THE SECOND FORM's CARD OF 'laws.FnFlateTwo'. -/
def fnFlateTwoUptoCard : Claim7 := { stood := { row := fnFlateTwoUptoRow, standIns := [], harness := (true, "f7b554ad6d7267885c0dd22847609d19287a17a817676167375a83f1d6a09353"), looks := true }, kinds := [], alts := [], laidByText := true, laidKinds := [.data], laidTests := true, laidLooks := .later }
def FnFlateTwoUptoCardSaid : Prop := Claim7.holds Tryz.pinned (.plain (OpenSpec.upto fnFlateTwoSpec)) fnFlateTwoUptoCard

/-- THE SECOND FORM's CARD OF 'laws.FnFlateShort'. -/
def fnFlateShortUptoCard : Claim7 := { stood := { row := fnFlateShortUptoRow, standIns := [], harness := (true, "f7b554ad6d7267885c0dd22847609d19287a17a817676167375a83f1d6a09353"), looks := true }, kinds := [], alts := [], laidByText := true, laidKinds := [.data], laidTests := true, laidLooks := .later }
def FnFlateShortUptoCardSaid : Prop := Claim7.holds Tryz.pinned (.plain (OpenSpec.upto fnFlateShortSpec)) fnFlateShortUptoCard
end Rows
end Go.Proofs.YtpmidjddjdejmaaGreatDoor
