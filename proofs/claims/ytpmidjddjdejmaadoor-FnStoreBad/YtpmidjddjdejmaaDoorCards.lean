/-
  DERIVED. GIVEN WITH THE SEED: THE CARDS: each row of YtpmidjddjdejmaaDoorRows.lean that lists a variable, with what it lists TIED to the program's text (the seventh form; the later family's looks); each row that meets fmt, with fmt's text TOLD by the authors' own Lean function (tested against real Go, not proved from fmt's source: count such statements apart). THE CARD IS WHAT COUNTS. Prove the row's statement (the work); the ties are given (YtpmidjddjdejmaaDoorTie.lean); close each card by the builder's one call (the guide's Derived/Test/ToyasCard.lean, 'card_holds'). Laid BY PROGRAM, IN A SANDBOX (cutbox-door.mjs). By AI agents, Wed Nov 11 2026. No macro, syntax, notation, axiom, sorry.
-/
import Derived.Test.YtpmidjddjdejmaaDoorRows
import GoSem.ClaimSeven
namespace Go.Proofs.YtpmidjddjdejmaaDoor
namespace Rows

/-- THE TIED CARD OF 'laws.FnStore'. -/
def fnStoreCard : Claim7 := { stood := { row := fnStoreRow, standIns := [], harness := (true, "9b5168fc658f2f7ca9c0ed652d1a387db3dd07cf5673c9232f07061614f82736"), looks := true }, kinds := [], alts := [], laidByText := true, laidKinds := [.data], laidTests := true, laidLooks := .later }
def FnStoreCardSaid : Prop := Claim7.holds Tryd.pinned (.plain (OpenSpec.ofChange fnStoreSpec)) fnStoreCard

/-- THE TIED CARD OF 'laws.FnFixed'. -/
def fnFixedCard : Claim7 := { stood := { row := fnFixedRow, standIns := [], harness := (true, "9b5168fc658f2f7ca9c0ed652d1a387db3dd07cf5673c9232f07061614f82736"), looks := true }, kinds := [], alts := [], laidByText := true, laidKinds := [.data], laidTests := true, laidLooks := .later }
def FnFixedCardSaid : Prop := Claim7.holds Tryd.pinned (.plain (OpenSpec.ofChange fnFixedSpec)) fnFixedCard

/-- THE TIED CARD OF 'laws.FnStoreTwo'. -/
def fnStoreTwoCard : Claim7 := { stood := { row := fnStoreTwoRow, standIns := [], harness := (true, "9b5168fc658f2f7ca9c0ed652d1a387db3dd07cf5673c9232f07061614f82736"), looks := true }, kinds := [], alts := [], laidByText := true, laidKinds := [.data], laidTests := true, laidLooks := .later }
def FnStoreTwoCardSaid : Prop := Claim7.holds Tryd.pinned (.plain (OpenSpec.ofChange fnStoreTwoSpec)) fnStoreTwoCard

/-- THE TIED CARD OF 'laws.FnStoreBad'. -/
def fnStoreBadCard : Claim7 := { stood := { row := fnStoreBadRow, standIns := [], harness := (true, "9b5168fc658f2f7ca9c0ed652d1a387db3dd07cf5673c9232f07061614f82736"), looks := true }, kinds := [], alts := [], laidByText := true, laidKinds := [.data], laidTests := true, laidLooks := .later }
def FnStoreBadCardSaid : Prop := Claim7.holds Tryd.pinned (.plain (OpenSpec.ofChange fnStoreBadSpec)) fnStoreBadCard

/-- THE SECOND FORM's CARD OF 'laws.FnStore'. -/
def fnStoreUptoCard : Claim7 := { stood := { row := fnStoreUptoRow, standIns := [], harness := (true, "9b5168fc658f2f7ca9c0ed652d1a387db3dd07cf5673c9232f07061614f82736"), looks := true }, kinds := [], alts := [], laidByText := true, laidKinds := [.data], laidTests := true, laidLooks := .later }
def FnStoreUptoCardSaid : Prop := Claim7.holds Tryd.pinned (.plain (OpenSpec.upto fnStoreSpec)) fnStoreUptoCard

/-- THE SECOND FORM's CARD OF 'laws.FnFixed'. -/
def fnFixedUptoCard : Claim7 := { stood := { row := fnFixedUptoRow, standIns := [], harness := (true, "9b5168fc658f2f7ca9c0ed652d1a387db3dd07cf5673c9232f07061614f82736"), looks := true }, kinds := [], alts := [], laidByText := true, laidKinds := [.data], laidTests := true, laidLooks := .later }
def FnFixedUptoCardSaid : Prop := Claim7.holds Tryd.pinned (.plain (OpenSpec.upto fnFixedSpec)) fnFixedUptoCard

/-- THE SECOND FORM's CARD OF 'laws.FnStoreTwo'. -/
def fnStoreTwoUptoCard : Claim7 := { stood := { row := fnStoreTwoUptoRow, standIns := [], harness := (true, "9b5168fc658f2f7ca9c0ed652d1a387db3dd07cf5673c9232f07061614f82736"), looks := true }, kinds := [], alts := [], laidByText := true, laidKinds := [.data], laidTests := true, laidLooks := .later }
def FnStoreTwoUptoCardSaid : Prop := Claim7.holds Tryd.pinned (.plain (OpenSpec.upto fnStoreTwoSpec)) fnStoreTwoUptoCard

/-- THE SECOND FORM's CARD OF 'laws.FnStoreBad'. -/
def fnStoreBadUptoCard : Claim7 := { stood := { row := fnStoreBadUptoRow, standIns := [], harness := (true, "9b5168fc658f2f7ca9c0ed652d1a387db3dd07cf5673c9232f07061614f82736"), looks := true }, kinds := [], alts := [], laidByText := true, laidKinds := [.data], laidTests := true, laidLooks := .later }
def FnStoreBadUptoCardSaid : Prop := Claim7.holds Tryd.pinned (.plain (OpenSpec.upto fnStoreBadSpec)) fnStoreBadUptoCard
end Rows
end Go.Proofs.YtpmidjddjdejmaaDoor
