/-
  DERIVED. GIVEN WITH THE SEED: THE CARDS: each row of YthnekjleaolndaaDoorRows.lean that lists a variable, with what it lists TIED to the program's text (the seventh form; the later family's looks); each row that meets fmt, with fmt's text TOLD by the authors' own Lean function (tested against real Go, not proved from fmt's source: count such statements apart). THE CARD IS WHAT COUNTS. Prove the row's statement (the work); the ties are given (YthnekjleaolndaaDoorTie.lean); close each card by the builder's one call (the guide's Derived/Test/ToyasCard.lean, 'card_holds'). Laid BY PROGRAM, IN A SANDBOX (cutbox-door.mjs). By AI agents, Wed Nov 11 2026. No macro, syntax, notation, axiom, sorry.
-/
import Derived.Test.YthnekjleaolndaaDoorRows
import GoSem.ClaimSeven
namespace Go.Proofs.YthnekjleaolndaaDoor
namespace Rows

/-- THE TIED CARD OF 'laws.FnExactOwnPut'. -/
def fnExactOwnPutCard : Claim7 := { stood := { row := fnExactOwnPutRow, standIns := [], harness := (true, "c496c1a39aa91d3484c76081d5c02a9aff9dc325e5e6a2da308752c6306efeb7"), looks := true }, kinds := [], alts := [], laidByText := true, laidKinds := [.data], laidTests := true, laidLooks := .later }
def FnExactOwnPutCardSaid : Prop := Claim7.holds Tryd.pinned (.plain (OpenSpec.ofChange fnExactOwnPutSpec)) fnExactOwnPutCard

/-- THE TIED CARD OF 'laws.FnExactFlatePut'. -/
def fnExactFlatePutCard : Claim7 := { stood := { row := fnExactFlatePutRow, standIns := [], harness := (true, "c496c1a39aa91d3484c76081d5c02a9aff9dc325e5e6a2da308752c6306efeb7"), looks := true }, kinds := [], alts := [], laidByText := true, laidKinds := [.data], laidTests := true, laidLooks := .later }
def FnExactFlatePutCardSaid : Prop := Claim7.holds Tryd.pinned (.plain (OpenSpec.ofChange fnExactFlatePutSpec)) fnExactFlatePutCard

/-- THE SECOND FORM's CARD OF 'laws.FnExactOwnPut'. -/
def fnExactOwnPutUptoCard : Claim7 := { stood := { row := fnExactOwnPutUptoRow, standIns := [], harness := (true, "c496c1a39aa91d3484c76081d5c02a9aff9dc325e5e6a2da308752c6306efeb7"), looks := true }, kinds := [], alts := [], laidByText := true, laidKinds := [.data], laidTests := true, laidLooks := .later }
def FnExactOwnPutUptoCardSaid : Prop := Claim7.holds Tryd.pinned (.plain (OpenSpec.upto fnExactOwnPutSpec)) fnExactOwnPutUptoCard

/-- THE SECOND FORM's CARD OF 'laws.FnExactFlatePut'. -/
def fnExactFlatePutUptoCard : Claim7 := { stood := { row := fnExactFlatePutUptoRow, standIns := [], harness := (true, "c496c1a39aa91d3484c76081d5c02a9aff9dc325e5e6a2da308752c6306efeb7"), looks := true }, kinds := [], alts := [], laidByText := true, laidKinds := [.data], laidTests := true, laidLooks := .later }
def FnExactFlatePutUptoCardSaid : Prop := Claim7.holds Tryd.pinned (.plain (OpenSpec.upto fnExactFlatePutSpec)) fnExactFlatePutUptoCard
end Rows
end Go.Proofs.YthnekjleaolndaaDoor
