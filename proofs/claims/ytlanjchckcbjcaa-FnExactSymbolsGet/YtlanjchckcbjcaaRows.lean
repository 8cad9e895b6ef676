/-
  No cell of these rows narrows 'for every input' (looked for: loops, veiled, ifaces, maps, wideKeys, modest, calm, conditions, laid).
  DERIVED. THE GIVEN ROWS OF THIS SEAT. 4 by the template 'for every input the law returns true; each argument reads behind the call as it read before'; 0 by the template 'total and deterministic' (their statements: YtlanjchckcbjcaaTotals.lean).
  GIVEN WITH THE SEED: the statements are not yours to turn. If you find one false, say at which input.
  Laid BY PROGRAM, IN A SANDBOX (cutbox-rows.mjs): the forced cells as the released guide's own fill.sh prints them over the translation 8ae747119e6a0406… (all of the seat's roots in one cut). By AI agents, Wed Nov 11 2026. No macro, syntax, notation, axiom, sorry.
-/
import Derived.Test.YtlanjchckcbjcaaChecked
import GoSem.Claim
import GoSem.ClaimJoined
import GoSem.ClaimMapViews
import Derived.JoinedTies
import Derived.KernelRfl
namespace Go.Proofs.Ytlanjchckcbjcaa
/- THE CELL 'sum', in the pinned program and in every row, IS THE sha256 OF THE DUMP (.gsa) THAT YtlanjchckcbjcaaProg.lean LOADS. Nothing in Lean hashes anything: it is a label: what it is worth is what the hold of that sum in a sandbox is worth. -/
noncomputable def Try.pinned : Pinned := { name := "ytlanjchckcbjcaa", sum := "8ae747119e6a0406dc92c75173c803c6f7f463e90e3d8fb41084bcc28cfae025", checked := Try.checked }
namespace Rows
def none {H : Type} : Left H := { results := [], args := [] }

/-- 'laws.FnExactLensOk': WHATEVER THE INPUT: true; the input reads as it did. -/
def fnExactLensOkSpec : ChangeSpec := { name := "fnExactLensOk", fn := fun _ => fun
  | [d] => { results := [.lit (.bool true)], args := [d] }
  | _ => none }
def fnExactLensOkRow : OpenClaim := { program := "ytlanjchckcbjcaa", sum := "8ae747119e6a0406dc92c75173c803c6f7f463e90e3d8fb41084bcc28cfae025", func := "loop.example/corbel/laws.FnExactLensOk", spec := "fnExactLensOk", apart := false }
def FnExactLensOkSaid : Prop := fnExactLensOkRow.holds Try.pinned (OpenSpec.ofChange fnExactLensOkSpec)

/-- ITS FALSE NEIGHBOUR: 'it returns false'. Refute it at one input. -/
def fnExactLensOkWrong : ChangeSpec := { name := "fnExactLensOk", fn := fun _ => fun
  | [d] => { results := [.lit (.bool false)], args := [d] }
  | _ => none }
def FnExactLensOkWrongFalsely : Prop := fnExactLensOkRow.holds Try.pinned (OpenSpec.ofChange fnExactLensOkWrong)

/-- 'laws.FnExactCodesOf': WHATEVER THE INPUT: true; the input reads as it did. -/
def fnExactCodesOfSpec : ChangeSpec := { name := "fnExactCodesOf", fn := fun _ => fun
  | [d] => { results := [.lit (.bool true)], args := [d] }
  | _ => none }
def fnExactCodesOfRow : OpenClaim := { program := "ytlanjchckcbjcaa", sum := "8ae747119e6a0406dc92c75173c803c6f7f463e90e3d8fb41084bcc28cfae025", func := "loop.example/corbel/laws.FnExactCodesOf", spec := "fnExactCodesOf", apart := false }
def FnExactCodesOfSaid : Prop := fnExactCodesOfRow.holds Try.pinned (OpenSpec.ofChange fnExactCodesOfSpec)

/-- ITS FALSE NEIGHBOUR: 'it returns false'. Refute it at one input. -/
def fnExactCodesOfWrong : ChangeSpec := { name := "fnExactCodesOf", fn := fun _ => fun
  | [d] => { results := [.lit (.bool false)], args := [d] }
  | _ => none }
def FnExactCodesOfWrongFalsely : Prop := fnExactCodesOfRow.holds Try.pinned (OpenSpec.ofChange fnExactCodesOfWrong)

/-- 'laws.FnExactSymbolsPut': WHATEVER THE INPUT: true; the input reads as it did. -/
def fnExactSymbolsPutSpec : ChangeSpec := { name := "fnExactSymbolsPut", fn := fun _ => fun
  | [d1, d2] => { results := [.lit (.bool true)], args := [d1, d2] }
  | _ => none }
def fnExactSymbolsPutRow : OpenClaim := { program := "ytlanjchckcbjcaa", sum := "8ae747119e6a0406dc92c75173c803c6f7f463e90e3d8fb41084bcc28cfae025", func := "loop.example/corbel/laws.FnExactSymbolsPut", spec := "fnExactSymbolsPut", unfollowed := true, recurses := true, apart := false }
def FnExactSymbolsPutSaid : Prop := fnExactSymbolsPutRow.holds Try.pinned (OpenSpec.ofChange fnExactSymbolsPutSpec)

/-- ITS FALSE NEIGHBOUR: 'it returns false'. Refute it at one input. -/
def fnExactSymbolsPutWrong : ChangeSpec := { name := "fnExactSymbolsPut", fn := fun _ => fun
  | [d1, d2] => { results := [.lit (.bool false)], args := [d1, d2] }
  | _ => none }
def FnExactSymbolsPutWrongFalsely : Prop := fnExactSymbolsPutRow.holds Try.pinned (OpenSpec.ofChange fnExactSymbolsPutWrong)

/-- 'laws.FnExactSymbolsGet': WHATEVER THE INPUT: true; the input reads as it did. -/
def fnExactSymbolsGetSpec : ChangeSpec := { name := "fnExactSymbolsGet", fn := fun _ => fun
  | [d1, d2, d3] => { results := [.lit (.bool true)], args := [d1, d2, d3] }
  | _ => none }
def fnExactSymbolsGetRow : OpenClaim := { program := "ytlanjchckcbjcaa", sum := "8ae747119e6a0406dc92c75173c803c6f7f463e90e3d8fb41084bcc28cfae025", func := "loop.example/corbel/laws.FnExactSymbolsGet", spec := "fnExactSymbolsGet", apart := false }
def FnExactSymbolsGetSaid : Prop := fnExactSymbolsGetRow.holds Try.pinned (OpenSpec.ofChange fnExactSymbolsGetSpec)

/-- ITS FALSE NEIGHBOUR: 'it returns false'. Refute it at one input. -/
def fnExactSymbolsGetWrong : ChangeSpec := { name := "fnExactSymbolsGet", fn := fun _ => fun
  | [d1, d2, d3] => { results := [.lit (.bool false)], args := [d1, d2, d3] }
  | _ => none }
def FnExactSymbolsGetWrongFalsely : Prop := fnExactSymbolsGetRow.holds Try.pinned (OpenSpec.ofChange fnExactSymbolsGetWrong)

/- THE SECOND FORM. 'bulk': how many values and letters a reading holds, each counted each time it is reached (what is shared counts as often as it is met; a slice's spare places count too). A statement '..UptoSaid' is the law's where the arguments, and the package variables that the reading takes, are together of bulk at most 1048576: NARROWER than '..Said'. Prove '..Said' where nothing that the law and all that it calls make is longer than what came in: it says more and counts as full. Else prove '..UptoSaid'. A law counts once. -/
mutual
def uptoBulk {H : Type} : DataW H → Nat
  | .lit (.string bytes) => bytes.length + 1
  | .lit _ => 1
  | .nil => 1
  | .ptr d => uptoBulk d + 1
  | .slice elems spare => uptoBulkAll elems + uptoBulkAll spare + 1
  | .agg parts => uptoBulkAll parts + 1
  | .iface _ d => uptoBulk d + 1
  | .map entries => uptoBulkEntries entries + 1
  | .held _ => 1
def uptoBulkAll {H : Type} : List (DataW H) → Nat
  | [] => 0
  | d :: r => uptoBulk d + uptoBulkAll r
def uptoBulkEntries {H : Type} : List (Lit × DataW H) → Nat
  | [] => 0
  | x :: r => uptoBulkEntry x + uptoBulkEntries r
def uptoBulkEntry {H : Type} : Lit × DataW H → Nat
  | (.string bytes, d) => bytes.length + uptoBulk d + 1
  | (_, d) => uptoBulk d + 1
 end
def uptoSmall : (H : Type) → List (DataW H) → Bool := fun _ ds => decide (uptoBulkAll ds ≤ 1048576)
def OpenSpec.upto (s : _root_.Go.ChangeSpec) : _root_.Go.OpenSpec := { _root_.Go.OpenSpec.ofChange s with cond := some uptoSmall }

/-- 'laws.FnExactLensOk', WHERE WHAT IT READS IS OF BULK AT MOST 1048576: true; the input reads as it did. -/
def fnExactLensOkUptoRow : OpenClaim := { program := "ytlanjchckcbjcaa", sum := "8ae747119e6a0406dc92c75173c803c6f7f463e90e3d8fb41084bcc28cfae025", func := "loop.example/corbel/laws.FnExactLensOk", spec := "fnExactLensOk", apart := false, narrowed := true }
def FnExactLensOkUptoSaid : Prop := fnExactLensOkUptoRow.holds Try.pinned (OpenSpec.upto fnExactLensOkSpec)

/-- 'laws.FnExactCodesOf', WHERE WHAT IT READS IS OF BULK AT MOST 1048576: true; the input reads as it did. -/
def fnExactCodesOfUptoRow : OpenClaim := { program := "ytlanjchckcbjcaa", sum := "8ae747119e6a0406dc92c75173c803c6f7f463e90e3d8fb41084bcc28cfae025", func := "loop.example/corbel/laws.FnExactCodesOf", spec := "fnExactCodesOf", apart := false, narrowed := true }
def FnExactCodesOfUptoSaid : Prop := fnExactCodesOfUptoRow.holds Try.pinned (OpenSpec.upto fnExactCodesOfSpec)

/-- 'laws.FnExactSymbolsPut', WHERE WHAT IT READS IS OF BULK AT MOST 1048576: true; the input reads as it did. -/
def fnExactSymbolsPutUptoRow : OpenClaim := { program := "ytlanjchckcbjcaa", sum := "8ae747119e6a0406dc92c75173c803c6f7f463e90e3d8fb41084bcc28cfae025", func := "loop.example/corbel/laws.FnExactSymbolsPut", spec := "fnExactSymbolsPut", unfollowed := true, recurses := true, apart := false, narrowed := true }
def FnExactSymbolsPutUptoSaid : Prop := fnExactSymbolsPutUptoRow.holds Try.pinned (OpenSpec.upto fnExactSymbolsPutSpec)

/-- 'laws.FnExactSymbolsGet', WHERE WHAT IT READS IS OF BULK AT MOST 1048576: true; the input reads as it did. -/
def fnExactSymbolsGetUptoRow : OpenClaim := { program := "ytlanjchckcbjcaa", sum := "8ae747119e6a0406dc92c75173c803c6f7f463e90e3d8fb41084bcc28cfae025", func := "loop.example/corbel/laws.FnExactSymbolsGet", spec := "fnExactSymbolsGet", apart := false, narrowed := true }
def FnExactSymbolsGetUptoSaid : Prop := fnExactSymbolsGetUptoRow.holds Try.pinned (OpenSpec.upto fnExactSymbolsGetSpec)

end Rows
end Go.Proofs.Ytlanjchckcbjcaa
