/-
  No cell of these rows narrows 'for every input' (looked for: loops, veiled, ifaces, maps, wideKeys, modest, calm, conditions, laid).
  DERIVED. THE GIVEN ROWS OF THIS SEAT. 3 by the template 'for every input the law returns true; each argument reads behind the call as it read before'; 0 by the template 'total and deterministic' (their statements: YtnomiopdpmecbaaTotals.lean).
  GIVEN WITH THE SEED: the statements are not yours to turn. If you find one false, say at which input.
  Laid BY PROGRAM, IN A SANDBOX (cutbox-rows.mjs): the forced cells as the released guide's own fill.sh prints them over the translation 966580d3db1c0b1c… (all of the seat's roots in one cut). By AI agents, Wed Nov 11 2026. No macro, syntax, notation, axiom, sorry.
-/
import Derived.Test.YtnomiopdpmecbaaChecked
import GoSem.Claim
import GoSem.ClaimJoined
import GoSem.ClaimMapViews
import Derived.JoinedTies
import Derived.KernelRfl
namespace Go.Proofs.Ytnomiopdpmecbaa
/- THE CELL 'sum', in the pinned program and in every row, IS THE sha256 OF THE DUMP (.gsa) THAT YtnomiopdpmecbaaProg.lean LOADS. Nothing in Lean hashes anything: it is a label: what it is worth is what the hold of that sum in a sandbox is worth. -/
noncomputable def Try.pinned : Pinned := { name := "ytnomiopdpmecbaa", sum := "966580d3db1c0b1c559daa1ae4ffb8ef59584a91fc2fd7bb5c5a580b07f492d2", checked := Try.checked }
namespace Rows
def none {H : Type} : Left H := { results := [], args := [] }

/-- 'laws.FnSymbols': WHATEVER THE INPUT: true; the input reads as it did. -/
def fnSymbolsSpec : ChangeSpec := { name := "fnSymbols", fn := fun _ => fun
  | [d] => { results := [.lit (.bool true)], args := [d] }
  | _ => none }
def fnSymbolsRow : OpenClaim := { program := "ytnomiopdpmecbaa", sum := "966580d3db1c0b1c559daa1ae4ffb8ef59584a91fc2fd7bb5c5a580b07f492d2", func := "loop.example/corbel/laws.FnSymbols", spec := "fnSymbols", unfollowed := true, recurses := true, apart := false }
def FnSymbolsSaid : Prop := fnSymbolsRow.holds Try.pinned (OpenSpec.ofChange fnSymbolsSpec)

/-- ITS FALSE NEIGHBOUR: 'it returns false'. Refute it at one input. -/
def fnSymbolsWrong : ChangeSpec := { name := "fnSymbols", fn := fun _ => fun
  | [d] => { results := [.lit (.bool false)], args := [d] }
  | _ => none }
def FnSymbolsWrongFalsely : Prop := fnSymbolsRow.holds Try.pinned (OpenSpec.ofChange fnSymbolsWrong)

/-- 'laws.FnSymbolsTwo': WHATEVER THE INPUT: true; the input reads as it did. -/
def fnSymbolsTwoSpec : ChangeSpec := { name := "fnSymbolsTwo", fn := fun _ => fun
  | [d] => { results := [.lit (.bool true)], args := [d] }
  | _ => none }
def fnSymbolsTwoRow : OpenClaim := { program := "ytnomiopdpmecbaa", sum := "966580d3db1c0b1c559daa1ae4ffb8ef59584a91fc2fd7bb5c5a580b07f492d2", func := "loop.example/corbel/laws.FnSymbolsTwo", spec := "fnSymbolsTwo", unfollowed := true, recurses := true, apart := false }
def FnSymbolsTwoSaid : Prop := fnSymbolsTwoRow.holds Try.pinned (OpenSpec.ofChange fnSymbolsTwoSpec)

/-- ITS FALSE NEIGHBOUR: 'it returns false'. Refute it at one input. -/
def fnSymbolsTwoWrong : ChangeSpec := { name := "fnSymbolsTwo", fn := fun _ => fun
  | [d] => { results := [.lit (.bool false)], args := [d] }
  | _ => none }
def FnSymbolsTwoWrongFalsely : Prop := fnSymbolsTwoRow.holds Try.pinned (OpenSpec.ofChange fnSymbolsTwoWrong)

/-- 'laws.FnSymbolsGet': WHATEVER THE INPUT: true; the input reads as it did. -/
def fnSymbolsGetSpec : ChangeSpec := { name := "fnSymbolsGet", fn := fun _ => fun
  | [d1, d2] => { results := [.lit (.bool true)], args := [d1, d2] }
  | _ => none }
def fnSymbolsGetRow : OpenClaim := { program := "ytnomiopdpmecbaa", sum := "966580d3db1c0b1c559daa1ae4ffb8ef59584a91fc2fd7bb5c5a580b07f492d2", func := "loop.example/corbel/laws.FnSymbolsGet", spec := "fnSymbolsGet", apart := false }
def FnSymbolsGetSaid : Prop := fnSymbolsGetRow.holds Try.pinned (OpenSpec.ofChange fnSymbolsGetSpec)

/-- ITS FALSE NEIGHBOUR: 'it returns false'. Refute it at one input. -/
def fnSymbolsGetWrong : ChangeSpec := { name := "fnSymbolsGet", fn := fun _ => fun
  | [d1, d2] => { results := [.lit (.bool false)], args := [d1, d2] }
  | _ => none }
def FnSymbolsGetWrongFalsely : Prop := fnSymbolsGetRow.holds Try.pinned (OpenSpec.ofChange fnSymbolsGetWrong)

/- THE SECOND FORM. 'bulk': how many values and letters a reading holds, each counted each time it is reached (what is shared counts as often as it is met; a slice's spare places count too). A statement '..UptoSaid' is the law's where the arguments, and the package variables that the reading takes, are together of bulk at most 1048576: NARROWER than '..Said'. Prove '..Said' where nothing that the law and all that it calls make is longer than what came in: it says more and counts as full. Else prove '..UptoSaid'. A law counts once. -/
mutual
def uptoBulk {H : Type} : DataW H → Nat
  | .lit (.string bytes) => bytes.length + 1
  | .lit _ => 1
  | .nil => 1
  | .ptr d => uptoBulk d + 1
  | .slice elems spare => uptoBulkAll elems + uptoBulkAll spare + 1
  | .agg parts => uptoBulkAll parts + 1
  | .iface _ d => uptoBulk d + 1
  | .map entries => uptoBulkEntries entries + 1
  | .held _ => 1
def uptoBulkAll {H : Type} : List (DataW H) → Nat
  | [] => 0
  | d :: r => uptoBulk d + uptoBulkAll r
def uptoBulkEntries {H : Type} : List (Lit × DataW H) → Nat
  | [] => 0
  | x :: r => uptoBulkEntry x + uptoBulkEntries r
def uptoBulkEntry {H : Type} : Lit × DataW H → Nat
  | (.string bytes, d) => bytes.length + uptoBulk d + 1
  | (_, d) => uptoBulk d + 1
 end
def uptoSmall : (H : Type) → List (DataW H) → Bool := fun _ ds => decide (uptoBulkAll ds ≤ 1048576)
def OpenSpec.upto (s : _root_.Go.ChangeSpec) : _root_.Go.OpenSpec := { _root_.Go.OpenSpec.ofChange s with cond := some uptoSmall }

/-- 'laws.FnSymbols', WHERE WHAT IT READS IS OF BULK AT MOST 1048576: true; the input reads as it did. -/
def fnSymbolsUptoRow : OpenClaim := { program := "ytnomiopdpmecbaa", sum := "966580d3db1c0b1c559daa1ae4ffb8ef59584a91fc2fd7bb5c5a580b07f492d2", func := "loop.example/corbel/laws.FnSymbols", spec := "fnSymbols", unfollowed := true, recurses := true, apart := false, narrowed := true }
def FnSymbolsUptoSaid : Prop := fnSymbolsUptoRow.holds Try.pinned (OpenSpec.upto fnSymbolsSpec)

/-- 'laws.FnSymbolsTwo', WHERE WHAT IT READS IS OF BULK AT MOST 1048576: true; the input reads as it did. -/
def fnSymbolsTwoUptoRow : OpenClaim := { program := "ytnomiopdpmecbaa", sum := "966580d3db1c0b1c559daa1ae4ffb8ef59584a91fc2fd7bb5c5a580b07f492d2", func := "loop.example/corbel/laws.FnSymbolsTwo", spec := "fnSymbolsTwo", unfollowed := true, recurses := true, apart := false, narrowed := true }
def FnSymbolsTwoUptoSaid : Prop := fnSymbolsTwoUptoRow.holds Try.pinned (OpenSpec.upto fnSymbolsTwoSpec)

/-- 'laws.FnSymbolsGet', WHERE WHAT IT READS IS OF BULK AT MOST 1048576: true; the input reads as it did. -/
def fnSymbolsGetUptoRow : OpenClaim := { program := "ytnomiopdpmecbaa", sum := "966580d3db1c0b1c559daa1ae4ffb8ef59584a91fc2fd7bb5c5a580b07f492d2", func := "loop.example/corbel/laws.FnSymbolsGet", spec := "fnSymbolsGet", apart := false, narrowed := true }
def FnSymbolsGetUptoSaid : Prop := fnSymbolsGetUptoRow.holds Try.pinned (OpenSpec.upto fnSymbolsGetSpec)

end Rows
end Go.Proofs.Ytnomiopdpmecbaa
