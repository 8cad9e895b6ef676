/-
  NARROWER THAN 'FOR EVERY INPUT', by the rows' own cells (each row's printed sentence says how): FnExactFlateGet: laid · FnExactFlateKind: laid.
  DERIVED. THE GIVEN ROWS OF THIS SEAT. 2 by the template 'for every input the law returns true; each argument reads behind the call as it read before'; 0 by the template 'total and deterministic' (their statements: YtihncnlbnlmefaaDoorTotals.lean).
  GIVEN WITH THE SEED: the statements are not yours to turn. If you find one false, say at which input.
  Laid BY PROGRAM, IN A SANDBOX (cutbox-rows.mjs): the forced cells as the released guide's own fill.sh prints them over the translation 6e6fbb460390cf8c… (all of the seat's roots in one cut). By AI agents, Wed Nov 11 2026. No macro, syntax, notation, axiom, sorry.
-/
import Derived.Test.YtihncnlbnlmefaaDoorChecked
import GoSem.Claim
import GoSem.ClaimJoined
import GoSem.ClaimMapViews
import Derived.JoinedTies
import Derived.KernelRfl
namespace Go.Proofs.YtihncnlbnlmefaaDoor
/- THE CELL 'sum', in the pinned program and in every row, IS THE sha256 OF THE DUMP (.gsa) THAT YtihncnlbnlmefaaDoorProg.lean LOADS. Nothing in Lean hashes anything: it is a label: what it is worth is what the hold of that sum in a sandbox is worth. -/
noncomputable def Tryd.pinned : Pinned := { name := "ytihncnlbnlmefaadoor", sum := "6e6fbb460390cf8c1f1669d6299d51b0340bc85f5c0bad9f361174f69d4f34c2", checked := Tryd.checked }
namespace Rows
def none {H : Type} : Left H := { results := [], args := [] }

/- WHAT THE LISTED PACKAGE-LEVEL VARIABLES READ AS WHEN THE CALL BEGINS. Each datum BY PROGRAM (the guide's laid-datum.mjs) off the statement by which the dump's own 'gosem.cut.vars' lays the variable. In a bare row this is a premise. The card (YtihncnlbnlmefaaDoorCards.lean) ties it to the program's text. -/
def laid_loop_example_corbel_impl_lenOrder {H : Type} : DataW H := .agg [.lit (.int .i64 16), .lit (.int .i64 17), .lit (.int .i64 18), .lit (.int .i64 0), .lit (.int .i64 8), .lit (.int .i64 7), .lit (.int .i64 9), .lit (.int .i64 6), .lit (.int .i64 10), .lit (.int .i64 5), .lit (.int .i64 11), .lit (.int .i64 4), .lit (.int .i64 12), .lit (.int .i64 3), .lit (.int .i64 13), .lit (.int .i64 2), .lit (.int .i64 14), .lit (.int .i64 1), .lit (.int .i64 15)]

/-- 'laws.FnExactFlateGet': WHATEVER THE INPUT: true; the input reads as it did. -/
def fnExactFlateGetSpec : ChangeSpec := { name := "fnExactFlateGet", vars := ["loop.example/corbel/impl.lenOrder"], fn := fun _ => fun
  | [d, g1] => { results := [.lit (.bool true)], args := [d], vars := [g1] }
  | _ => none }
def fnExactFlateGetRow : OpenClaim := { program := "ytihncnlbnlmefaadoor", sum := "6e6fbb460390cf8c1f1669d6299d51b0340bc85f5c0bad9f361174f69d4f34c2", func := "loop.example/corbel/laws.FnExactFlateGet", spec := "fnExactFlateGet", unfollowed := true, recurses := true, named := ["loop.example/corbel/impl.lenOrder"], apart := false, laid := [("loop.example/corbel/impl.lenOrder", laid_loop_example_corbel_impl_lenOrder)] }
def FnExactFlateGetSaid : Prop := fnExactFlateGetRow.holds Tryd.pinned (OpenSpec.ofChange fnExactFlateGetSpec)

/-- ITS FALSE NEIGHBOUR: 'it returns false'. Refute it at one input. -/
def fnExactFlateGetWrong : ChangeSpec := { name := "fnExactFlateGet", vars := ["loop.example/corbel/impl.lenOrder"], fn := fun _ => fun
  | [d, g1] => { results := [.lit (.bool false)], args := [d], vars := [g1] }
  | _ => none }
def FnExactFlateGetWrongFalsely : Prop := fnExactFlateGetRow.holds Tryd.pinned (OpenSpec.ofChange fnExactFlateGetWrong)

/-- 'laws.FnExactFlateKind': WHATEVER THE INPUT: true; the input reads as it did. -/
def fnExactFlateKindSpec : ChangeSpec := { name := "fnExactFlateKind", vars := ["loop.example/corbel/impl.lenOrder"], fn := fun _ => fun
  | [d, g1] => { results := [.lit (.bool true)], args := [d], vars := [g1] }
  | _ => none }
def fnExactFlateKindRow : OpenClaim := { program := "ytihncnlbnlmefaadoor", sum := "6e6fbb460390cf8c1f1669d6299d51b0340bc85f5c0bad9f361174f69d4f34c2", func := "loop.example/corbel/laws.FnExactFlateKind", spec := "fnExactFlateKind", unfollowed := true, recurses := true, named := ["loop.example/corbel/impl.lenOrder"], apart := false, laid := [("loop.example/corbel/impl.lenOrder", laid_loop_example_corbel_impl_lenOrder)] }
def FnExactFlateKindSaid : Prop := fnExactFlateKindRow.holds Tryd.pinned (OpenSpec.ofChange fnExactFlateKindSpec)

/-- ITS FALSE NEIGHBOUR: 'it returns false'. Refute it at one input. -/
def fnExactFlateKindWrong : ChangeSpec := { name := "fnExactFlateKind", vars := ["loop.example/corbel/impl.lenOrder"], fn := fun _ => fun
  | [d, g1] => { results := [.lit (.bool false)], args := [d], vars := [g1] }
  | _ => none }
def FnExactFlateKindWrongFalsely : Prop := fnExactFlateKindRow.holds Tryd.pinned (OpenSpec.ofChange fnExactFlateKindWrong)

/- THE SECOND FORM. 'bulk': how many values and letters a reading holds, each counted each time it is reached (what is shared counts as often as it is met; a slice's spare places count too). A statement '..UptoSaid' is the law's where the arguments, and the package variables that the reading takes, are together of bulk at most 1048576: NARROWER than '..Said'. Prove '..Said' where nothing that the law and all that it calls make is longer than what came in: it says more and counts as full. Else prove '..UptoSaid'. A law counts once. -/
mutual
def uptoBulk {H : Type} : DataW H → Nat
  | .lit (.string bytes) => bytes.length + 1
  | .lit _ => 1
  | .nil => 1
  | .ptr d => uptoBulk d + 1
  | .slice elems spare => uptoBulkAll elems + uptoBulkAll spare + 1
  | .agg parts => uptoBulkAll parts + 1
  | .iface _ d => uptoBulk d + 1
  | .map entries => uptoBulkEntries entries + 1
  | .held _ => 1
def uptoBulkAll {H : Type} : List (DataW H) → Nat
  | [] => 0
  | d :: r => uptoBulk d + uptoBulkAll r
def uptoBulkEntries {H : Type} : List (Lit × DataW H) → Nat
  | [] => 0
  | x :: r => uptoBulkEntry x + uptoBulkEntries r
def uptoBulkEntry {H : Type} : Lit × DataW H → Nat
  | (.string bytes, d) => bytes.length + uptoBulk d + 1
  | (_, d) => uptoBulk d + 1
 end
def uptoSmall : (H : Type) → List (DataW H) → Bool := fun _ ds => decide (uptoBulkAll ds ≤ 1048576)
def OpenSpec.upto (s : _root_.Go.ChangeSpec) : _root_.Go.OpenSpec := { _root_.Go.OpenSpec.ofChange s with cond := some uptoSmall }

/-- 'laws.FnExactFlateGet', WHERE WHAT IT READS IS OF BULK AT MOST 1048576: true; the input reads as it did. -/
def fnExactFlateGetUptoRow : OpenClaim := { program := "ytihncnlbnlmefaadoor", sum := "6e6fbb460390cf8c1f1669d6299d51b0340bc85f5c0bad9f361174f69d4f34c2", func := "loop.example/corbel/laws.FnExactFlateGet", spec := "fnExactFlateGet", unfollowed := true, recurses := true, named := ["loop.example/corbel/impl.lenOrder"], apart := false, laid := [("loop.example/corbel/impl.lenOrder", laid_loop_example_corbel_impl_lenOrder)], narrowed := true }
def FnExactFlateGetUptoSaid : Prop := fnExactFlateGetUptoRow.holds Tryd.pinned (OpenSpec.upto fnExactFlateGetSpec)

/-- 'laws.FnExactFlateKind', WHERE WHAT IT READS IS OF BULK AT MOST 1048576: true; the input reads as it did. -/
def fnExactFlateKindUptoRow : OpenClaim := { program := "ytihncnlbnlmefaadoor", sum := "6e6fbb460390cf8c1f1669d6299d51b0340bc85f5c0bad9f361174f69d4f34c2", func := "loop.example/corbel/laws.FnExactFlateKind", spec := "fnExactFlateKind", unfollowed := true, recurses := true, named := ["loop.example/corbel/impl.lenOrder"], apart := false, laid := [("loop.example/corbel/impl.lenOrder", laid_loop_example_corbel_impl_lenOrder)], narrowed := true }
def FnExactFlateKindUptoSaid : Prop := fnExactFlateKindUptoRow.holds Tryd.pinned (OpenSpec.upto fnExactFlateKindSpec)

end Rows
end Go.Proofs.YtihncnlbnlmefaaDoor
