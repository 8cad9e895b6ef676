/-
  NARROWER THAN 'FOR EVERY INPUT', by the rows' own cells (each row's printed sentence says how): FnExactOwnPut: laid · FnExactFlatePut: laid.
  DERIVED. THE GIVEN ROWS OF THIS SEAT. 2 by the template 'for every input the law returns true; each argument reads behind the call as it read before'; 0 by the template 'total and deterministic' (their statements: YthnekjleaolndaaDoorTotals.lean).
  GIVEN WITH THE SEED: the statements are not yours to turn. If you find one false, say at which input.
  Laid BY PROGRAM, IN A SANDBOX (cutbox-rows.mjs): the forced cells as the released guide's own fill.sh prints them over the translation 848b87ad4843b4ac… (all of the seat's roots in one cut). By AI agents, Wed Nov 11 2026. No macro, syntax, notation, axiom, sorry.
-/
import Derived.Test.YthnekjleaolndaaDoorChecked
import GoSem.Claim
import GoSem.ClaimJoined
import GoSem.ClaimMapViews
import Derived.JoinedTies
import Derived.KernelRfl
namespace Go.Proofs.YthnekjleaolndaaDoor
/- THE CELL 'sum', in the pinned program and in every row, IS THE sha256 OF THE DUMP (.gsa) THAT YthnekjleaolndaaDoorProg.lean LOADS. Nothing in Lean hashes anything: it is a label: what it is worth is what the hold of that sum in a sandbox is worth. -/
noncomputable def Tryd.pinned : Pinned := { name := "ythnekjleaolndaadoor", sum := "848b87ad4843b4acde29ed1ef21a9cdefe844d6207e1ce1aaf5e2961fb9de7e8", checked := Tryd.checked }
namespace Rows
def none {H : Type} : Left H := { results := [], args := [] }

/- WHAT THE LISTED PACKAGE-LEVEL VARIABLES READ AS WHEN THE CALL BEGINS. Each datum BY PROGRAM (the guide's laid-datum.mjs) off the statement by which the dump's own 'gosem.cut.vars' lays the variable. In a bare row this is a premise. The card (YthnekjleaolndaaDoorCards.lean) ties it to the program's text. -/
def laid_loop_example_corbel_impl_lenOrder {H : Type} : DataW H := .agg [.lit (.int .i64 16), .lit (.int .i64 17), .lit (.int .i64 18), .lit (.int .i64 0), .lit (.int .i64 8), .lit (.int .i64 7), .lit (.int .i64 9), .lit (.int .i64 6), .lit (.int .i64 10), .lit (.int .i64 5), .lit (.int .i64 11), .lit (.int .i64 4), .lit (.int .i64 12), .lit (.int .i64 3), .lit (.int .i64 13), .lit (.int .i64 2), .lit (.int .i64 14), .lit (.int .i64 1), .lit (.int .i64 15)]

/-- 'laws.FnExactOwnPut': WHATEVER THE INPUT: true; the input reads as it did. -/
def fnExactOwnPutSpec : ChangeSpec := { name := "fnExactOwnPut", vars := ["loop.example/corbel/impl.lenOrder"], fn := fun _ => fun
  | [d, g1] => { results := [.lit (.bool true)], args := [d], vars := [g1] }
  | _ => none }
def fnExactOwnPutRow : OpenClaim := { program := "ythnekjleaolndaadoor", sum := "848b87ad4843b4acde29ed1ef21a9cdefe844d6207e1ce1aaf5e2961fb9de7e8", func := "loop.example/corbel/laws.FnExactOwnPut", spec := "fnExactOwnPut", unfollowed := true, recurses := true, named := ["loop.example/corbel/impl.lenOrder"], apart := false, laid := [("loop.example/corbel/impl.lenOrder", laid_loop_example_corbel_impl_lenOrder)] }
def FnExactOwnPutSaid : Prop := fnExactOwnPutRow.holds Tryd.pinned (OpenSpec.ofChange fnExactOwnPutSpec)

/-- ITS FALSE NEIGHBOUR: 'it returns false'. Refute it at one input. -/
def fnExactOwnPutWrong : ChangeSpec := { name := "fnExactOwnPut", vars := ["loop.example/corbel/impl.lenOrder"], fn := fun _ => fun
  | [d, g1] => { results := [.lit (.bool false)], args := [d], vars := [g1] }
  | _ => none }
def FnExactOwnPutWrongFalsely : Prop := fnExactOwnPutRow.holds Tryd.pinned (OpenSpec.ofChange fnExactOwnPutWrong)

/-- 'laws.FnExactFlatePut': WHATEVER THE INPUT: true; the input reads as it did. -/
def fnExactFlatePutSpec : ChangeSpec := { name := "fnExactFlatePut", vars := ["loop.example/corbel/impl.lenOrder"], fn := fun _ => fun
  | [d, g1] => { results := [.lit (.bool true)], args := [d], vars := [g1] }
  | _ => none }
def fnExactFlatePutRow : OpenClaim := { program := "ythnekjleaolndaadoor", sum := "848b87ad4843b4acde29ed1ef21a9cdefe844d6207e1ce1aaf5e2961fb9de7e8", func := "loop.example/corbel/laws.FnExactFlatePut", spec := "fnExactFlatePut", unfollowed := true, recurses := true, named := ["loop.example/corbel/impl.lenOrder"], apart := false, laid := [("loop.example/corbel/impl.lenOrder", laid_loop_example_corbel_impl_lenOrder)] }
def FnExactFlatePutSaid : Prop := fnExactFlatePutRow.holds Tryd.pinned (OpenSpec.ofChange fnExactFlatePutSpec)

/-- ITS FALSE NEIGHBOUR: 'it returns false'. Refute it at one input. -/
def fnExactFlatePutWrong : ChangeSpec := { name := "fnExactFlatePut", vars := ["loop.example/corbel/impl.lenOrder"], fn := fun _ => fun
  | [d, g1] => { results := [.lit (.bool false)], args := [d], vars := [g1] }
  | _ => none }
def FnExactFlatePutWrongFalsely : Prop := fnExactFlatePutRow.holds Tryd.pinned (OpenSpec.ofChange fnExactFlatePutWrong)

/- THE SECOND FORM. 'bulk': how many values and letters a reading holds, each counted each time it is reached (what is shared counts as often as it is met; a slice's spare places count too). A statement '..UptoSaid' is the law's where the arguments, and the package variables that the reading takes, are together of bulk at most 1048576: NARROWER than '..Said'. Prove '..Said' where nothing that the law and all that it calls make is longer than what came in: it says more and counts as full. Else prove '..UptoSaid'. A law counts once. -/
mutual
def uptoBulk {H : Type} : DataW H → Nat
  | .lit (.string bytes) => bytes.length + 1
  | .lit _ => 1
  | .nil => 1
  | .ptr d => uptoBulk d + 1
  | .slice elems spare => uptoBulkAll elems + uptoBulkAll spare + 1
  | .agg parts => uptoBulkAll parts + 1
  | .iface _ d => uptoBulk d + 1
  | .map entries => uptoBulkEntries entries + 1
  | .held _ => 1
def uptoBulkAll {H : Type} : List (DataW H) → Nat
  | [] => 0
  | d :: r => uptoBulk d + uptoBulkAll r
def uptoBulkEntries {H : Type} : List (Lit × DataW H) → Nat
  | [] => 0
  | x :: r => uptoBulkEntry x + uptoBulkEntries r
def uptoBulkEntry {H : Type} : Lit × DataW H → Nat
  | (.string bytes, d) => bytes.length + uptoBulk d + 1
  | (_, d) => uptoBulk d + 1
 end
def uptoSmall : (H : Type) → List (DataW H) → Bool := fun _ ds => decide (uptoBulkAll ds ≤ 1048576)
def OpenSpec.upto (s : _root_.Go.ChangeSpec) : _root_.Go.OpenSpec := { _root_.Go.OpenSpec.ofChange s with cond := some uptoSmall }

/-- 'laws.FnExactOwnPut', WHERE WHAT IT READS IS OF BULK AT MOST 1048576: true; the input reads as it did. -/
def fnExactOwnPutUptoRow : OpenClaim := { program := "ythnekjleaolndaadoor", sum := "848b87ad4843b4acde29ed1ef21a9cdefe844d6207e1ce1aaf5e2961fb9de7e8", func := "loop.example/corbel/laws.FnExactOwnPut", spec := "fnExactOwnPut", unfollowed := true, recurses := true, named := ["loop.example/corbel/impl.lenOrder"], apart := false, laid := [("loop.example/corbel/impl.lenOrder", laid_loop_example_corbel_impl_lenOrder)], narrowed := true }
def FnExactOwnPutUptoSaid : Prop := fnExactOwnPutUptoRow.holds Tryd.pinned (OpenSpec.upto fnExactOwnPutSpec)

/-- 'laws.FnExactFlatePut', WHERE WHAT IT READS IS OF BULK AT MOST 1048576: true; the input reads as it did. -/
def fnExactFlatePutUptoRow : OpenClaim := { program := "ythnekjleaolndaadoor", sum := "848b87ad4843b4acde29ed1ef21a9cdefe844d6207e1ce1aaf5e2961fb9de7e8", func := "loop.example/corbel/laws.FnExactFlatePut", spec := "fnExactFlatePut", unfollowed := true, recurses := true, named := ["loop.example/corbel/impl.lenOrder"], apart := false, laid := [("loop.example/corbel/impl.lenOrder", laid_loop_example_corbel_impl_lenOrder)], narrowed := true }
def FnExactFlatePutUptoSaid : Prop := fnExactFlatePutUptoRow.holds Tryd.pinned (OpenSpec.upto fnExactFlatePutSpec)

end Rows
end Go.Proofs.YthnekjleaolndaaDoor
