/-
  NARROWER THAN 'FOR EVERY INPUT', by the rows' own cells (each row's printed sentence says how): FnStore: laid · FnFixed: laid · FnStoreTwo: laid · FnStoreBad: laid.
  DERIVED. THE GIVEN ROWS OF THIS SEAT. 4 by the template 'for every input the law returns true; each argument reads behind the call as it read before'; 0 by the template 'total and deterministic' (their statements: YtpmidjddjdejmaaDoorTotals.lean).
  GIVEN WITH THE SEED: the statements are not yours to turn. If you find one false, say at which input.
  Laid BY PROGRAM, IN A SANDBOX (cutbox-rows.mjs): the forced cells as the released guide's own fill.sh prints them over the translation ff75ca3ee49b62b7… (all of the seat's roots in one cut). By AI agents, Wed Nov 11 2026. No macro, syntax, notation, axiom, sorry.
-/
import Derived.Test.YtpmidjddjdejmaaDoorChecked
import GoSem.Claim
import GoSem.ClaimJoined
import GoSem.ClaimMapViews
import Derived.JoinedTies
import Derived.KernelRfl
namespace Go.Proofs.YtpmidjddjdejmaaDoor
/- THE CELL 'sum', in the pinned program and in every row, IS THE sha256 OF THE DUMP (.gsa) THAT YtpmidjddjdejmaaDoorProg.lean LOADS. Nothing in Lean hashes anything: it is a label: what it is worth is what the hold of that sum in a sandbox is worth. -/
noncomputable def Tryd.pinned : Pinned := { name := "ytpmidjddjdejmaadoor", sum := "ff75ca3ee49b62b7db7e8b1c2f3f65bae9b865ad9f18d1fb79d1950c0264aeec", checked := Tryd.checked }
namespace Rows
def none {H : Type} : Left H := { results := [], args := [] }

/- WHAT THE LISTED PACKAGE-LEVEL VARIABLES READ AS WHEN THE CALL BEGINS. Each datum BY PROGRAM (the guide's laid-datum.mjs) off the statement by which the dump's own 'gosem.cut.vars' lays the variable. In a bare row this is a premise. The card (YtpmidjddjdejmaaDoorCards.lean) ties it to the program's text. -/
def laid_loop_example_corbel_impl_lenOrder {H : Type} : DataW H := .agg [.lit (.int .i64 16), .lit (.int .i64 17), .lit (.int .i64 18), .lit (.int .i64 0), .lit (.int .i64 8), .lit (.int .i64 7), .lit (.int .i64 9), .lit (.int .i64 6), .lit (.int .i64 10), .lit (.int .i64 5), .lit (.int .i64 11), .lit (.int .i64 4), .lit (.int .i64 12), .lit (.int .i64 3), .lit (.int .i64 13), .lit (.int .i64 2), .lit (.int .i64 14), .lit (.int .i64 1), .lit (.int .i64 15)]

/-- 'laws.FnStore': WHATEVER THE INPUT: true; the input reads as it did. -/
def fnStoreSpec : ChangeSpec := { name := "fnStore", vars := ["loop.example/corbel/impl.lenOrder"], fn := fun _ => fun
  | [d, g1] => { results := [.lit (.bool true)], args := [d], vars := [g1] }
  | _ => none }
def fnStoreRow : OpenClaim := { program := "ytpmidjddjdejmaadoor", sum := "ff75ca3ee49b62b7db7e8b1c2f3f65bae9b865ad9f18d1fb79d1950c0264aeec", func := "loop.example/corbel/laws.FnStore", spec := "fnStore", unfollowed := true, recurses := true, named := ["loop.example/corbel/impl.lenOrder"], apart := false, laid := [("loop.example/corbel/impl.lenOrder", laid_loop_example_corbel_impl_lenOrder)] }
def FnStoreSaid : Prop := fnStoreRow.holds Tryd.pinned (OpenSpec.ofChange fnStoreSpec)

/-- ITS FALSE NEIGHBOUR: 'it returns false'. Refute it at one input. -/
def fnStoreWrong : ChangeSpec := { name := "fnStore", vars := ["loop.example/corbel/impl.lenOrder"], fn := fun _ => fun
  | [d, g1] => { results := [.lit (.bool false)], args := [d], vars := [g1] }
  | _ => none }
def FnStoreWrongFalsely : Prop := fnStoreRow.holds Tryd.pinned (OpenSpec.ofChange fnStoreWrong)

/-- 'laws.FnFixed': WHATEVER THE INPUT: true; the input reads as it did. -/
def fnFixedSpec : ChangeSpec := { name := "fnFixed", vars := ["loop.example/corbel/impl.lenOrder"], fn := fun _ => fun
  | [d, g1] => { results := [.lit (.bool true)], args := [d], vars := [g1] }
  | _ => none }
def fnFixedRow : OpenClaim := { program := "ytpmidjddjdejmaadoor", sum := "ff75ca3ee49b62b7db7e8b1c2f3f65bae9b865ad9f18d1fb79d1950c0264aeec", func := "loop.example/corbel/laws.FnFixed", spec := "fnFixed", unfollowed := true, recurses := true, named := ["loop.example/corbel/impl.lenOrder"], apart := false, laid := [("loop.example/corbel/impl.lenOrder", laid_loop_example_corbel_impl_lenOrder)] }
def FnFixedSaid : Prop := fnFixedRow.holds Tryd.pinned (OpenSpec.ofChange fnFixedSpec)

/-- ITS FALSE NEIGHBOUR: 'it returns false'. Refute it at one input. -/
def fnFixedWrong : ChangeSpec := { name := "fnFixed", vars := ["loop.example/corbel/impl.lenOrder"], fn := fun _ => fun
  | [d, g1] => { results := [.lit (.bool false)], args := [d], vars := [g1] }
  | _ => none }
def FnFixedWrongFalsely : Prop := fnFixedRow.holds Tryd.pinned (OpenSpec.ofChange fnFixedWrong)

/-- 'laws.FnStoreTwo': WHATEVER THE INPUT: true; the input reads as it did. -/
def fnStoreTwoSpec : ChangeSpec := { name := "fnStoreTwo", vars := ["loop.example/corbel/impl.lenOrder"], fn := fun _ => fun
  | [d1, d2, g1] => { results := [.lit (.bool true)], args := [d1, d2], vars := [g1] }
  | _ => none }
def fnStoreTwoRow : OpenClaim := { program := "ytpmidjddjdejmaadoor", sum := "ff75ca3ee49b62b7db7e8b1c2f3f65bae9b865ad9f18d1fb79d1950c0264aeec", func := "loop.example/corbel/laws.FnStoreTwo", spec := "fnStoreTwo", unfollowed := true, recurses := true, named := ["loop.example/corbel/impl.lenOrder"], apart := false, laid := [("loop.example/corbel/impl.lenOrder", laid_loop_example_corbel_impl_lenOrder)] }
def FnStoreTwoSaid : Prop := fnStoreTwoRow.holds Tryd.pinned (OpenSpec.ofChange fnStoreTwoSpec)

/-- ITS FALSE NEIGHBOUR: 'it returns false'. Refute it at one input. -/
def fnStoreTwoWrong : ChangeSpec := { name := "fnStoreTwo", vars := ["loop.example/corbel/impl.lenOrder"], fn := fun _ => fun
  | [d1, d2, g1] => { results := [.lit (.bool false)], args := [d1, d2], vars := [g1] }
  | _ => none }
def FnStoreTwoWrongFalsely : Prop := fnStoreTwoRow.holds Tryd.pinned (OpenSpec.ofChange fnStoreTwoWrong)

/-- 'laws.FnStoreBad': WHATEVER THE INPUT: true; the input reads as it did. -/
def fnStoreBadSpec : ChangeSpec := { name := "fnStoreBad", vars := ["loop.example/corbel/impl.lenOrder"], fn := fun _ => fun
  | [d1, d2, g1] => { results := [.lit (.bool true)], args := [d1, d2], vars := [g1] }
  | _ => none }
def fnStoreBadRow : OpenClaim := { program := "ytpmidjddjdejmaadoor", sum := "ff75ca3ee49b62b7db7e8b1c2f3f65bae9b865ad9f18d1fb79d1950c0264aeec", func := "loop.example/corbel/laws.FnStoreBad", spec := "fnStoreBad", unfollowed := true, recurses := true, named := ["loop.example/corbel/impl.lenOrder"], apart := false, laid := [("loop.example/corbel/impl.lenOrder", laid_loop_example_corbel_impl_lenOrder)] }
def FnStoreBadSaid : Prop := fnStoreBadRow.holds Tryd.pinned (OpenSpec.ofChange fnStoreBadSpec)

/-- ITS FALSE NEIGHBOUR: 'it returns false'. Refute it at one input. -/
def fnStoreBadWrong : ChangeSpec := { name := "fnStoreBad", vars := ["loop.example/corbel/impl.lenOrder"], fn := fun _ => fun
  | [d1, d2, g1] => { results := [.lit (.bool false)], args := [d1, d2], vars := [g1] }
  | _ => none }
def FnStoreBadWrongFalsely : Prop := fnStoreBadRow.holds Tryd.pinned (OpenSpec.ofChange fnStoreBadWrong)

/- THE SECOND FORM. 'bulk': how many values and letters a reading holds, each counted each time it is reached (what is shared counts as often as it is met; a slice's spare places count too). A statement '..UptoSaid' is the law's where the arguments, and the package variables that the reading takes, are together of bulk at most 1048576: NARROWER than '..Said'. Prove '..Said' where nothing that the law and all that it calls make is longer than what came in: it says more and counts as full. Else prove '..UptoSaid'. A law counts once. -/
mutual
def uptoBulk {H : Type} : DataW H → Nat
  | .lit (.string bytes) => bytes.length + 1
  | .lit _ => 1
  | .nil => 1
  | .ptr d => uptoBulk d + 1
  | .slice elems spare => uptoBulkAll elems + uptoBulkAll spare + 1
  | .agg parts => uptoBulkAll parts + 1
  | .iface _ d => uptoBulk d + 1
  | .map entries => uptoBulkEntries entries + 1
  | .held _ => 1
def uptoBulkAll {H : Type} : List (DataW H) → Nat
  | [] => 0
  | d :: r => uptoBulk d + uptoBulkAll r
def uptoBulkEntries {H : Type} : List (Lit × DataW H) → Nat
  | [] => 0
  | x :: r => uptoBulkEntry x + uptoBulkEntries r
def uptoBulkEntry {H : Type} : Lit × DataW H → Nat
  | (.string bytes, d) => bytes.length + uptoBulk d + 1
  | (_, d) => uptoBulk d + 1
 end
def uptoSmall : (H : Type) → List (DataW H) → Bool := fun _ ds => decide (uptoBulkAll ds ≤ 1048576)
def OpenSpec.upto (s : _root_.Go.ChangeSpec) : _root_.Go.OpenSpec := { _root_.Go.OpenSpec.ofChange s with cond := some uptoSmall }

/-- 'laws.FnStore', WHERE WHAT IT READS IS OF BULK AT MOST 1048576: true; the input reads as it did. -/
def fnStoreUptoRow : OpenClaim := { program := "ytpmidjddjdejmaadoor", sum := "ff75ca3ee49b62b7db7e8b1c2f3f65bae9b865ad9f18d1fb79d1950c0264aeec", func := "loop.example/corbel/laws.FnStore", spec := "fnStore", unfollowed := true, recurses := true, named := ["loop.example/corbel/impl.lenOrder"], apart := false, laid := [("loop.example/corbel/impl.lenOrder", laid_loop_example_corbel_impl_lenOrder)], narrowed := true }
def FnStoreUptoSaid : Prop := fnStoreUptoRow.holds Tryd.pinned (OpenSpec.upto fnStoreSpec)

/-- 'laws.FnFixed', WHERE WHAT IT READS IS OF BULK AT MOST 1048576: true; the input reads as it did. -/
def fnFixedUptoRow : OpenClaim := { program := "ytpmidjddjdejmaadoor", sum := "ff75ca3ee49b62b7db7e8b1c2f3f65bae9b865ad9f18d1fb79d1950c0264aeec", func := "loop.example/corbel/laws.FnFixed", spec := "fnFixed", unfollowed := true, recurses := true, named := ["loop.example/corbel/impl.lenOrder"], apart := false, laid := [("loop.example/corbel/impl.lenOrder", laid_loop_example_corbel_impl_lenOrder)], narrowed := true }
def FnFixedUptoSaid : Prop := fnFixedUptoRow.holds Tryd.pinned (OpenSpec.upto fnFixedSpec)

/-- 'laws.FnStoreTwo', WHERE WHAT IT READS IS OF BULK AT MOST 1048576: true; the input reads as it did. -/
def fnStoreTwoUptoRow : OpenClaim := { program := "ytpmidjddjdejmaadoor", sum := "ff75ca3ee49b62b7db7e8b1c2f3f65bae9b865ad9f18d1fb79d1950c0264aeec", func := "loop.example/corbel/laws.FnStoreTwo", spec := "fnStoreTwo", unfollowed := true, recurses := true, named := ["loop.example/corbel/impl.lenOrder"], apart := false, laid := [("loop.example/corbel/impl.lenOrder", laid_loop_example_corbel_impl_lenOrder)], narrowed := true }
def FnStoreTwoUptoSaid : Prop := fnStoreTwoUptoRow.holds Tryd.pinned (OpenSpec.upto fnStoreTwoSpec)

/-- 'laws.FnStoreBad', WHERE WHAT IT READS IS OF BULK AT MOST 1048576: true; the input reads as it did. -/
def fnStoreBadUptoRow : OpenClaim := { program := "ytpmidjddjdejmaadoor", sum := "ff75ca3ee49b62b7db7e8b1c2f3f65bae9b865ad9f18d1fb79d1950c0264aeec", func := "loop.example/corbel/laws.FnStoreBad", spec := "fnStoreBad", unfollowed := true, recurses := true, named := ["loop.example/corbel/impl.lenOrder"], apart := false, laid := [("loop.example/corbel/impl.lenOrder", laid_loop_example_corbel_impl_lenOrder)], narrowed := true }
def FnStoreBadUptoSaid : Prop := fnStoreBadUptoRow.holds Tryd.pinned (OpenSpec.upto fnStoreBadSpec)

end Rows
end Go.Proofs.YtpmidjddjdejmaaDoor
