/-
  NARROWER THAN 'FOR EVERY INPUT', by the rows' own cells (each row's printed sentence says how): FnOwn: laid · FnFlate: laid · FnFlateGet: laid · FnFlateMany: laid · FnFlateBad: laid · FnFlateKinds: laid · FnFlateTwo: laid · FnFlateShort: laid.
  DERIVED. THE GIVEN ROWS OF THIS SEAT. 8 by the template 'for every input the law returns true; each argument reads behind the call as it read before'; 0 by the template 'total and deterministic' (their statements: YtpmidjddjdejmaaGreatDoorTotals.lean).
  GIVEN WITH THE SEED: the statements are not yours to turn. If you find one false, say at which input.
  Laid BY PROGRAM, IN A SANDBOX (cutbox-rows.mjs): the forced cells as the released guide's own fill.sh prints them over the translation 7a8ff552b28d25aa… (all of the seat's roots in one cut). By AI agents, Wed Nov 11 2026. No macro, syntax, notation, axiom, sorry.
-/
import Derived.Test.YtpmidjddjdejmaaGreatDoorChecked
import GoSem.Claim
import GoSem.ClaimJoined
import GoSem.ClaimMapViews
import Derived.JoinedTies
import Derived.KernelRfl
namespace Go.Proofs.YtpmidjddjdejmaaGreatDoor
/- THE CELL 'sum', in the pinned program and in every row, IS THE sha256 OF THE DUMP (.gsa) THAT YtpmidjddjdejmaaGreatDoorProg.lean LOADS. Nothing in Lean hashes anything: it is a label: what it is worth is what the hold of that sum in a sandbox is worth. -/
noncomputable def Tryz.pinned : Pinned := { name := "ytpmidjddjdejmaagreatdoor", sum := "7a8ff552b28d25aa8b4d844e880465f9ef3811f23e61d77532634703d463d7a2", checked := Tryz.checked }
namespace Rows
def none {H : Type} : Left H := { results := [], args := [] }

/- WHAT THE LISTED PACKAGE-LEVEL VARIABLES READ AS WHEN THE CALL BEGINS. Each datum BY PROGRAM (the guide's laid-datum.mjs) off the statement by which the dump's own 'gosem.cut.vars' lays the variable. In a bare row this is a premise. The card (YtpmidjddjdejmaaGreatDoorCards.lean) ties it to the program's text. -/
def laid_loop_example_corbel_impl_lenOrder {H : Type} : DataW H := .agg [.lit (.int .i64 16), .lit (.int .i64 17), .lit (.int .i64 18), .lit (.int .i64 0), .lit (.int .i64 8), .lit (.int .i64 7), .lit (.int .i64 9), .lit (.int .i64 6), .lit (.int .i64 10), .lit (.int .i64 5), .lit (.int .i64 11), .lit (.int .i64 4), .lit (.int .i64 12), .lit (.int .i64 3), .lit (.int .i64 13), .lit (.int .i64 2), .lit (.int .i64 14), .lit (.int .i64 1), .lit (.int .i64 15)]

/-- 'laws.FnOwn': WHATEVER THE INPUT: true; the input reads as it did. -/
def fnOwnSpec : ChangeSpec := { name := "fnOwn", vars := ["loop.example/corbel/impl.lenOrder"], fn := fun _ => fun
  | [d, g1] => { results := [.lit (.bool true)], args := [d], vars := [g1] }
  | _ => none }
def fnOwnRow : OpenClaim := { program := "ytpmidjddjdejmaagreatdoor", sum := "7a8ff552b28d25aa8b4d844e880465f9ef3811f23e61d77532634703d463d7a2", func := "loop.example/corbel/laws.FnOwn", spec := "fnOwn", unfollowed := true, recurses := true, named := ["loop.example/corbel/impl.lenOrder"], apart := false, laid := [("loop.example/corbel/impl.lenOrder", laid_loop_example_corbel_impl_lenOrder)] }
def FnOwnSaid : Prop := fnOwnRow.holds Tryz.pinned (OpenSpec.ofChange fnOwnSpec)

/-- ITS FALSE NEIGHBOUR: 'it returns false'. Refute it at one input. -/
def fnOwnWrong : ChangeSpec := { name := "fnOwn", vars := ["loop.example/corbel/impl.lenOrder"], fn := fun _ => fun
  | [d, g1] => { results := [.lit (.bool false)], args := [d], vars := [g1] }
  | _ => none }
def FnOwnWrongFalsely : Prop := fnOwnRow.holds Tryz.pinned (OpenSpec.ofChange fnOwnWrong)

/-- 'laws.FnFlate': WHATEVER THE INPUT: true; the input reads as it did. -/
def fnFlateSpec : ChangeSpec := { name := "fnFlate", vars := ["loop.example/corbel/impl.lenOrder"], fn := fun _ => fun
  | [d, g1] => { results := [.lit (.bool true)], args := [d], vars := [g1] }
  | _ => none }
def fnFlateRow : OpenClaim := { program := "ytpmidjddjdejmaagreatdoor", sum := "7a8ff552b28d25aa8b4d844e880465f9ef3811f23e61d77532634703d463d7a2", func := "loop.example/corbel/laws.FnFlate", spec := "fnFlate", unfollowed := true, recurses := true, named := ["loop.example/corbel/impl.lenOrder"], apart := false, laid := [("loop.example/corbel/impl.lenOrder", laid_loop_example_corbel_impl_lenOrder)] }
def FnFlateSaid : Prop := fnFlateRow.holds Tryz.pinned (OpenSpec.ofChange fnFlateSpec)

/-- ITS FALSE NEIGHBOUR: 'it returns false'. Refute it at one input. -/
def fnFlateWrong : ChangeSpec := { name := "fnFlate", vars := ["loop.example/corbel/impl.lenOrder"], fn := fun _ => fun
  | [d, g1] => { results := [.lit (.bool false)], args := [d], vars := [g1] }
  | _ => none }
def FnFlateWrongFalsely : Prop := fnFlateRow.holds Tryz.pinned (OpenSpec.ofChange fnFlateWrong)

/-- 'laws.FnFlateGet': WHATEVER THE INPUT: true; the input reads as it did. -/
def fnFlateGetSpec : ChangeSpec := { name := "fnFlateGet", vars := ["loop.example/corbel/impl.lenOrder"], fn := fun _ => fun
  | [d, g1] => { results := [.lit (.bool true)], args := [d], vars := [g1] }
  | _ => none }
def fnFlateGetRow : OpenClaim := { program := "ytpmidjddjdejmaagreatdoor", sum := "7a8ff552b28d25aa8b4d844e880465f9ef3811f23e61d77532634703d463d7a2", func := "loop.example/corbel/laws.FnFlateGet", spec := "fnFlateGet", unfollowed := true, recurses := true, named := ["loop.example/corbel/impl.lenOrder"], apart := false, laid := [("loop.example/corbel/impl.lenOrder", laid_loop_example_corbel_impl_lenOrder)] }
def FnFlateGetSaid : Prop := fnFlateGetRow.holds Tryz.pinned (OpenSpec.ofChange fnFlateGetSpec)

/-- ITS FALSE NEIGHBOUR: 'it returns false'. Refute it at one input. -/
def fnFlateGetWrong : ChangeSpec := { name := "fnFlateGet", vars := ["loop.example/corbel/impl.lenOrder"], fn := fun _ => fun
  | [d, g1] => { results := [.lit (.bool false)], args := [d], vars := [g1] }
  | _ => none }
def FnFlateGetWrongFalsely : Prop := fnFlateGetRow.holds Tryz.pinned (OpenSpec.ofChange fnFlateGetWrong)

/-- 'laws.FnFlateMany': WHATEVER THE INPUT: true; the input reads as it did. -/
def fnFlateManySpec : ChangeSpec := { name := "fnFlateMany", vars := ["loop.example/corbel/impl.lenOrder"], fn := fun _ => fun
  | [d, g1] => { results := [.lit (.bool true)], args := [d], vars := [g1] }
  | _ => none }
def fnFlateManyRow : OpenClaim := { program := "ytpmidjddjdejmaagreatdoor", sum := "7a8ff552b28d25aa8b4d844e880465f9ef3811f23e61d77532634703d463d7a2", func := "loop.example/corbel/laws.FnFlateMany", spec := "fnFlateMany", unfollowed := true, recurses := true, named := ["loop.example/corbel/impl.lenOrder"], apart := false, laid := [("loop.example/corbel/impl.lenOrder", laid_loop_example_corbel_impl_lenOrder)] }
def FnFlateManySaid : Prop := fnFlateManyRow.holds Tryz.pinned (OpenSpec.ofChange fnFlateManySpec)

/-- ITS FALSE NEIGHBOUR: 'it returns false'. Refute it at one input. -/
def fnFlateManyWrong : ChangeSpec := { name := "fnFlateMany", vars := ["loop.example/corbel/impl.lenOrder"], fn := fun _ => fun
  | [d, g1] => { results := [.lit (.bool false)], args := [d], vars := [g1] }
  | _ => none }
def FnFlateManyWrongFalsely : Prop := fnFlateManyRow.holds Tryz.pinned (OpenSpec.ofChange fnFlateManyWrong)

/-- 'laws.FnFlateBad': WHATEVER THE INPUT: true; the input reads as it did. -/
def fnFlateBadSpec : ChangeSpec := { name := "fnFlateBad", vars := ["loop.example/corbel/impl.lenOrder"], fn := fun _ => fun
  | [d, g1] => { results := [.lit (.bool true)], args := [d], vars := [g1] }
  | _ => none }
def fnFlateBadRow : OpenClaim := { program := "ytpmidjddjdejmaagreatdoor", sum := "7a8ff552b28d25aa8b4d844e880465f9ef3811f23e61d77532634703d463d7a2", func := "loop.example/corbel/laws.FnFlateBad", spec := "fnFlateBad", unfollowed := true, recurses := true, named := ["loop.example/corbel/impl.lenOrder"], apart := false, laid := [("loop.example/corbel/impl.lenOrder", laid_loop_example_corbel_impl_lenOrder)] }
def FnFlateBadSaid : Prop := fnFlateBadRow.holds Tryz.pinned (OpenSpec.ofChange fnFlateBadSpec)

/-- ITS FALSE NEIGHBOUR: 'it returns false'. Refute it at one input. -/
def fnFlateBadWrong : ChangeSpec := { name := "fnFlateBad", vars := ["loop.example/corbel/impl.lenOrder"], fn := fun _ => fun
  | [d, g1] => { results := [.lit (.bool false)], args := [d], vars := [g1] }
  | _ => none }
def FnFlateBadWrongFalsely : Prop := fnFlateBadRow.holds Tryz.pinned (OpenSpec.ofChange fnFlateBadWrong)

/-- 'laws.FnFlateKinds': WHATEVER THE INPUT: true; the input reads as it did. -/
def fnFlateKindsSpec : ChangeSpec := { name := "fnFlateKinds", vars := ["loop.example/corbel/impl.lenOrder"], fn := fun _ => fun
  | [d, g1] => { results := [.lit (.bool true)], args := [d], vars := [g1] }
  | _ => none }
def fnFlateKindsRow : OpenClaim := { program := "ytpmidjddjdejmaagreatdoor", sum := "7a8ff552b28d25aa8b4d844e880465f9ef3811f23e61d77532634703d463d7a2", func := "loop.example/corbel/laws.FnFlateKinds", spec := "fnFlateKinds", unfollowed := true, recurses := true, named := ["loop.example/corbel/impl.lenOrder"], apart := false, laid := [("loop.example/corbel/impl.lenOrder", laid_loop_example_corbel_impl_lenOrder)] }
def FnFlateKindsSaid : Prop := fnFlateKindsRow.holds Tryz.pinned (OpenSpec.ofChange fnFlateKindsSpec)

/-- ITS FALSE NEIGHBOUR: 'it returns false'. Refute it at one input. -/
def fnFlateKindsWrong : ChangeSpec := { name := "fnFlateKinds", vars := ["loop.example/corbel/impl.lenOrder"], fn := fun _ => fun
  | [d, g1] => { results := [.lit (.bool false)], args := [d], vars := [g1] }
  | _ => none }
def FnFlateKindsWrongFalsely : Prop := fnFlateKindsRow.holds Tryz.pinned (OpenSpec.ofChange fnFlateKindsWrong)

/-- 'laws.FnFlateTwo': WHATEVER THE INPUT: true; the input reads as it did. -/
def fnFlateTwoSpec : ChangeSpec := { name := "fnFlateTwo", vars := ["loop.example/corbel/impl.lenOrder"], fn := fun _ => fun
  | [d, g1] => { results := [.lit (.bool true)], args := [d], vars := [g1] }
  | _ => none }
def fnFlateTwoRow : OpenClaim := { program := "ytpmidjddjdejmaagreatdoor", sum := "7a8ff552b28d25aa8b4d844e880465f9ef3811f23e61d77532634703d463d7a2", func := "loop.example/corbel/laws.FnFlateTwo", spec := "fnFlateTwo", unfollowed := true, recurses := true, named := ["loop.example/corbel/impl.lenOrder"], apart := false, laid := [("loop.example/corbel/impl.lenOrder", laid_loop_example_corbel_impl_lenOrder)] }
def FnFlateTwoSaid : Prop := fnFlateTwoRow.holds Tryz.pinned (OpenSpec.ofChange fnFlateTwoSpec)

/-- ITS FALSE NEIGHBOUR: 'it returns false'. Refute it at one input. -/
def fnFlateTwoWrong : ChangeSpec := { name := "fnFlateTwo", vars := ["loop.example/corbel/impl.lenOrder"], fn := fun _ => fun
  | [d, g1] => { results := [.lit (.bool false)], args := [d], vars := [g1] }
  | _ => none }
def FnFlateTwoWrongFalsely : Prop := fnFlateTwoRow.holds Tryz.pinned (OpenSpec.ofChange fnFlateTwoWrong)

/-- 'laws.FnFlateShort': WHATEVER THE INPUT: true; the input reads as it did. -/
def fnFlateShortSpec : ChangeSpec := { name := "fnFlateShort", vars := ["loop.example/corbel/impl.lenOrder"], fn := fun _ => fun
  | [d, g1] => { results := [.lit (.bool true)], args := [d], vars := [g1] }
  | _ => none }
def fnFlateShortRow : OpenClaim := { program := "ytpmidjddjdejmaagreatdoor", sum := "7a8ff552b28d25aa8b4d844e880465f9ef3811f23e61d77532634703d463d7a2", func := "loop.example/corbel/laws.FnFlateShort", spec := "fnFlateShort", unfollowed := true, recurses := true, named := ["loop.example/corbel/impl.lenOrder"], apart := false, laid := [("loop.example/corbel/impl.lenOrder", laid_loop_example_corbel_impl_lenOrder)] }
def FnFlateShortSaid : Prop := fnFlateShortRow.holds Tryz.pinned (OpenSpec.ofChange fnFlateShortSpec)

/-- ITS FALSE NEIGHBOUR: 'it returns false'. Refute it at one input. -/
def fnFlateShortWrong : ChangeSpec := { name := "fnFlateShort", vars := ["loop.example/corbel/impl.lenOrder"], fn := fun _ => fun
  | [d, g1] => { results := [.lit (.bool false)], args := [d], vars := [g1] }
  | _ => none }
def FnFlateShortWrongFalsely : Prop := fnFlateShortRow.holds Tryz.pinned (OpenSpec.ofChange fnFlateShortWrong)

/- THE SECOND FORM. 'bulk': how many values and letters a reading holds, each counted each time it is reached (what is shared counts as often as it is met; a slice's spare places count too). A statement '..UptoSaid' is the law's where the arguments, and the package variables that the reading takes, are together of bulk at most 1048576: NARROWER than '..Said'. Prove '..Said' where nothing that the law and all that it calls make is longer than what came in: it says more and counts as full. Else prove '..UptoSaid'. A law counts once. -/
mutual
def uptoBulk {H : Type} : DataW H → Nat
  | .lit (.string bytes) => bytes.length + 1
  | .lit _ => 1
  | .nil => 1
  | .ptr d => uptoBulk d + 1
  | .slice elems spare => uptoBulkAll elems + uptoBulkAll spare + 1
  | .agg parts => uptoBulkAll parts + 1
  | .iface _ d => uptoBulk d + 1
  | .map entries => uptoBulkEntries entries + 1
  | .held _ => 1
def uptoBulkAll {H : Type} : List (DataW H) → Nat
  | [] => 0
  | d :: r => uptoBulk d + uptoBulkAll r
def uptoBulkEntries {H : Type} : List (Lit × DataW H) → Nat
  | [] => 0
  | x :: r => uptoBulkEntry x + uptoBulkEntries r
def uptoBulkEntry {H : Type} : Lit × DataW H → Nat
  | (.string bytes, d) => bytes.length + uptoBulk d + 1
  | (_, d) => uptoBulk d + 1
 end
def uptoSmall : (H : Type) → List (DataW H) → Bool := fun _ ds => decide (uptoBulkAll ds ≤ 1048576)
def OpenSpec.upto (s : _root_.Go.ChangeSpec) : _root_.Go.OpenSpec := { _root_.Go.OpenSpec.ofChange s with cond := some uptoSmall }

/-- 'laws.FnOwn', WHERE WHAT IT READS IS OF BULK AT MOST 1048576: true; the input reads as it did. -/
def fnOwnUptoRow : OpenClaim := { program := "ytpmidjddjdejmaagreatdoor", sum := "7a8ff552b28d25aa8b4d844e880465f9ef3811f23e61d77532634703d463d7a2", func := "loop.example/corbel/laws.FnOwn", spec := "fnOwn", unfollowed := true, recurses := true, named := ["loop.example/corbel/impl.lenOrder"], apart := false, laid := [("loop.example/corbel/impl.lenOrder", laid_loop_example_corbel_impl_lenOrder)], narrowed := true }
def FnOwnUptoSaid : Prop := fnOwnUptoRow.holds Tryz.pinned (OpenSpec.upto fnOwnSpec)

/-- 'laws.FnFlate', WHERE WHAT IT READS IS OF BULK AT MOST 1048576: true; the input reads as it did. -/
def fnFlateUptoRow : OpenClaim := { program := "ytpmidjddjdejmaagreatdoor", sum := "7a8ff552b28d25aa8b4d844e880465f9ef3811f23e61d77532634703d463d7a2", func := "loop.example/corbel/laws.FnFlate", spec := "fnFlate", unfollowed := true, recurses := true, named := ["loop.example/corbel/impl.lenOrder"], apart := false, laid := [("loop.example/corbel/impl.lenOrder", laid_loop_example_corbel_impl_lenOrder)], narrowed := true }
def FnFlateUptoSaid : Prop := fnFlateUptoRow.holds Tryz.pinned (OpenSpec.upto fnFlateSpec)

/-- 'laws.FnFlateGet', WHERE WHAT IT READS IS OF BULK AT MOST 1048576: true; the input reads as it did. -/
def fnFlateGetUptoRow : OpenClaim := { program := "ytpmidjddjdejmaagreatdoor", sum := "7a8ff552b28d25aa8b4d844e880465f9ef3811f23e61d77532634703d463d7a2", func := "loop.example/corbel/laws.FnFlateGet", spec := "fnFlateGet", unfollowed := true, recurses := true, named := ["loop.example/corbel/impl.lenOrder"], apart := false, laid := [("loop.example/corbel/impl.lenOrder", laid_loop_example_corbel_impl_lenOrder)], narrowed := true }
def FnFlateGetUptoSaid : Prop := fnFlateGetUptoRow.holds Tryz.pinned (OpenSpec.upto fnFlateGetSpec)

/-- 'laws.FnFlateMany', WHERE WHAT IT READS IS OF BULK AT MOST 1048576: true; the input reads as it did. -/
def fnFlateManyUptoRow : OpenClaim := { program := "ytpmidjddjdejmaagreatdoor", sum := "7a8ff552b28d25aa8b4d844e880465f9ef3811f23e61d77532634703d463d7a2", func := "loop.example/corbel/laws.FnFlateMany", spec := "fnFlateMany", unfollowed := true, recurses := true, named := ["loop.example/corbel/impl.lenOrder"], apart := false, laid := [("loop.example/corbel/impl.lenOrder", laid_loop_example_corbel_impl_lenOrder)], narrowed := true }
def FnFlateManyUptoSaid : Prop := fnFlateManyUptoRow.holds Tryz.pinned (OpenSpec.upto fnFlateManySpec)

/-- 'laws.FnFlateBad', WHERE WHAT IT READS IS OF BULK AT MOST 1048576: true; the input reads as it did. -/
def fnFlateBadUptoRow : OpenClaim := { program := "ytpmidjddjdejmaagreatdoor", sum := "7a8ff552b28d25aa8b4d844e880465f9ef3811f23e61d77532634703d463d7a2", func := "loop.example/corbel/laws.FnFlateBad", spec := "fnFlateBad", unfollowed := true, recurses := true, named := ["loop.example/corbel/impl.lenOrder"], apart := false, laid := [("loop.example/corbel/impl.lenOrder", laid_loop_example_corbel_impl_lenOrder)], narrowed := true }
def FnFlateBadUptoSaid : Prop := fnFlateBadUptoRow.holds Tryz.pinned (OpenSpec.upto fnFlateBadSpec)

/-- 'laws.FnFlateKinds', WHERE WHAT IT READS IS OF BULK AT MOST 1048576: true; the input reads as it did. -/
def fnFlateKindsUptoRow : OpenClaim := { program := "ytpmidjddjdejmaagreatdoor", sum := "7a8ff552b28d25aa8b4d844e880465f9ef3811f23e61d77532634703d463d7a2", func := "loop.example/corbel/laws.FnFlateKinds", spec := "fnFlateKinds", unfollowed := true, recurses := true, named := ["loop.example/corbel/impl.lenOrder"], apart := false, laid := [("loop.example/corbel/impl.lenOrder", laid_loop_example_corbel_impl_lenOrder)], narrowed := true }
def FnFlateKindsUptoSaid : Prop := fnFlateKindsUptoRow.holds Tryz.pinned (OpenSpec.upto fnFlateKindsSpec)

/-- 'laws.FnFlateTwo', WHERE WHAT IT READS IS OF BULK AT MOST 1048576: true; the input reads as it did. -/
def fnFlateTwoUptoRow : OpenClaim := { program := "ytpmidjddjdejmaagreatdoor", sum := "7a8ff552b28d25aa8b4d844e880465f9ef3811f23e61d77532634703d463d7a2", func := "loop.example/corbel/laws.FnFlateTwo", spec := "fnFlateTwo", unfollowed := true, recurses := true, named := ["loop.example/corbel/impl.lenOrder"], apart := false, laid := [("loop.example/corbel/impl.lenOrder", laid_loop_example_corbel_impl_lenOrder)], narrowed := true }
def FnFlateTwoUptoSaid : Prop := fnFlateTwoUptoRow.holds Tryz.pinned (OpenSpec.upto fnFlateTwoSpec)

/-- 'laws.FnFlateShort', WHERE WHAT IT READS IS OF BULK AT MOST 1048576: true; the input reads as it did. -/
def fnFlateShortUptoRow : OpenClaim := { program := "ytpmidjddjdejmaagreatdoor", sum := "7a8ff552b28d25aa8b4d844e880465f9ef3811f23e61d77532634703d463d7a2", func := "loop.example/corbel/laws.FnFlateShort", spec := "fnFlateShort", unfollowed := true, recurses := true, named := ["loop.example/corbel/impl.lenOrder"], apart := false, laid := [("loop.example/corbel/impl.lenOrder", laid_loop_example_corbel_impl_lenOrder)], narrowed := true }
def FnFlateShortUptoSaid : Prop := fnFlateShortUptoRow.holds Tryz.pinned (OpenSpec.upto fnFlateShortSpec)

end Rows
end Go.Proofs.YtpmidjddjdejmaaGreatDoor
