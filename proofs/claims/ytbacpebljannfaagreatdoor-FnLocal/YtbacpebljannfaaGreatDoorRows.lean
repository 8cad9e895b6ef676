/-
  NARROWER THAN 'FOR EVERY INPUT', by the rows' own cells (each row's printed sentence says how): FnExactLocalPut: laid · FnLocalShort: laid · FnExactLocalGet: laid · FnLocal: laid · FnLocalGet: laid · FnLocalTwo: laid · FnLocalBent: laid.
  DERIVED. THE GIVEN ROWS OF THIS SEAT. 7 by the template 'for every input the law returns true; each argument reads behind the call as it read before'; 0 by the template 'total and deterministic' (their statements: YtbacpebljannfaaGreatDoorTotals.lean).
  GIVEN WITH THE SEED: the statements are not yours to turn. If you find one false, say at which input.
  Laid BY PROGRAM, IN A SANDBOX (cutbox-rows.mjs): the forced cells as the released guide's own fill.sh prints them over the translation 2a43398dd757b3be… (all of the seat's roots in one cut). By AI agents, Wed Nov 11 2026. No macro, syntax, notation, axiom, sorry.
-/
import Derived.Test.YtbacpebljannfaaGreatDoorChecked
import GoSem.PinnedTables
import GoSem.Claim
import GoSem.ClaimJoined
import GoSem.ClaimMapViews
import Derived.JoinedTies
import Derived.KernelRfl
namespace Go.Proofs.YtbacpebljannfaaGreatDoor
/- THE CELL 'sum', in the pinned program and in every row, IS THE sha256 OF THE DUMP (.gsa) THAT YtbacpebljannfaaGreatDoorProg.lean LOADS. Nothing in Lean hashes anything: it is a label: what it is worth is what the hold of that sum in a sandbox is worth. -/
noncomputable def Tryz.pinned : Pinned := { name := "ytbacpebljannfaagreatdoor", sum := "2a43398dd757b3be7382408b1878e703a640b0a50f26732d62aa5e1a8c046358", checked := Tryz.checked }
namespace Rows
def none {H : Type} : Left H := { results := [], args := [] }

/- WHAT THE LISTED PACKAGE-LEVEL VARIABLES READ AS WHEN THE CALL BEGINS. Each datum BY PROGRAM (the guide's laid-datum.mjs) off the statement by which the dump's own 'gosem.cut.vars' lays the variable. In a bare row this is a premise. The card (YtbacpebljannfaaGreatDoorCards.lean) ties it to the program's text. -/
def laid_unicode_utf8_acceptRanges {H : Type} : DataW H := .agg [.agg [.lit (.int .u8 128), .lit (.int .u8 191)], .agg [.lit (.int .u8 160), .lit (.int .u8 191)], .agg [.lit (.int .u8 128), .lit (.int .u8 159)], .agg [.lit (.int .u8 144), .lit (.int .u8 191)], .agg [.lit (.int .u8 128), .lit (.int .u8 143)], .agg [.lit (.int .u8 0), .lit (.int .u8 0)], .agg [.lit (.int .u8 0), .lit (.int .u8 0)], .agg [.lit (.int .u8 0), .lit (.int .u8 0)], .agg [.lit (.int .u8 0), .lit (.int .u8 0)], .agg [.lit (.int .u8 0), .lit (.int .u8 0)], .agg [.lit (.int .u8 0), .lit (.int .u8 0)], .agg [.lit (.int .u8 0), .lit (.int .u8 0)], .agg [.lit (.int .u8 0), .lit (.int .u8 0)], .agg [.lit (.int .u8 0), .lit (.int .u8 0)], .agg [.lit (.int .u8 0), .lit (.int .u8 0)], .agg [.lit (.int .u8 0), .lit (.int .u8 0)]]
def laid_loop_example_corbel_impl_lenOrder {H : Type} : DataW H := .agg [.lit (.int .i64 16), .lit (.int .i64 17), .lit (.int .i64 18), .lit (.int .i64 0), .lit (.int .i64 8), .lit (.int .i64 7), .lit (.int .i64 9), .lit (.int .i64 6), .lit (.int .i64 10), .lit (.int .i64 5), .lit (.int .i64 11), .lit (.int .i64 4), .lit (.int .i64 12), .lit (.int .i64 3), .lit (.int .i64 13), .lit (.int .i64 2), .lit (.int .i64 14), .lit (.int .i64 1), .lit (.int .i64 15)]
/-- One of Go's own tables, pinned by name: the form's constant. -/
def laid_unicode_utf8_first : DataW Unit := Go.Pinned.utf8First

/-- 'laws.FnExactLocalPut': WHATEVER THE INPUT: true; the input reads as it did. -/
def fnExactLocalPutSpec : ChangeSpec := { name := "fnExactLocalPut", vars := ["loop.example/corbel/impl.lenOrder"], fn := fun _ => fun
  | [d, g1] => { results := [.lit (.bool true)], args := [d], vars := [g1] }
  | _ => none }
def fnExactLocalPutRow : OpenClaim := { program := "ytbacpebljannfaagreatdoor", sum := "2a43398dd757b3be7382408b1878e703a640b0a50f26732d62aa5e1a8c046358", func := "loop.example/corbel/laws.FnExactLocalPut", spec := "fnExactLocalPut", inPlace := ["internal/bytealg.CountString", "internal/bytealg.IndexByteString", "internal/bytealg.IndexString"], unfollowed := true, recurses := true, named := ["unicode/utf8.first", "unicode/utf8.acceptRanges", "internal/bytealg.MaxLen", "loop.example/corbel/impl.lenOrder"], apart := false, laid := [("unicode/utf8.acceptRanges", laid_unicode_utf8_acceptRanges), ("loop.example/corbel/impl.lenOrder", laid_loop_example_corbel_impl_lenOrder), ("unicode/utf8.first", laid_unicode_utf8_first)] }
def FnExactLocalPutSaid : Prop := fnExactLocalPutRow.holds Tryz.pinned (OpenSpec.ofChange fnExactLocalPutSpec)

/-- ITS FALSE NEIGHBOUR: 'it returns false'. Refute it at one input. -/
def fnExactLocalPutWrong : ChangeSpec := { name := "fnExactLocalPut", vars := ["loop.example/corbel/impl.lenOrder"], fn := fun _ => fun
  | [d, g1] => { results := [.lit (.bool false)], args := [d], vars := [g1] }
  | _ => none }
def FnExactLocalPutWrongFalsely : Prop := fnExactLocalPutRow.holds Tryz.pinned (OpenSpec.ofChange fnExactLocalPutWrong)

/-- 'laws.FnLocalShort': WHATEVER THE INPUT: true; the input reads as it did. -/
def fnLocalShortSpec : ChangeSpec := { name := "fnLocalShort", vars := ["loop.example/corbel/impl.lenOrder"], fn := fun _ => fun
  | [d, g1] => { results := [.lit (.bool true)], args := [d], vars := [g1] }
  | _ => none }
def fnLocalShortRow : OpenClaim := { program := "ytbacpebljannfaagreatdoor", sum := "2a43398dd757b3be7382408b1878e703a640b0a50f26732d62aa5e1a8c046358", func := "loop.example/corbel/laws.FnLocalShort", spec := "fnLocalShort", inPlace := ["internal/bytealg.CountString", "internal/bytealg.IndexByteString", "internal/bytealg.IndexString"], unfollowed := true, recurses := true, named := ["unicode/utf8.first", "unicode/utf8.acceptRanges", "internal/bytealg.MaxLen", "loop.example/corbel/impl.lenOrder"], apart := false, laid := [("unicode/utf8.acceptRanges", laid_unicode_utf8_acceptRanges), ("loop.example/corbel/impl.lenOrder", laid_loop_example_corbel_impl_lenOrder), ("unicode/utf8.first", laid_unicode_utf8_first)] }
def FnLocalShortSaid : Prop := fnLocalShortRow.holds Tryz.pinned (OpenSpec.ofChange fnLocalShortSpec)

/-- ITS FALSE NEIGHBOUR: 'it returns false'. Refute it at one input. -/
def fnLocalShortWrong : ChangeSpec := { name := "fnLocalShort", vars := ["loop.example/corbel/impl.lenOrder"], fn := fun _ => fun
  | [d, g1] => { results := [.lit (.bool false)], args := [d], vars := [g1] }
  | _ => none }
def FnLocalShortWrongFalsely : Prop := fnLocalShortRow.holds Tryz.pinned (OpenSpec.ofChange fnLocalShortWrong)

/-- 'laws.FnExactLocalGet': WHATEVER THE INPUT: true; the input reads as it did. -/
def fnExactLocalGetSpec : ChangeSpec := { name := "fnExactLocalGet", vars := ["loop.example/corbel/impl.lenOrder"], fn := fun _ => fun
  | [d, g1] => { results := [.lit (.bool true)], args := [d], vars := [g1] }
  | _ => none }
def fnExactLocalGetRow : OpenClaim := { program := "ytbacpebljannfaagreatdoor", sum := "2a43398dd757b3be7382408b1878e703a640b0a50f26732d62aa5e1a8c046358", func := "loop.example/corbel/laws.FnExactLocalGet", spec := "fnExactLocalGet", inPlace := ["internal/bytealg.CountString", "internal/bytealg.IndexByteString", "internal/bytealg.IndexString"], unfollowed := true, recurses := true, named := ["loop.example/corbel/impl.lenOrder", "unicode/utf8.first", "unicode/utf8.acceptRanges", "internal/bytealg.MaxLen"], apart := false, laid := [("unicode/utf8.acceptRanges", laid_unicode_utf8_acceptRanges), ("loop.example/corbel/impl.lenOrder", laid_loop_example_corbel_impl_lenOrder), ("unicode/utf8.first", laid_unicode_utf8_first)] }
def FnExactLocalGetSaid : Prop := fnExactLocalGetRow.holds Tryz.pinned (OpenSpec.ofChange fnExactLocalGetSpec)

/-- ITS FALSE NEIGHBOUR: 'it returns false'. Refute it at one input. -/
def fnExactLocalGetWrong : ChangeSpec := { name := "fnExactLocalGet", vars := ["loop.example/corbel/impl.lenOrder"], fn := fun _ => fun
  | [d, g1] => { results := [.lit (.bool false)], args := [d], vars := [g1] }
  | _ => none }
def FnExactLocalGetWrongFalsely : Prop := fnExactLocalGetRow.holds Tryz.pinned (OpenSpec.ofChange fnExactLocalGetWrong)

/-- 'laws.FnLocal': WHATEVER THE INPUT: true; the input reads as it did. -/
def fnLocalSpec : ChangeSpec := { name := "fnLocal", vars := ["loop.example/corbel/impl.lenOrder"], fn := fun _ => fun
  | [d1, d2, g1] => { results := [.lit (.bool true)], args := [d1, d2], vars := [g1] }
  | _ => none }
def fnLocalRow : OpenClaim := { program := "ytbacpebljannfaagreatdoor", sum := "2a43398dd757b3be7382408b1878e703a640b0a50f26732d62aa5e1a8c046358", func := "loop.example/corbel/laws.FnLocal", spec := "fnLocal", inPlace := ["internal/bytealg.CountString", "internal/bytealg.IndexByteString", "internal/bytealg.IndexString"], unfollowed := true, recurses := true, named := ["unicode/utf8.first", "unicode/utf8.acceptRanges", "internal/bytealg.MaxLen", "loop.example/corbel/impl.lenOrder"], apart := false, laid := [("unicode/utf8.acceptRanges", laid_unicode_utf8_acceptRanges), ("loop.example/corbel/impl.lenOrder", laid_loop_example_corbel_impl_lenOrder), ("unicode/utf8.first", laid_unicode_utf8_first)] }
def FnLocalSaid : Prop := fnLocalRow.holds Tryz.pinned (OpenSpec.ofChange fnLocalSpec)

/-- ITS FALSE NEIGHBOUR: 'it returns false'. Refute it at one input. -/
def fnLocalWrong : ChangeSpec := { name := "fnLocal", vars := ["loop.example/corbel/impl.lenOrder"], fn := fun _ => fun
  | [d1, d2, g1] => { results := [.lit (.bool false)], args := [d1, d2], vars := [g1] }
  | _ => none }
def FnLocalWrongFalsely : Prop := fnLocalRow.holds Tryz.pinned (OpenSpec.ofChange fnLocalWrong)

/-- 'laws.FnLocalGet': WHATEVER THE INPUT: true; the input reads as it did. -/
def fnLocalGetSpec : ChangeSpec := { name := "fnLocalGet", vars := ["loop.example/corbel/impl.lenOrder"], fn := fun _ => fun
  | [d, g1] => { results := [.lit (.bool true)], args := [d], vars := [g1] }
  | _ => none }
def fnLocalGetRow : OpenClaim := { program := "ytbacpebljannfaagreatdoor", sum := "2a43398dd757b3be7382408b1878e703a640b0a50f26732d62aa5e1a8c046358", func := "loop.example/corbel/laws.FnLocalGet", spec := "fnLocalGet", inPlace := ["internal/bytealg.CountString", "internal/bytealg.IndexByteString", "internal/bytealg.IndexString"], unfollowed := true, recurses := true, named := ["loop.example/corbel/impl.lenOrder", "unicode/utf8.first", "unicode/utf8.acceptRanges", "internal/bytealg.MaxLen"], apart := false, laid := [("unicode/utf8.acceptRanges", laid_unicode_utf8_acceptRanges), ("loop.example/corbel/impl.lenOrder", laid_loop_example_corbel_impl_lenOrder), ("unicode/utf8.first", laid_unicode_utf8_first)] }
def FnLocalGetSaid : Prop := fnLocalGetRow.holds Tryz.pinned (OpenSpec.ofChange fnLocalGetSpec)

/-- ITS FALSE NEIGHBOUR: 'it returns false'. Refute it at one input. -/
def fnLocalGetWrong : ChangeSpec := { name := "fnLocalGet", vars := ["loop.example/corbel/impl.lenOrder"], fn := fun _ => fun
  | [d, g1] => { results := [.lit (.bool false)], args := [d], vars := [g1] }
  | _ => none }
def FnLocalGetWrongFalsely : Prop := fnLocalGetRow.holds Tryz.pinned (OpenSpec.ofChange fnLocalGetWrong)

/-- 'laws.FnLocalTwo': WHATEVER THE INPUT: true; the input reads as it did. -/
def fnLocalTwoSpec : ChangeSpec := { name := "fnLocalTwo", vars := ["loop.example/corbel/impl.lenOrder"], fn := fun _ => fun
  | [d1, d2, g1] => { results := [.lit (.bool true)], args := [d1, d2], vars := [g1] }
  | _ => none }
def fnLocalTwoRow : OpenClaim := { program := "ytbacpebljannfaagreatdoor", sum := "2a43398dd757b3be7382408b1878e703a640b0a50f26732d62aa5e1a8c046358", func := "loop.example/corbel/laws.FnLocalTwo", spec := "fnLocalTwo", inPlace := ["internal/bytealg.CountString", "internal/bytealg.IndexByteString", "internal/bytealg.IndexString"], unfollowed := true, recurses := true, named := ["unicode/utf8.first", "unicode/utf8.acceptRanges", "internal/bytealg.MaxLen", "loop.example/corbel/impl.lenOrder"], apart := false, laid := [("unicode/utf8.acceptRanges", laid_unicode_utf8_acceptRanges), ("loop.example/corbel/impl.lenOrder", laid_loop_example_corbel_impl_lenOrder), ("unicode/utf8.first", laid_unicode_utf8_first)] }
def FnLocalTwoSaid : Prop := fnLocalTwoRow.holds Tryz.pinned (OpenSpec.ofChange fnLocalTwoSpec)

/-- ITS FALSE NEIGHBOUR: 'it returns false'. Refute it at one input. -/
def fnLocalTwoWrong : ChangeSpec := { name := "fnLocalTwo", vars := ["loop.example/corbel/impl.lenOrder"], fn := fun _ => fun
  | [d1, d2, g1] => { results := [.lit (.bool false)], args := [d1, d2], vars := [g1] }
  | _ => none }
def FnLocalTwoWrongFalsely : Prop := fnLocalTwoRow.holds Tryz.pinned (OpenSpec.ofChange fnLocalTwoWrong)

/-- 'laws.FnLocalBent': WHATEVER THE INPUT: true; the input reads as it did. -/
def fnLocalBentSpec : ChangeSpec := { name := "fnLocalBent", vars := ["loop.example/corbel/impl.lenOrder"], fn := fun _ => fun
  | [d1, d2, g1] => { results := [.lit (.bool true)], args := [d1, d2], vars := [g1] }
  | _ => none }
def fnLocalBentRow : OpenClaim := { program := "ytbacpebljannfaagreatdoor", sum := "2a43398dd757b3be7382408b1878e703a640b0a50f26732d62aa5e1a8c046358", func := "loop.example/corbel/laws.FnLocalBent", spec := "fnLocalBent", inPlace := ["internal/bytealg.CountString", "internal/bytealg.IndexByteString", "internal/bytealg.IndexString"], unfollowed := true, recurses := true, named := ["unicode/utf8.first", "unicode/utf8.acceptRanges", "internal/bytealg.MaxLen", "loop.example/corbel/impl.lenOrder"], apart := false, laid := [("unicode/utf8.acceptRanges", laid_unicode_utf8_acceptRanges), ("loop.example/corbel/impl.lenOrder", laid_loop_example_corbel_impl_lenOrder), ("unicode/utf8.first", laid_unicode_utf8_first)] }
def FnLocalBentSaid : Prop := fnLocalBentRow.holds Tryz.pinned (OpenSpec.ofChange fnLocalBentSpec)

/-- ITS FALSE NEIGHBOUR: 'it returns false'. Refute it at one input. -/
def fnLocalBentWrong : ChangeSpec := { name := "fnLocalBent", vars := ["loop.example/corbel/impl.lenOrder"], fn := fun _ => fun
  | [d1, d2, g1] => { results := [.lit (.bool false)], args := [d1, d2], vars := [g1] }
  | _ => none }
def FnLocalBentWrongFalsely : Prop := fnLocalBentRow.holds Tryz.pinned (OpenSpec.ofChange fnLocalBentWrong)

/- THE SECOND FORM. 'bulk': how many values and letters a reading holds, each counted each time it is reached (what is shared counts as often as it is met; a slice's spare places count too). A statement '..UptoSaid' is the law's where the arguments, and the package variables that the reading takes, are together of bulk at most 1048576: NARROWER than '..Said'. Prove '..Said' where nothing that the law and all that it calls make is longer than what came in: it says more and counts as full. Else prove '..UptoSaid'. A law counts once. -/
mutual
def uptoBulk {H : Type} : DataW H → Nat
  | .lit (.string bytes) => bytes.length + 1
  | .lit _ => 1
  | .nil => 1
  | .ptr d => uptoBulk d + 1
  | .slice elems spare => uptoBulkAll elems + uptoBulkAll spare + 1
  | .agg parts => uptoBulkAll parts + 1
  | .iface _ d => uptoBulk d + 1
  | .map entries => uptoBulkEntries entries + 1
  | .held _ => 1
def uptoBulkAll {H : Type} : List (DataW H) → Nat
  | [] => 0
  | d :: r => uptoBulk d + uptoBulkAll r
def uptoBulkEntries {H : Type} : List (Lit × DataW H) → Nat
  | [] => 0
  | x :: r => uptoBulkEntry x + uptoBulkEntries r
def uptoBulkEntry {H : Type} : Lit × DataW H → Nat
  | (.string bytes, d) => bytes.length + uptoBulk d + 1
  | (_, d) => uptoBulk d + 1
 end
def uptoSmall : (H : Type) → List (DataW H) → Bool := fun _ ds => decide (uptoBulkAll ds ≤ 1048576)
def OpenSpec.upto (s : _root_.Go.ChangeSpec) : _root_.Go.OpenSpec := { _root_.Go.OpenSpec.ofChange s with cond := some uptoSmall }

/-- 'laws.FnExactLocalPut', WHERE WHAT IT READS IS OF BULK AT MOST 1048576: true; the input reads as it did. -/
def fnExactLocalPutUptoRow : OpenClaim := { program := "ytbacpebljannfaagreatdoor", sum := "2a43398dd757b3be7382408b1878e703a640b0a50f26732d62aa5e1a8c046358", func := "loop.example/corbel/laws.FnExactLocalPut", spec := "fnExactLocalPut", inPlace := ["internal/bytealg.CountString", "internal/bytealg.IndexByteString", "internal/bytealg.IndexString"], unfollowed := true, recurses := true, named := ["unicode/utf8.first", "unicode/utf8.acceptRanges", "internal/bytealg.MaxLen", "loop.example/corbel/impl.lenOrder"], apart := false, laid := [("unicode/utf8.acceptRanges", laid_unicode_utf8_acceptRanges), ("loop.example/corbel/impl.lenOrder", laid_loop_example_corbel_impl_lenOrder), ("unicode/utf8.first", laid_unicode_utf8_first)], narrowed := true }
def FnExactLocalPutUptoSaid : Prop := fnExactLocalPutUptoRow.holds Tryz.pinned (OpenSpec.upto fnExactLocalPutSpec)

/-- 'laws.FnLocalShort', WHERE WHAT IT READS IS OF BULK AT MOST 1048576: true; the input reads as it did. -/
def fnLocalShortUptoRow : OpenClaim := { program := "ytbacpebljannfaagreatdoor", sum := "2a43398dd757b3be7382408b1878e703a640b0a50f26732d62aa5e1a8c046358", func := "loop.example/corbel/laws.FnLocalShort", spec := "fnLocalShort", inPlace := ["internal/bytealg.CountString", "internal/bytealg.IndexByteString", "internal/bytealg.IndexString"], unfollowed := true, recurses := true, named := ["unicode/utf8.first", "unicode/utf8.acceptRanges", "internal/bytealg.MaxLen", "loop.example/corbel/impl.lenOrder"], apart := false, laid := [("unicode/utf8.acceptRanges", laid_unicode_utf8_acceptRanges), ("loop.example/corbel/impl.lenOrder", laid_loop_example_corbel_impl_lenOrder), ("unicode/utf8.first", laid_unicode_utf8_first)], narrowed := true }
def FnLocalShortUptoSaid : Prop := fnLocalShortUptoRow.holds Tryz.pinned (OpenSpec.upto fnLocalShortSpec)

/-- 'laws.FnExactLocalGet', WHERE WHAT IT READS IS OF BULK AT MOST 1048576: true; the input reads as it did. -/
def fnExactLocalGetUptoRow : OpenClaim := { program := "ytbacpebljannfaagreatdoor", sum := "2a43398dd757b3be7382408b1878e703a640b0a50f26732d62aa5e1a8c046358", func := "loop.example/corbel/laws.FnExactLocalGet", spec := "fnExactLocalGet", inPlace := ["internal/bytealg.CountString", "internal/bytealg.IndexByteString", "internal/bytealg.IndexString"], unfollowed := true, recurses := true, named := ["loop.example/corbel/impl.lenOrder", "unicode/utf8.first", "unicode/utf8.acceptRanges", "internal/bytealg.MaxLen"], apart := false, laid := [("unicode/utf8.acceptRanges", laid_unicode_utf8_acceptRanges), ("loop.example/corbel/impl.lenOrder", laid_loop_example_corbel_impl_lenOrder), ("unicode/utf8.first", laid_unicode_utf8_first)], narrowed := true }
def FnExactLocalGetUptoSaid : Prop := fnExactLocalGetUptoRow.holds Tryz.pinned (OpenSpec.upto fnExactLocalGetSpec)

/-- 'laws.FnLocal', WHERE WHAT IT READS IS OF BULK AT MOST 1048576: true; the input reads as it did. -/
def fnLocalUptoRow : OpenClaim := { program := "ytbacpebljannfaagreatdoor", sum := "2a43398dd757b3be7382408b1878e703a640b0a50f26732d62aa5e1a8c046358", func := "loop.example/corbel/laws.FnLocal", spec := "fnLocal", inPlace := ["internal/bytealg.CountString", "internal/bytealg.IndexByteString", "internal/bytealg.IndexString"], unfollowed := true, recurses := true, named := ["unicode/utf8.first", "unicode/utf8.acceptRanges", "internal/bytealg.MaxLen", "loop.example/corbel/impl.lenOrder"], apart := false, laid := [("unicode/utf8.acceptRanges", laid_unicode_utf8_acceptRanges), ("loop.example/corbel/impl.lenOrder", laid_loop_example_corbel_impl_lenOrder), ("unicode/utf8.first", laid_unicode_utf8_first)], narrowed := true }
def FnLocalUptoSaid : Prop := fnLocalUptoRow.holds Tryz.pinned (OpenSpec.upto fnLocalSpec)

/-- 'laws.FnLocalGet', WHERE WHAT IT READS IS OF BULK AT MOST 1048576: true; the input reads as it did. -/
def fnLocalGetUptoRow : OpenClaim := { program := "ytbacpebljannfaagreatdoor", sum := "2a43398dd757b3be7382408b1878e703a640b0a50f26732d62aa5e1a8c046358", func := "loop.example/corbel/laws.FnLocalGet", spec := "fnLocalGet", inPlace := ["internal/bytealg.CountString", "internal/bytealg.IndexByteString", "internal/bytealg.IndexString"], unfollowed := true, recurses := true, named := ["loop.example/corbel/impl.lenOrder", "unicode/utf8.first", "unicode/utf8.acceptRanges", "internal/bytealg.MaxLen"], apart := false, laid := [("unicode/utf8.acceptRanges", laid_unicode_utf8_acceptRanges), ("loop.example/corbel/impl.lenOrder", laid_loop_example_corbel_impl_lenOrder), ("unicode/utf8.first", laid_unicode_utf8_first)], narrowed := true }
def FnLocalGetUptoSaid : Prop := fnLocalGetUptoRow.holds Tryz.pinned (OpenSpec.upto fnLocalGetSpec)

/-- 'laws.FnLocalTwo', WHERE WHAT IT READS IS OF BULK AT MOST 1048576: true; the input reads as it did. -/
def fnLocalTwoUptoRow : OpenClaim := { program := "ytbacpebljannfaagreatdoor", sum := "2a43398dd757b3be7382408b1878e703a640b0a50f26732d62aa5e1a8c046358", func := "loop.example/corbel/laws.FnLocalTwo", spec := "fnLocalTwo", inPlace := ["internal/bytealg.CountString", "internal/bytealg.IndexByteString", "internal/bytealg.IndexString"], unfollowed := true, recurses := true, named := ["unicode/utf8.first", "unicode/utf8.acceptRanges", "internal/bytealg.MaxLen", "loop.example/corbel/impl.lenOrder"], apart := false, laid := [("unicode/utf8.acceptRanges", laid_unicode_utf8_acceptRanges), ("loop.example/corbel/impl.lenOrder", laid_loop_example_corbel_impl_lenOrder), ("unicode/utf8.first", laid_unicode_utf8_first)], narrowed := true }
def FnLocalTwoUptoSaid : Prop := fnLocalTwoUptoRow.holds Tryz.pinned (OpenSpec.upto fnLocalTwoSpec)

/-- 'laws.FnLocalBent', WHERE WHAT IT READS IS OF BULK AT MOST 1048576: true; the input reads as it did. -/
def fnLocalBentUptoRow : OpenClaim := { program := "ytbacpebljannfaagreatdoor", sum := "2a43398dd757b3be7382408b1878e703a640b0a50f26732d62aa5e1a8c046358", func := "loop.example/corbel/laws.FnLocalBent", spec := "fnLocalBent", inPlace := ["internal/bytealg.CountString", "internal/bytealg.IndexByteString", "internal/bytealg.IndexString"], unfollowed := true, recurses := true, named := ["unicode/utf8.first", "unicode/utf8.acceptRanges", "internal/bytealg.MaxLen", "loop.example/corbel/impl.lenOrder"], apart := false, laid := [("unicode/utf8.acceptRanges", laid_unicode_utf8_acceptRanges), ("loop.example/corbel/impl.lenOrder", laid_loop_example_corbel_impl_lenOrder), ("unicode/utf8.first", laid_unicode_utf8_first)], narrowed := true }
def FnLocalBentUptoSaid : Prop := fnLocalBentUptoRow.holds Tryz.pinned (OpenSpec.upto fnLocalBentSpec)

end Rows
end Go.Proofs.YtbacpebljannfaaGreatDoor
