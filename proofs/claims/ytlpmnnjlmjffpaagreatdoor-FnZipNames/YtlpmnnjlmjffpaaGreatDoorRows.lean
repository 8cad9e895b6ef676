/-
  NARROWER THAN 'FOR EVERY INPUT', by the rows' own cells (each row's printed sentence says how): FnZipNames: laid · FnZipFind: laid · FnDiskTear: laid · FnDiskRise: laid · FnDiskOver: laid · FnDiskNone: laid.
  DERIVED. THE GIVEN ROWS OF THIS SEAT. 6 by the template 'for every input the law returns true; each argument reads behind the call as it read before'; 0 by the template 'total and deterministic' (their statements: YtlpmnnjlmjffpaaGreatDoorTotals.lean).
  GIVEN WITH THE SEED: the statements are not yours to turn. If you find one false, say at which input.
  Laid BY PROGRAM, IN A SANDBOX (cutbox-rows.mjs): the forced cells as the released guide's own fill.sh prints them over the translation 22aac27c7b7e722c… (all of the seat's roots in one cut). By AI agents, Wed Nov 11 2026. No macro, syntax, notation, axiom, sorry.
-/
import Derived.Test.YtlpmnnjlmjffpaaGreatDoorChecked
import GoSem.PinnedTables
import GoSem.Claim
import GoSem.ClaimJoined
import GoSem.ClaimMapViews
import Derived.JoinedTies
import Derived.KernelRfl
namespace Go.Proofs.YtlpmnnjlmjffpaaGreatDoor
/- THE CELL 'sum', in the pinned program and in every row, IS THE sha256 OF THE DUMP (.gsa) THAT YtlpmnnjlmjffpaaGreatDoorProg.lean LOADS. Nothing in Lean hashes anything: it is a label: what it is worth is what the hold of that sum in a sandbox is worth. -/
noncomputable def Tryz.pinned : Pinned := { name := "ytlpmnnjlmjffpaagreatdoor", sum := "22aac27c7b7e722c6fcb1135c62b44c2eaebda11457516922eae6cca58a61210", checked := Tryz.checked }
namespace Rows
def none {H : Type} : Left H := { results := [], args := [] }

/- WHAT THE LISTED PACKAGE-LEVEL VARIABLES READ AS WHEN THE CALL BEGINS. Each datum BY PROGRAM (the guide's laid-datum.mjs) off the statement by which the dump's own 'gosem.cut.vars' lays the variable. In a bare row this is a premise. The card (YtlpmnnjlmjffpaaGreatDoorCards.lean) ties it to the program's text. -/
def laid_unicode_utf8_acceptRanges {H : Type} : DataW H := .agg [.agg [.lit (.int .u8 128), .lit (.int .u8 191)], .agg [.lit (.int .u8 160), .lit (.int .u8 191)], .agg [.lit (.int .u8 128), .lit (.int .u8 159)], .agg [.lit (.int .u8 144), .lit (.int .u8 191)], .agg [.lit (.int .u8 128), .lit (.int .u8 143)], .agg [.lit (.int .u8 0), .lit (.int .u8 0)], .agg [.lit (.int .u8 0), .lit (.int .u8 0)], .agg [.lit (.int .u8 0), .lit (.int .u8 0)], .agg [.lit (.int .u8 0), .lit (.int .u8 0)], .agg [.lit (.int .u8 0), .lit (.int .u8 0)], .agg [.lit (.int .u8 0), .lit (.int .u8 0)], .agg [.lit (.int .u8 0), .lit (.int .u8 0)], .agg [.lit (.int .u8 0), .lit (.int .u8 0)], .agg [.lit (.int .u8 0), .lit (.int .u8 0)], .agg [.lit (.int .u8 0), .lit (.int .u8 0)], .agg [.lit (.int .u8 0), .lit (.int .u8 0)]]
def laid_errors_errorType {H : Type} : DataW H := .iface "internal/reflectlite.rtype" (.agg [.ptr (.lit (.string [101, 114, 114, 111, 114]))])
def laid_loop_example_corbel_impl_lenOrder {H : Type} : DataW H := .agg [.lit (.int .i64 16), .lit (.int .i64 17), .lit (.int .i64 18), .lit (.int .i64 0), .lit (.int .i64 8), .lit (.int .i64 7), .lit (.int .i64 9), .lit (.int .i64 6), .lit (.int .i64 10), .lit (.int .i64 5), .lit (.int .i64 11), .lit (.int .i64 4), .lit (.int .i64 12), .lit (.int .i64 3), .lit (.int .i64 13), .lit (.int .i64 2), .lit (.int .i64 14), .lit (.int .i64 1), .lit (.int .i64 15)]
/-- One of Go's own tables, pinned by name: the form's constant. -/
def laid_unicode_utf8_first : DataW Unit := Go.Pinned.utf8First
def laid_math_bits_deBruijn32tab {H : Type} : DataW H := .agg [.lit (.int .u8 0), .lit (.int .u8 1), .lit (.int .u8 28), .lit (.int .u8 2), .lit (.int .u8 29), .lit (.int .u8 14), .lit (.int .u8 24), .lit (.int .u8 3), .lit (.int .u8 30), .lit (.int .u8 22), .lit (.int .u8 20), .lit (.int .u8 15), .lit (.int .u8 25), .lit (.int .u8 17), .lit (.int .u8 4), .lit (.int .u8 8), .lit (.int .u8 31), .lit (.int .u8 27), .lit (.int .u8 13), .lit (.int .u8 23), .lit (.int .u8 21), .lit (.int .u8 19), .lit (.int .u8 16), .lit (.int .u8 7), .lit (.int .u8 26), .lit (.int .u8 12), .lit (.int .u8 18), .lit (.int .u8 6), .lit (.int .u8 11), .lit (.int .u8 5), .lit (.int .u8 10), .lit (.int .u8 9)]
def laid_math_bits_deBruijn64tab {H : Type} : DataW H := .agg [.lit (.int .u8 0), .lit (.int .u8 1), .lit (.int .u8 56), .lit (.int .u8 2), .lit (.int .u8 57), .lit (.int .u8 49), .lit (.int .u8 28), .lit (.int .u8 3), .lit (.int .u8 61), .lit (.int .u8 58), .lit (.int .u8 42), .lit (.int .u8 50), .lit (.int .u8 38), .lit (.int .u8 29), .lit (.int .u8 17), .lit (.int .u8 4), .lit (.int .u8 62), .lit (.int .u8 47), .lit (.int .u8 59), .lit (.int .u8 36), .lit (.int .u8 45), .lit (.int .u8 43), .lit (.int .u8 51), .lit (.int .u8 22), .lit (.int .u8 53), .lit (.int .u8 39), .lit (.int .u8 33), .lit (.int .u8 30), .lit (.int .u8 24), .lit (.int .u8 18), .lit (.int .u8 12), .lit (.int .u8 5), .lit (.int .u8 63), .lit (.int .u8 55), .lit (.int .u8 48), .lit (.int .u8 27), .lit (.int .u8 60), .lit (.int .u8 41), .lit (.int .u8 37), .lit (.int .u8 16), .lit (.int .u8 46), .lit (.int .u8 35), .lit (.int .u8 44), .lit (.int .u8 21), .lit (.int .u8 52), .lit (.int .u8 32), .lit (.int .u8 23), .lit (.int .u8 11), .lit (.int .u8 54), .lit (.int .u8 26), .lit (.int .u8 40), .lit (.int .u8 15), .lit (.int .u8 34), .lit (.int .u8 20), .lit (.int .u8 31), .lit (.int .u8 10), .lit (.int .u8 25), .lit (.int .u8 14), .lit (.int .u8 19), .lit (.int .u8 9), .lit (.int .u8 13), .lit (.int .u8 8), .lit (.int .u8 7), .lit (.int .u8 6)]
def laid_internal_strconv_uint64pow10 {H : Type} : DataW H := .agg [.lit (.int .u64 1), .lit (.int .u64 10), .lit (.int .u64 100), .lit (.int .u64 1000), .lit (.int .u64 10000), .lit (.int .u64 100000), .lit (.int .u64 1000000), .lit (.int .u64 10000000), .lit (.int .u64 100000000), .lit (.int .u64 1000000000), .lit (.int .u64 10000000000), .lit (.int .u64 100000000000), .lit (.int .u64 1000000000000), .lit (.int .u64 10000000000000), .lit (.int .u64 100000000000000), .lit (.int .u64 1000000000000000), .lit (.int .u64 10000000000000000), .lit (.int .u64 100000000000000000), .lit (.int .u64 1000000000000000000), .lit (.int .u64 10000000000000000000)]

/-- 'laws.FnZipNames': WHATEVER THE INPUT: true; the input reads as it did. -/
def fnZipNamesSpec : ChangeSpec := { name := "fnZipNames", vars := ["loop.example/corbel/impl.lenOrder"], fn := fun _ => fun
  | [d, g1] => { results := [.lit (.bool true)], args := [d], vars := [g1] }
  | _ => none }
def fnZipNamesRow : OpenClaim := { program := "ytlpmnnjlmjffpaagreatdoor", sum := "22aac27c7b7e722c6fcb1135c62b44c2eaebda11457516922eae6cca58a61210", func := "loop.example/corbel/laws.FnZipNames", spec := "fnZipNames", inPlace := ["internal/bytealg.CountString", "internal/bytealg.IndexByteString", "internal/bytealg.IndexString", "internal/reflectlite.ValueOf", "(internal/reflectlite.Value).Type", "(internal/reflectlite.Value).IsNil", "internal/reflectlite.TypeOf", "(internal/reflectlite.Value).Elem", "(internal/reflectlite.Value).Set"], unfollowed := true, recurses := true, named := ["loop.example/corbel/impl.lenOrder", "unicode/utf8.first", "unicode/utf8.acceptRanges", "internal/bytealg.MaxLen", "errors.errorType"], apart := false, laid := [("unicode/utf8.acceptRanges", laid_unicode_utf8_acceptRanges), ("errors.errorType", laid_errors_errorType), ("loop.example/corbel/impl.lenOrder", laid_loop_example_corbel_impl_lenOrder), ("unicode/utf8.first", laid_unicode_utf8_first)] }
def FnZipNamesSaid : Prop := fnZipNamesRow.holds Tryz.pinned (OpenSpec.ofChange fnZipNamesSpec)

/-- ITS FALSE NEIGHBOUR: 'it returns false'. Refute it at one input. -/
def fnZipNamesWrong : ChangeSpec := { name := "fnZipNames", vars := ["loop.example/corbel/impl.lenOrder"], fn := fun _ => fun
  | [d, g1] => { results := [.lit (.bool false)], args := [d], vars := [g1] }
  | _ => none }
def FnZipNamesWrongFalsely : Prop := fnZipNamesRow.holds Tryz.pinned (OpenSpec.ofChange fnZipNamesWrong)

/-- 'laws.FnZipFind': WHATEVER THE INPUT: true; the input reads as it did. -/
def fnZipFindSpec : ChangeSpec := { name := "fnZipFind", vars := ["loop.example/corbel/impl.lenOrder"], fn := fun _ => fun
  | [d, g1] => { results := [.lit (.bool true)], args := [d], vars := [g1] }
  | _ => none }
def fnZipFindRow : OpenClaim := { program := "ytlpmnnjlmjffpaagreatdoor", sum := "22aac27c7b7e722c6fcb1135c62b44c2eaebda11457516922eae6cca58a61210", func := "loop.example/corbel/laws.FnZipFind", spec := "fnZipFind", inPlace := ["internal/bytealg.CountString", "internal/bytealg.IndexByteString", "internal/bytealg.IndexString", "internal/reflectlite.ValueOf", "(internal/reflectlite.Value).Type", "(internal/reflectlite.Value).IsNil", "internal/reflectlite.TypeOf", "(internal/reflectlite.Value).Elem", "(internal/reflectlite.Value).Set"], unfollowed := true, recurses := true, named := ["loop.example/corbel/impl.lenOrder", "unicode/utf8.first", "unicode/utf8.acceptRanges", "internal/bytealg.MaxLen", "errors.errorType"], apart := false, laid := [("unicode/utf8.acceptRanges", laid_unicode_utf8_acceptRanges), ("errors.errorType", laid_errors_errorType), ("loop.example/corbel/impl.lenOrder", laid_loop_example_corbel_impl_lenOrder), ("unicode/utf8.first", laid_unicode_utf8_first)] }
def FnZipFindSaid : Prop := fnZipFindRow.holds Tryz.pinned (OpenSpec.ofChange fnZipFindSpec)

/-- ITS FALSE NEIGHBOUR: 'it returns false'. Refute it at one input. -/
def fnZipFindWrong : ChangeSpec := { name := "fnZipFind", vars := ["loop.example/corbel/impl.lenOrder"], fn := fun _ => fun
  | [d, g1] => { results := [.lit (.bool false)], args := [d], vars := [g1] }
  | _ => none }
def FnZipFindWrongFalsely : Prop := fnZipFindRow.holds Tryz.pinned (OpenSpec.ofChange fnZipFindWrong)

/-- 'laws.FnDiskTear': WHATEVER THE INPUT: true; the input reads as it did. -/
def fnDiskTearSpec : ChangeSpec := { name := "fnDiskTear", vars := ["loop.example/corbel/impl.lenOrder"], fn := fun _ => fun
  | [d, g1] => { results := [.lit (.bool true)], args := [d], vars := [g1] }
  | _ => none }
def fnDiskTearRow : OpenClaim := { program := "ytlpmnnjlmjffpaagreatdoor", sum := "22aac27c7b7e722c6fcb1135c62b44c2eaebda11457516922eae6cca58a61210", func := "loop.example/corbel/laws.FnDiskTear", spec := "fnDiskTear", inPlace := ["internal/bytealg.CountString", "internal/bytealg.IndexByteString", "internal/bytealg.IndexString", "internal/reflectlite.ValueOf", "(internal/reflectlite.Value).Type", "(internal/reflectlite.Value).IsNil", "internal/reflectlite.TypeOf", "(internal/reflectlite.Value).Elem", "(internal/reflectlite.Value).Set"], unfollowed := true, recurses := true, named := ["loop.example/corbel/impl.lenOrder", "unicode/utf8.first", "unicode/utf8.acceptRanges", "internal/bytealg.MaxLen", "errors.errorType", "internal/strconv.uint64pow10", "math/bits.deBruijn32tab", "math/bits.deBruijn64tab"], apart := false, laid := [("math/bits.deBruijn32tab", laid_math_bits_deBruijn32tab), ("math/bits.deBruijn64tab", laid_math_bits_deBruijn64tab), ("internal/strconv.uint64pow10", laid_internal_strconv_uint64pow10), ("unicode/utf8.acceptRanges", laid_unicode_utf8_acceptRanges), ("errors.errorType", laid_errors_errorType), ("loop.example/corbel/impl.lenOrder", laid_loop_example_corbel_impl_lenOrder), ("unicode/utf8.first", laid_unicode_utf8_first)] }
def FnDiskTearSaid : Prop := fnDiskTearRow.holds Tryz.pinned (OpenSpec.ofChange fnDiskTearSpec)

/-- ITS FALSE NEIGHBOUR: 'it returns false'. Refute it at one input. -/
def fnDiskTearWrong : ChangeSpec := { name := "fnDiskTear", vars := ["loop.example/corbel/impl.lenOrder"], fn := fun _ => fun
  | [d, g1] => { results := [.lit (.bool false)], args := [d], vars := [g1] }
  | _ => none }
def FnDiskTearWrongFalsely : Prop := fnDiskTearRow.holds Tryz.pinned (OpenSpec.ofChange fnDiskTearWrong)

/-- 'laws.FnDiskRise': WHATEVER THE INPUT: true; the input reads as it did. -/
def fnDiskRiseSpec : ChangeSpec := { name := "fnDiskRise", vars := ["loop.example/corbel/impl.lenOrder"], fn := fun _ => fun
  | [d, g1] => { results := [.lit (.bool true)], args := [d], vars := [g1] }
  | _ => none }
def fnDiskRiseRow : OpenClaim := { program := "ytlpmnnjlmjffpaagreatdoor", sum := "22aac27c7b7e722c6fcb1135c62b44c2eaebda11457516922eae6cca58a61210", func := "loop.example/corbel/laws.FnDiskRise", spec := "fnDiskRise", inPlace := ["internal/bytealg.IndexByteString", "internal/bytealg.IndexString", "internal/bytealg.CountString", "internal/reflectlite.ValueOf", "(internal/reflectlite.Value).Type", "(internal/reflectlite.Value).IsNil", "internal/reflectlite.TypeOf", "(internal/reflectlite.Value).Elem", "(internal/reflectlite.Value).Set"], unfollowed := true, recurses := true, named := ["internal/bytealg.MaxLen", "internal/strconv.uint64pow10", "math/bits.deBruijn32tab", "math/bits.deBruijn64tab", "loop.example/corbel/impl.lenOrder", "unicode/utf8.first", "unicode/utf8.acceptRanges", "errors.errorType"], apart := false, laid := [("math/bits.deBruijn32tab", laid_math_bits_deBruijn32tab), ("math/bits.deBruijn64tab", laid_math_bits_deBruijn64tab), ("internal/strconv.uint64pow10", laid_internal_strconv_uint64pow10), ("unicode/utf8.acceptRanges", laid_unicode_utf8_acceptRanges), ("errors.errorType", laid_errors_errorType), ("loop.example/corbel/impl.lenOrder", laid_loop_example_corbel_impl_lenOrder), ("unicode/utf8.first", laid_unicode_utf8_first)] }
def FnDiskRiseSaid : Prop := fnDiskRiseRow.holds Tryz.pinned (OpenSpec.ofChange fnDiskRiseSpec)

/-- ITS FALSE NEIGHBOUR: 'it returns false'. Refute it at one input. -/
def fnDiskRiseWrong : ChangeSpec := { name := "fnDiskRise", vars := ["loop.example/corbel/impl.lenOrder"], fn := fun _ => fun
  | [d, g1] => { results := [.lit (.bool false)], args := [d], vars := [g1] }
  | _ => none }
def FnDiskRiseWrongFalsely : Prop := fnDiskRiseRow.holds Tryz.pinned (OpenSpec.ofChange fnDiskRiseWrong)

/-- 'laws.FnDiskOver': WHATEVER THE INPUT: true; the input reads as it did. -/
def fnDiskOverSpec : ChangeSpec := { name := "fnDiskOver", vars := ["loop.example/corbel/impl.lenOrder"], fn := fun _ => fun
  | [d, g1] => { results := [.lit (.bool true)], args := [d], vars := [g1] }
  | _ => none }
def fnDiskOverRow : OpenClaim := { program := "ytlpmnnjlmjffpaagreatdoor", sum := "22aac27c7b7e722c6fcb1135c62b44c2eaebda11457516922eae6cca58a61210", func := "loop.example/corbel/laws.FnDiskOver", spec := "fnDiskOver", inPlace := ["internal/bytealg.CountString", "internal/bytealg.IndexByteString", "internal/bytealg.IndexString", "internal/reflectlite.ValueOf", "(internal/reflectlite.Value).Type", "(internal/reflectlite.Value).IsNil", "internal/reflectlite.TypeOf", "(internal/reflectlite.Value).Elem", "(internal/reflectlite.Value).Set"], unfollowed := true, recurses := true, named := ["loop.example/corbel/impl.lenOrder", "unicode/utf8.first", "unicode/utf8.acceptRanges", "internal/bytealg.MaxLen", "errors.errorType", "internal/strconv.uint64pow10", "math/bits.deBruijn32tab", "math/bits.deBruijn64tab"], apart := false, laid := [("math/bits.deBruijn32tab", laid_math_bits_deBruijn32tab), ("math/bits.deBruijn64tab", laid_math_bits_deBruijn64tab), ("internal/strconv.uint64pow10", laid_internal_strconv_uint64pow10), ("unicode/utf8.acceptRanges", laid_unicode_utf8_acceptRanges), ("errors.errorType", laid_errors_errorType), ("loop.example/corbel/impl.lenOrder", laid_loop_example_corbel_impl_lenOrder), ("unicode/utf8.first", laid_unicode_utf8_first)] }
def FnDiskOverSaid : Prop := fnDiskOverRow.holds Tryz.pinned (OpenSpec.ofChange fnDiskOverSpec)

/-- ITS FALSE NEIGHBOUR: 'it returns false'. Refute it at one input. -/
def fnDiskOverWrong : ChangeSpec := { name := "fnDiskOver", vars := ["loop.example/corbel/impl.lenOrder"], fn := fun _ => fun
  | [d, g1] => { results := [.lit (.bool false)], args := [d], vars := [g1] }
  | _ => none }
def FnDiskOverWrongFalsely : Prop := fnDiskOverRow.holds Tryz.pinned (OpenSpec.ofChange fnDiskOverWrong)

/-- 'laws.FnDiskNone': WHATEVER THE INPUT: true; the input reads as it did. -/
def fnDiskNoneSpec : ChangeSpec := { name := "fnDiskNone", vars := ["loop.example/corbel/impl.lenOrder"], fn := fun _ => fun
  | [d, g1] => { results := [.lit (.bool true)], args := [d], vars := [g1] }
  | _ => none }
def fnDiskNoneRow : OpenClaim := { program := "ytlpmnnjlmjffpaagreatdoor", sum := "22aac27c7b7e722c6fcb1135c62b44c2eaebda11457516922eae6cca58a61210", func := "loop.example/corbel/laws.FnDiskNone", spec := "fnDiskNone", inPlace := ["internal/bytealg.CountString", "internal/bytealg.IndexByteString", "internal/bytealg.IndexString", "internal/reflectlite.ValueOf", "(internal/reflectlite.Value).Type", "(internal/reflectlite.Value).IsNil", "internal/reflectlite.TypeOf", "(internal/reflectlite.Value).Elem", "(internal/reflectlite.Value).Set"], unfollowed := true, recurses := true, named := ["loop.example/corbel/impl.lenOrder", "unicode/utf8.first", "unicode/utf8.acceptRanges", "internal/bytealg.MaxLen", "errors.errorType", "internal/strconv.uint64pow10", "math/bits.deBruijn32tab", "math/bits.deBruijn64tab"], apart := false, laid := [("math/bits.deBruijn32tab", laid_math_bits_deBruijn32tab), ("math/bits.deBruijn64tab", laid_math_bits_deBruijn64tab), ("internal/strconv.uint64pow10", laid_internal_strconv_uint64pow10), ("unicode/utf8.acceptRanges", laid_unicode_utf8_acceptRanges), ("errors.errorType", laid_errors_errorType), ("loop.example/corbel/impl.lenOrder", laid_loop_example_corbel_impl_lenOrder), ("unicode/utf8.first", laid_unicode_utf8_first)] }
def FnDiskNoneSaid : Prop := fnDiskNoneRow.holds Tryz.pinned (OpenSpec.ofChange fnDiskNoneSpec)

/-- ITS FALSE NEIGHBOUR: 'it returns false'. Refute it at one input. -/
def fnDiskNoneWrong : ChangeSpec := { name := "fnDiskNone", vars := ["loop.example/corbel/impl.lenOrder"], fn := fun _ => fun
  | [d, g1] => { results := [.lit (.bool false)], args := [d], vars := [g1] }
  | _ => none }
def FnDiskNoneWrongFalsely : Prop := fnDiskNoneRow.holds Tryz.pinned (OpenSpec.ofChange fnDiskNoneWrong)

/- THE SECOND FORM. 'bulk': how many values and letters a reading holds, each counted each time it is reached (what is shared counts as often as it is met; a slice's spare places count too). A statement '..UptoSaid' is the law's where the arguments, and the package variables that the reading takes, are together of bulk at most 1048576: NARROWER than '..Said'. Prove '..Said' where nothing that the law and all that it calls make is longer than what came in: it says more and counts as full. Else prove '..UptoSaid'. A law counts once. -/
mutual
def uptoBulk {H : Type} : DataW H → Nat
  | .lit (.string bytes) => bytes.length + 1
  | .lit _ => 1
  | .nil => 1
  | .ptr d => uptoBulk d + 1
  | .slice elems spare => uptoBulkAll elems + uptoBulkAll spare + 1
  | .agg parts => uptoBulkAll parts + 1
  | .iface _ d => uptoBulk d + 1
  | .map entries => uptoBulkEntries entries + 1
  | .held _ => 1
def uptoBulkAll {H : Type} : List (DataW H) → Nat
  | [] => 0
  | d :: r => uptoBulk d + uptoBulkAll r
def uptoBulkEntries {H : Type} : List (Lit × DataW H) → Nat
  | [] => 0
  | x :: r => uptoBulkEntry x + uptoBulkEntries r
def uptoBulkEntry {H : Type} : Lit × DataW H → Nat
  | (.string bytes, d) => bytes.length + uptoBulk d + 1
  | (_, d) => uptoBulk d + 1
 end
def uptoSmall : (H : Type) → List (DataW H) → Bool := fun _ ds => decide (uptoBulkAll ds ≤ 1048576)
def OpenSpec.upto (s : _root_.Go.ChangeSpec) : _root_.Go.OpenSpec := { _root_.Go.OpenSpec.ofChange s with cond := some uptoSmall }

/-- 'laws.FnZipNames', WHERE WHAT IT READS IS OF BULK AT MOST 1048576: true; the input reads as it did. -/
def fnZipNamesUptoRow : OpenClaim := { program := "ytlpmnnjlmjffpaagreatdoor", sum := "22aac27c7b7e722c6fcb1135c62b44c2eaebda11457516922eae6cca58a61210", func := "loop.example/corbel/laws.FnZipNames", spec := "fnZipNames", inPlace := ["internal/bytealg.CountString", "internal/bytealg.IndexByteString", "internal/bytealg.IndexString", "internal/reflectlite.ValueOf", "(internal/reflectlite.Value).Type", "(internal/reflectlite.Value).IsNil", "internal/reflectlite.TypeOf", "(internal/reflectlite.Value).Elem", "(internal/reflectlite.Value).Set"], unfollowed := true, recurses := true, named := ["loop.example/corbel/impl.lenOrder", "unicode/utf8.first", "unicode/utf8.acceptRanges", "internal/bytealg.MaxLen", "errors.errorType"], apart := false, laid := [("unicode/utf8.acceptRanges", laid_unicode_utf8_acceptRanges), ("errors.errorType", laid_errors_errorType), ("loop.example/corbel/impl.lenOrder", laid_loop_example_corbel_impl_lenOrder), ("unicode/utf8.first", laid_unicode_utf8_first)], narrowed := true }
def FnZipNamesUptoSaid : Prop := fnZipNamesUptoRow.holds Tryz.pinned (OpenSpec.upto fnZipNamesSpec)

/-- 'laws.FnZipFind', WHERE WHAT IT READS IS OF BULK AT MOST 1048576: true; the input reads as it did. -/
def fnZipFindUptoRow : OpenClaim := { program := "ytlpmnnjlmjffpaagreatdoor", sum := "22aac27c7b7e722c6fcb1135c62b44c2eaebda11457516922eae6cca58a61210", func := "loop.example/corbel/laws.FnZipFind", spec := "fnZipFind", inPlace := ["internal/bytealg.CountString", "internal/bytealg.IndexByteString", "internal/bytealg.IndexString", "internal/reflectlite.ValueOf", "(internal/reflectlite.Value).Type", "(internal/reflectlite.Value).IsNil", "internal/reflectlite.TypeOf", "(internal/reflectlite.Value).Elem", "(internal/reflectlite.Value).Set"], unfollowed := true, recurses := true, named := ["loop.example/corbel/impl.lenOrder", "unicode/utf8.first", "unicode/utf8.acceptRanges", "internal/bytealg.MaxLen", "errors.errorType"], apart := false, laid := [("unicode/utf8.acceptRanges", laid_unicode_utf8_acceptRanges), ("errors.errorType", laid_errors_errorType), ("loop.example/corbel/impl.lenOrder", laid_loop_example_corbel_impl_lenOrder), ("unicode/utf8.first", laid_unicode_utf8_first)], narrowed := true }
def FnZipFindUptoSaid : Prop := fnZipFindUptoRow.holds Tryz.pinned (OpenSpec.upto fnZipFindSpec)

/-- 'laws.FnDiskTear', WHERE WHAT IT READS IS OF BULK AT MOST 1048576: true; the input reads as it did. -/
def fnDiskTearUptoRow : OpenClaim := { program := "ytlpmnnjlmjffpaagreatdoor", sum := "22aac27c7b7e722c6fcb1135c62b44c2eaebda11457516922eae6cca58a61210", func := "loop.example/corbel/laws.FnDiskTear", spec := "fnDiskTear", inPlace := ["internal/bytealg.CountString", "internal/bytealg.IndexByteString", "internal/bytealg.IndexString", "internal/reflectlite.ValueOf", "(internal/reflectlite.Value).Type", "(internal/reflectlite.Value).IsNil", "internal/reflectlite.TypeOf", "(internal/reflectlite.Value).Elem", "(internal/reflectlite.Value).Set"], unfollowed := true, recurses := true, named := ["loop.example/corbel/impl.lenOrder", "unicode/utf8.first", "unicode/utf8.acceptRanges", "internal/bytealg.MaxLen", "errors.errorType", "internal/strconv.uint64pow10", "math/bits.deBruijn32tab", "math/bits.deBruijn64tab"], apart := false, laid := [("math/bits.deBruijn32tab", laid_math_bits_deBruijn32tab), ("math/bits.deBruijn64tab", laid_math_bits_deBruijn64tab), ("internal/strconv.uint64pow10", laid_internal_strconv_uint64pow10), ("unicode/utf8.acceptRanges", laid_unicode_utf8_acceptRanges), ("errors.errorType", laid_errors_errorType), ("loop.example/corbel/impl.lenOrder", laid_loop_example_corbel_impl_lenOrder), ("unicode/utf8.first", laid_unicode_utf8_first)], narrowed := true }
def FnDiskTearUptoSaid : Prop := fnDiskTearUptoRow.holds Tryz.pinned (OpenSpec.upto fnDiskTearSpec)

/-- 'laws.FnDiskRise', WHERE WHAT IT READS IS OF BULK AT MOST 1048576: true; the input reads as it did. -/
def fnDiskRiseUptoRow : OpenClaim := { program := "ytlpmnnjlmjffpaagreatdoor", sum := "22aac27c7b7e722c6fcb1135c62b44c2eaebda11457516922eae6cca58a61210", func := "loop.example/corbel/laws.FnDiskRise", spec := "fnDiskRise", inPlace := ["internal/bytealg.IndexByteString", "internal/bytealg.IndexString", "internal/bytealg.CountString", "internal/reflectlite.ValueOf", "(internal/reflectlite.Value).Type", "(internal/reflectlite.Value).IsNil", "internal/reflectlite.TypeOf", "(internal/reflectlite.Value).Elem", "(internal/reflectlite.Value).Set"], unfollowed := true, recurses := true, named := ["internal/bytealg.MaxLen", "internal/strconv.uint64pow10", "math/bits.deBruijn32tab", "math/bits.deBruijn64tab", "loop.example/corbel/impl.lenOrder", "unicode/utf8.first", "unicode/utf8.acceptRanges", "errors.errorType"], apart := false, laid := [("math/bits.deBruijn32tab", laid_math_bits_deBruijn32tab), ("math/bits.deBruijn64tab", laid_math_bits_deBruijn64tab), ("internal/strconv.uint64pow10", laid_internal_strconv_uint64pow10), ("unicode/utf8.acceptRanges", laid_unicode_utf8_acceptRanges), ("errors.errorType", laid_errors_errorType), ("loop.example/corbel/impl.lenOrder", laid_loop_example_corbel_impl_lenOrder), ("unicode/utf8.first", laid_unicode_utf8_first)], narrowed := true }
def FnDiskRiseUptoSaid : Prop := fnDiskRiseUptoRow.holds Tryz.pinned (OpenSpec.upto fnDiskRiseSpec)

/-- 'laws.FnDiskOver', WHERE WHAT IT READS IS OF BULK AT MOST 1048576: true; the input reads as it did. -/
def fnDiskOverUptoRow : OpenClaim := { program := "ytlpmnnjlmjffpaagreatdoor", sum := "22aac27c7b7e722c6fcb1135c62b44c2eaebda11457516922eae6cca58a61210", func := "loop.example/corbel/laws.FnDiskOver", spec := "fnDiskOver", inPlace := ["internal/bytealg.CountString", "internal/bytealg.IndexByteString", "internal/bytealg.IndexString", "internal/reflectlite.ValueOf", "(internal/reflectlite.Value).Type", "(internal/reflectlite.Value).IsNil", "internal/reflectlite.TypeOf", "(internal/reflectlite.Value).Elem", "(internal/reflectlite.Value).Set"], unfollowed := true, recurses := true, named := ["loop.example/corbel/impl.lenOrder", "unicode/utf8.first", "unicode/utf8.acceptRanges", "internal/bytealg.MaxLen", "errors.errorType", "internal/strconv.uint64pow10", "math/bits.deBruijn32tab", "math/bits.deBruijn64tab"], apart := false, laid := [("math/bits.deBruijn32tab", laid_math_bits_deBruijn32tab), ("math/bits.deBruijn64tab", laid_math_bits_deBruijn64tab), ("internal/strconv.uint64pow10", laid_internal_strconv_uint64pow10), ("unicode/utf8.acceptRanges", laid_unicode_utf8_acceptRanges), ("errors.errorType", laid_errors_errorType), ("loop.example/corbel/impl.lenOrder", laid_loop_example_corbel_impl_lenOrder), ("unicode/utf8.first", laid_unicode_utf8_first)], narrowed := true }
def FnDiskOverUptoSaid : Prop := fnDiskOverUptoRow.holds Tryz.pinned (OpenSpec.upto fnDiskOverSpec)

/-- 'laws.FnDiskNone', WHERE WHAT IT READS IS OF BULK AT MOST 1048576: true; the input reads as it did. -/
def fnDiskNoneUptoRow : OpenClaim := { program := "ytlpmnnjlmjffpaagreatdoor", sum := "22aac27c7b7e722c6fcb1135c62b44c2eaebda11457516922eae6cca58a61210", func := "loop.example/corbel/laws.FnDiskNone", spec := "fnDiskNone", inPlace := ["internal/bytealg.CountString", "internal/bytealg.IndexByteString", "internal/bytealg.IndexString", "internal/reflectlite.ValueOf", "(internal/reflectlite.Value).Type", "(internal/reflectlite.Value).IsNil", "internal/reflectlite.TypeOf", "(internal/reflectlite.Value).Elem", "(internal/reflectlite.Value).Set"], unfollowed := true, recurses := true, named := ["loop.example/corbel/impl.lenOrder", "unicode/utf8.first", "unicode/utf8.acceptRanges", "internal/bytealg.MaxLen", "errors.errorType", "internal/strconv.uint64pow10", "math/bits.deBruijn32tab", "math/bits.deBruijn64tab"], apart := false, laid := [("math/bits.deBruijn32tab", laid_math_bits_deBruijn32tab), ("math/bits.deBruijn64tab", laid_math_bits_deBruijn64tab), ("internal/strconv.uint64pow10", laid_internal_strconv_uint64pow10), ("unicode/utf8.acceptRanges", laid_unicode_utf8_acceptRanges), ("errors.errorType", laid_errors_errorType), ("loop.example/corbel/impl.lenOrder", laid_loop_example_corbel_impl_lenOrder), ("unicode/utf8.first", laid_unicode_utf8_first)], narrowed := true }
def FnDiskNoneUptoSaid : Prop := fnDiskNoneUptoRow.holds Tryz.pinned (OpenSpec.upto fnDiskNoneSpec)

end Rows
end Go.Proofs.YtlpmnnjlmjffpaaGreatDoor
