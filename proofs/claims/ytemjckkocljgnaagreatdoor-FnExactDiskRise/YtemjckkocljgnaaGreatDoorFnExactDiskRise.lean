/- 'FnExactDiskRise' answers true at every input, and its argument reads behind the call as it read before; what the library's listed tables hold is tied to the program's text (the card). -/
import Derived.Test.YtemjckkocljgnaaGreatDoorRows
import Derived.Test.YtemjckkocljgnaaGreatDoorCards
import Derived.Test.YtemjckkocljgnaaGreatDoorTie
import Derived.Test.YtemjckkocljgnaaGreatDoorM5
import Derived.Test.YtemjckkocljgnaaGreatDoorM41
import Derived.Test.YtemjckkocljgnaaGreatDoorM29
import Derived.Test.YtemjckkocljgnaaGreatDoorPwf
import Derived.Test.YtemjckkocljgnaaGreatDoorSx9
import Derived.Test.YtemjckkocljgnaaGreatDoorSxd
import Derived.ShutString
import Derived.ChangeOld
import Derived.Below
namespace Go.Proofs.YtemjckkocljgnaaGreatDoor
namespace fnExactDiskRiseDone
open Go.ChangeShapes Go.WideShapes Go.ChangeAt Go.RowKit
open Go.ChangeMaps (open_string shut_string)
set_option linter.unusedVariables false

theorem own : ownKnob Tryz.prog.godebug = none := by kernel_rfl
theorem laidOut : laidOutB Tryz.prog = true := by kernel_rfl
theorem cellsE : Tryz.prog.cellsOf 23 = 2 := by kernel_rfl

set_option maxRecDepth 100000 in
theorem lifted (os : Os) (started : os.Started) (H : Type) (enc : TypeId × Value → H) :
    ReturnsInHanded {} Tryz.checked os 4 .any (fun w args => (Rows.fnExactDiskRiseSpec.pre enc Tryz.prog Tryz.f4 Rows.fnExactDiskRiseRow.domain false w args ∧ laidMetH Tryz.prog Rows.fnExactDiskRiseRow.laid w) ∧ sizedMet enc Tryz.prog Tryz.f4 (OpenSpec.ofChange Rows.fnExactDiskRiseSpec) false w args)
      (Rows.fnExactDiskRiseSpec.post enc Tryz.prog Tryz.f4 false true false false) := by
  refine of_change_laidH (C := Tryz.checked) own started (by kernel_rfl) Tryz.func4
    (ChangeSpec.witness_shaped (enc := enc) (C := Tryz.checked) (os := os) (X := fun w _ => laidMetH Tryz.prog Rows.fnExactDiskRiseRow.laid w) false ((handW os).layVars Tryz.prog [("math/bits.deBruijn32tab", Rows.laid_math_bits_deBruijn32tab), ("math/bits.deBruijn64tab", Rows.laid_math_bits_deBruijn64tab), ("internal/strconv.uint64pow10", Rows.laid_internal_strconv_uint64pow10), ("unicode/utf8.acceptRanges", Rows.laid_unicode_utf8_acceptRanges), ("loop.example/corbel/impl.lenOrder", Rows.laid_loop_example_corbel_impl_lenOrder), ("unicode/utf8.first", Rows.laid_unicode_utf8_first)]) #[.agg #[.string ByteArray.empty, .string ByteArray.empty]] 8 (World.layVars_os _ _ _)
      (World.shaped_of_ZipB (by kernel_rfl) (by kernel_rfl)) (by kernel_rfl) (by kernel_rfl) (by kernel_rfl)
      (laidMetH_of_parts (show laidMet Tryz.prog [("math/bits.deBruijn32tab", Rows.laid_math_bits_deBruijn32tab), ("math/bits.deBruijn64tab", Rows.laid_math_bits_deBruijn64tab), ("internal/strconv.uint64pow10", Rows.laid_internal_strconv_uint64pow10), ("unicode/utf8.acceptRanges", Rows.laid_unicode_utf8_acceptRanges), ("loop.example/corbel/impl.lenOrder", Rows.laid_loop_example_corbel_impl_lenOrder), ("unicode/utf8.first", Rows.laid_unicode_utf8_first)] _ from laidMet_from _ (by kernel_rfl) (by kernel_rfl)) (by kernel_rfl))) ?_
  intro W base args ds gs before hval0 hW hsh hL
  have hval : ∀ (j : Nat) t v, Tryz.f4.params[j]? = some t → args[j]? = some v → Value.okWide Tryz.prog W .any base t v := hval0
  have hW' := hW
  obtain ⟨p, q, hA0, hV, rfl, hfz, hnd⟩ := hW
  have hA : DataW.TrodAll enc Tryz.prog W 0 (fun _ => true) true Tryz.f4.params.toList args.toList ds p := hA0
  rw [Tryz.params4] at hA hval
  obtain ⟨v0, vs0, d0, ds0, p0, q0, hargs, rfl, rfl, h0, r0⟩ := trodAll_cons hA
  obtain ⟨rfl, rfl, rfl⟩ := trodAll_nil r0
  obtain rfl : args = #[v0] := by cases args; simp_all
  have hV' := hV
  obtain ⟨gv, tv, cv, fv, dv, pv, rfl, hgv, htv, hvv, hdv, rfl⟩ := trodVars_one hV
  obtain ⟨cs, rfl, hsz⟩ := okWide_struct Tryz.underlying23 (hval 0 23 v0 rfl rfl)
  rw [cellsE] at hsz
  obtain ⟨c0, c1, rfl⟩ := arr_two cs hsz
  obtain ⟨fuel, hf⟩ := h0
  obtain ⟨e0, e1, ⟨rfl, rfl⟩, kk, hx⟩ := disk_down hf
  simp only [Prod.mk.injEq] at hx
  obtain ⟨rfl, rfl⟩ := hx
  obtain ⟨m, hm⟩ := maxLen_cell W hsh
  clear hA0 hval0
  refine (exDiskRise_walk e0 e1 m W kk.1 kk.2 hm (errT_of hL (List.mem_filter.2 ⟨by simp [Rows.fnExactDiskRiseRow, Rows.laid_errors_errorType], rfl⟩)) (ord_of_laidsH hL (by kernel_rfl) (List.mem_filter.2 ⟨(List.Mem.tail _ (List.Mem.tail _ (List.Mem.tail _ (List.Mem.tail _ (List.Mem.tail _ (List.Mem.head _)))))), by kernel_rfl⟩)) (pow_of_laidsH hL (by kernel_rfl) (List.mem_filter.2 ⟨(List.Mem.tail _ (List.Mem.tail _ (List.Mem.head _))), by kernel_rfl⟩))).mono fun e W' ⟨he, bel⟩ => ?_
  subst he
  exact ⟨_, rfl, _, _, _, [], _, _, hW', trodAll_mk1 (shut_bool Tryz.underlying4 _), (trodAll_cons_mk ⟨4, disk_up kk⟩ trodAll_mk0), bel.trodVars laidOut (by kernel_rfl) hV', bel.frame _, fun h => by cases h⟩

theorem over : Rows.fnExactDiskRiseRow.holds Tryz.pinned (OpenSpec.ofChange Rows.fnExactDiskRiseSpec) :=
  OpenClaim.holds_of_wide 4 Tryz.f4 rfl rfl rfl rfl rfl rfl rfl ⟨rfl, rfl, rfl, rfl, rfl⟩ rfl rfl rfl rfl rfl (by kernel_rfl) Tryz.func4 (by kernel_rfl)
    (of_decide_eq_true (by kernel_rfl)) (by unfold Func.isWrapper; first | (rw [if_pos (by decide +kernel)]; kernel_rfl) | (rw [if_neg (by decide +kernel)]; exact ⟨rfl, rfl⟩))
    (fun os started H enc _ => lifted os started H enc)

theorem card : Rows.FnExactDiskRiseCardSaid :=
  Claim7.holds_tied_plain_at .later [] [.data, .data, .data, .data, .handle, .data, .pinned] true (true, "712a499a9dc1fb077d017169e0b5a3f72f047810473a5e245d2eb14c0909b67f") true over (fun _ h => by cases h) (by kernel_rfl) (fun _ h => by cases h) fnExactDiskRise_row_tie rfl ⟨rfl, rfl⟩ (by kernel_rfl) rfl
    (fun f fn hf hfn => by
      obtain rfl : f = 4 := Option.some.inj ((show Tryz.prog.funcNamed "loop.example/corbel/laws.FnExactDiskRise" = some 4 by kernel_rfl).symm.trans hf) |>.symm
      obtain rfl : fn = Tryz.f4 := (Option.some.inj (Tryz.func4.symm.trans hfn)).symm
      exact ⟨by kernel_rfl, fun j t ht => by
        rw [Tryz.params4] at ht
        have hm : t ∈ [23] := by simpa using Array.mem_of_getElem? ht
        have hall : ([23].all fun u => !Tryz.prog.wantsStandIn u) = true := by kernel_rfl
        exact (show Tryz.prog.wantsStandIn t = false by simpa using List.all_eq_true.1 hall t hm)⟩)
    (by kernel_rfl)
end fnExactDiskRiseDone
theorem fnExactDiskRise_holds : Rows.FnExactDiskRiseCardSaid := fnExactDiskRiseDone.card
end Go.Proofs.YtemjckkocljgnaaGreatDoor
