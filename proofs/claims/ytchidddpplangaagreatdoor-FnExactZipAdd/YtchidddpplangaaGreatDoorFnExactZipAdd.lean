/- 'FnExactZipAdd' answers true at every input, and its argument reads behind the call as it read before; what the library's listed tables hold is tied to the program's text (the card). -/
import Derived.Test.YtchidddpplangaaGreatDoorRows
import Derived.Test.YtchidddpplangaaGreatDoorCards
import Derived.Test.YtchidddpplangaaGreatDoorTie
import Derived.Test.YtchidddpplangaaGreatDoorM5
import Derived.Test.YtchidddpplangaaGreatDoorM42
import Derived.Test.YtchidddpplangaaGreatDoorM34
import Derived.Test.YtchidddpplangaaGreatDoorSx8
import Derived.Test.YtchidddpplangaaGreatDoorSx9
import Derived.ShutString
import Derived.ChangeOld
import Derived.Below
namespace Go.Proofs.YtchidddpplangaaGreatDoor
namespace fnExactZipAddDone
open Go.ChangeShapes Go.WideShapes Go.ChangeAt Go.RowKit
open Go.ChangeMaps (open_string shut_string)
set_option linter.unusedVariables false

theorem own : ownKnob Tryz.prog.godebug = none := by kernel_rfl
theorem laidOut : laidOutB Tryz.prog = true := by kernel_rfl
theorem Ng : Tryz.prog.cellsOf 25 = 8 := by kernel_rfl

set_option maxRecDepth 100000 in
theorem lifted (os : Os) (started : os.Started) (H : Type) (enc : TypeId × Value → H) :
    ReturnsInHanded {} Tryz.checked os 3 .any (fun w args => (Rows.fnExactZipAddSpec.pre enc Tryz.prog Tryz.f3 Rows.fnExactZipAddRow.domain false w args ∧ laidMetH Tryz.prog Rows.fnExactZipAddRow.laid w) ∧ sizedMet enc Tryz.prog Tryz.f3 (OpenSpec.ofChange Rows.fnExactZipAddSpec) false w args)
      (Rows.fnExactZipAddSpec.post enc Tryz.prog Tryz.f3 false true false false) := by
  refine rO (C := Tryz.checked) own started (by kernel_rfl) Tryz.func3
    (ChangeSpec.witness_shaped (enc := enc) (C := Tryz.checked) (os := os) (X := fun w _ => laidMetH Tryz.prog Rows.fnExactZipAddRow.laid w) false ((handW os).layVars Tryz.prog [("unicode/utf8.acceptRanges", Rows.laid_unicode_utf8_acceptRanges), ("loop.example/corbel/impl.lenOrder", Rows.laid_loop_example_corbel_impl_lenOrder), ("unicode/utf8.first", Rows.laid_unicode_utf8_first)]) #[.string ByteArray.empty, .agg #[.string ByteArray.empty, .int .i64 0, .int .i64 0, .int .i64 0, .int .i64 0, .int .i64 0, .int .i64 0, .string ByteArray.empty]] 8 (World.layVars_os _ _ _)
      (World.shaped_of_ZipB (by kernel_rfl) (by kernel_rfl)) (by kernel_rfl) (by kernel_rfl) (by kernel_rfl)
      (laidMetH_of_parts (show laidMet Tryz.prog [("unicode/utf8.acceptRanges", Rows.laid_unicode_utf8_acceptRanges), ("loop.example/corbel/impl.lenOrder", Rows.laid_loop_example_corbel_impl_lenOrder), ("unicode/utf8.first", Rows.laid_unicode_utf8_first)] _ from xu _ (by kernel_rfl) (by kernel_rfl)) (by kernel_rfl))) ?_
  intro W base args ds gs before hval0 hW hsh hL
  have hval : ∀ (j : Nat) t v, Tryz.f3.params[j]? = some t → args[j]? = some v → Value.okWide Tryz.prog W .any base t v := hval0
  have hW' := hW
  obtain ⟨p, q, hA0, hV, rfl, hfz, hnd⟩ := hW
  have hA : DataW.TrodAll enc Tryz.prog W 0 (fun _ => true) true Tryz.f3.params.toList args.toList ds p := hA0
  rw [Tryz.params3] at hA hval
  obtain ⟨v0, vs0, d0, ds0, p0, q0, hargs, rfl, rfl, h0, r0⟩ := trodAll_cons hA
  obtain ⟨v1, vs1, d1, ds1, p1, q1, rfl, rfl, rfl, h1, r1⟩ := trodAll_cons r0
  obtain ⟨rfl, rfl, rfl⟩ := trodAll_nil r1
  obtain rfl : args = #[v0, v1] := by cases args; simp_all
  have hV' := hV
  obtain ⟨gv, tv, cv, fv, dv, pv, rfl, hgv, htv, hvv, hdv, rfl⟩ := trodVars_one hV
  obtain ⟨a0, rfl, rfl, rfl, w0⟩ := open_string Tryz.underlying9 (hval 0 9 v0 rfl rfl) h0
  obtain ⟨cs, rfl, hsz⟩ := okWide_struct Tryz.underlying25 (hval 1 25 v1 rfl rfl)
  rw [Ng] at hsz
  obtain ⟨c0, c1, c2, c3, c4, c5, c6, c7, rfl⟩ := ES cs hsz
  obtain ⟨fuel, hf⟩ := h1
  obtain ⟨e0, e1, b0, b1, b2, b3, b4, b5, ⟨rfl, rfl, rfl, rfl, rfl, rfl, rfl, rfl⟩, kk, hx⟩ := Ca hf
  simp only [Prod.mk.injEq] at hx
  obtain ⟨rfl, rfl⟩ := hx
  obtain ⟨m, hm⟩ := zS W hsh
  clear hA0 hval0
  refine (uQ a0 e0 b0 b1 b2 b3 b4 b5 e1 m W w0 kk.1.1 kk.1.2 hm (LA hL (List.mem_filter.2 ⟨by simp [Rows.fnExactZipAddRow, Rows.laid_errors_errorType], rfl⟩)) (vd hL (by kernel_rfl) (List.mem_filter.2 ⟨(List.Mem.tail _ (List.Mem.tail _ (List.Mem.head _))), by kernel_rfl⟩))).mono fun e W' ⟨he, bel⟩ => ?_
  subst he
  exact ⟨_, rfl, _, _, _, [], _, _, hW', trodAll_mk1 (shut_bool Tryz.underlying4 _), (trodAll_cons_mk (shut_string Tryz.underlying9 w0) (trodAll_cons_mk ⟨4, IX kk⟩ trodAll_mk0)), bel.trodVars laidOut (by kernel_rfl) hV', bel.frame _, fun h => by cases h⟩

theorem kIn : (Rows.fnExactZipAddRow.inPlace == Tryz.pinned.checked.prog.inPlace 3) = true := by kernel_rfl
theorem kUn : (Rows.fnExactZipAddRow.unfollowed == Tryz.pinned.checked.prog.unfollowed 3) = true := by kernel_rfl
theorem kRe : (Rows.fnExactZipAddRow.recurses == Tryz.pinned.checked.prog.recurses 3) = true := by kernel_rfl
theorem kNa : (Rows.fnExactZipAddRow.named == Tryz.pinned.checked.prog.varsNamed 3) = true := by kernel_rfl
theorem closed : joinedFacts Tryz.pinned.checked.prog 3 Tryz.f3 Rows.fnExactZipAddSpec Rows.fnExactZipAddRow = true := by
  unfold joinedFacts
  rw [kIn, kUn, kRe, kNa]
  kernel_rfl
theorem over : Rows.fnExactZipAddRow.holds Tryz.pinned (OpenSpec.ofChange Rows.fnExactZipAddSpec) :=
  OpenClaim.holds_of_wide 3 Tryz.f3 rfl rfl rfl rfl rfl rfl rfl ⟨rfl, rfl, rfl, rfl, rfl⟩ rfl rfl rfl rfl rfl (by kernel_rfl) Tryz.func3 closed
    (of_decide_eq_true (by kernel_rfl)) (by unfold Func.isWrapper; first | (rw [if_pos (by decide +kernel)]; kernel_rfl) | (rw [if_neg (by decide +kernel)]; exact ⟨rfl, rfl⟩))
    (fun os started H enc _ => lifted os started H enc)

theorem card : Rows.FnExactZipAddCardSaid :=
  Claim7.holds_tied_plain_at .later [] [.data, .handle, .data, .pinned] true (true, "73e01c62d07029542f156fcab2c616db2cca8858fc58168a53431cb08d4066ff") true over (fun _ h => by cases h) (by kernel_rfl) (fun _ h => by cases h) fnExactZipAdd_row_tie rfl ⟨rfl, rfl⟩ (by kernel_rfl) rfl
    (fun f fn hf hfn => by
      obtain rfl : f = 3 := Option.some.inj ((show Tryz.prog.funcNamed "loop.example/corbel/laws.FnExactZipAdd" = some 3 by kernel_rfl).symm.trans hf) |>.symm
      obtain rfl : fn = Tryz.f3 := (Option.some.inj (Tryz.func3.symm.trans hfn)).symm
      exact ⟨by kernel_rfl, fun j t ht => by
        rw [Tryz.params3] at ht
        have hm : t ∈ [9, 25] := by simpa using Array.mem_of_getElem? ht
        have hall : ([9, 25].all fun u => !Tryz.prog.wantsStandIn u) = true := by kernel_rfl
        exact (show Tryz.prog.wantsStandIn t = false by simpa using List.all_eq_true.1 hall t hm)⟩)
    (by kernel_rfl)
end fnExactZipAddDone
theorem fnExactZipAdd_holds : Rows.FnExactZipAddCardSaid := fnExactZipAddDone.card
end Go.Proofs.YtchidddpplangaaGreatDoor
