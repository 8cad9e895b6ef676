/- 'FnExactTreeTake' answers true at every input, and its argument reads behind the call as it read before; what the library's listed tables hold is tied to the program's text (the card). -/
import Derived.Test.YtkdlcomfpffhhaaGreatDoorRows
import Derived.Test.YtkdlcomfpffhhaaGreatDoorCards
import Derived.Test.YtkdlcomfpffhhaaGreatDoorTie
import Derived.Test.YtkdlcomfpffhhaaGreatDoorFrm
import Derived.Test.YtkdlcomfpffhhaaGreatDoorM41
import Derived.Test.YtkdlcomfpffhhaaGreatDoorM31
import Derived.Test.YtkdlcomfpffhhaaGreatDoorM35
import Derived.Test.YtkdlcomfpffhhaaGreatDoorM32
import Derived.ShutString
import Derived.ChangeOld
import Derived.Below
namespace Go.Proofs.YtkdlcomfpffhhaaGreatDoor
namespace fnExactTreeTakeDone
open Go.ChangeShapes Go.WideShapes Go.ChangeAt Go.RowKit
open Go.ChangeMaps (open_string shut_string)
set_option linter.unusedVariables false

theorem own : ownKnob Tryz.prog.godebug = none := by kernel_rfl
theorem laidOut : laidOutB Tryz.prog = true := by kernel_rfl


set_option maxRecDepth 100000 in
theorem lifted (os : Os) (started : os.Started) (H : Type) (enc : TypeId × Value → H) :
    ReturnsInHanded {} Tryz.checked os 4 .any (fun w args => (Rows.fnExactTreeTakeSpec.pre enc Tryz.prog Tryz.f4 Rows.fnExactTreeTakeRow.domain false w args ∧ laidMetH Tryz.prog Rows.fnExactTreeTakeRow.laid w) ∧ sizedMet enc Tryz.prog Tryz.f4 (OpenSpec.ofChange Rows.fnExactTreeTakeSpec) false w args)
      (Rows.fnExactTreeTakeSpec.post enc Tryz.prog Tryz.f4 false true false false) := by
  refine of_change_laidH (C := Tryz.checked) own started (by kernel_rfl) Tryz.func4
    (ChangeSpec.witness_shaped (enc := enc) (C := Tryz.checked) (os := os) (X := fun w _ => laidMetH Tryz.prog Rows.fnExactTreeTakeRow.laid w) false ((handW os).layVars Tryz.prog [("unicode/utf8.acceptRanges", Rows.laid_unicode_utf8_acceptRanges), ("loop.example/corbel/impl.lenOrder", Rows.laid_loop_example_corbel_impl_lenOrder), ("unicode/utf8.first", Rows.laid_unicode_utf8_first)]) #[.slice none 0 0, .string ByteArray.empty] 8 (World.layVars_os _ _ _)
      (World.shaped_of_ZipB (by kernel_rfl) (by kernel_rfl)) (by kernel_rfl) (by kernel_rfl) (by kernel_rfl)
      (laidMetH_of_parts (show laidMet Tryz.prog [("unicode/utf8.acceptRanges", Rows.laid_unicode_utf8_acceptRanges), ("loop.example/corbel/impl.lenOrder", Rows.laid_loop_example_corbel_impl_lenOrder), ("unicode/utf8.first", Rows.laid_unicode_utf8_first)] _ from laidMet_from _ (by kernel_rfl) (by kernel_rfl)) (by kernel_rfl))) ?_
  intro W base args ds gs before hval0 hW hsh hL
  have hval : ∀ (j : Nat) t v, Tryz.f4.params[j]? = some t → args[j]? = some v → Value.okWide Tryz.prog W .any base t v := hval0
  have hW' := hW
  obtain ⟨p, q, hA0, hV, rfl, hfz, hnd⟩ := hW
  have hA : DataW.TrodAll enc Tryz.prog W 0 (fun _ => true) true Tryz.f4.params.toList args.toList ds p := hA0
  rw [Tryz.params4] at hA hval
  obtain ⟨v0, vs0, d0, ds0, p0, q0, hargs, rfl, rfl, h0, r0⟩ := trodAll_cons hA
  obtain ⟨v1, vs1, d1, ds1, p1, q1, rfl, rfl, rfl, h1, r1⟩ := trodAll_cons r0
  obtain ⟨rfl, rfl, rfl⟩ := trodAll_nil r1
  obtain rfl : args = #[v0, v1] := by cases args; simp_all
  have hV' := hV
  obtain ⟨gv, tv, cv, fv, dv, pv, rfl, hgv, htv, hvv, hdv, rfl⟩ := trodVars_one hV
  obtain ⟨a0, len0, cap0, rfl⟩ := okWide_slice Tryz.underlying38 (hval 0 38 v0 rfl rfl)
  have k0 := h0
  have lt0 : ∀ x ∈ p0, x.block < W.heap.size := by obtain ⟨m, hm⟩ := k0; exact DataW.trod_lt m _ _ _ hm
  obtain ⟨z0, w0⟩ : ∃ l, FRow W a0 l ∧ l.length = len0 ∧ len0 ≤ maxLen ∧ ∀ i, i < len0 → (l.getD i default).p.size ≤ maxLen ∧ (l.getD i default).t.size ≤ maxLen := by
    obtain ⟨fuel, hf⟩ := h0
    rcases files_cells hf with hcs | ⟨x, ln, c, hcs, hl, hm, hx⟩
    · simp [Value.cells] at hcs
      obtain ⟨rfl, rfl, rfl⟩ := hcs
      exact ⟨[], fun h => absurd h (by simp), rfl, Nat.zero_le _, fun i hi => absurd hi (by omega)⟩
    · simp [Value.cells] at hcs
      obtain ⟨rfl, rfl, rfl⟩ := hcs
      obtain ⟨l, h1, h2, h3⟩ := files_row hx
      exact ⟨l, h1, h2, by omega, h3⟩
  obtain ⟨a1, rfl, rfl, rfl, w1⟩ := open_string Tryz.underlying9 (hval 1 9 v1 rfl rfl) h1
  obtain ⟨m, hm⟩ := maxLen_cell W hsh
  clear hA0 hval0
  refine (exTreeTake_walk a0 len0 cap0 z0 a1 m W w0 (by unfold maxLen at w1; omega) hm (errT_of hL (List.mem_filter.2 ⟨by simp [Rows.fnExactTreeTakeRow, Rows.laid_errors_errorType], rfl⟩)) (ord_of_laidsH hL (by kernel_rfl) (List.mem_filter.2 ⟨(List.Mem.tail _ (List.Mem.tail _ (List.Mem.head _))), by kernel_rfl⟩))).mono fun e W' ⟨he, bel⟩ => ?_
  subst he
  exact ⟨_, rfl, _, _, _, [], _, _, hW', trodAll_mk1 (shut_bool Tryz.underlying4 _), (trodAll_cons_mk (Below.trod laidOut (by kernel_rfl) (of_decide_eq_true (by kernel_rfl)) k0 bel lt0) (trodAll_cons_mk (shut_string Tryz.underlying9 w1) trodAll_mk0)), bel.trodVars laidOut (by kernel_rfl) hV', bel.frame _, fun h => by cases h⟩

theorem kIn : (Rows.fnExactTreeTakeRow.inPlace == Tryz.pinned.checked.prog.inPlace 4) = true := by kernel_rfl
theorem kUn : (Rows.fnExactTreeTakeRow.unfollowed == Tryz.pinned.checked.prog.unfollowed 4) = true := by kernel_rfl
theorem kRe : (Rows.fnExactTreeTakeRow.recurses == Tryz.pinned.checked.prog.recurses 4) = true := by kernel_rfl
theorem kNa : (Rows.fnExactTreeTakeRow.named == Tryz.pinned.checked.prog.varsNamed 4) = true := by kernel_rfl
theorem closed : joinedFacts Tryz.pinned.checked.prog 4 Tryz.f4 Rows.fnExactTreeTakeSpec Rows.fnExactTreeTakeRow = true := by
  unfold joinedFacts
  rw [kIn, kUn, kRe, kNa]
  kernel_rfl
theorem over : Rows.fnExactTreeTakeRow.holds Tryz.pinned (OpenSpec.ofChange Rows.fnExactTreeTakeSpec) :=
  OpenClaim.holds_of_wide 4 Tryz.f4 rfl rfl rfl rfl rfl rfl rfl ⟨rfl, rfl, rfl, rfl, rfl⟩ rfl rfl rfl rfl rfl (by kernel_rfl) Tryz.func4 closed
    (of_decide_eq_true (by kernel_rfl)) (by unfold Func.isWrapper; first | (rw [if_pos (by decide +kernel)]; kernel_rfl) | (rw [if_neg (by decide +kernel)]; exact ⟨rfl, rfl⟩))
    (fun os started H enc _ => lifted os started H enc)

theorem card : Rows.FnExactTreeTakeCardSaid :=
  Claim7.holds_tied_plain_at .later [] [.data, .handle, .data, .pinned] true (true, "3a4a643acb361646c17e640c7330003d34d57fd536c351b57939e80983c7dc14") true over (fun _ h => by cases h) (by kernel_rfl) (fun _ h => by cases h) fnExactTreeTake_row_tie rfl ⟨rfl, rfl⟩ (by kernel_rfl) rfl
    (fun f fn hf hfn => by
      obtain rfl : f = 4 := Option.some.inj ((show Tryz.prog.funcNamed "loop.example/corbel/laws.FnExactTreeTake" = some 4 by kernel_rfl).symm.trans hf) |>.symm
      obtain rfl : fn = Tryz.f4 := (Option.some.inj (Tryz.func4.symm.trans hfn)).symm
      exact ⟨by kernel_rfl, fun j t ht => by
        rw [Tryz.params4] at ht
        have hm : t ∈ [38, 9] := by simpa using Array.mem_of_getElem? ht
        have hall : ([38, 9].all fun u => !Tryz.prog.wantsStandIn u) = true := by kernel_rfl
        exact (show Tryz.prog.wantsStandIn t = false by simpa using List.all_eq_true.1 hall t hm)⟩)
    (by kernel_rfl)
end fnExactTreeTakeDone
theorem fnExactTreeTake_holds : Rows.FnExactTreeTakeCardSaid := fnExactTreeTakeDone.card
end Go.Proofs.YtkdlcomfpffhhaaGreatDoor
