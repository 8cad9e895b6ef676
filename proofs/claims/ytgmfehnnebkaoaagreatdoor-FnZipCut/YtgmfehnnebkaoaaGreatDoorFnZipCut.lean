/- 'FnZipCut' answers true at every input, and its argument reads behind the call as it read before; what the library's listed tables hold is tied to the program's text (the card). -/
import Derived.Test.YtgmfehnnebkaoaaGreatDoorRows
import Derived.Test.YtgmfehnnebkaoaaGreatDoorCards
import Derived.Test.YtgmfehnnebkaoaaGreatDoorTie
import Derived.Test.YtgmfehnnebkaoaaGreatDoorM5
import Derived.Test.YtgmfehnnebkaoaaGreatDoorM44
import Derived.Test.YtgmfehnnebkaoaaGreatDoorZo5
import Derived.Test.YtgmfehnnebkaoaaGreatDoorM30
import Derived.Test.YtgmfehnnebkaoaaGreatDoorSx9
import Derived.Test.YtgmfehnnebkaoaaGreatDoorM1
import Derived.Test.YtgmfehnnebkaoaaGreatDoorM2
import Derived.Test.YtgmfehnnebkaoaaGreatDoorM3
import Derived.Test.YtgmfehnnebkaoaaGreatDoorM4
import Derived.Test.YtgmfehnnebkaoaaGreatDoorM6
import Derived.Test.YtgmfehnnebkaoaaGreatDoorM7
import Derived.Test.YtgmfehnnebkaoaaGreatDoorM8
import Derived.Test.YtgmfehnnebkaoaaGreatDoorM9
import Derived.Test.YtgmfehnnebkaoaaGreatDoorM10
import Derived.Test.YtgmfehnnebkaoaaGreatDoorM11
import Derived.Test.YtgmfehnnebkaoaaGreatDoorM12
import Derived.Test.YtgmfehnnebkaoaaGreatDoorM13
import Derived.Test.YtgmfehnnebkaoaaGreatDoorM14
import Derived.Test.YtgmfehnnebkaoaaGreatDoorM15
import Derived.Test.YtgmfehnnebkaoaaGreatDoorM16
import Derived.Test.YtgmfehnnebkaoaaGreatDoorM17
import Derived.Test.YtgmfehnnebkaoaaGreatDoorM18
import Derived.Test.YtgmfehnnebkaoaaGreatDoorM19
import Derived.Test.YtgmfehnnebkaoaaGreatDoorM20
import Derived.Test.YtgmfehnnebkaoaaGreatDoorM21
import Derived.Test.YtgmfehnnebkaoaaGreatDoorM22
import Derived.Test.YtgmfehnnebkaoaaGreatDoorM23
import Derived.Test.YtgmfehnnebkaoaaGreatDoorM24
import Derived.Test.YtgmfehnnebkaoaaGreatDoorM25
import Derived.Test.YtgmfehnnebkaoaaGreatDoorM26
import Derived.Test.YtgmfehnnebkaoaaGreatDoorM27
import Derived.Test.YtgmfehnnebkaoaaGreatDoorM28
import Derived.Test.YtgmfehnnebkaoaaGreatDoorM29
import Derived.Test.YtgmfehnnebkaoaaGreatDoorM31
import Derived.Test.YtgmfehnnebkaoaaGreatDoorM32
import Derived.Test.YtgmfehnnebkaoaaGreatDoorM33
import Derived.Test.YtgmfehnnebkaoaaGreatDoorM34
import Derived.Test.YtgmfehnnebkaoaaGreatDoorM35
import Derived.Test.YtgmfehnnebkaoaaGreatDoorM36
import Derived.Test.YtgmfehnnebkaoaaGreatDoorM37
import Derived.Test.YtgmfehnnebkaoaaGreatDoorM38
import Derived.Test.YtgmfehnnebkaoaaGreatDoorM39
import Derived.Test.YtgmfehnnebkaoaaGreatDoorM40
import Derived.Test.YtgmfehnnebkaoaaGreatDoorM41
import Derived.Test.YtgmfehnnebkaoaaGreatDoorM42
import Derived.Test.YtgmfehnnebkaoaaGreatDoorM43
import Derived.ShutString
import Derived.ChangeOld
import Derived.Below
namespace Go.Proofs.YtgmfehnnebkaoaaGreatDoor
section
open Go.RowKit Corb
open Go.Lib hiding intOf
set_option maxRecDepth 100000
set_option linter.defProp false
set_option linter.unusedSimpArgs false
set_option linter.unusedVariables false

end
end Go.Proofs.YtgmfehnnebkaoaaGreatDoor
namespace Go.Proofs.YtgmfehnnebkaoaaGreatDoor
namespace fnZipCutDone
open Go.ChangeShapes Go.WideShapes Go.ChangeAt Go.RowKit
open Go.ChangeMaps (open_string shut_string)
set_option linter.unusedVariables false

theorem own : ownKnob Tryz.prog.godebug = none := by kernel_rfl
theorem laidOut : laidOutB Tryz.prog = true := by kernel_rfl


set_option maxRecDepth 100000 in
theorem lifted (os : Os) (started : os.Started) (H : Type) (enc : TypeId × Value → H) :
    ReturnsInHanded {} Tryz.checked os 4 .any (fun w args => (Rows.fnZipCutSpec.pre enc Tryz.prog Tryz.f4 Rows.fnZipCutRow.domain false w args ∧ laidMetH Tryz.prog Rows.fnZipCutRow.laid w) ∧ sizedMet enc Tryz.prog Tryz.f4 (OpenSpec.ofChange Rows.fnZipCutSpec) false w args)
      (Rows.fnZipCutSpec.post enc Tryz.prog Tryz.f4 false true false false) := by
  refine rZ (C := Tryz.checked) own started (by kernel_rfl) Tryz.func4
    (ChangeSpec.witness_shaped (enc := enc) (C := Tryz.checked) (os := os) (X := fun w _ => laidMetH Tryz.prog Rows.fnZipCutRow.laid w) false ((handW os).layVars Tryz.prog [("unicode/utf8.acceptRanges", Rows.laid_unicode_utf8_acceptRanges), ("loop.example/corbel/impl.lenOrder", Rows.laid_loop_example_corbel_impl_lenOrder), ("unicode/utf8.first", Rows.laid_unicode_utf8_first)]) #[.slice none 0 0] 8 (World.layVars_os _ _ _)
      (World.shaped_of_ZipB (by kernel_rfl) (by kernel_rfl)) (by kernel_rfl) (by kernel_rfl) (by kernel_rfl)
      (laidMetH_of_parts (show laidMet Tryz.prog [("unicode/utf8.acceptRanges", Rows.laid_unicode_utf8_acceptRanges), ("loop.example/corbel/impl.lenOrder", Rows.laid_loop_example_corbel_impl_lenOrder), ("unicode/utf8.first", Rows.laid_unicode_utf8_first)] _ from xX _ (by kernel_rfl) (by kernel_rfl)) (by kernel_rfl))) ?_
  intro W base args ds gs before hval0 hW hsh hL
  have hval : ∀ (j : Nat) t v, Tryz.f4.params[j]? = some t → args[j]? = some v → Value.okWide Tryz.prog W .any base t v := hval0
  have hW' := hW
  obtain ⟨p, q, hA0, hV, rfl, hfz, hnd⟩ := hW
  have hA : DataW.TrodAll enc Tryz.prog W 0 (fun _ => true) true Tryz.f4.params.toList args.toList ds p := hA0
  rw [Tryz.params4] at hA hval
  obtain ⟨v0, vs0, d0, ds0, p0, q0, hargs, rfl, rfl, h0, r0⟩ := trodAll_cons hA
  obtain ⟨rfl, rfl, rfl⟩ := trodAll_nil r0
  obtain rfl : args = #[v0] := by cases args; simp_all
  have hV' := hV
  obtain ⟨gv, tv, cv, fv, dv, pv, rfl, hgv, htv, hvv, hdv, rfl⟩ := trodVars_one hV
  obtain ⟨a0, len0, cap0, rfl⟩ := okWide_slice Tryz.underlying22 (hval 0 22 v0 rfl rfl)
  have k0 := h0
  have lt0 : ∀ x ∈ p0, x.block < W.heap.size := by obtain ⟨m, hm⟩ := k0; exact DataW.trod_lt m _ _ _ hm
  obtain ⟨z0, w0⟩ : ∃ zs, qS .u8 W a0 len0 cap0 zs := by
    obtain ⟨fuel, hf⟩ := h0
    rcases open_ints Tryz.underlying22 Tryz.underlying5 (by kernel_rfl) hf with ⟨hcs, _⟩ | ⟨x, l, c, zs, hcs, _, hl, hm, hz, _, hcell, hwz⟩
    · simp [Value.cells] at hcs
      obtain ⟨rfl, rfl, rfl⟩ := hcs
      exact ⟨[], .inl ⟨rfl, rfl, rfl, rfl⟩⟩
    · simp [Value.cells] at hcs
      obtain ⟨rfl, rfl, rfl⟩ := hcs
      exact ⟨zs, .inr ⟨_, rfl, hl, hm, by simpa using hz, hcell, hwz⟩⟩
  obtain ⟨m, hm⟩ := AE W hsh
  clear hA0 hval0
  refine (MA a0 len0 cap0 z0 m W w0 hm (MY hL (List.mem_filter.2 ⟨by simp [Rows.fnZipCutRow, Rows.laid_errors_errorType], rfl⟩)) (vA hL (by kernel_rfl) (List.mem_filter.2 ⟨(List.Mem.tail _ (List.Mem.tail _ (List.Mem.head _))), by kernel_rfl⟩))).mono fun e W' ⟨he, bel⟩ => ?_
  subst he
  exact ⟨_, rfl, _, _, _, [], _, _, hW', trodAll_mk1 (shut_bool Tryz.underlying4 _), (trodAll_cons_mk (Below.trod laidOut (by kernel_rfl) (of_decide_eq_true (by kernel_rfl)) k0 bel lt0) trodAll_mk0), bel.trodVars laidOut (by kernel_rfl) hV', bel.frame _, fun h => by cases h⟩

theorem kIn : (Rows.fnZipCutRow.inPlace == Tryz.pinned.checked.prog.inPlace 4) = true := by kernel_rfl
theorem kUn : (Rows.fnZipCutRow.unfollowed == Tryz.pinned.checked.prog.unfollowed 4) = true := by kernel_rfl
theorem kRe : (Rows.fnZipCutRow.recurses == Tryz.pinned.checked.prog.recurses 4) = true := by kernel_rfl
theorem kNa : (Rows.fnZipCutRow.named == Tryz.pinned.checked.prog.varsNamed 4) = true := by kernel_rfl
theorem closed : joinedFacts Tryz.pinned.checked.prog 4 Tryz.f4 Rows.fnZipCutSpec Rows.fnZipCutRow = true := by
  unfold joinedFacts
  rw [kIn, kUn, kRe, kNa]
  kernel_rfl
theorem over : Rows.fnZipCutRow.holds Tryz.pinned (OpenSpec.ofChange Rows.fnZipCutSpec) :=
  OpenClaim.holds_of_wide 4 Tryz.f4 rfl rfl rfl rfl rfl rfl rfl ⟨rfl, rfl, rfl, rfl, rfl⟩ rfl rfl rfl rfl rfl (by kernel_rfl) Tryz.func4 closed
    (of_decide_eq_true (by kernel_rfl)) (by unfold Func.isWrapper; first | (rw [if_pos (by decide +kernel)]; kernel_rfl) | (rw [if_neg (by decide +kernel)]; exact ⟨rfl, rfl⟩))
    (fun os started H enc _ => lifted os started H enc)

theorem card : Rows.FnZipCutCardSaid :=
  Claim7.holds_tied_plain_at .later [] [.data, .handle, .data, .pinned] true (true, "b13d742c1ca3ac1eaf08d02fc339e497681eb6a91f0de6a2055c8a5091a5c25b") true over (fun _ h => by cases h) (by kernel_rfl) (fun _ h => by cases h) fnZipCut_row_tie rfl ⟨rfl, rfl⟩ (by kernel_rfl) rfl
    (fun f fn hf hfn => by
      obtain rfl : f = 4 := Option.some.inj ((show Tryz.prog.funcNamed "loop.example/corbel/laws.FnZipCut" = some 4 by kernel_rfl).symm.trans hf) |>.symm
      obtain rfl : fn = Tryz.f4 := (Option.some.inj (Tryz.func4.symm.trans hfn)).symm
      exact ⟨by kernel_rfl, fun j t ht => by
        rw [Tryz.params4] at ht
        have hm : t ∈ [22] := by simpa using Array.mem_of_getElem? ht
        have hall : ([22].all fun u => !Tryz.prog.wantsStandIn u) = true := by kernel_rfl
        exact (show Tryz.prog.wantsStandIn t = false by simpa using List.all_eq_true.1 hall t hm)⟩)
    (by kernel_rfl)
end fnZipCutDone
theorem fnZipCut_holds : Rows.FnZipCutCardSaid := fnZipCutDone.card
end Go.Proofs.YtgmfehnnebkaoaaGreatDoor
