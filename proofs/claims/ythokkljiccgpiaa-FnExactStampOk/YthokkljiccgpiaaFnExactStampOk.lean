/- 'FnExactStampOk' answers true at every input, and its arguments read behind the call as they read before; no condition. -/
import Derived.Test.YthokkljiccgpiaaRows
import Derived.Test.YthokkljiccgpiaaSt6
import Derived.ChangeSame
import Derived.WalkKit
import Derived.ProofKit
import Derived.OpenShut
import Derived.ShutString
import Derived.Below
import Derived.ChangeOld
namespace Go.Proofs.Ythokkljiccgpiaa
namespace fnExactStampOkDone
open Go.ChangeShapes Go.WideShapes Go.ChangeAt Go.RowKit
open Go.ChangeMaps (open_string shut_string)
set_option linter.unusedVariables false

theorem own : ownKnob Try.prog.godebug = none := by kernel_rfl

theorem cellsT : Try.prog.cellsOf 23 = 6 := by kernel_rfl
theorem cellsI : Try.prog.cellsOf 3 = 1 := by kernel_rfl

set_option maxHeartbeats 2000000 in
set_option maxRecDepth 100000 in
theorem lifted (os : Os) (started : os.Started) (H : Type) (enc : TypeId × Value → H) :
    ReturnsInHanded {} Try.checked os 3 .any (Rows.fnExactStampOkSpec.pre6 enc Try.prog Try.f3 Rows.fnExactStampOkRow.domain false) (Rows.fnExactStampOkSpec.post enc Try.prog Try.f3 false true false false) := by
  refine returnsInHanded_of_change (C := Try.checked) own started (by kernel_rfl) Try.func3
    (ChangeSpec.witness6 (enc := enc) (C := Try.checked) false ⟨#[], #[.agg #[.int .i64 0, .int .i64 0, .int .i64 0, .int .i64 0, .int .i64 0, .int .i64 0]], []⟩ 8 (by kernel_rfl) (by kernel_rfl) (by kernel_rfl) (by kernel_rfl)) ?_
  intro W base args ds gs before hval0 hW hcnd _
  have hval : ∀ (j : Nat) t v, Try.f3.params[j]? = some t → args[j]? = some v → Value.okWide Try.prog W .any base t v := hval0
  have hW' := hW
  obtain ⟨p, q, hA0, hV, rfl, hfz, hnd⟩ := hW
  have hA : DataW.TrodAll enc Try.prog W 0 (fun _ => true) true Try.f3.params.toList args.toList ds p := hA0
  rw [Try.params3] at hA hval
  obtain ⟨v0, vs0, d0, ds0, p0, q0, hargs, rfl, rfl, h0, r0⟩ := trodAll_cons hA
  obtain ⟨rfl, rfl, rfl⟩ := trodAll_nil r0
  obtain rfl : args = #[v0] := by cases args; simp_all
  obtain ⟨rfl, rfl⟩ := trodVars_none hV
  obtain ⟨cs, rfl, hsz⟩ := okWide_struct Try.underlying23 (hval 0 23 v0 rfl rfl)
  rw [cellsT] at hsz
  obtain ⟨l⟩ := cs
  match l, hsz with
  | [c0, c1, c2, c3, c4, c5], _ =>
  obtain ⟨fuel, hf⟩ := h0
  obtain ⟨xs, m, _, hx, _, hlen, hfs⟩ := DataW.trod_struct Try.underlying23 hf
  match xs, hlen with
  | [y0, y1, y2, y3, y4, y5], _ =>
  have g0 : _ = some y0 := by simpa using hfs 0 _ rfl
  obtain ⟨a0, e0, rfl, k0⟩ := DataW.trod_int Try.underlying3 g0
  have g1 : _ = some y1 := by simpa using hfs 1 _ rfl
  obtain ⟨a1, e1, rfl, k1⟩ := DataW.trod_int Try.underlying3 g1
  have g2 : _ = some y2 := by simpa using hfs 2 _ rfl
  obtain ⟨a2, e2, rfl, k2⟩ := DataW.trod_int Try.underlying3 g2
  have g3 : _ = some y3 := by simpa using hfs 3 _ rfl
  obtain ⟨a3, e3, rfl, k3⟩ := DataW.trod_int Try.underlying3 g3
  have g4 : _ = some y4 := by simpa using hfs 4 _ rfl
  obtain ⟨a4, e4, rfl, k4⟩ := DataW.trod_int Try.underlying3 g4
  have g5 : _ = some y5 := by simpa using hfs 5 _ rfl
  obtain ⟨a5, e5, rfl, k5⟩ := DataW.trod_int Try.underlying3 g5
  simp [Value.cells, cellsI] at e0 e1 e2 e3 e4 e5
  subst e0 e1 e2 e3 e4 e5
  simp only [Prod.mk.injEq] at hx
  obtain ⟨rfl, rfl⟩ := hx
  clear hA0 hval0
  have structReads : ∀ (W' : World) (sp : Nat → Bool), DataW.Trod enc Try.prog W' 0 sp true 23 (.agg #[.int .i64 a0, .int .i64 a1, .int .i64 a2, .int .i64 a3, .int .i64 a4, .int .i64 a5]) (.agg [.lit (.int .i64 a0), .lit (.int .i64 a1), .lit (.int .i64 a2), .lit (.int .i64 a3), .lit (.int .i64 a4), .lit (.int .i64 a5)]) [] := fun W' sp => ⟨2, by
    have f0 : DataW.trod enc Try.prog W' 0 sp true 1 3 [.int .i64 a0] = some (.lit (.int .i64 a0), []) := by simp [DataW.trod, Try.underlying3, k0]
    have f1 : DataW.trod enc Try.prog W' 0 sp true 1 3 [.int .i64 a1] = some (.lit (.int .i64 a1), []) := by simp [DataW.trod, Try.underlying3, k1]
    have f2 : DataW.trod enc Try.prog W' 0 sp true 1 3 [.int .i64 a2] = some (.lit (.int .i64 a2), []) := by simp [DataW.trod, Try.underlying3, k2]
    have f3 : DataW.trod enc Try.prog W' 0 sp true 1 3 [.int .i64 a3] = some (.lit (.int .i64 a3), []) := by simp [DataW.trod, Try.underlying3, k3]
    have f4 : DataW.trod enc Try.prog W' 0 sp true 1 3 [.int .i64 a4] = some (.lit (.int .i64 a4), []) := by simp [DataW.trod, Try.underlying3, k4]
    have f5 : DataW.trod enc Try.prog W' 0 sp true 1 3 [.int .i64 a5] = some (.lit (.int .i64 a5), []) := by simp [DataW.trod, Try.underlying3, k5]
    have := trod_struct_mk (enc := enc) (w := W') (base := 0) (spare := sp) (held := true) (n := 1) (cs := [.int .i64 a0, .int .i64 a1, .int .i64 a2, .int .i64 a3, .int .i64 a4, .int .i64 a5]) (xs := [(.lit (.int .i64 a0), []), (.lit (.int .i64 a1), []), (.lit (.int .i64 a2), []), (.lit (.int .i64 a3), []), (.lit (.int .i64 a4), []), (.lit (.int .i64 a5), [])]) Try.underlying23 (by simp [cellsT]) (by simp [cellsI, f0, f1, f2, f3, f4, f5])
    simpa [Value.cells] using this⟩
  refine (exStampOk_walk a0 a1 a2 a3 a4 a5 W).mono fun e W' ⟨he, bel⟩ => ?_
  subst he
  exact ⟨_, rfl, _, _, _, [], _, [], hW', trodAll_mk1 (shut_bool Try.underlying4 _), (trodAll_cons_mk (structReads _ _) trodAll_mk0), rfl, bel.frame _, fun h => by cases h⟩

theorem over : Rows.fnExactStampOkRow.holds Try.pinned (OpenSpec.ofChange Rows.fnExactStampOkSpec) :=
  OpenClaim.holds_of_wide 3 Try.f3 rfl rfl rfl rfl rfl rfl rfl ⟨rfl, rfl, rfl, rfl, rfl⟩ rfl rfl rfl rfl rfl (by kernel_rfl) Try.func3 (by kernel_rfl)
    (of_decide_eq_true (by kernel_rfl)) (by unfold Func.isWrapper; first | (rw [if_pos (by decide +kernel)]; kernel_rfl) | (rw [if_neg (by decide +kernel)]; exact ⟨rfl, rfl⟩))
    (fun os started H enc _ => lifted os started H enc)

theorem proved : Rows.FnExactStampOkSaid :=
  over
end fnExactStampOkDone
theorem fnExactStampOk_holds : Rows.FnExactStampOkSaid := fnExactStampOkDone.proved
end Go.Proofs.Ythokkljiccgpiaa
