/- Codes of lengths: both, and the walk of the exact law, over this seat's program. -/
import Derived.Test.YtbhmnmdffkgliaaCk4
namespace Go.Proofs.Ytbhmnmdffkgliaa
open Go.RowKit Corb

/-- Codes of lengths that are ok, else nothing. -/
def codesL (l : List Int) : List Int := if lensOk l then (outN l 15).2 else []
theorem codesL_yes {l : List Int} (h : lensOk l = true) : codesL l = (outN l 15).2 := by simp [codesL, h]
theorem codesL_no {l : List Int} (h : lensOk l = false) : codesL l = [] := by simp [codesL, h]
theorem codesL_len (l : List Int) : (codesL l).length ≤ 300 := by
  cases h : lensOk l
  · rw [codesL_no h]; simp
  · rw [codesL_yes h, outN_len]
    simp only [lensOk, Bool.and_eq_true, decide_eq_true_iff] at h
    exact h.1.2
theorem lensOk_len {l : List Int} (h : lensOk l = true) : l.length ≤ 300 := by
  simp only [lensOk, Bool.and_eq_true, decide_eq_true_iff] at h
  exact h.1.2

theorem book_field (vl vc vs : Value) (m : Nat → Nat) (w : World) : (Instr.field 37 (.agg (bookCells vl vc vs m).toArray) 1).run Try.prog w = .ok vc w := by kernel_rfl

set_option maxHeartbeats 800000 in
theorem implCodes_any (a : Option Addr) (cap n : Nat) (l : List Int) (w : World) (hn : l.length = n) (h : IRow w a l) (hm : n ≤ 1048576) :
    Calls Try.prog 14 #[.slice a n cap] w fun e w' => ∃ v, e = .returned v ∧ IOwn w' w.heap.size v (codesL l) ∧ Below w.heap.size w w' := by
  have Hn := hide hn
  have HL := hide (implLensOk_any a cap n l w hn h hm)
  clear hn hm
  cases hok : lensOk l
  · have Hc := hide (codesL_no hok)
    go_enter Try.func14, Try.ntmps14
    go_wp2_with fail
    refine (unhide HL).mono ?_
    rintro e x1 ⟨rfl, hx⟩
    subst hx
    rw [hok]
    go_wp2
    go_ret
    exact ⟨_, rfl, by rw [unhide Hc]; exact IOwn.nil _ _, Below.refl _ _⟩
  · have Hc := hide (codesL_yes hok)
    have hl := lensOk_len hok
    have HC := hide (codeBook_any a cap n l w (unhide Hn) h (by rw [← unhide Hn]; exact hl))
    clear hl
    go_enter Try.func14, Try.ntmps14
    go_wp2_with fail
    refine (unhide HL).mono ?_
    rintro e x1 ⟨rfl, hx⟩
    subst hx
    rw [hok]
    go_wp2_with fail
    refine (unhide HC).mono ?_
    rintro e x2 ⟨vs, C, rfl, hC, ho, _, hb⟩
    have hf := fun W => book_field (.slice a n cap) (.slice (some ⟨x1.heap.size + 1, 0, none⟩) n n) vs (manyN l 15) W
    go_wp2
    go_ret
    exact ⟨_, rfl, by rw [unhide Hc]; exact ho.mono (Nat.le_succ _), hb⟩
theorem implCodes_n (a : Option Addr) (cap n m : Nat) (l R : List Int) (w : World) (hn : l.length = n) (h : IRow w a l) (hm : n ≤ 1048576) (hR : codesL l = R) (hRm : R.length = m) :
    Calls Try.prog 14 #[.slice a n cap] w fun e w' => ∃ va vc, e = .returned (.slice va m vc) ∧ IOwn w' w.heap.size (.slice va m vc) R ∧ Below w.heap.size w w' :=
  (implCodes_any a cap n l w hn h hm).mono fun e w' ⟨v, he, ho, hb⟩ => by
    rw [hR] at ho
    obtain ⟨va, vc, rfl⟩ := ho.formN hRm
    exact ⟨va, vc, he, ho, hb⟩


end Go.Proofs.Ytbhmnmdffkgliaa
