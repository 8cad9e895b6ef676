/- Codes of lengths: both, and the walk of the exact law, over this seat's program. -/
import Derived.Test.YtnomiopdpmecbaaCk4
namespace Go.Proofs.Ytnomiopdpmecbaa
open Go.RowKit Corb

/-- Codes of lengths that are ok, else nothing. -/
def codesL (l : List Int) : List Int := if lensOk l then (outN l 15).2 else []
theorem codesL_yes {l : List Int} (h : lensOk l = true) : codesL l = (outN l 15).2 := by simp [codesL, h]
theorem codesL_no {l : List Int} (h : lensOk l = false) : codesL l = [] := by simp [codesL, h]
theorem codesL_len (l : List Int) : (codesL l).length ≤ 300 := by
  cases h : lensOk l
  · rw [codesL_no h]; simp
  · rw [codesL_yes h, outN_len]
    simp only [lensOk, Bool.and_eq_true, decide_eq_true_iff] at h
    exact h.1.2
theorem lensOk_len {l : List Int} (h : lensOk l = true) : l.length ≤ 300 := by
  simp only [lensOk, Bool.and_eq_true, decide_eq_true_iff] at h
  exact h.1.2


end Go.Proofs.Ytnomiopdpmecbaa
