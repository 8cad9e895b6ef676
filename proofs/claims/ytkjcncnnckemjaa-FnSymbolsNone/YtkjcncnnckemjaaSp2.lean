/- Symbols written by a code: the model's and the program's, over this seat's program. -/
import Derived.Test.YtkjcncnnckemjaaSp1
import Derived.Test.YtkjcncnnckemjaaPr1
namespace Go.Proofs.Ytkjcncnnckemjaa
open Go.RowKit Corb

def pcOf (l : List Int) (s : Int) : Int × Int := (btI ((outN l 15).2.getD s.toNat 0) (l.getD s.toNat 0), l.getD s.toNat 0)
def symP (l t : List Int) : List (Int × Int) := t.map (pcOf l)
def symPut (l t : List Int) : List (Int × Int) := if lensOk l && t.all (hasS l) then symP l t else []
theorem symPut_yes {l t : List Int} (h : lensOk l = true) (ht : t.all (hasS l) = true) : symPut l t = symP l t := by simp only [symPut, h, ht]; rfl
theorem symPut_no1 {l t : List Int} (h : lensOk l = false) : symPut l t = [] := by simp [symPut, h]
theorem symPut_no2 {l t : List Int} (ht : t.all (hasS l) = false) : symPut l t = [] := by
  unfold symPut
  rw [ht, Bool.and_false]; rfl
theorem symP_len (l t : List Int) : (symP l t).length = t.length := by simp [symP]
theorem symPut_len (l t : List Int) : (symPut l t).length ≤ t.length := by
  unfold symPut
  split
  · rw [symP_len]; exact Nat.le_refl _
  · simp
theorem symP_take (l t : List Int) (k : Nat) (h : k < t.length) : symP l (t.take (k + 1)) = symP l (t.take k) ++ [pcOf l (t.getD k 0)] := by
  rw [take_snocI t k h]; simp [symP]
theorem all_take (p : Int → Bool) (t : List Int) (k : Nat) (h : k < t.length) : (t.take (k + 1)).all p = ((t.take k).all p && p (t.getD k 0)) := by
  rw [take_snocI t k h]; simp
theorem all_not {p : Int → Bool} {t : List Int} {k : Nat} (h : k < t.length) (hp : p (t.getD k 0) = false) : t.all p = false := by
  rcases hb : t.all p with _ | _
  · rfl
  · have := List.all_eq_true.1 hb (t.getD k 0) (by simp [List.getD, h])
    rw [hp] at this
    exact absurd this (by simp)
theorem hasS_true {l : List Int} {s : Int} (h : hasS l s = true) : 0 ≤ s ∧ s < (l.length : Int) ∧ 0 < l.getD s.toNat 0 := by
  simp only [hasS, Bool.and_eq_true, decide_eq_true_iff] at h
  exact ⟨h.1.1, h.1.2, h.2⟩
/-- The piece of a symbol that has a code: its number is turned, and of as many bits. -/
theorem pcOf_eq {l : List Int} (hok : lensOk l = true) {k : Nat} (hk : k < l.length) (hp : 0 < l.getD k 0) : (outN l 15).2.getD k 0 = (codeAt l k : Int) ∧ pOk (codeAt l k : Int) (l.getD k 0) = true ∧ btI ((outN l 15).2.getD k 0) (l.getD k 0) = (rv (l.getD k 0).toNat ((outN l 15).2.getD k 0).toNat : Nat) := by
  have hc := codes_get hok hk
  rw [if_pos (by omega)] at hc
  have hlt := (codeAt_lt hok hk (by omega)).1
  have hb := inL_bd (lensOk_in hok) hk
  have hok2 : pOk (codeAt l k : Int) (l.getD k 0) = true := by
    rw [pOk_true]
    exact ⟨⟨by omega, by omega⟩, by omega, by omega⟩
  refine ⟨hc, hok2, ?_⟩
  rw [hc, btI_yes hok2]


end Go.Proofs.Ytkjcncnnckemjaa
