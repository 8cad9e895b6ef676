/- Plain mathematics: files of a tree without one are a tree. -/
import Derived.Test.YtjldafkcolmfeaaDoorTf1
namespace Go.Proofs.YtjldafkcolmfeaaDoor
open Go.RowKit

/-- A list without one. -/
def lessF (l : List Fl) (i : Nat) : List Fl := l.take i ++ l.drop (i + 1)
theorem lessF_len {l : List Fl} {i : Nat} (hi : i < l.length) : (lessF l i).length = l.length - 1 := by
  unfold lessF
  rw [List.length_append, List.length_take, List.length_drop]
  omega
def upI (i j : Nat) : Nat := if j < i then j else j + 1
theorem lessF_get {l : List Fl} {i : Nat} (hi : i < l.length) (j : Nat) : (lessF l i).getD j default = l.getD (upI i j) default := by
  have hl : (l.take i).length = i := by rw [List.length_take]; omega
  unfold lessF upI
  rw [List.getD_eq_getElem?_getD, List.getD_eq_getElem?_getD]
  by_cases h : j < i
  · rw [if_pos h, List.getElem?_append_left (by omega), List.getElem?_take_of_lt h]
  · rw [if_neg h, List.getElem?_append_right (by omega), hl, List.getElem?_drop]
    congr 2
    omega
theorem upI_lt {i j k : Nat} (h : j < k) : upI i j < upI i k := by unfold upI; split <;> split <;> omega
theorem upI_in {n i j : Nat} (hi : i < n) (hj : j < n - 1) : upI i j < n := by unfold upI; split <;> omega
theorem tree_less {l : List Fl} {i : Nat} (hi : i < l.length) (h : treeB l = true) : treeB (lessF l i) = true := by
  unfold treeB at h
  rw [Bool.and_eq_true, List.all_eq_true, decide_eq_true_eq] at h
  obtain ⟨h1, h2⟩ := h
  have hone : ∀ j, j < l.length → selfT l j = true ∧ upT l j = true ∧ freeT l j = true := fun j hj => by
    have := h1 j (List.mem_range.2 hj)
    unfold oneT at this
    simpa using this
  have hup := up_all l.length (fun j hj => (hone j hj).2.1)
  have hlen := lessF_len hi
  have hp : ∀ j, pA (lessF l i) j = pA l (upI i j) := fun j => by unfold pA; rw [lessF_get hi]
  rw [tree_yes, hlen]
  · exact decide_eq_true (by omega)
  · intro j hj
    rw [hlen] at hj
    obtain ⟨o1, o2, o3⟩ := hone (upI i j) (upI_in hi hj)
    have e1 : selfT (lessF l i) j = true := by
      unfold selfT at o1 ⊢
      rw [hp, lessF_get hi]
      exact o1
    have e2 : upT (lessF l i) j = true := by
      unfold upT
      by_cases h0 : j = 0
      · simp [h0]
      · rw [hp, hp, hup _ (upI_in hi hj) _ (upI_lt (by omega))]
        simp
    have e3 : freeT (lessF l i) j = true := by
      refine freeT_yes fun k hk => ?_
      rw [hlen] at hk
      rw [hp, hp]
      rcases hc : undL (pA l (upI i j)).data.toList (pA l (upI i k)).data.toList with _ | _
      · rfl
      · have := freeT_no (upI_in hi hk) hc
        rw [this] at o3
        cases o3
    unfold oneT
    rw [e1, e2, e3]
    rfl
theorem tree_none : treeB [] = true := rfl

end Go.Proofs.YtjldafkcolmfeaaDoor
