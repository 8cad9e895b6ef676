/- Symbols that are put together: plain mathematics, over this seat's program. -/
import Derived.Test.YtkkhaleiehnihaaTr2
import Derived.Test.YtkkhaleiehnihaaLk1
namespace Go.Proofs.Ytkkhaleiehnihaa
open Go.RowKit

def bare (g : Grp) : Grp := ⟨g.cnt, g.fst, g.syms, .slice none 0 0⟩
def seed (l : List Int) : Nat → List Grp
  | 0 => []
  | k + 1 => if 0 < l.getD k 0 then seed l k ++ [⟨l.getD k 0, (k : Int), [(k : Int)], .slice none 0 0⟩] else seed l k
def joinG (a b : Grp) : Grp := ⟨a.cnt + b.cnt, if b.fst < a.fst then b.fst else a.fst, a.syms ++ b.syms, .slice none 0 0⟩
def firstG (M : List Grp) : Grp := M.getD (least M) g0
def restG (M : List Grp) : List Grp := M.eraseIdx (least M)
def stepG (M : List Grp) : List Grp := restG (restG M) ++ [joinG (firstG M) (firstG (restG M))]
def symsG (M : List Grp) : List Int := (firstG M).syms ++ (firstG (restG M)).syms
def bump1 (o : List Int) (i : Int) : List Int := o.set i.toNat (o.getD i.toNat 0 + 1)
def bump (o s : List Int) : List Int := s.foldl bump1 o
def hufI (l : List Int) : Nat → List Grp × List Int
  | 0 => (seed l l.length, List.replicate l.length 0)
  | k + 1 => (stepG (hufI l k).1, bump (hufI l k).2 (symsG (hufI l k).1))
/-- Lengths by counts, however long they are. -/
def hufL (l : List Int) : List Int := if (seed l l.length).length = 1 then (List.replicate l.length 0).set ((seed l l.length).getD 0 g0).fst.toNat 1 else (hufI l ((seed l l.length).length - 1)).2

theorem bump1_len (o : List Int) (i : Int) : (bump1 o i).length = o.length := by simp [bump1]
theorem bump_len (o s : List Int) : (bump o s).length = o.length := by
  induction s generalizing o with
  | nil => rfl
  | cons i s ih => show (bump (bump1 o i) s).length = _; rw [ih, bump1_len]
theorem hufI_len (l : List Int) (k : Nat) : (hufI l k).2.length = l.length := by
  induction k with
  | zero => simp [hufI]
  | succ k ih => simp only [hufI]; rw [bump_len, ih]
theorem hufL_len (l : List Int) : (hufL l).length = l.length := by
  unfold hufL
  split
  · simp
  · exact hufI_len l _
theorem bump_take (o s : List Int) (k : Nat) (h : k < s.length) : bump o (s.take (k + 1)) = bump1 (bump o (s.take k)) (s.getD k 0) := by
  rw [take_snocI s k h]
  simp [bump]

/-! What is bare is as it was. -/
theorem lessG_bare (x y : Grp) : lessG (bare x) (bare y) = lessG x y := rfl
theorem getD_bare (L : List Grp) (k : Nat) : (L.map bare).getD k g0 = bare (L.getD k g0) := by
  simp only [List.getD]
  rw [List.getElem?_map]
  cases L[k]? <;> rfl
theorem leastF_bare (L : List Grp) (k : Nat) : leastF (L.map bare) k = leastF L k := by
  induction k with
  | zero => rfl
  | succ k ih => simp only [leastF]; rw [ih, getD_bare, getD_bare, lessG_bare]
theorem least_bare (L : List Grp) : least (L.map bare) = least L := by
  unfold least
  rw [leastF_bare, List.length_map]
theorem firstG_bare (L : List Grp) : firstG (L.map bare) = bare (firstG L) := by
  unfold firstG
  rw [least_bare, getD_bare]
theorem restG_bare (L : List Grp) : restG (L.map bare) = (restG L).map bare := by
  unfold restG
  rw [least_bare, erase_eqL, erase_eqL, List.map_append, List.map_take, List.map_drop]

theorem step_bare (M : List Grp) : stepG (M.map bare) = (restG (restG M)).map bare ++ [joinG (firstG M) (firstG (restG M))] := by
  unfold stepG
  rw [restG_bare, restG_bare, firstG_bare, firstG_bare]
  rfl
theorem syms_bare (M : List Grp) : symsG (M.map bare) = symsG M := by
  unfold symsG
  rw [restG_bare, firstG_bare, firstG_bare]
  rfl

/-! Bounds. -/
def WFg (n : Nat) (g : Grp) : Prop := 0 ≤ g.cnt ∧ 0 ≤ g.fst ∧ g.fst < (n : Int) ∧ (∀ s ∈ g.syms, 0 ≤ s ∧ s < (n : Int)) ∧ 0 < g.syms.length
def WFL (n : Nat) (M : List Grp) : Prop := ∀ g ∈ M, WFg n g
def totC (M : List Grp) : Int := (M.map Grp.cnt).sum
def totS (M : List Grp) : Nat := (M.map (fun g => g.syms.length)).sum
theorem getD_mem (M : List Grp) (k : Nat) (h : k < M.length) : M.getD k g0 ∈ M := by simp [List.getD, h]
theorem totC_erase (M : List Grp) (k : Nat) (h : k < M.length) : totC M = (M.getD k g0).cnt + totC (M.eraseIdx k) := by
  induction M generalizing k with
  | nil => simp at h
  | cons g M ih =>
    cases k with
    | zero => simp [totC, List.eraseIdx]
    | succ k =>
      have := ih k (by simpa using h)
      simp only [totC, List.eraseIdx_cons_succ, List.map_cons, List.sum_cons, List.getD_cons_succ] at this ⊢
      omega
theorem totS_erase (M : List Grp) (k : Nat) (h : k < M.length) : totS M = (M.getD k g0).syms.length + totS (M.eraseIdx k) := by
  induction M generalizing k with
  | nil => simp at h
  | cons g M ih =>
    cases k with
    | zero => simp [totS, List.eraseIdx]
    | succ k =>
      have := ih k (by simpa using h)
      simp only [totS, List.eraseIdx_cons_succ, List.map_cons, List.sum_cons, List.getD_cons_succ] at this ⊢
      omega
theorem rest_len (M : List Grp) (h : 0 < M.length) : (restG M).length = M.length - 1 := by
  unfold restG
  rw [List.length_eraseIdx, if_pos (least_lt M h)]
theorem totC_append (A B : List Grp) : totC (A ++ B) = totC A + totC B := by simp [totC]
theorem totS_append (A B : List Grp) : totS (A ++ B) = totS A + totS B := by simp [totS]
theorem step_tot (M : List Grp) (h : 1 < M.length) : totC (stepG M) = totC M ∧ totS (stepG M) = totS M ∧ (stepG M).length = M.length - 1 := by
  have h1 := totC_erase M (least M) (least_lt M (by omega))
  have h2 := totS_erase M (least M) (least_lt M (by omega))
  have hr := rest_len M (by omega)
  have h3 := totC_erase (restG M) (least (restG M)) (least_lt _ (by omega))
  have h4 := totS_erase (restG M) (least (restG M)) (least_lt _ (by omega))
  have hr2 := rest_len (restG M) (by omega)
  have e1 : M.getD (least M) g0 = firstG M := rfl
  have e2 : (restG M).getD (least (restG M)) g0 = firstG (restG M) := rfl
  have e3 : M.eraseIdx (least M) = restG M := rfl
  have e4 : (restG M).eraseIdx (least (restG M)) = restG (restG M) := rfl
  rw [e1, e3] at h1 h2
  rw [e2, e4] at h3 h4
  refine ⟨?_, ?_, ?_⟩
  · unfold stepG; rw [totC_append]
    have : totC [joinG (firstG M) (firstG (restG M))] = (firstG M).cnt + (firstG (restG M)).cnt := by simp [totC, joinG]
    omega
  · unfold stepG; rw [totS_append]
    have : totS [joinG (firstG M) (firstG (restG M))] = (firstG M).syms.length + (firstG (restG M)).syms.length := by simp [totS, joinG]
    omega
  · unfold stepG; simp; omega
theorem rest_sub (M : List Grp) : ∀ g ∈ restG M, g ∈ M := fun _ hg => List.mem_of_mem_eraseIdx hg
theorem first_mem (M : List Grp) (h : 0 < M.length) : firstG M ∈ M := getD_mem M _ (least_lt M h)
theorem step_wf {n : Nat} {M : List Grp} (hw : WFL n M) (h : 1 < M.length) : WFL n (stepG M) := by
  have hr := rest_len M (by omega)
  have ha := hw _ (first_mem M (by omega))
  have hb := hw _ (rest_sub M _ (first_mem (restG M) (by omega)))
  intro g hg
  simp only [stepG, List.mem_append, List.mem_singleton] at hg
  rcases hg with hg | rfl
  · exact hw g (rest_sub M _ (rest_sub _ _ hg))
  · obtain ⟨a0, a1, a2, a3, a4⟩ := ha
    obtain ⟨b0, b1, b2, b3, b4⟩ := hb
    refine ⟨?_, ?_, ?_, ?_, ?_⟩
    · simp only [joinG]; omega
    · simp only [joinG]; split <;> assumption
    · simp only [joinG]; split <;> assumption
    · intro s hs
      simp only [joinG, List.mem_append] at hs
      rcases hs with hs | hs
      · exact a3 s hs
      · exact b3 s hs
    · simp only [joinG, List.length_append]; omega
theorem seed_wf (l : List Int) (k : Nat) (hk : k ≤ l.length) : WFL l.length (seed l k) := by
  induction k with
  | zero => intro g hg; simp [seed] at hg
  | succ k ih =>
    simp only [seed]
    split
    case isTrue h =>
      intro g hg
      simp only [List.mem_append, List.mem_singleton] at hg
      rcases hg with hg | rfl
      · exact ih (by omega) g hg
      · refine ⟨by simp only; omega, by simp only; omega, by simp only; omega, ?_, by simp⟩
        intro s hs
        simp only [List.mem_singleton] at hs
        subst hs
        omega
    case isFalse => exact ih (by omega)
theorem seed_tot (l : List Int) (C : Int) (hC : 0 ≤ C) (hl : ∀ i, i < l.length → l.getD i 0 ≤ C) (k : Nat) (hk : k ≤ l.length) : totC (seed l k) ≤ C * k ∧ totS (seed l k) ≤ k ∧ (seed l k).length ≤ k := by
  induction k with
  | zero => simp [seed, totC, totS]
  | succ k ih =>
    obtain ⟨h1, h2, h3⟩ := ih (by omega)
    have hb := hl k (by omega)
    have e : C * ((k + 1 : Nat) : Int) = C * (k : Int) + C := by rw [show ((k + 1 : Nat) : Int) = (k : Int) + 1 by omega, Int.mul_add, Int.mul_one]
    simp only [seed]
    split
    · rw [totC_append, totS_append]
      refine ⟨?_, ?_, ?_⟩
      · simp only [totC, List.map_cons, List.map_nil, List.sum_cons, List.sum_nil] at h1 ⊢
        omega
      · simp only [totS, List.map_cons, List.map_nil, List.sum_cons, List.sum_nil, List.length_singleton] at h2 ⊢
        omega
      · simp; omega
    · refine ⟨by omega, by omega, by omega⟩
/-- What holds behind so many steps. -/
theorem hufI_inv (l : List Int) (k : Nat) (hk : k < (seed l l.length).length ∨ k = 0) : WFL l.length (hufI l k).1 ∧ totC (hufI l k).1 = totC (seed l l.length) ∧ totS (hufI l k).1 = totS (seed l l.length) ∧ (hufI l k).1.length = (seed l l.length).length - k := by
  induction k with
  | zero => exact ⟨seed_wf l _ (Nat.le_refl _), rfl, rfl, rfl⟩
  | succ k ih =>
    obtain ⟨h1, h2, h3, h4⟩ := ih (by omega)
    have hlen : 1 < (hufI l k).1.length := by omega
    obtain ⟨t1, t2, t3⟩ := step_tot _ hlen
    refine ⟨step_wf h1 hlen, by simp only [hufI]; omega, by simp only [hufI]; omega, by simp only [hufI]; omega⟩
theorem cnt_le {n : Nat} {M : List Grp} (hw : WFL n M) {g : Grp} (hg : g ∈ M) : g.cnt ≤ totC M := by
  induction M with
  | nil => cases hg
  | cons x M ih =>
    have hx := (hw x (by simp)).1
    have hM : 0 ≤ totC M := by
      clear ih hg
      have hw' : WFL n M := fun y hy => hw y (by simp [hy])
      clear hw
      induction M with
      | nil => simp [totC]
      | cons y M ih2 =>
        have := ih2 (fun z hz => hw' z (by simp [hz]))
        have hy := (hw' y (by simp)).1
        simp only [totC, List.map_cons, List.sum_cons] at this ⊢
        omega
    simp only [List.mem_cons] at hg
    simp only [totC, List.map_cons, List.sum_cons] at hM ih ⊢
    rcases hg with rfl | hg
    · omega
    · have := ih (fun y hy => hw y (by simp [hy])) hg
      omega
theorem two_cnt {n : Nat} {M : List Grp} (hw : WFL n M) (h : 1 < M.length) : (firstG M).cnt + (firstG (restG M)).cnt ≤ totC M ∧ (symsG M).length ≤ totS M := by
  have hr := rest_len M (by omega)
  have h1 := totC_erase M (least M) (least_lt M (by omega))
  have h2 := totS_erase M (least M) (least_lt M (by omega))
  have h4 := totS_erase (restG M) (least (restG M)) (least_lt _ (by omega))
  have e1 : M.getD (least M) g0 = firstG M := rfl
  have e2 : (restG M).getD (least (restG M)) g0 = firstG (restG M) := rfl
  have e3 : M.eraseIdx (least M) = restG M := rfl
  rw [e1, e3] at h1 h2
  rw [e2] at h4
  have hc := cnt_le (n := n) (M := restG M) (fun g hg => hw g (rest_sub M _ hg)) (first_mem (restG M) (by omega))
  refine ⟨by omega, ?_⟩
  unfold symsG
  rw [List.length_append]; omega

/-! Lengths stay small. -/
def maxL (o : List Int) (B : Int) : Prop := ∀ i, i < o.length → 0 ≤ o.getD i 0 ∧ o.getD i 0 ≤ B
theorem bump1_max {o : List Int} {B : Int} (h : maxL o B) (i : Int) : maxL (bump1 o i) (B + 1) := by
  intro j hj
  rw [bump1_len] at hj
  have hj' := h j hj
  by_cases e : i.toNat = j
  · subst e
    simp only [bump1, List.getD]
    rw [List.getElem?_set_self hj]
    simp only [Option.getD_some]
    have := h i.toNat hj
    simp only [List.getD] at this
    omega
  · have : (bump1 o i).getD j 0 = o.getD j 0 := by
      simp only [bump1, List.getD]
      rw [List.getElem?_set_ne e]
    rw [this]; omega
theorem bump_max {o : List Int} {B : Int} (h : maxL o B) (s : List Int) : maxL (bump o s) (B + s.length) := by
  induction s generalizing o B with
  | nil => intro i hi; have := h i hi; simp only [bump, List.foldl_nil, List.length_nil]; omega
  | cons i s ih =>
    have := ih (bump1_max h i)
    intro j hj
    have h2 := this j hj
    simp only [List.length_cons]
    show 0 ≤ (bump (bump1 o i) s).getD j 0 ∧ _
    refine ⟨h2.1, ?_⟩
    have := h2.2
    show (bump (bump1 o i) s).getD j 0 ≤ _
    omega
theorem hufI_max (l : List Int) (hl : ∀ i, i < l.length → l.getD i 0 ≤ 100000) (hn : l.length ≤ 300) (k : Nat) (hk : k < (seed l l.length).length ∨ k = 0) : maxL (hufI l k).2 (300 * (k : Int)) := by
  induction k with
  | zero =>
    intro i hi
    have : (hufI l 0).2.getD i 0 = 0 := by
      simp only [hufI, List.getD]
      simp only [hufI, List.length_replicate] at hi
      simp [hi]
    rw [this]; omega
  | succ k ih =>
    have hi := ih (by omega)
    obtain ⟨h1, h2, h3, h4⟩ := hufI_inv l k (by omega)
    have ht := (two_cnt h1 (by omega)).2
    have hs := (seed_tot l 100000 (by omega) hl l.length (Nat.le_refl _)).2.1
    have hb := bump_max hi (symsG (hufI l k).1)
    intro i hil
    have := hb i hil
    simp only [hufI] at this ⊢
    omega

end Go.Proofs.Ytkkhaleiehnihaa
