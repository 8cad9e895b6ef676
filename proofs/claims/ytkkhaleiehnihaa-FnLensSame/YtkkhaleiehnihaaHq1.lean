/- Plain mathematics of a heap of groups: what rises, what sinks, what is on top. -/
import Derived.Test.YtkkhaleiehnihaaHu6
namespace Go.Proofs.Ytkkhaleiehnihaa
open Go.RowKit

theorem less_asymm {x y : Grp} (h : lessG x y = true) : lessG y x = false := by
  simp only [lessG, Bool.or_eq_true, Bool.and_eq_true, decide_eq_true_eq] at h
  simp only [lessG, Bool.or_eq_false_iff, Bool.and_eq_false_iff, decide_eq_false_iff_not]
  omega
theorem less_ntrans {x y z : Grp} (h : lessG x y = false) (h2 : lessG y z = false) : lessG x z = false := by
  simp only [lessG, Bool.or_eq_false_iff, Bool.and_eq_false_iff, decide_eq_false_iff_not] at h h2 ⊢
  omega
theorem less_cut {x y z : Grp} (h : lessG x y = false) (h2 : lessG z y = true) : lessG x z = false := by
  simp only [lessG, Bool.or_eq_true, Bool.and_eq_true, decide_eq_true_eq] at h2
  simp only [lessG, Bool.or_eq_false_iff, Bool.and_eq_false_iff, decide_eq_false_iff_not] at h ⊢
  omega
theorem less_irrefl (x : Grp) : lessG x x = false := by
  simp only [lessG, Bool.or_eq_false_iff, Bool.and_eq_false_iff, decide_eq_false_iff_not]
  omega

/-- Two of a row change their places. -/
def swapG (L : List Grp) (i j : Nat) : List Grp := (L.set i (L.getD j g0)).set j (L.getD i g0)
theorem swapG_len (L : List Grp) (i j : Nat) : (swapG L i j).length = L.length := by simp [swapG]
theorem swapG_fst {L : List Grp} {i j : Nat} (hi : i < L.length) : (swapG L i j).getD i g0 = L.getD j g0 := by
  unfold swapG
  rw [List.getD_eq_getElem?_getD, List.getElem?_set]
  by_cases h : j = i
  · subst h; simp [hi]
  · rw [if_neg h, List.getElem?_set_self hi]; rfl
theorem swapG_snd {L : List Grp} {i j : Nat} (hj : j < L.length) : (swapG L i j).getD j g0 = L.getD i g0 := by
  unfold swapG
  rw [List.getD_eq_getElem?_getD, List.getElem?_set_self (by simpa using hj)]; rfl
theorem swapG_other {L : List Grp} {i j k : Nat} (h1 : k ≠ i) (h2 : k ≠ j) : (swapG L i j).getD k g0 = L.getD k g0 := by
  unfold swapG
  rw [List.getD_eq_getElem?_getD, List.getElem?_set_ne (fun e => h2 e.symm), List.getElem?_set_ne (fun e => h1 e.symm), ← List.getD_eq_getElem?_getD]
theorem set_perm (L : List Grp) (i : Nat) (x : Grp) (h : i < L.length) : (L.getD i g0 :: L.set i x).Perm (x :: L) := by
  induction L generalizing i with
  | nil => simp at h
  | cons g L ih =>
    cases i with
    | zero => simp only [List.getD_cons_zero, List.set_cons_zero]; exact List.Perm.swap _ _ _
    | succ i =>
      simp only [List.getD_cons_succ, List.set_cons_succ]
      have h1 := ih i (by simpa using h)
      exact (List.Perm.swap _ _ _).trans ((h1.cons g).trans (List.Perm.swap _ _ _))
theorem swapG_perm {L : List Grp} {i j : Nat} (hi : i < L.length) (hj : j < L.length) : (swapG L i j).Perm L := by
  have h1 := set_perm L i (L.getD j g0) hi
  have h2 := set_perm (L.set i (L.getD j g0)) j (L.getD i g0) (by simpa using hj)
  have e : (L.set i (L.getD j g0)).getD j g0 = L.getD j g0 := by
    rw [List.getD_eq_getElem?_getD, List.getElem?_set]
    by_cases hij : i = j
    · subst hij; simp [hi]
    · rw [if_neg hij, ← List.getD_eq_getElem?_getD]
  rw [e] at h2
  exact (h2.trans h1).cons_inv

/-- None comes ahead of the one above it. -/
def HP (L : List Grp) : Prop := ∀ i, 0 < i → i < L.length → lessG (L.getD i g0) (L.getD ((i - 1) / 2) g0) = false
def UpI (L : List Grp) (k : Nat) : Prop :=
  (∀ i, 0 < i → i < L.length → i ≠ k → lessG (L.getD i g0) (L.getD ((i - 1) / 2) g0) = false) ∧
  (∀ i, 0 < i → i < L.length → (i - 1) / 2 = k → 0 < k → lessG (L.getD i g0) (L.getD ((k - 1) / 2) g0) = false)
def DnI (L : List Grp) (k : Nat) : Prop :=
  (∀ i, 0 < i → i < L.length → (i - 1) / 2 ≠ k → lessG (L.getD i g0) (L.getD ((i - 1) / 2) g0) = false) ∧
  (∀ i, 0 < i → i < L.length → (i - 1) / 2 = k → 0 < k → lessG (L.getD i g0) (L.getD ((k - 1) / 2) g0) = false)
theorem up_end {L : List Grp} {k : Nat} (h : UpI L k) (hk : k = 0 ∨ lessG (L.getD k g0) (L.getD ((k - 1) / 2) g0) = false) : HP L := by
  intro i h0 hi
  by_cases e : i = k
  · subst e
    rcases hk with hk | hk
    · omega
    · exact hk
  · exact h.1 i h0 hi e
theorem up_step {L : List Grp} {k : Nat} (h : UpI L k) (h0 : 0 < k) (hk : k < L.length) (hl : lessG (L.getD k g0) (L.getD ((k - 1) / 2) g0) = true) : UpI (swapG L k ((k - 1) / 2)) ((k - 1) / 2) := by
  have hq : (k - 1) / 2 < k := by omega
  have hqn : (k - 1) / 2 < L.length := by omega
  have sk := swapG_fst (L := L) (j := (k - 1) / 2) hk
  have sq := swapG_snd (L := L) (i := k) hqn
  refine ⟨?_, ?_⟩
  · intro i i0 hi hiq
    rw [swapG_len] at hi
    by_cases e : i = k
    · subst e
      rw [sk, sq]
      exact less_asymm hl
    · rw [swapG_other e hiq]
      by_cases p : (i - 1) / 2 = (k - 1) / 2
      · rw [p, sq]
        have := h.1 i i0 hi e
        rw [p] at this
        exact less_cut this hl
      · by_cases p2 : (i - 1) / 2 = k
        · rw [p2, sk]
          exact h.2 i i0 hi p2 h0
        · rw [swapG_other p2 p]
          exact h.1 i i0 hi e
  · intro i i0 hi hp hq0
    rw [swapG_len] at hi
    have hpp : ((k - 1) / 2 - 1) / 2 < (k - 1) / 2 := by omega
    rw [swapG_other (k := ((k - 1) / 2 - 1) / 2) (by omega) (by omega)]
    have hqq := h.1 ((k - 1) / 2) hq0 hqn (by omega)
    by_cases e : i = k
    · subst e
      rw [sk]
      exact hqq
    · rw [swapG_other e (by omega)]
      have := h.1 i i0 hi e
      rw [hp] at this
      exact less_ntrans this hqq
theorem dn_end {L : List Grp} {k : Nat} (h : DnI L k) (hk : ∀ c, 0 < c → c < L.length → (c - 1) / 2 = k → lessG (L.getD c g0) (L.getD k g0) = false) : HP L := by
  intro i h0 hi
  by_cases e : (i - 1) / 2 = k
  · rw [e]; exact hk i h0 hi e
  · exact h.1 i h0 hi e
theorem dn_step {L : List Grp} {k c : Nat} (h : DnI L k) (hk : k < L.length) (hc : c < L.length) (hc0 : 0 < c) (hp : (c - 1) / 2 = k) (hm : ∀ i, 0 < i → i < L.length → (i - 1) / 2 = k → lessG (L.getD i g0) (L.getD c g0) = false) (hl : lessG (L.getD c g0) (L.getD k g0) = true) : DnI (swapG L c k) c := by
  have hkc : k < c := by omega
  have sc := swapG_fst (L := L) (j := k) hc
  have sk := swapG_snd (L := L) (i := c) hk
  refine ⟨?_, ?_⟩
  · intro i i0 hi hip
    rw [swapG_len] at hi
    by_cases e : i = c
    · subst e
      rw [hp, sc, sk]
      exact less_asymm hl
    · by_cases p : (i - 1) / 2 = k
      · rw [p, sk, swapG_other e (by omega)]
        exact hm i i0 hi p
      · rw [swapG_other hip p]
        by_cases e2 : i = k
        · subst e2
          rw [sk]
          exact h.2 c hc0 hc hp i0
        · rw [swapG_other e e2]
          exact h.1 i i0 hi p
  · intro i i0 hi hip _
    rw [swapG_len] at hi
    rw [hp, sk, swapG_other (by omega) (by omega)]
    have := h.1 i i0 hi (by omega)
    rw [hip] at this
    exact this
/-- What is on top comes first. -/
theorem hp_top {L : List Grp} (h : HP L) : ∀ i, i < L.length → lessG (L.getD i g0) (L.getD 0 g0) = false := by
  intro i
  induction i using Nat.strongRecOn with
  | ind i ih =>
    intro hi
    by_cases e : i = 0
    · subst e; exact less_irrefl _
    · exact less_ntrans (h i (by omega) hi) (ih ((i - 1) / 2) (by omega) (by omega))
/-- One is laid behind the last. -/
theorem hp_snoc {L : List Grp} (h : HP L) (g : Grp) : UpI (L ++ [g]) L.length := by
  refine ⟨?_, ?_⟩
  · intro i i0 hi hn
    have hi' : i < L.length := by simp at hi; omega
    have e1 : ∀ k, k < L.length → (L ++ [g]).getD k g0 = L.getD k g0 := by
      intro k hk
      rw [List.getD_eq_getElem?_getD, List.getElem?_append_left hk, ← List.getD_eq_getElem?_getD]
    rw [e1 i hi', e1 _ (by omega)]
    exact h i i0 hi'
  · intro i i0 hi hp _
    simp at hi
    omega
theorem getD_takeG (L : List Grp) (m k : Nat) (h : k < m) : (L.take m).getD k g0 = L.getD k g0 := by
  rw [List.getD_eq_getElem?_getD, List.getElem?_take_of_lt h, ← List.getD_eq_getElem?_getD]
/-- The first and the last change their places, and the last is taken off. -/
theorem hp_cut {L : List Grp} (h : HP L) : DnI ((swapG L 0 (L.length - 1)).take (L.length - 1)) 0 := by
  refine ⟨?_, fun i _ _ _ h0 => absurd h0 (Nat.lt_irrefl 0)⟩
  intro i i0 hi hp
  have hi' : i < L.length - 1 := by rw [List.length_take, swapG_len] at hi; omega
  rw [getD_takeG _ _ _ hi', getD_takeG _ _ _ (by omega), swapG_other (by omega) (by omega), swapG_other hp (by omega)]
  exact h i i0 (by omega)
theorem take_snocG (L : List Grp) (n : Nat) (h : L.length = n + 1) : L = L.take n ++ [L.getD n g0] := by
  have e : L.take (n + 1) = L := List.take_of_length_le (by omega)
  have h2 : L.take (n + 1) = L.take n ++ [L.getD n g0] := by
    rw [List.take_succ_eq_append_getElem (by omega)]
    congr 2
    simp [List.getD, h]
  rw [e] at h2
  exact h2
theorem cut_perm {L : List Grp} (h : 0 < L.length) : (L.getD 0 g0 :: (swapG L 0 (L.length - 1)).take (L.length - 1)).Perm L := by
  have h1 := swapG_perm (L := L) (i := 0) (j := L.length - 1) h (by omega)
  have h2 := take_snocG (swapG L 0 (L.length - 1)) (L.length - 1) (by rw [swapG_len]; omega)
  rw [swapG_snd (by omega)] at h2
  have h3 : (L.getD 0 g0 :: (swapG L 0 (L.length - 1)).take (L.length - 1)).Perm ((swapG L 0 (L.length - 1)).take (L.length - 1) ++ [L.getD 0 g0]) := (List.perm_append_singleton _ _).symm
  rw [← h2] at h3
  exact h3.trans h1
/-- The first of a row by the model is the one of which none comes ahead. -/
theorem leastF_less (L : List Grp) (k j : Nat) (hj : j ≤ k) : lessG (L.getD j g0) (L.getD (leastF L k) g0) = false := by
  induction k with
  | zero =>
    obtain rfl : j = 0 := by omega
    exact less_irrefl _
  | succ k ih =>
    simp only [leastF]
    cases hl : lessG (L.getD (k + 1) g0) (L.getD (leastF L k) g0)
    · simp only [Bool.false_eq_true, if_false]
      by_cases e : j = k + 1
      · subst e; exact hl
      · exact ih (by omega)
    · simp only [if_true]
      by_cases e : j = k + 1
      · subst e; exact less_irrefl _
      · exact less_cut (ih (by omega)) hl
theorem first_less (M : List Grp) (g : Grp) (hg : g ∈ M) : lessG g (firstG M) = false := by
  obtain ⟨i, hi, rfl⟩ := List.getElem_of_mem hg
  have := leastF_less M (M.length - 1) i (by omega)
  have e : M.getD i g0 = M[i] := by simp [List.getD, hi]
  rw [e] at this
  exact this
/-- The least symbol of a group is one of it. -/
def fstIn (M : List Grp) : Prop := ∀ g ∈ M, g.fst ∈ g.syms
theorem seed_fst (l : List Int) (k : Nat) : fstIn (seed l k) := by
  induction k with
  | zero => intro g hg; simp [seed] at hg
  | succ k ih =>
    simp only [seed]
    split
    · intro g hg
      simp only [List.mem_append, List.mem_singleton] at hg
      rcases hg with hg | rfl
      · exact ih g hg
      · simp
    · exact ih
theorem step_fst {M : List Grp} (h : fstIn M) (hl : 1 < M.length) : fstIn (stepG M) := by
  have hr := rest_len M (by omega)
  intro g hg
  simp only [stepG, List.mem_append, List.mem_singleton] at hg
  rcases hg with hg | rfl
  · exact h g (rest_sub M _ (rest_sub _ _ hg))
  · have ha := h _ (first_mem M (by omega))
    have hb := h _ (rest_sub M _ (first_mem (restG M) (by omega)))
    simp only [joinG, List.mem_append]
    split
    · exact .inr hb
    · exact .inl ha
theorem hufI_fst (l : List Int) (k : Nat) (hk : k < (seed l l.length).length ∨ k = 0) : fstIn (hufI l k).1 := by
  induction k with
  | zero => exact seed_fst l _
  | succ k ih =>
    have hlen : 1 < (hufI l k).1.length := by have := (hufI_inv l k (by omega)).2.2.2; omega
    exact step_fst (ih (by omega)) hlen
theorem same_fst {M : List Grp} (hn : (flatS M).Nodup) (hf : fstIn M) {x y : Grp} (hx : x ∈ M) (hy : y ∈ M) (e : x.fst = y.fst) : x = y := by
  induction M with
  | nil => cases hx
  | cons g M ih =>
    have hs : flatS (g :: M) = g.syms ++ flatS M := by simp [flatS]
    rw [hs, List.nodup_append] at hn
    obtain ⟨_, n2, n3⟩ := hn
    have hfM : fstIn M := fun z hz => hf z (by simp [hz])
    have hin : ∀ z ∈ M, z.fst ∈ flatS M := fun z hz => List.mem_flatMap.2 ⟨z, hz, hfM z hz⟩
    have hfg : g.fst ∈ g.syms := hf g (by simp)
    simp only [List.mem_cons] at hx hy
    rcases hx with rfl | hx
    · rcases hy with rfl | hy
      · rfl
      · exact absurd e (n3 _ hfg _ (hin y hy))
    · rcases hy with rfl | hy
      · exact absurd e.symm (n3 _ hfg _ (hin x hx))
      · exact ih n2 hfM hx hy
theorem less_same {x y : Grp} (h : lessG x y = false) (h2 : lessG y x = false) : x.fst = y.fst := by
  simp only [lessG, Bool.or_eq_false_iff, Bool.and_eq_false_iff, decide_eq_false_iff_not] at h h2
  omega
/-- The one on top of a heap is the model's first; the others are the model's others. -/
theorem top_first {L M : List Grp} {a : Grp} {L1 : List Grp} (hp : (L.map bare).Perm M) (hL : L.Perm (a :: L1)) (hmin : ∀ g ∈ L, lessG g a = false) (h0 : 0 < L.length) (hn : (flatS M).Nodup) (hf : fstIn M) : bare a = firstG M ∧ (L1.map bare).Perm (restG M) := by
  have hl : 0 < M.length := by rw [← hp.length_eq, List.length_map]; exact h0
  have ha : a ∈ L := hL.mem_iff.2 (by simp)
  have haM : bare a ∈ M := hp.mem_iff.1 (List.mem_map_of_mem ha)
  have hfM := first_mem M hl
  obtain ⟨c, hc, hce⟩ := List.mem_map.1 (hp.mem_iff.2 hfM)
  have h1 : lessG (firstG M) (bare a) = false := by rw [← hce, lessG_bare]; exact hmin c hc
  have h2 := first_less M (bare a) haM
  have e : bare a = firstG M := same_fst hn hf haM hfM (less_same h2 h1)
  refine ⟨e, ?_⟩
  have h3 : (bare a :: L1.map bare).Perm M := by
    have := (hL.map bare).symm.trans hp
    simpa using this
  have h4 := h3.trans (perm_first M hl).symm
  rw [e] at h4
  exact h4.cons_inv
theorem flat_rest {M : List Grp} (hl : 0 < M.length) (hn : (flatS M).Nodup) : (flatS (restG M)).Nodup := by
  have h1 := flat_perm (perm_first M hl)
  have h2 := h1.nodup_iff.2 hn
  have e : flatS (firstG M :: restG M) = (firstG M).syms ++ flatS (restG M) := by simp [flatS]
  rw [e, List.nodup_append] at h2
  exact h2.2.1

end Go.Proofs.Ytkkhaleiehnihaa
