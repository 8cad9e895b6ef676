/- Lengths that fit: plain mathematics, over this seat's program. -/
import Derived.Test.YtkkhaleiehnihaaHu3
namespace Go.Proofs.Ytkkhaleiehnihaa
open Go.RowKit

theorem flat_same (l : List Int) (k : Nat) (hk : k < (seed l l.length).length ∨ k = 0) : (flatS (hufI l k).1).Perm (flatS (seed l l.length)) := by
  induction k with
  | zero => exact List.Perm.refl _
  | succ k ih =>
    have hl := (hufI_inv l k (by omega)).2.2.2
    exact (flat_step (hufI l k).1 (by omega)).trans (ih (by omega))
theorem hufI_zero (l : List Int) (i : Nat) (hi : i < l.length) (hn : (i : Int) ∉ flatS (seed l l.length)) (k : Nat) (hk : k < (seed l l.length).length ∨ k = 0) : (hufI l k).2.getD i 0 = 0 := by
  induction k with
  | zero => simp [hufI, List.getD, hi]
  | succ k ih =>
    have h0 := ih (by omega)
    have hl := (hufI_inv l k (by omega)).2.2.2
    have hf := flat_hufI l k (by omega)
    have hs := syms_nodup (M := (hufI l k).1) (by omega) hf.1
    have hsub := syms_sub (hufI l k).1 (by omega)
    simp only [hufI]
    rw [bump_get _ _ i hs.1 (fun x hx => (hf.2 x (hsub.mem_iff.1 (by simp [hx]))).1) (by rw [hufI_len]; exact hi), h0, if_neg]
    · rfl
    · intro hm
      exact hn ((flat_same l k (by omega)).mem_iff.1 (hsub.mem_iff.1 (by simp [hm])))
theorem totC_ones (M : List Grp) (h : ∀ g ∈ M, g.cnt = 1) : totC M = (M.length : Int) := by
  induction M with
  | nil => rfl
  | cons g M ih =>
    have := ih (fun x hx => h x (by simp [hx]))
    have hg := h g (by simp)
    simp only [totC, List.map_cons, List.sum_cons, List.length_cons] at this ⊢
    omega
theorem p2_mono {a b : Nat} (h : p2 a ≤ p2 b) : a ≤ b := by
  rcases Nat.lt_or_ge b a with h2 | h2
  · have h3 : p2 (b + 1) ≤ p2 a := Nat.pow_le_pow_right (by omega) (by omega)
    have h4 := p2_succ b
    have h5 := p2_pos b
    omega
  · exact h2
theorem p2_lt {a b : Nat} (h : p2 a < p2 b) : a < b := by
  rcases Nat.lt_or_ge a b with h2 | h2
  · exact h2
  · have h3 : p2 b ≤ p2 a := Nat.pow_le_pow_right (by omega) h2
    omega
/-- Where all come as often, none is too long. -/
theorem ones_fit (l : List Int) (h1 : ones l) (m : Nat) (hU : (seed l l.length).length ≤ p2 m) : maxL (hufL l) ((m : Int) + 1) := by
  have hzero : ∀ i, i < l.length → (List.replicate l.length (0 : Int)).getD i 0 = 0 := fun i hi => by simp [List.getD, hi]
  intro i hi
  rw [hufL_len] at hi
  unfold hufL
  by_cases hone : (seed l l.length).length = 1
  · rw [if_pos hone]
    generalize ((seed l l.length).getD 0 g0).fst.toNat = q
    by_cases e : q = i
    · simp only [List.getD]
      rw [← e, List.getElem?_set_self (by rw [List.length_replicate, e]; exact hi), Option.getD_some]
      omega
    · simp only [List.getD]
      rw [List.getElem?_set_ne e]
      have := hzero i hi
      simp only [List.getD] at this
      omega
  · rw [if_neg hone]
    generalize hk : (seed l l.length).length - 1 = k
    have hkU : k < (seed l l.length).length ∨ k = 0 := by omega
    have hmx := hufI_depth l k hkU i (by rw [hufI_len]; exact hi)
    by_cases hmem : (i : Int) ∈ flatS (seed l l.length)
    · obtain ⟨K, hK⟩ := lvl_hufI l h1 k hkU
      have hinv := hufI_inv l k hkU
      have hpos : 0 < (seed l l.length).length := by
        rcases Nat.eq_zero_or_pos (seed l l.length).length with h | h
        · have : seed l l.length = [] := List.eq_nil_of_length_eq_zero h
          rw [this] at hmem
          simp [flatS] at hmem
        · exact h
      have hlen : (hufI l k).1.length = 1 := by rw [hinv.2.2.2]; omega
      obtain ⟨g, hg⟩ := List.length_eq_one_iff.1 hlen
      have hm2 := (flat_same l k hkU).mem_iff.2 hmem
      rw [hg] at hm2 hK
      have hsy : (i : Int) ∈ g.syms := by simpa [flatS] using hm2
      have hc : g.cnt = ((seed l l.length).length : Int) := by
        have h2 := hinv.2.1
        rw [hg, totC_ones (seed l l.length) (fun x hx => by have := (lvl_seed l h1 _ (Nat.le_refl _) x hx).1; simpa [p2] using this)] at h2
        simpa [totC] using h2
      have hgm : g ∈ [g] := by simp
      rcases hK.1 g hgm with h | h | h
      · have h3 := h.2 _ hsy
        rw [Int.toNat_natCast] at h3
        have h4 : p2 K ≤ p2 m := by have := h.1; omega
        have := p2_mono h4
        exact ⟨hmx.1, by omega⟩
      · have h3 := h.2 _ hsy
        rw [Int.toNat_natCast] at h3
        have h4 : p2 (K + 1) ≤ p2 m := by have := h.1; omega
        have := p2_mono h4
        exact ⟨hmx.1, by omega⟩
      · have h3 := h.2.2 _ hsy
        rw [Int.toNat_natCast] at h3
        have h4 : p2 K < p2 m := by have := h.1; omega
        have := p2_lt h4
        exact ⟨hmx.1, by omega⟩
    · rw [hufI_zero l i hi hmem k hkU]
      omega

/-! Counts are halved. -/
def halfI (x : Int) : Int := (x + 1) / 2
def halfL (l : List Int) : List Int := l.map halfI
theorem halfL_len (l : List Int) : (halfL l).length = l.length := by simp [halfL]
theorem halfL_get (l : List Int) (i : Nat) (hi : i < l.length) : (halfL l).getD i 0 = halfI (l.getD i 0) := by simp [halfL, List.getD, hi]
theorem seed_half (l : List Int) (h0 : ∀ i, i < l.length → 0 ≤ l.getD i 0) (k : Nat) (hk : k ≤ l.length) : (seed (halfL l) k).length = (seed l k).length := by
  induction k with
  | zero => rfl
  | succ k ih =>
    have hh := halfL_get l k (by omega)
    have hp := h0 k (by omega)
    simp only [seed]
    by_cases h : 0 < l.getD k 0
    · rw [if_pos h, if_pos (by rw [hh]; unfold halfI; omega)]
      simp only [List.length_append, List.length_singleton]
      rw [ih (by omega)]
    · rw [if_neg h, if_neg (by rw [hh]; unfold halfI; omega), ih (by omega)]
def sumP (l : List Int) : Nat := (l.map Int.toNat).sum
theorem sum_half (l : List Int) (h0 : ∀ x ∈ l, 0 ≤ x) : sumP (halfL l) ≤ sumP l ∧ ((∃ x ∈ l, 1 < x) → sumP (halfL l) < sumP l) := by
  induction l with
  | nil => simp [sumP, halfL]
  | cons x l ih =>
    have h1 := ih (fun y hy => h0 y (by simp [hy]))
    have hx := h0 x (by simp)
    simp only [sumP, halfL, List.map_cons, List.sum_cons] at h1 ⊢
    have e : (halfI x).toNat ≤ x.toNat := by unfold halfI; omega
    refine ⟨by omega, ?_⟩
    rintro ⟨y, hy, hy1⟩
    simp only [List.mem_cons] at hy
    rcases hy with rfl | hy
    · have : (halfI y).toNat < y.toNat := by unfold halfI; omega
      omega
    · have := h1.2 ⟨y, hy, hy1⟩
      omega
/-- The greatest of some. -/
def mostL (o : List Int) : Nat → Int
  | 0 => 0
  | k + 1 => if mostL o k < o.getD k 0 then o.getD k 0 else mostL o k
def fits (o : List Int) (m : Int) : Bool := decide (mostL o o.length ≤ m)
theorem mostL_le {o : List Int} {B : Int} (hB : 0 ≤ B) (h : maxL o B) (k : Nat) (hk : k ≤ o.length) : mostL o k ≤ B := by
  induction k with
  | zero => exact hB
  | succ k ih =>
    have h1 := ih (by omega)
    have h2 := (h k (by omega)).2
    simp only [mostL]
    split <;> assumption
theorem fits_of {o : List Int} {m : Int} (hm : 0 ≤ m) (h : maxL o m) : fits o m = true := by
  unfold fits
  exact decide_eq_true (mostL_le hm h _ (Nat.le_refl _))
/-- Lengths that fit, counts being halved so many times at most. -/
def fitF (m : Int) : Nat → List Int → List Int
  | 0, l => hufL l
  | f + 1, l => if fits (hufL l) m then hufL l else fitF m f (halfL l)
theorem fitF_len (m : Int) (f : Nat) (l : List Int) : (fitF m f l).length = l.length := by
  induction f generalizing l with
  | zero => exact hufL_len l
  | succ f ih =>
    simp only [fitF]
    split
    · exact hufL_len l
    · rw [ih, halfL_len]
/-- What is too long is halved: there is one that is greater than 1. -/
theorem not_ones {l : List Int} {m : Nat} (hU : (seed l l.length).length ≤ p2 m) (hf : fits (hufL l) ((m : Int) + 1) = false) : ∃ x ∈ l, 1 < x := by
  apply Classical.byContradiction
  intro hno
  have h1 : ones l := by
    intro i hi
    have hm : l.getD i 0 ∈ l := by simp [List.getD, hi]
    rcases Int.lt_or_le 1 (l.getD i 0) with h | h
    · exact absurd ⟨_, hm, h⟩ hno
    · exact h
  have := fits_of (by omega) (ones_fit l h1 m hU)
  rw [this] at hf
  cases hf

end Go.Proofs.Ytkkhaleiehnihaa
