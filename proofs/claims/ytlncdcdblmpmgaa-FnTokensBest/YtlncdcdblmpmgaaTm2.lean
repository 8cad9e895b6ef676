/- Plain mathematics: the tokens of a text. -/
import Derived.Test.YtlncdcdblmpmgaaTm1
namespace Go.Proofs.Ytlncdcdblmpmgaa
open Go.RowKit

/-- How many bytes from a place on stand so far back too, so many at most. -/
def agF (L : List UInt8) (p b : Nat) : Nat → Nat → Nat
  | 0, n => n
  | f + 1, n => if p + n < L.length ∧ L.getD (p + n) 0 = L.getD (p + n - b) 0 then agF L p b f (n + 1) else n
def agN (L : List UInt8) (p b : Nat) : Nat := agF L p b 60 0
theorem agF_step {L : List UInt8} {p b k : Nat} (hk : k < 60) (h : p + k < L.length) (he : L.getD (p + k) 0 = L.getD (p + k - b) 0) : agF L p b (60 - k) k = agF L p b (60 - (k + 1)) (k + 1) := by
  obtain ⟨f, hf⟩ : ∃ f, 60 - k = f + 1 := ⟨60 - k - 1, by omega⟩
  rw [hf, show 60 - (k + 1) = f by omega]
  simp only [agF]
  rw [if_pos ⟨h, he⟩]
theorem agF_stop {L : List UInt8} {p b k : Nat} (h : k = 60 ∨ ¬ (p + k < L.length) ∨ L.getD (p + k) 0 ≠ L.getD (p + k - b) 0) (hk : k ≤ 60) : agF L p b (60 - k) k = k := by
  by_cases e : k = 60
  · subst e; rfl
  · obtain ⟨f, hf⟩ : ∃ f, 60 - k = f + 1 := ⟨60 - k - 1, by omega⟩
    rw [hf]
    simp only [agF]
    rw [if_neg]
    rintro ⟨h1, h2⟩
    rcases h with h | h | h
    · exact e h
    · exact h h1
    · exact h h2
theorem agF_bd (L : List UInt8) (p b f n : Nat) : n ≤ agF L p b f n ∧ agF L p b f n ≤ n + f ∧ (p + n ≤ L.length → p + agF L p b f n ≤ L.length) ∧ (∀ i, n ≤ i → i < agF L p b f n → L.getD (p + i) 0 = L.getD (p + i - b) 0) := by
  induction f generalizing n with
  | zero => exact ⟨Nat.le_refl _, Nat.le_refl _, fun h => h, fun i h1 h2 => by simp only [agF] at h2; omega⟩
  | succ f ih =>
    simp only [agF]
    split
    · rename_i h
      obtain ⟨h1, h2, h3, h4⟩ := ih (n + 1)
      refine ⟨by omega, by omega, fun _ => h3 (by omega), fun i h5 h6 => ?_⟩
      by_cases e : i = n
      · subst e; exact h.2
      · exact h4 i (by omega) h6
    · exact ⟨Nat.le_refl _, by omega, fun h => h, fun i h1 h2 => by omega⟩
theorem agN_le (L : List UInt8) (p b : Nat) : agN L p b ≤ 60 := by have := (agF_bd L p b 60 0).2.1; unfold agN; omega
theorem agN_in {L : List UInt8} {p b : Nat} (h : p ≤ L.length) : p + agN L p b ≤ L.length := (agF_bd L p b 60 0).2.2.1 (by omega)
theorem agN_eq (L : List UInt8) (p b i : Nat) (h : i < agN L p b) : L.getD (p + i) 0 = L.getD (p + i - b) 0 := (agF_bd L p b 60 0).2.2.2 i (Nat.zero_le _) h
/-- The longest that leads back so far at most, the nearest of these. -/
def bestF (L : List UInt8) (p : Nat) : Nat → Nat × Nat
  | 0 => (0, 0)
  | k + 1 => if (bestF L p k).1 < agN L p (k + 1) then (agN L p (k + 1), k + 1) else bestF L p k
theorem bestF_le (L : List UInt8) (p k : Nat) : (bestF L p k).1 ≤ 60 ∧ (bestF L p k).2 ≤ k ∧ ((bestF L p k).1 ≠ 0 → 1 ≤ (bestF L p k).2 ∧ (bestF L p k).1 = agN L p (bestF L p k).2) ∧ (∀ b, 1 ≤ b → b ≤ k → agN L p b ≤ (bestF L p k).1 ∧ (agN L p b = (bestF L p k).1 → (bestF L p k).1 ≠ 0 → (bestF L p k).2 ≤ b)) := by
  induction k with
  | zero => exact ⟨by simp [bestF], by simp [bestF], fun h => by simp [bestF] at h, fun b h1 h2 => by omega⟩
  | succ k ih =>
    obtain ⟨h1, h2, h3, h4⟩ := ih
    simp only [bestF]
    split
    · rename_i h
      refine ⟨agN_le L p (k + 1), Nat.le_refl _, fun _ => ⟨by simp, rfl⟩, fun b hb1 hb2 => ?_⟩
      by_cases e : b = k + 1
      · subst e; exact ⟨Nat.le_refl _, fun _ _ => Nat.le_refl _⟩
      · have := (h4 b hb1 (by omega)).1
        simp only
        exact ⟨by omega, fun he => by omega⟩
    · rename_i h
      refine ⟨h1, by omega, h3, fun b hb1 hb2 => ?_⟩
      by_cases e : b = k + 1
      · subst e
        exact ⟨by omega, fun _ hne => by omega⟩
      · exact h4 b hb1 (by omega)
/-- The token at a place. -/
def tokP (L : List UInt8) (p : Nat) : Tk :=
  if (bestF L p (min p 250)).1 < 3 then (((L.getD p 0).toNat : Int), 0, 0) else (0, ((bestF L p (min p 250)).1 : Int), ((bestF L p (min p 250)).2 : Int))
def sizP (L : List UInt8) (p : Nat) : Nat := if (bestF L p (min p 250)).1 < 3 then 1 else (bestF L p (min p 250)).1
theorem sizP_pos (L : List UInt8) (p : Nat) : 1 ≤ sizP L p ∧ sizP L p ≤ 60 := by
  unfold sizP
  have := (bestF_le L p (min p 250)).1
  split <;> omega
theorem sizP_in {L : List UInt8} {p : Nat} (h : p < L.length) : p + sizP L p ≤ L.length := by
  unfold sizP
  obtain ⟨h1, h2, h3, h4⟩ := bestF_le L p (min p 250)
  split
  · omega
  · rename_i hn
    obtain ⟨h5, h6⟩ := h3 (by omega)
    rw [h6]
    exact agN_in (by omega)
def toksF (L : List UInt8) : Nat → Nat → List Tk
  | 0, _ => []
  | f + 1, p => if p < L.length then tokP L p :: toksF L f (p + sizP L p) else []
/-- The tokens of a text. -/
def toksL (L : List UInt8) : List Tk := toksF L L.length 0
theorem toksF_more {L : List UInt8} {f p : Nat} (h : L.length - p ≤ f) : toksF L f p = toksF L (L.length - p) p := by
  induction f generalizing p with
  | zero => rw [show L.length - p = 0 by omega]
  | succ f ih =>
    by_cases hp : p < L.length
    · obtain ⟨g, hg⟩ : ∃ g, L.length - p = g + 1 := ⟨L.length - p - 1, by omega⟩
      have hs := sizP_pos L p
      rw [hg]
      simp only [toksF]
      rw [if_pos hp, if_pos hp, ih (by omega)]
      congr 1
      -- both are the tokens from there on
      have : ∀ g', L.length - (p + sizP L p) ≤ g' → g' ≤ f → toksF L g' (p + sizP L p) = toksF L (L.length - (p + sizP L p)) (p + sizP L p) := by
        intro g' h1 h2
        clear ih
        have key : ∀ n q, L.length - q ≤ n → toksF L n q = toksF L (L.length - q) q := by
          intro n
          induction n with
          | zero => intro q hq; rw [show L.length - q = 0 by omega]
          | succ n ihn =>
            intro q hq
            by_cases hq2 : q < L.length
            · obtain ⟨m, hm⟩ : ∃ m, L.length - q = m + 1 := ⟨L.length - q - 1, by omega⟩
              have hs2 := sizP_pos L q
              rw [hm]
              simp only [toksF]
              rw [if_pos hq2, if_pos hq2, ihn _ (by omega)]
              congr 1
              by_cases hmn : m = n
              · subst hmn; rw [ihn _ (by omega)]
              · have hmn2 : m < n := by omega
                clear hq
                have : ∀ n m r, m ≤ n → L.length - r ≤ m → toksF L n r = toksF L m r := by
                  intro n
                  induction n with
                  | zero => intro m r h1 _; rw [show m = 0 by omega]
                  | succ n ih3 =>
                    intro m r h1 h2
                    by_cases hr : r < L.length
                    · obtain ⟨m', rfl⟩ : ∃ m', m = m' + 1 := ⟨m - 1, by omega⟩
                      have hs3 := sizP_pos L r
                      simp only [toksF]
                      rw [if_pos hr, if_pos hr, ih3 m' _ (by omega) (by omega)]
                    · cases m with
                      | zero => simp only [toksF]; rw [if_neg hr]
                      | succ m => simp only [toksF]; rw [if_neg hr, if_neg hr]
                exact (this m _ _ (by omega) (Nat.le_refl _)).symm
            · rw [show L.length - q = 0 by omega]
              simp only [toksF]
              rw [if_neg hq2]
        exact key g' _ h1
      exact (this g (by omega) (by omega)).symm
    · rw [show L.length - p = 0 by omega]
      simp only [toksF]
      rw [if_neg hp]
/-- The tokens from a place on. -/
def toksP (L : List UInt8) (p : Nat) : List Tk := toksF L (L.length - p) p
theorem toksP_step {L : List UInt8} {p : Nat} (h : p < L.length) : toksP L p = tokP L p :: toksP L (p + sizP L p) := by
  unfold toksP
  obtain ⟨g, hg⟩ : ∃ g, L.length - p = g + 1 := ⟨L.length - p - 1, by omega⟩
  have hs := sizP_pos L p
  rw [hg]
  simp only [toksF]
  rw [if_pos h, toksF_more (by omega)]
theorem toksP_end {L : List UInt8} {p : Nat} (h : ¬ p < L.length) : toksP L p = [] := by
  unfold toksP
  rw [show L.length - p = 0 by omega]
  rfl
theorem toksP_len (L : List UInt8) : ∀ n p, L.length - p ≤ n → (toksP L p).length ≤ L.length - p := by
  intro n
  induction n with
  | zero => intro p h; rw [toksP_end (by omega)]; simp
  | succ n ih =>
    intro p h
    by_cases hp : p < L.length
    · have hs := sizP_pos L p
      rw [toksP_step hp]
      have := ih (p + sizP L p) (by omega)
      simp only [List.length_cons]
      omega
    · rw [toksP_end hp]; simp
/-- What the function answers. -/
def toksOf (L : List UInt8) : List Tk := if L.length ≤ 300 then toksP L 0 else []

end Go.Proofs.Ytlncdcdblmpmgaa
