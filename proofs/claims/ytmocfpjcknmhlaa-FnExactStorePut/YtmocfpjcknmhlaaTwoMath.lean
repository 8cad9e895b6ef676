/- Plain mathematics: bits of whole bytes, and others behind them; a number in two. -/
import Derived.Test.YtmocfpjcknmhlaaPo4
namespace Go.Proofs.Ytmocfpjcknmhlaa
open Corb

theorem leS_split (q k V W : Nat) (hV : V < 2 ^ (8 * q)) : leS (q + k) (V + W * 2 ^ (8 * q)) = leS q V ++ leS k W := by
  induction k with
  | zero => simp [leS, leS_add q V W (8 * q) (Nat.le_refl _)]
  | succ k ih =>
    rw [show q + (k + 1) = (q + k) + 1 by omega]
    simp only [leS]
    rw [ih, List.append_assoc]
    congr 3
    have e : 2 ^ (8 * (q + k)) = 2 ^ (8 * q) * 2 ^ (8 * k) := by rw [← Nat.pow_add]; congr 1; omega
    rw [e, ← Nat.div_div_eq_div_mul, Nat.add_mul_div_right _ _ (Nat.two_pow_pos _), Nat.div_eq_of_lt hV, Nat.zero_add]

theorem putV_shift (V m : Nat) (l : List (Nat × Nat)) : putV (V, m) l = (V + (putV (0, 0) l).1 * 2 ^ m, m + (putV (0, 0) l).2) := by
  have key : ∀ (l : List (Nat × Nat)) (W k : Nat), putV (V + W * 2 ^ m, m + k) l = (V + (putV (W, k) l).1 * 2 ^ m, m + (putV (W, k) l).2) := by
    intro l
    induction l with
    | nil => intro W k; rfl
    | cons p l ih =>
      intro W k
      simp only [putV]
      have e : V + W * 2 ^ m + p.1 * 2 ^ (m + k) = V + (W + p.1 * 2 ^ k) * 2 ^ m := by
        rw [Nat.add_mul, Nat.pow_add, Nat.mul_assoc, Nat.mul_comm (2 ^ m)]; omega
      rw [e, Nat.add_assoc m k p.2]
      exact ih _ _
  have := key l 0 0
  simpa using this

theorem valP_append (l m : List (Int × Int)) : valP (l ++ m) = ((valP l).1 + (valP m).1 * 2 ^ (valP l).2, (valP l).2 + (valP m).2) := by
  rw [valP, natP, List.map_append, putV_append]
  exact putV_shift _ _ _

theorem allOk_append (l m : List (Int × Int)) : allOk (l ++ m) = (allOk l && allOk m) := by simp [allOk]

/-- Numbers that are filled up to whole bytes. -/
theorem fill_law (a : List (Int × Int)) (ha : a.length ≤ 12) (h : lOk a = true) (p : Int) (hp : p = (8 - longI a % 8) % 8) :
    lOk (a ++ [(0, p)]) = true ∧ putS (a ++ [(0, p)]) = putS a ∧ (valP (a ++ [(0, p)])).2 % 8 = 0 := by
  have hall : allOk a = true := by simp only [lOk, Bool.and_eq_true] at h; exact h.1
  have hbits := valP_bits a hall
  rw [longI_yes h, ← hbits] at hp
  have hp0 : 0 ≤ p ∧ p ≤ 7 ∧ ((valP a).2 + p.toNat) % 8 = 0 := by omega
  have hpo : pOk 0 p = true := by
    have := p2_pos p.toNat
    rw [pOk_true]; exact ⟨⟨by omega, by omega⟩, by omega, by omega⟩
  have hok : lOk (a ++ [(0, p)]) = true := by
    simp only [lOk, Bool.and_eq_true, decide_eq_true_iff]
    refine ⟨by simp [allOk, hpo]; simpa [allOk] using hall, by simp; omega⟩
  have hv : valP (a ++ [(0, p)]) = ((valP a).1, (valP a).2 + p.toNat) := by
    rw [valP_append]; simp [valP, natP, putV]
  refine ⟨hok, ?_, by rw [hv]; exact hp0.2.2⟩
  rw [putS_yes hok, putS_yes h, textP, textP, hv]
  have hlt := valP_lt a hall
  rw [show ((valP a).2 + p.toNat + 7) / 8 = ((valP a).2 + 7) / 8 by omega]

theorem two_law (f b : List (Int × Int)) (hf : lOk f = true) (hb : lOk b = true) (hl : f.length + b.length ≤ 4000) (h8 : (valP f).2 % 8 = 0) : putS (f ++ b) = putS f ++ putS b := by
  have hfa : allOk f = true := by simp only [lOk, Bool.and_eq_true] at hf; exact hf.1
  have hba : allOk b = true := by simp only [lOk, Bool.and_eq_true] at hb; exact hb.1
  have hok : lOk (f ++ b) = true := by
    simp only [lOk, Bool.and_eq_true, decide_eq_true_iff, allOk_append]
    exact ⟨⟨hfa, hba⟩, by simpa using hl⟩
  rw [putS_yes hok, putS_yes hf, putS_yes hb, textP, textP, textP, valP_append]
  have hlt := valP_lt f hfa
  generalize valP f = F at *
  generalize valP b = B at *
  obtain ⟨V, m⟩ := F
  obtain ⟨W, k⟩ := B
  have h8' : m % 8 = 0 := h8
  have e : m = 8 * (m / 8) := by omega
  show leS ((m + k + 7) / 8) (V + W * 2 ^ m) = leS ((m + 7) / 8) V ++ leS ((k + 7) / 8) W
  rw [show (m + k + 7) / 8 = m / 8 + (k + 7) / 8 by omega, show (m + 7) / 8 = m / 8 by omega]
  have := leS_split (m / 8) ((k + 7) / 8) V W (by rw [← e]; exact hlt)
  rw [← e] at this
  exact this

/-- A number in two. -/
theorem half_val (V m n c k : Nat) : (V + n % 2 ^ c * 2 ^ m) + n / 2 ^ c * 2 ^ (m + c) = V + n * 2 ^ m ∧ (m + c) + k = m + (c + k) := by
  refine ⟨?_, by omega⟩
  rw [Nat.pow_add, Nat.mul_comm (2 ^ m), ← Nat.mul_assoc, Nat.add_assoc, ← Nat.add_mul]
  congr 2
  have := Nat.mod_add_div n (2 ^ c)
  rw [Nat.mul_comm] at this
  exact this

end Go.Proofs.Ytmocfpjcknmhlaa
