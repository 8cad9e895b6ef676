/- Plain mathematics: what was written is read back. -/
import Derived.Test.YtnomiopdpmecbaaGetMath
namespace Go.Proofs.Ytnomiopdpmecbaa
open Corb

def bitsOf (l : List (Int × Int)) : List Int := l.map (·.2)
def numsOf (l : List (Int × Int)) : List Int := l.map (·.1)
theorem bitsOf_len (l : List (Int × Int)) : (bitsOf l).length = l.length := by simp [bitsOf]
theorem numsOf_len (l : List (Int × Int)) : (numsOf l).length = l.length := by simp [numsOf]
theorem readV_shift (V p q : Nat) (l : List Int) : readV V (p + q) l = readV (V / 2 ^ p) q l := by
  induction l generalizing q with
  | nil => rfl
  | cons b l ih =>
    simp only [readV]
    rw [Nat.div_div_eq_div_mul, ← Nat.pow_add, ← ih, Nat.add_assoc]

theorem readV_put (l : List (Int × Int)) (W : Nat) (h : allOk l = true) : readV ((valP l).1 + W * 2 ^ (valP l).2) 0 (bitsOf l) = numsOf l := by
  induction l generalizing W with
  | nil => rfl
  | cons p l ih =>
    have h' : pOk p.1 p.2 = true ∧ allOk l = true := by simpa [allOk] using h
    obtain ⟨⟨b0, b1⟩, n0, n1⟩ := pOk_true.1 h'.1
    have e1 : valP [p] = (p.1.toNat, p.2.toNat) := by simp [valP, natP, putV]
    have e2 : valP (p :: l) = (p.1.toNat + (valP l).1 * 2 ^ p.2.toNat, p.2.toNat + (valP l).2) := by
      rw [show p :: l = [p] ++ l from rfl, valP_append, e1]
    have hn : p.1.toNat < 2 ^ p.2.toNat := by
      have : ((p2 p.2.toNat : Nat) : Int) = ((2 ^ p.2.toNat : Nat) : Int) := rfl
      omega
    have hV : (valP (p :: l)).1 + W * 2 ^ (valP (p :: l)).2 = p.1.toNat + ((valP l).1 + W * 2 ^ (valP l).2) * 2 ^ p.2.toNat := by
      rw [e2]
      simp only
      rw [Nat.pow_add, Nat.add_mul, Nat.add_assoc]
      congr 2
      rw [Nat.mul_comm (2 ^ p.2.toNat), Nat.mul_assoc]
    rw [hV]
    show ((((p.1.toNat + ((valP l).1 + W * 2 ^ (valP l).2) * 2 ^ p.2.toNat) / 2 ^ 0 % 2 ^ p.2.toNat : Nat) : Int)) :: readV _ (0 + p.2.toNat) (bitsOf l) = p.1 :: numsOf l
    rw [Nat.pow_zero, Nat.div_one, Nat.add_mul_mod_self_right, Nat.mod_eq_of_lt hn]
    rw [show 0 + p.2.toNat = p.2.toNat + 0 by omega, readV_shift, Nat.add_mul_div_right _ _ (Nat.two_pow_pos _), Nat.div_eq_of_lt hn, Nat.zero_add, ih W h'.2]
    congr 1
    omega

theorem bitsOf_ok {l : List (Int × Int)} (h : allOk l = true) : bitsOk (bitsOf l) = true := by
  simp only [allOk, List.all_eq_true] at h
  simp only [bitsOk, bitsOf, List.all_map, List.all_eq_true]
  intro p hp
  obtain ⟨⟨b0, b1⟩, _⟩ := pOk_true.1 (h p hp)
  simp [b0, b1]
theorem sumN_bits {l : List (Int × Int)} (h : allOk l = true) : sumN (bitsOf l) = (valP l).2 := by
  have h1 := valP_bits l h
  have h2 : (sumN (bitsOf l) : Int) = sumBits l := by
    clear h1
    induction l with
    | nil => rfl
    | cons p l ih =>
      have h' : pOk p.1 p.2 = true ∧ allOk l = true := by simpa [allOk] using h
      obtain ⟨⟨b0, b1⟩, _⟩ := pOk_true.1 h'.1
      have := ih h'.2
      simp only [bitsOf, List.map_cons, sumBits, List.sum_cons] at this ⊢
      rw [sumN_cons]
      omega
  omega

theorem putS_len' {l : List (Int × Int)} (h : lOk l = true) : (putS l).length = (sumN (bitsOf l) + 7) / 8 := by
  have ha : allOk l = true := by simp only [lOk, Bool.and_eq_true] at h; exact h.1
  rw [putS_yes h, textP, leS_len, sumN_bits ha]
theorem valB_put {l : List (Int × Int)} (h : lOk l = true) : valB (putS l) = (valP l).1 := by
  have ha : allOk l = true := by simp only [lOk, Bool.and_eq_true] at h; exact h.1
  rw [putS_yes h, textP, valB_leS, Nat.mod_eq_of_lt]
  exact Nat.lt_of_lt_of_le (valP_lt l ha) (Nat.pow_le_pow_right (by omega) (by omega))

/-- The number of so many bits that is read at its place. -/
theorem readV_get (V p : Nat) (l : List Int) (k : Nat) (h : k < l.length) : (readV V p l).getD k 0 = ((V / 2 ^ (p + sumN (l.take k)) % 2 ^ (l.getD k 0).toNat : Nat) : Int) := by
  induction l generalizing p k with
  | nil => simp at h
  | cons b l ih =>
    cases k with
    | zero => simp [readV, sumN]
    | succ k =>
      have := ih (p + b.toNat) k (by simpa using h)
      simp only [readV, List.getD_cons_succ, List.take_succ_cons, sumN_cons]
      rw [this, Nat.add_assoc]
theorem put_at {l : List (Int × Int)} (h : allOk l = true) (k : Nat) (hk : k < l.length) : (valP l).1 / 2 ^ sumN ((bitsOf l).take k) % 2 ^ (l.getD k (0, 0)).2.toNat = (l.getD k (0, 0)).1.toNat := by
  have e := readV_put l 0 h
  rw [Nat.zero_mul, Nat.add_zero] at e
  have g := readV_get (valP l).1 0 (bitsOf l) k (by rw [bitsOf_len]; exact hk)
  rw [e] at g
  have e1 : (numsOf l).getD k 0 = (l.getD k (0, 0)).1 := by simp [numsOf, List.getD, hk]
  have e2 : (bitsOf l).getD k 0 = (l.getD k (0, 0)).2 := by simp [bitsOf, List.getD, hk]
  rw [e1, e2, Nat.zero_add] at g
  omega

end Go.Proofs.Ytnomiopdpmecbaa
