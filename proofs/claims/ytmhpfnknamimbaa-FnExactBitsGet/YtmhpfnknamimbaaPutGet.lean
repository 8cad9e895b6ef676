/- Plain mathematics: what was written is read back. -/
import Derived.Test.YtmhpfnknamimbaaGr4
import Derived.Test.YtmhpfnknamimbaaLc2
namespace Go.Proofs.Ytmhpfnknamimbaa
open Corb

def bitsOf (l : List (Int × Int)) : List Int := l.map (·.2)
def numsOf (l : List (Int × Int)) : List Int := l.map (·.1)
theorem bitsOf_len (l : List (Int × Int)) : (bitsOf l).length = l.length := by simp [bitsOf]
theorem numsOf_len (l : List (Int × Int)) : (numsOf l).length = l.length := by simp [numsOf]
theorem bitsOf_take (l : List (Int × Int)) (k : Nat) (h : k < l.length) : bitsOf (l.take (k + 1)) = bitsOf (l.take k) ++ [(l.getD k (0, 0)).2] := by
  rw [take_snocP l k h]
  simp only [bitsOf, List.map_append, List.map_cons, List.map_nil]
theorem numsOf_take (l : List (Int × Int)) (k : Nat) (h : k < l.length) : numsOf (l.take (k + 1)) = numsOf (l.take k) ++ [(l.getD k (0, 0)).1] := by
  rw [take_snocP l k h]
  simp only [numsOf, List.map_append, List.map_cons, List.map_nil]

theorem readV_shift (V p q : Nat) (l : List Int) : readV V (p + q) l = readV (V / 2 ^ p) q l := by
  induction l generalizing q with
  | nil => rfl
  | cons b l ih =>
    simp only [readV]
    rw [Nat.div_div_eq_div_mul, ← Nat.pow_add, ← ih, Nat.add_assoc]

theorem readV_put (l : List (Int × Int)) (W : Nat) (h : allOk l = true) : readV ((valP l).1 + W * 2 ^ (valP l).2) 0 (bitsOf l) = numsOf l := by
  induction l generalizing W with
  | nil => rfl
  | cons p l ih =>
    have h' : pOk p.1 p.2 = true ∧ allOk l = true := by simpa [allOk] using h
    obtain ⟨⟨b0, b1⟩, n0, n1⟩ := pOk_true.1 h'.1
    have e1 : valP [p] = (p.1.toNat, p.2.toNat) := by simp [valP, natP, putV]
    have e2 : valP (p :: l) = (p.1.toNat + (valP l).1 * 2 ^ p.2.toNat, p.2.toNat + (valP l).2) := by
      rw [show p :: l = [p] ++ l from rfl, valP_append, e1]
    have hn : p.1.toNat < 2 ^ p.2.toNat := by
      have : ((p2 p.2.toNat : Nat) : Int) = ((2 ^ p.2.toNat : Nat) : Int) := rfl
      omega
    have hV : (valP (p :: l)).1 + W * 2 ^ (valP (p :: l)).2 = p.1.toNat + ((valP l).1 + W * 2 ^ (valP l).2) * 2 ^ p.2.toNat := by
      rw [e2]
      simp only
      rw [Nat.pow_add, Nat.add_mul, Nat.add_assoc]
      congr 2
      rw [Nat.mul_comm (2 ^ p.2.toNat), Nat.mul_assoc]
    rw [hV]
    show ((((p.1.toNat + ((valP l).1 + W * 2 ^ (valP l).2) * 2 ^ p.2.toNat) / 2 ^ 0 % 2 ^ p.2.toNat : Nat) : Int)) :: readV _ (0 + p.2.toNat) (bitsOf l) = p.1 :: numsOf l
    rw [Nat.pow_zero, Nat.div_one, Nat.add_mul_mod_self_right, Nat.mod_eq_of_lt hn]
    rw [show 0 + p.2.toNat = p.2.toNat + 0 by omega, readV_shift, Nat.add_mul_div_right _ _ (Nat.two_pow_pos _), Nat.div_eq_of_lt hn, Nat.zero_add, ih W h'.2]
    congr 1
    omega

theorem bitsOf_ok {l : List (Int × Int)} (h : allOk l = true) : bitsOk (bitsOf l) = true := by
  simp only [allOk, List.all_eq_true] at h
  simp only [bitsOk, bitsOf, List.all_map, List.all_eq_true]
  intro p hp
  obtain ⟨⟨b0, b1⟩, _⟩ := pOk_true.1 (h p hp)
  simp [b0, b1]
theorem sumN_bits {l : List (Int × Int)} (h : allOk l = true) : sumN (bitsOf l) = (valP l).2 := by
  have h1 := valP_bits l h
  have h2 : (sumN (bitsOf l) : Int) = sumBits l := by
    clear h1
    induction l with
    | nil => rfl
    | cons p l ih =>
      have h' : pOk p.1 p.2 = true ∧ allOk l = true := by simpa [allOk] using h
      obtain ⟨⟨b0, b1⟩, _⟩ := pOk_true.1 h'.1
      have := ih h'.2
      simp only [bitsOf, List.map_cons, sumBits, List.sum_cons] at this ⊢
      rw [sumN_cons]
      omega
  omega

theorem putS_len' {l : List (Int × Int)} (h : lOk l = true) : (putS l).length = (sumN (bitsOf l) + 7) / 8 := by
  have ha : allOk l = true := by simp only [lOk, Bool.and_eq_true] at h; exact h.1
  rw [putS_yes h, textP, leS_len, sumN_bits ha]
theorem valB_put {l : List (Int × Int)} (h : lOk l = true) : valB (putS l) = (valP l).1 := by
  have ha : allOk l = true := by simp only [lOk, Bool.and_eq_true] at h; exact h.1
  rw [putS_yes h, textP, valB_leS, Nat.mod_eq_of_lt]
  exact Nat.lt_of_lt_of_le (valP_lt l ha) (Nat.pow_le_pow_right (by omega) (by omega))

theorem get_put {l : List (Int × Int)} (h : lOk l = true) : getOk (putS l) (bitsOf l) = true ∧ getL (putS l) (bitsOf l) = numsOf l := by
  have ha : allOk l = true ∧ l.length ≤ 4000 := by simpa [lOk] using h
  have hk : getOk (putS l) (bitsOf l) = true := by
    rw [getOk_eq (bitsOf_ok ha.1) (by rw [bitsOf_len]; exact ha.2), decide_eq_true (putS_len' h), valB_put h, sumN_bits ha.1]
    simp only [Bool.true_and, decide_eq_true_iff]
    exact valP_lt l ha.1
  refine ⟨hk, ?_⟩
  rw [getL_yes hk, valB_put h]
  have := readV_put l 0 ha.1
  simpa using this

theorem get_len {s : List UInt8} {l : List Int} (h : getOk s l = true) : s.length = (sumN l + 7) / 8 := by
  simp only [getOk, Bool.and_eq_true, decide_eq_true_iff] at h
  exact h.1.2
theorem get_cut {l : List (Int × Int)} {t : List UInt8} (h : lOk l = true) (ht : t.length ≠ (putS l).length) : getOk t (bitsOf l) = false := by
  rcases hk : getOk t (bitsOf l) with _ | _
  · rfl
  · exact absurd ((get_len hk).trans (putS_len' h).symm) ht

/-- What is read is written just so. -/
theorem putV_read (V p : Nat) (l : List Int) (h : bitsOk l = true) : putV (V % 2 ^ p, p) (natP ((readV V p l).zip l)) = (V % 2 ^ (p + sumN l), p + sumN l) := by
  induction l generalizing p with
  | nil => simp [readV, natP, putV, sumN]
  | cons b l ih =>
    have h' : (0 ≤ b ∧ b ≤ 16) ∧ bitsOk l = true := by simpa [bitsOk] using h
    have e : V % 2 ^ p + V / 2 ^ p % 2 ^ b.toNat * 2 ^ p = V % 2 ^ (p + b.toNat) := by
      rw [Nat.pow_add, Nat.mod_mul, Nat.mul_comm (2 ^ p)]
    have := ih (p + b.toNat) h'.2
    simp only [readV, List.zip_cons_cons, natP, List.map_cons, putV, Int.toNat_natCast] at this ⊢
    rw [e, this, sumN_cons, Nat.add_assoc]

theorem zip_ok (V p : Nat) (l : List Int) (h : bitsOk l = true) : allOk ((readV V p l).zip l) = true := by
  induction l generalizing p with
  | nil => rfl
  | cons b l ih =>
    have h' : (0 ≤ b ∧ b ≤ 16) ∧ bitsOk l = true := by simpa [bitsOk] using h
    have h2 : V / 2 ^ p % 2 ^ b.toNat < 2 ^ b.toNat := Nat.mod_lt _ (Nat.two_pow_pos _)
    have h3 : pOk ((V / 2 ^ p % 2 ^ b.toNat : Nat) : Int) b = true := pOk_true.2 ⟨h'.1, Int.natCast_nonneg _, Int.ofNat_lt.2 h2⟩
    have h4 := ih (p + b.toNat) h'.2
    simp only [readV, List.zip_cons_cons]
    simp only [allOk, List.all_cons] at h4 ⊢
    rw [h3, h4]
    rfl

theorem put_get {s : List UInt8} {l : List Int} (h : getOk s l = true) : putS ((getL s l).zip l) = s := by
  have hh := h
  simp only [getOk, Bool.and_eq_true, decide_eq_true_iff] at hh
  obtain ⟨⟨⟨hb, h4⟩, hlen⟩, hV⟩ := hh
  rw [getL_yes h]
  have hl : ((readV (valB s) 0 l).zip l).length = l.length := by rw [List.length_zip, readV_len]; omega
  have hk : lOk ((readV (valB s) 0 l).zip l) = true := by
    simp only [lOk, Bool.and_eq_true, decide_eq_true_iff]
    exact ⟨zip_ok _ _ _ hb, by omega⟩
  have hv := putV_read (valB s) 0 l hb
  simp only [Nat.pow_zero, Nat.mod_one, Nat.zero_add] at hv
  rw [Nat.mod_eq_of_lt hV] at hv
  rw [putS_yes hk, textP, valP, hv]
  simp only
  rw [← hlen]
  exact leS_valB s

end Go.Proofs.Ytmhpfnknamimbaa
