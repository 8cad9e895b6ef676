/- Plain mathematics: a number of so many bits with the last bit first. -/
namespace Corb

def rv : Nat → Nat → Nat
  | 0, _ => 0
  | k + 1, n => 2 * rv k n + n / 2 ^ k % 2

theorem rv_lt (k n : Nat) : rv k n < 2 ^ k := by
  induction k with
  | zero => simp [rv]
  | succ k ih => simp only [rv, Nat.pow_succ]; omega

theorem rv_bit (k n i : Nat) : (rv k n).testBit i = (decide (i < k) && n.testBit (k - 1 - i)) := by
  induction k generalizing i with
  | zero => simp [rv]
  | succ k ih =>
    cases i with
    | zero =>
      simp only [rv, Nat.testBit_zero]
      rw [show (2 * rv k n + n / 2 ^ k % 2) % 2 = n / 2 ^ k % 2 by omega]
      simp [Nat.testBit_eq_decide_div_mod_eq]
    | succ i =>
      have : (2 * rv k n + n / 2 ^ k % 2) / 2 = rv k n := by omega
      simp only [rv]
      rw [Nat.testBit_succ, this, ih i]
      rw [show k + 1 - 1 - (i + 1) = k - 1 - i by omega]
      congr 1
      simp

theorem rv_rv (k n : Nat) (h : n < 2 ^ k) : rv k (rv k n) = n := by
  apply Nat.eq_of_testBit_eq
  intro i
  rw [rv_bit, rv_bit]
  by_cases hi : i < k
  · simp only [hi, decide_true, Bool.true_and, show k - 1 - i < k by omega]
    rw [show k - 1 - (k - 1 - i) = i by omega]
  · simp only [hi, decide_false, Bool.false_and]
    exact (Nat.testBit_lt_two_pow (Nat.lt_of_lt_of_le h (Nat.pow_le_pow_right (by omega) (by omega)))).symm

theorem rv_double (k n : Nat) (h : n < 2 ^ k) : rv (k + 1) n = 2 * rv k n := by
  simp only [rv]
  rw [Nat.div_eq_of_lt h]; omega

theorem pow_le16 (k : Nat) (h : k ≤ 16) : 2 ^ k ≤ 65536 := Nat.pow_le_pow_right (n := 2) (by omega) h

theorem div_pow_succ (n k : Nat) : n / 2 ^ k / 2 = n / 2 ^ (k + 1) := by
  rw [Nat.div_div_eq_div_mul, Nat.pow_succ]

end Corb
