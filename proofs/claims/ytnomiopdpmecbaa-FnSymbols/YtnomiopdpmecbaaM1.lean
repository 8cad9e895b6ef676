/- Of what the proof is made: 2 texts, one behind the other. -/

/- Plain mathematics: a number of so many bits with the last bit first. -/
namespace Corb

def rv : Nat → Nat → Nat
  | 0, _ => 0
  | k + 1, n => 2 * rv k n + n / 2 ^ k % 2

theorem rv_lt (k n : Nat) : rv k n < 2 ^ k := by
  induction k with
  | zero => simp [rv]
  | succ k ih => simp only [rv, Nat.pow_succ]; omega

theorem rv_bit (k n i : Nat) : (rv k n).testBit i = (decide (i < k) && n.testBit (k - 1 - i)) := by
  induction k generalizing i with
  | zero => simp [rv]
  | succ k ih =>
    cases i with
    | zero =>
      simp only [rv, Nat.testBit_zero]
      rw [show (2 * rv k n + n / 2 ^ k % 2) % 2 = n / 2 ^ k % 2 by omega]
      simp [Nat.testBit_eq_decide_div_mod_eq]
    | succ i =>
      have : (2 * rv k n + n / 2 ^ k % 2) / 2 = rv k n := by omega
      simp only [rv]
      rw [Nat.testBit_succ, this, ih i]
      rw [show k + 1 - 1 - (i + 1) = k - 1 - i by omega]
      congr 1
      simp

theorem rv_rv (k n : Nat) (h : n < 2 ^ k) : rv k (rv k n) = n := by
  apply Nat.eq_of_testBit_eq
  intro i
  rw [rv_bit, rv_bit]
  by_cases hi : i < k
  · simp only [hi, decide_true, Bool.true_and, show k - 1 - i < k by omega]
    rw [show k - 1 - (k - 1 - i) = i by omega]
  · simp only [hi, decide_false, Bool.false_and]
    exact (Nat.testBit_lt_two_pow (Nat.lt_of_lt_of_le h (Nat.pow_le_pow_right (by omega) (by omega)))).symm

theorem rv_double (k n : Nat) (h : n < 2 ^ k) : rv (k + 1) n = 2 * rv k n := by
  simp only [rv]
  rw [Nat.div_eq_of_lt h]; omega

theorem pow_le16 (k : Nat) (h : k ≤ 16) : 2 ^ k ≤ 65536 := Nat.pow_le_pow_right (n := 2) (by omega) h

theorem div_pow_succ (n k : Nat) : n / 2 ^ k / 2 = n / 2 ^ (k + 1) := by
  rw [Nat.div_div_eq_div_mul, Nat.pow_succ]

end Corb
/- Plain mathematics: bits that are written one behind the other, as one number, and its bytes, the lowest first. -/
namespace Corb

def leS : Nat → Nat → List UInt8
  | 0, _ => []
  | k + 1, V => leS k V ++ [UInt8.ofNat (V / 2 ^ (8 * k) % 256)]

theorem leS_len (k V : Nat) : (leS k V).length = k := by
  induction k with
  | zero => rfl
  | succ k ih => simp [leS, ih]

theorem leS_congr (k V W : Nat) (h : V % 2 ^ (8 * k) = W % 2 ^ (8 * k)) : leS k V = leS k W := by
  induction k with
  | zero => rfl
  | succ k ih =>
    have e : 2 ^ (8 * (k + 1)) = 2 ^ (8 * k) * 256 := by rw [show 8 * (k + 1) = 8 * k + 8 by omega, Nat.pow_add]
    rw [e] at h
    have h1 : V % 2 ^ (8 * k) = W % 2 ^ (8 * k) := by
      have a := congrArg (· % 2 ^ (8 * k)) h
      simpa [Nat.mod_mul_right_mod] using a
    have h2 : V / 2 ^ (8 * k) % 256 = W / 2 ^ (8 * k) % 256 := by
      have a := congrArg (· / 2 ^ (8 * k)) h
      simpa [Nat.mod_mul_right_div_self] using a
    simp only [leS]
    rw [ih h1, h2]

theorem leS_add (k V x m : Nat) (hm : 8 * k ≤ m) : leS k (V + x * 2 ^ m) = leS k V := by
  apply leS_congr
  have e : x * 2 ^ m = 2 ^ (8 * k) * (x * 2 ^ (m - 8 * k)) := by
    rw [Nat.mul_left_comm, ← Nat.pow_add, show 8 * k + (m - 8 * k) = m by omega]
  rw [e, Nat.add_mul_mod_self_left]

theorem div_add (V x m q : Nat) (hm : 8 * q ≤ m) : (V + x * 2 ^ m) / 2 ^ (8 * q) = V / 2 ^ (8 * q) + x * 2 ^ (m - 8 * q) := by
  have e : x * 2 ^ m = 2 ^ (8 * q) * (x * 2 ^ (m - 8 * q)) := by
    rw [Nat.mul_left_comm, ← Nat.pow_add, show 8 * q + (m - 8 * q) = m by omega]
  rw [e, Nat.add_mul_div_left _ _ (Nat.two_pow_pos _)]

theorem add_lt (V x m : Nat) (hV : V < 2 ^ m) (hx : x ≤ 1) : V + x * 2 ^ m < 2 ^ (m + 1) := by
  rw [Nat.pow_succ]
  have : x * 2 ^ m ≤ 1 * 2 ^ m := Nat.mul_le_mul_right _ hx
  omega

theorem high_lt (V m q : Nat) (hV : V < 2 ^ m) (hq : 8 * q ≤ m) : V / 2 ^ (8 * q) < 2 ^ (m - 8 * q) := by
  rw [Nat.div_lt_iff_lt_mul (Nat.two_pow_pos _), ← Nat.pow_add]
  rw [show m - 8 * q + 8 * q = m by omega]
  exact hV

theorem low_bits (n k : Nat) : n % 2 ^ (k + 1) = n % 2 ^ k + n / 2 ^ k % 2 * 2 ^ k := by
  rw [Nat.mod_pow_succ, Nat.mul_comm]

theorem leS_get (k V j : Nat) (h : j < k) : (leS k V).getD j 0 = UInt8.ofNat (V / 2 ^ (8 * j) % 256) := by
  induction k with
  | zero => omega
  | succ k ih =>
    simp only [leS]
    by_cases hj : j < k
    · have := ih hj
      simp only [List.getD] at this ⊢
      rw [List.getElem?_append_left (by rw [leS_len]; exact hj)]; exact this
    · have : j = k := by omega
      subst this
      simp [List.getD, leS_len]

theorem leS_set (k V x m : Nat) (hk : k = m / 8) (hx : x ≤ 1) (hV : V < 2 ^ m) :
    leS (k + 1) (V + x * 2 ^ m) = (leS (k + 1) V).set k (UInt8.ofNat (V / 2 ^ (8 * k) + x * 2 ^ (m % 8))) := by
  have h8 : 8 * k ≤ m := by omega
  simp only [leS]
  rw [leS_add k V x m h8, div_add V x m k h8, show m - 8 * k = m % 8 by omega]
  have h1 : V / 2 ^ (8 * k) < 2 ^ (m % 8) := by
    have := high_lt V m k hV h8
    rwa [show m - 8 * k = m % 8 by omega] at this
  have h2 : V / 2 ^ (8 * k) + x * 2 ^ (m % 8) < 2 ^ (m % 8 + 1) := add_lt _ _ _ h1 hx
  have h3 : 2 ^ (m % 8 + 1) ≤ 2 ^ 8 := Nat.pow_le_pow_right (by omega) (by omega)
  rw [Nat.mod_eq_of_lt (by omega)]
  rw [List.set_append_right _ _ (by rw [leS_len]; exact Nat.le_refl _), leS_len]
  simp

theorem leS_pad (k V : Nat) (hV : V < 2 ^ (8 * k)) : leS (k + 1) V = leS k V ++ [0] := by
  simp only [leS]
  rw [Nat.div_eq_of_lt hV]
  rfl

/-- The value of pieces behind V, m bits. -/
def putV : Nat × Nat → List (Nat × Nat) → Nat × Nat
  | s, [] => s
  | s, p :: l => putV (s.1 + p.1 * 2 ^ s.2, s.2 + p.2) l

theorem putV_append (s : Nat × Nat) (l m : List (Nat × Nat)) : putV s (l ++ m) = putV (putV s l) m := by
  induction l generalizing s with
  | nil => rfl
  | cons p l ih => exact ih _

theorem piece_lt (V m n b : Nat) (hV : V < 2 ^ m) (hn : n < 2 ^ b) : V + n * 2 ^ m < 2 ^ (m + b) := by
  rw [Nat.pow_add]
  have : (n + 1) * 2 ^ m ≤ 2 ^ b * 2 ^ m := Nat.mul_le_mul_right _ hn
  rw [Nat.add_mul] at this
  rw [Nat.mul_comm (2 ^ m)]
  omega

end Corb
