/- Plain mathematics: a text as a number, and the numbers that are read of it. -/
import Derived.Test.YtmocfpjcknmhlaaValMath
import Derived.Test.YtmocfpjcknmhlaaTwoMath
namespace Go.Proofs.Ytmocfpjcknmhlaa
open Corb

theorem leS_valB (l : List UInt8) : leS l.length (valB l) = l := by
  apply List.ext_getElem
  · rw [leS_len]
  · intro j h1 h2
    have h := leS_get l.length (valB l) j h2
    rw [valB_get] at h
    rw [List.getD_eq_getElem?_getD, List.getElem?_eq_getElem h1, List.getD_eq_getElem?_getD, List.getElem?_eq_getElem h2] at h
    simpa using h

theorem valB_leS (k V : Nat) : valB (leS k V) = V % 2 ^ (8 * k) := by
  induction k with
  | zero => simp [leS, valB, Nat.mod_one]
  | succ k ih =>
    simp only [leS]
    rw [valB_append, ih, leS_len]
    have e : 2 ^ (8 * (k + 1)) = 2 ^ (8 * k) * 256 := by rw [Nat.mul_add, Nat.pow_add]
    rw [e, Nat.mod_mul]
    congr 2
    simp [valB]

theorem num_step (V p k : Nat) : V / 2 ^ p % 2 ^ (k + 1) = V / 2 ^ p % 2 ^ k + V / 2 ^ (p + k) % 2 * 2 ^ k := by
  rw [low_bits, Nat.div_div_eq_div_mul, ← Nat.pow_add]

def sumN (l : List Int) : Nat := (l.map Int.toNat).sum
theorem sumN_append (a b : List Int) : sumN (a ++ b) = sumN a + sumN b := by simp [sumN]
theorem sumN_cons (x : Int) (b : List Int) : sumN (x :: b) = x.toNat + sumN b := by simp [sumN]

def readV (V : Nat) : Nat → List Int → List Int
  | _, [] => []
  | p, b :: bs => ((V / 2 ^ p % 2 ^ b.toNat : Nat) : Int) :: readV V (p + b.toNat) bs
theorem readV_len (V p : Nat) (l : List Int) : (readV V p l).length = l.length := by
  induction l generalizing p with
  | nil => rfl
  | cons b l ih => simp [readV, ih]
theorem readV_append (V p : Nat) (a b : List Int) : readV V p (a ++ b) = readV V p a ++ readV V (p + sumN a) b := by
  induction a generalizing p with
  | nil => simp [readV, sumN]
  | cons x a ih => simp [readV, ih, sumN_cons, Nat.add_assoc]

def bitsOk (l : List Int) : Bool := l.all (fun b => decide (0 ≤ b) && decide (b ≤ 16))
def getOk (s : List UInt8) (l : List Int) : Bool := bitsOk l && decide (l.length ≤ 4000) && decide (s.length = (sumN l + 7) / 8) && decide (valB s < 2 ^ sumN l)
def getL (s : List UInt8) (l : List Int) : List Int := if getOk s l = true then readV (valB s) 0 l else []

theorem bitsOk_get {l : List Int} (h : bitsOk l = true) (k : Nat) (hk : k < l.length) : 0 ≤ l.getD k 0 ∧ l.getD k 0 ≤ 16 := by
  have := List.all_eq_true.1 h (l.getD k 0) (by simp [List.getD, hk])
  simpa using this
theorem sumN_bd {l : List Int} (h : bitsOk l = true) : sumN l ≤ 16 * l.length := by
  induction l with
  | nil => simp [sumN]
  | cons b l ih =>
    have h' : (0 ≤ b ∧ b ≤ 16) ∧ bitsOk l = true := by simpa [bitsOk] using h
    have := ih h'.2
    rw [sumN_cons, List.length_cons]
    omega

/-- What is left of the last byte is nought where the whole is of so many bits. -/
theorem rest_clear (s : List UInt8) (m : Nat) (h : s.length = (m + 7) / 8) : (valB s / 2 ^ m % 2 ^ ((8 - m % 8) % 8) = 0) ↔ valB s < 2 ^ m := by
  have hlt := valB_lt s
  have e : 8 * s.length = m + (8 - m % 8) % 8 := by omega
  rw [e, Nat.pow_add] at hlt
  have h2 : valB s / 2 ^ m < 2 ^ ((8 - m % 8) % 8) := Nat.div_lt_of_lt_mul hlt
  rw [Nat.mod_eq_of_lt h2]
  constructor
  · intro h0
    rcases Nat.div_eq_zero_iff.1 h0 with h | h
    · have := Nat.two_pow_pos m; omega
    · exact h
  · exact Nat.div_eq_of_lt

end Go.Proofs.Ytmocfpjcknmhlaa
