/- Codes of lengths: plain mathematics, and the model's codes, over this seat's program. -/
import Derived.Test.YtbhmnmdffkgliaaLk2
namespace Go.Proofs.Ytbhmnmdffkgliaa
open Go.RowKit Corb

/-- Over the first k symbols: the next code, and the codes. -/
def inn (l : List Int) (n : Int) (s : Nat × List Int) : Nat → Nat × List Int
  | 0 => s
  | k + 1 => if l.getD k 0 = n then ((inn l n s k).1 + 1, (inn l n s k).2.set k ((inn l n s k).1 : Int)) else inn l n s k
/-- Over the first N lengths. -/
def outN (l : List Int) : Nat → Nat × List Int
  | 0 => (0, List.replicate l.length 0)
  | N + 1 => inn l ((N : Int) + 1) (2 * (outN l N).1, (outN l N).2) l.length
theorem inn_len (l : List Int) (n : Int) (s : Nat × List Int) (k : Nat) : (inn l n s k).2.length = s.2.length := by
  induction k with
  | zero => rfl
  | succ k ih =>
    simp only [inn]
    split
    · simpa using ih
    · exact ih
theorem outN_len (l : List Int) (N : Nat) : (outN l N).2.length = l.length := by
  induction N with
  | zero => simp [outN]
  | succ N ih => simp only [outN]; rw [inn_len]; exact ih
theorem inn_le (l : List Int) (n : Int) (s : Nat × List Int) (k : Nat) : (inn l n s k).1 ≤ s.1 + k := by
  induction k with
  | zero => exact Nat.le_refl _
  | succ k ih =>
    simp only [inn]
    split
    · simp only; omega
    · omega
theorem outN_le (l : List Int) (N : Nat) : (outN l N).1 + l.length ≤ 2 ^ N * l.length := by
  induction N with
  | zero => simp [outN]
  | succ N ih =>
    simp only [outN]
    have h := inn_le l ((N : Int) + 1) (2 * (outN l N).1, (outN l N).2) l.length
    simp only at h
    have e : 2 ^ (N + 1) * l.length = 2 * (2 ^ N * l.length) := by rw [Nat.pow_succ, Nat.mul_comm (2 ^ N), Nat.mul_assoc]
    omega
theorem outN_bd (l : List Int) (N : Nat) (hN : N ≤ 15) (hl : l.length ≤ 300) : (outN l N).1 ≤ 9830400 := by
  have h := outN_le l N
  have h2 : 2 ^ N ≤ 2 ^ 15 := Nat.pow_le_pow_right (by omega) hN
  have h3 : 2 ^ N * l.length ≤ 32768 * 300 := Nat.mul_le_mul h2 hl
  omega


end Go.Proofs.Ytbhmnmdffkgliaa
