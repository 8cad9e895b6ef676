/- Plain mathematics: a text that is packed as it is. -/
import Derived.Test.YtmocfpjcknmhlaaGetMath
namespace Go.Proofs.Ytmocfpjcknmhlaa
open Go.RowKit Corb

/-- Bytes as pieces. -/
def bytesP (m : List UInt8) : List (Int × Int) := m.map fun b => ((b.toNat : Int), 8)
theorem bytesP_len (m : List UInt8) : (bytesP m).length = m.length := by simp [bytesP]
theorem bytesP_ok (m : List UInt8) : allOk (bytesP m) = true := by
  simp only [allOk, bytesP, List.all_map, List.all_eq_true]
  intro b _
  have := UInt8.toNat_lt b
  have h8 : p2 (8 : Int).toNat = 256 := by decide
  have h9 : pOk (b.toNat : Int) 8 = true := pOk_true.2 ⟨by omega, by omega, by rw [h8]; omega⟩
  exact h9
theorem bytesP_val (m : List UInt8) : valP (bytesP m) = (valB m, 8 * m.length) := by
  induction m with
  | nil => rfl
  | cons b m ih =>
    have e0 : bytesP (b :: m) = [((b.toNat : Int), (8 : Int))] ++ bytesP m := rfl
    have e : valP [((b.toNat : Int), (8 : Int))] = (b.toNat, 8) := by simp [valP, natP, putV]
    have e2 : valB (b :: m) = valB [b] + 2 ^ (8 * 1) * valB m := valB_append [b] m
    have e3 : valB [b] = b.toNat := by simp [valB]
    rw [e0, valP_append, ih, e, e2, e3]
    refine Prod.ext ?_ ?_
    · show b.toNat + valB m * 2 ^ 8 = b.toNat + 2 ^ (8 * 1) * valB m
      rw [Nat.mul_comm]
    · show 8 + 8 * m.length = 8 * (b :: m).length
      rw [List.length_cons]; omega
theorem bytesP_lOk (m : List UInt8) (h : m.length ≤ 4000) : lOk (bytesP m) = true := by
  simp only [lOk, Bool.and_eq_true, decide_eq_true_iff]
  exact ⟨bytesP_ok m, by rw [bytesP_len]; exact h⟩
theorem bytesP_put (m : List UInt8) (h : m.length ≤ 4000) : putS (bytesP m) = m := by
  rw [putS_yes (bytesP_lOk m h), textP, bytesP_val]
  show leS ((8 * m.length + 7) / 8) (valB m) = m
  rw [show (8 * m.length + 7) / 8 = m.length by omega]
  exact leS_valB m
/-- How a text that is packed as it is begins. -/
def headP (n : Nat) : List (Int × Int) := [(1, 1), (0, 2), (0, 5), ((n : Int), 16), (((65535 - n : Nat) : Int), 16)]
def headV (n : Nat) : Nat := 1 + n * 256 + (65535 - n) * 16777216
theorem headP_ok (n : Nat) (h : n ≤ 65535) : lOk (headP n) = true := by
  have h16 : p2 (16 : Int).toNat = 65536 := by decide
  have h1 : p2 (1 : Int).toNat = 2 := by decide
  have h2 : p2 (2 : Int).toNat = 4 := by decide
  have h5 : p2 (5 : Int).toNat = 32 := by decide
  have a1 : pOk 1 1 = true := by decide
  have a2 : pOk 0 2 = true := by decide
  have a3 : pOk 0 5 = true := by decide
  have a4 : pOk (n : Int) 16 = true := pOk_true.2 ⟨by omega, by omega, by rw [h16]; omega⟩
  have a5 : pOk ((65535 - n : Nat) : Int) 16 = true := pOk_true.2 ⟨by omega, by omega, by rw [h16]; omega⟩
  simp only [lOk, allOk, headP, List.all_cons, List.all_nil, a1, a2, a3, a4, a5]
  simp
theorem headP_val (n : Nat) : valP (headP n) = (headV n, 40) := by
  simp [valP, natP, headP, putV, headV]
theorem headP_put (n : Nat) (h : n ≤ 65535) : putS (headP n) = leS 5 (headV n) := by
  rw [putS_yes (headP_ok n h), textP, headP_val]
  simp only [Nat.reduceAdd, Nat.reduceDiv]
theorem headP_whole (n : Nat) : (valP (headP n)).2 % 8 = 0 := by rw [headP_val]; simp only [Nat.reduceMod]
theorem store_put (L : List UInt8) (h : L.length ≤ 300) : putS (headP L.length ++ bytesP L) = leS 5 (headV L.length) ++ L := by
  rw [two_law (headP L.length) (bytesP L) (headP_ok _ (by omega)) (bytesP_lOk L (by omega)) (by rw [bytesP_len]; simp [headP]; omega) (headP_whole _), headP_put _ (by omega), bytesP_put L (by omega)]
/-- What the function answers. -/
def storeL (L : List UInt8) : List UInt8 := if L.length ≤ 300 then leS 5 (headV L.length) ++ L else []
theorem xor_half (n : Nat) (h : n ≤ 300) : n ^^^ 65535 = 65535 - n := by
  apply Nat.eq_of_testBit_eq
  intro i
  have e1 : (65535 : Nat) = 2 ^ 16 - 1 := rfl
  have e2 : 65535 - n = 2 ^ 16 - (n + 1) := by omega
  rw [e2, Nat.testBit_two_pow_sub_succ (by omega), Nat.testBit_xor, e1, Nat.testBit_two_pow_sub_one]
  by_cases hi : i < 16
  · simp [hi]
  · have : n.testBit i = false := Nat.testBit_lt_two_pow (Nat.lt_of_lt_of_le (show n < 2 ^ 16 by omega) (Nat.pow_le_pow_right (by omega) (by omega)))
    simp [hi, this]

end Go.Proofs.Ytmocfpjcknmhlaa
