/- Of what the proof is made: 2 texts, one behind the other. -/
import Derived.Test.YtnomiopdpmecbaaRows
import Derived.WalkKit
import Derived.WalkSpells
import Derived.Below
import Derived.Laws.BitsAllLaws
import Derived.Test.YtnomiopdpmecbaaBits
/- Contracts of the small tests of numbers, over this seat's program. -/
namespace Go.Proofs.Ytnomiopdpmecbaa
open Go.RowKit

theorem hide {p : Prop} (h : p) : Hid p := h
theorem unhide {p : Prop} (h : Hid p) : p := h
theorem ret_int {k : IntKind} {a b : Int} (h : a = b) : Ending.returned (.int k a) = .returned (.int k b) := by rw [h]
theorem ret_bool {a b : Bool} (h : a = b) : Ending.returned (.bool a) = .returned (.bool b) := by rw [h]

/-- A number is in its bounds. -/
def inB (n lo hi : Int) : Bool := decide (lo ≤ n) && decide (n ≤ hi)
theorem inB_true {n lo hi : Int} : inB n lo hi = true ↔ lo ≤ n ∧ n ≤ hi := by simp [inB]
theorem inB_false {n lo hi : Int} : inB n lo hi = false ↔ n < lo ∨ hi < n := by
  rw [← Bool.not_eq_true, inB_true]; omega

theorem l1In_any (n lo hi : Int) (w : World) :
    Calls Try.prog 26 #[.int .i64 n, .int .i64 lo, .int .i64 hi] w fun e w' => e = .returned (.bool (inB n lo hi)) ∧ w' = w := by
  by_cases h : lo ≤ n
  · go_enter Try.func26, Try.ntmps26
    go_wp2
    go_ret
    exact ⟨ret_bool (by simp [inB, h]), rfl⟩
  · go_enter Try.func26, Try.ntmps26
    go_wp2
    go_ret
    exact ⟨ret_bool (by simp [inB]; omega), rfl⟩

end Go.Proofs.Ytnomiopdpmecbaa
/- Plain mathematics: a text as a number. -/
namespace Go.Proofs.Ytnomiopdpmecbaa

def valB : List UInt8 → Nat
  | [] => 0
  | b :: l => b.toNat + 256 * valB l
theorem valB_append (a b : List UInt8) : valB (a ++ b) = valB a + 2 ^ (8 * a.length) * valB b := by
  induction a with
  | nil => simp [valB]
  | cons x a ih =>
    simp only [List.cons_append, valB, ih, List.length_cons]
    have e : 2 ^ (8 * (a.length + 1)) = 256 * 2 ^ (8 * a.length) := by rw [Nat.mul_add, Nat.pow_add, Nat.mul_comm]
    rw [e, Nat.mul_add, Nat.mul_assoc]
    omega
theorem valB_lt (l : List UInt8) : valB l < 2 ^ (8 * l.length) := by
  induction l with
  | nil => simp [valB]
  | cons x l ih =>
    simp only [valB, List.length_cons]
    have e : 2 ^ (8 * (l.length + 1)) = 256 * 2 ^ (8 * l.length) := by rw [Nat.mul_add, Nat.pow_add, Nat.mul_comm]
    rw [e]
    have := x.toNat_lt
    omega
theorem valB_get (l : List UInt8) (j : Nat) : valB l / 2 ^ (8 * j) % 256 = (l.getD j 0).toNat := by
  induction l generalizing j with
  | nil => simp [valB]
  | cons x l ih =>
    have hx := x.toNat_lt
    cases j with
    | zero =>
      simp only [valB, Nat.mul_zero, Nat.pow_zero, Nat.div_one, List.getD_cons_zero]
      omega
    | succ j =>
      simp only [valB, List.getD_cons_succ]
      rw [← ih j, show 8 * (j + 1) = 8 + 8 * j by omega, Nat.pow_add, ← Nat.div_div_eq_div_mul]
      congr 2
      show (x.toNat + 256 * valB l) / 256 = valB l
      omega
theorem bit_at (l : List UInt8) (p : Nat) : (l.getD (p / 8) 0).toNat / 2 ^ (p % 8) % 2 = valB l / 2 ^ p % 2 := by
  rw [← valB_get]
  have e8 : 256 = 2 ^ (p % 8) * 2 ^ (8 - p % 8) := by
    rw [← Nat.pow_add, show p % 8 + (8 - p % 8) = 8 by omega]
  have e2 : 2 ∣ 2 ^ (8 - p % 8) := by
    rw [show 8 - p % 8 = (7 - p % 8) + 1 by omega, Nat.pow_succ]
    exact Nat.dvd_mul_left _ _
  rw [e8, Nat.mod_mul_right_div_self, Nat.mod_mod_of_dvd _ e2, Nat.div_div_eq_div_mul, ← Nat.pow_add, show 8 * (p / 8) + p % 8 = p by omega]
theorem bit_past (l : List UInt8) (p : Nat) (h : 8 * l.length ≤ p) : valB l / 2 ^ p % 2 = 0 := by
  rw [Nat.div_eq_of_lt (Nat.lt_of_lt_of_le (valB_lt l) (Nat.pow_le_pow_right (by omega) h))]

end Go.Proofs.Ytnomiopdpmecbaa
