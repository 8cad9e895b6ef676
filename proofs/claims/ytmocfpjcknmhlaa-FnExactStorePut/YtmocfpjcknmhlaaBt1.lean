/- Contracts of the tests of pieces and of BitsTurn, over this seat's program. -/
import Derived.Test.YtmocfpjcknmhlaaMem
import Derived.Test.YtmocfpjcknmhlaaTurnMath
namespace Go.Proofs.Ytmocfpjcknmhlaa
open Go.RowKit Corb

/-- 2 to the power of a number, closed to the walk. -/
def p2 (k : Nat) : Nat := 2 ^ k
theorem p2_pos (k : Nat) : 1 ≤ p2 k := Nat.one_le_two_pow
theorem p2_succ (k : Nat) : p2 (k + 1) = p2 k * 2 := Nat.pow_succ ..
theorem p2_int (k : Nat) : ((p2 k : Nat) : Int) = (2 : Int) ^ k := by simp [p2]

theorem wrap_id (n : Int) (h0 : -9223372036854775808 ≤ n) (h1 : n ≤ 9223372036854775807) : IntKind.i64.wrap n = n := by
  simp [IntKind.wrap, IntKind.bits, IntKind.signed]; omega

set_option maxHeartbeats 400000 in
theorem l1Pow_any (n : Int) (w : World) (h : n ≤ 60) :
    Calls Try.prog 13 #[.int .i64 n] w fun e w' => e = .returned (.int .i64 (p2 n.toNat : Nat)) ∧ w' = w := by
  have hle : p2 n.toNat ≤ 2 ^ 60 := Nat.pow_le_pow_right (by omega) (by omega)
  generalize hN : p2 n.toNat = N at *
  have HN := hide hN
  clear hN
  go_enter Try.func13, Try.ntmps13
  go_wp2
  go_loop [0, 3] (fun m o => ∃ (k : Int), k ≤ 60 ∧ m = .int .i64 k ∧ ∃ p : Nat, o = .int .i64 p ∧ p * p2 k.toNat = N) (fun m _ => (intOf m).toNat)
  case atStart => exact ⟨n, h, rfl, 1, rfl, by have := unhide HN; omega⟩
  case round =>
    obtain ⟨k, hk, rfl, p, rfl, hp⟩ := hrel
    by_cases h0 : 0 < k
    · have e : p2 k.toNat = p2 (k - 1).toNat * 2 := by rw [← p2_succ]; congr 1; omega
      have hq : p * 2 * p2 (k - 1).toNat = N := by rw [← hp, e, Nat.mul_assoc, Nat.mul_comm 2]
      have hpl : p * 2 ≤ 2 ^ 60 := by
        have h1 : p * 2 * 1 ≤ p * 2 * p2 (k - 1).toNat := Nat.mul_le_mul_left _ (p2_pos _)
        omega
      have HQ := hide hq
      have hpl' : (p : Int) ≤ 1152921504606846976 := by have : (2 : Nat) ^ 60 = 1152921504606846976 := by decide
                                                        omega
      clear e hq hpl hp hle
      go_wp2
      go_round
      case rel => exact ⟨k - 1, by omega, rfl, p * 2, by go_num, unhide HQ⟩
      case measure => simp [intOf]; omega
    · have hk0 : k.toNat = 0 := by omega
      rw [hk0] at hp
      have HP : Hid (p = N) := by have : p = N := by rw [← hp]; simp [p2]
                                  exact this
      clear hp hk0 hle
      go_wp2
      go_ret
      exact ⟨ret_int (by rw [unhide HP]), rfl⟩

/-- A number is of so many bits. -/
def pOk (num bits : Int) : Bool := inB bits 0 16 && inB num 0 ((p2 bits.toNat : Nat) - 1)
theorem pOk_true {num bits : Int} : pOk num bits = true ↔ (0 ≤ bits ∧ bits ≤ 16) ∧ 0 ≤ num ∧ num < (p2 bits.toNat : Nat) := by
  simp only [pOk, Bool.and_eq_true, inB_true]; omega

theorem pow_bd (bits : Int) (h1 : bits ≤ 16) : (1 : Int) ≤ (p2 bits.toNat : Nat) ∧ ((p2 bits.toNat : Nat) : Int) ≤ 65536 := by
  have a : p2 bits.toNat ≤ 65536 := pow_le16 bits.toNat (by omega)
  have b := p2_pos bits.toNat
  omega


end Go.Proofs.Ytmocfpjcknmhlaa
