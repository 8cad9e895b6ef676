/- Contracts of BitsTurn, the program's and the model's, over this seat's program. -/
import Derived.Test.YtnomiopdpmecbaaBt2
namespace Go.Proofs.Ytnomiopdpmecbaa
open Go.RowKit Corb

/-- A number turned, at every argument. -/
def btI (num bits : Int) : Int := if pOk num bits = true then (rv bits.toNat num.toNat : Nat) else -1
theorem btI_yes {num bits : Int} (h : pOk num bits = true) : btI num bits = (rv bits.toNat num.toNat : Nat) := if_pos h
theorem btI_no {num bits : Int} (h : pOk num bits = false) : btI num bits = -1 := if_neg (by simp [h])

theorem rv_succ_int (k n : Nat) : ((rv (k + 1) n : Nat) : Int) = 2 * (rv k n : Nat) + ((n / 2 ^ k : Nat) : Int) % 2 := by
  simp only [rv]; omega
theorem div_pow_int (n k : Nat) : ((n / 2 ^ k : Nat) : Int) / 2 = ((n / 2 ^ (k + 1) : Nat) : Int) := by
  rw [← div_pow_succ]; omega
theorem shr_int (n k : Nat) : (n : Int) / 2 ^ k = ((n / 2 ^ k : Nat) : Int) := by
  exact (Int.natCast_ediv n (2 ^ k)).symm

set_option maxHeartbeats 400000 in
theorem l1Turn_any (num bits : Int) (w : World) (n0 : 0 ≤ num) (n1 : num < 65536) (b0 : 0 ≤ bits) (b1 : bits ≤ 16) :
    Calls Try.prog 42 #[.int .i64 num, .int .i64 bits] w fun e w' => e = .returned (.int .i64 (rv bits.toNat num.toNat : Nat)) ∧ w' = w := by
  obtain ⟨n, rfl⟩ := Int.eq_ofNat_of_zero_le n0
  obtain ⟨b, rfl⟩ := Int.eq_ofNat_of_zero_le b0
  rw [Int.toNat_natCast, Int.toNat_natCast]
  go_enter Try.func42, Try.ntmps42
  go_wp2
  go_loop [0, 5, 6] (fun m r i => ∃ k : Nat, k ≤ b ∧ i = .int .i64 k ∧ r = .int .i64 (rv k n : Nat) ∧ m = .int .i64 (n / 2 ^ k : Nat)) (fun _ _ i => b - (intOf i).toNat)
  case atStart => exact ⟨0, Nat.zero_le _, rfl, rfl, by simp⟩
  case round =>
    obtain ⟨k, hk, rfl, rfl, rfl⟩ := hrel
    have hr := rv_lt k n
    have hr2 := pow_le16 k (by omega)
    have hn : n / 2 ^ k ≤ n := Nat.div_le_self _ _
    have e1 := hide (rv_succ_int k n)
    have e2 := hide (div_pow_int n k)
    by_cases hlt : k < b
    · have hrl : ((rv k n : Nat) : Int) < 65536 := by omega
      have hnl : ((n / 2 ^ k : Nat) : Int) < 65536 := by omega
      generalize ((n / 2 ^ k : Nat)) = x at *
      generalize rv k n = y at *
      clear hr hr2 hn
      go_wp2
      go_round
      case rel => exact ⟨k + 1, by omega, by go_num, by rw [unhide e1], by rw [← unhide e2]⟩
      case measure => simp [intOf]; omega
    · have hkb : k = b := by omega
      subst hkb
      go_wp2
      go_ret
      exact ⟨rfl, rfl⟩

set_option maxHeartbeats 400000 in
theorem implBitsTurn_any (num bits : Int) (w : World) :
    Calls Try.prog 39 #[.int .i64 num, .int .i64 bits] w fun e w' => e = .returned (.int .i64 (btI num bits)) ∧ Below w.heap.size w w' := by
  cases h : pOk num bits
  · have HI := hide (btI_no h)
    go_enter Try.func39, Try.ntmps39
    go_wp2_with (go_at_call 31; refine (pieceOk_any _ _ _).mono ?_; rintro e w' ⟨rfl, hb⟩)
    go_ret
    exact ⟨ret_int (unhide HI).symm, hb⟩
  · have HI := hide (btI_yes h)
    obtain ⟨⟨b0, b1⟩, n0, n1⟩ := pOk_true.1 h
    have q := (pow_bd bits b1).2
    have n2 : num < 65536 := by omega
    clear n1 q
    obtain ⟨n, rfl⟩ := Int.eq_ofNat_of_zero_le n0
    obtain ⟨b, rfl⟩ := Int.eq_ofNat_of_zero_le b0
    rw [Int.toNat_natCast, Int.toNat_natCast] at HI
    go_enter Try.func39, Try.ntmps39
    go_wp2_with (go_at_call 31; refine (pieceOk_any _ _ _).mono ?_; rintro e w' ⟨rfl, hb⟩)
    go_loop [5, 6, 13] (fun r _ i => ∃ k : Nat, k ≤ b ∧ i = .int .i64 k ∧ r = .int .i64 (rv k n : Nat)) (fun _ _ i => b - (intOf i).toNat)
    case atStart => exact ⟨0, Nat.zero_le _, rfl, rfl⟩
    case round =>
      obtain ⟨k, hk, rfl, rfl⟩ := hrel
      have hr := rv_lt k n
      have hr2 := pow_le16 k (by omega)
      have hn : n / 2 ^ k ≤ n := Nat.div_le_self _ _
      have e1 := hide (rv_succ_int k n)
      by_cases hlt : k < b
      · have hrl : ((rv k n : Nat) : Int) < 65536 := by omega
        have hnl : ((n / 2 ^ k : Nat) : Int) < 65536 := by omega
        have hsh := shr_int n k
        have hkb : (k : Int) ≤ 16 := by omega
        generalize ((n / 2 ^ k : Nat)) = x at *
        generalize rv k n = y at *
        have ha := i64_and_one (x : Int) (by omega) (by omega)
        have ho := i64_or_join 1 ((y : Int) * 2) ((x : Int) % 2) (by omega) (by omega) (by omega) (by omega) (by omega) (by omega)
        clear hr hr2 hn
        go_wp2
        go_round
        case rel => exact ⟨k + 1, by omega, by go_num, by rw [unhide e1]; go_num⟩
        case measure => simp [intOf]; omega
      · have hkb : k = b := by omega
        subst hkb
        go_wp2
        go_ret
        exact ⟨ret_int (unhide HI).symm, hb⟩

end Go.Proofs.Ytnomiopdpmecbaa
