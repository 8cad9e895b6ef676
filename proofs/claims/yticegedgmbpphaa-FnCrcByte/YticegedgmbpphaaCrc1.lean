/- Contracts of the steps of a CRC-32, over this seat's program. -/
import Derived.Test.YticegedgmbpphaaSum1
import Derived.Test.YticegedgmbpphaaCrcMath
namespace Go.Proofs.Yticegedgmbpphaa
open Go.RowKit Corb

theorem u32_one (x : Nat) (h : x < 4294967296) : bits .and .u32 (x : Int) 1 = (x : Int) % 2 := by
  have := u32_and_nat x 1 h (by omega)
  rw [show ((1 : Nat) : Int) = 1 from rfl] at this
  rw [this, nat_mask1]; omega
theorem u32_poly (x : Nat) (h : x < 4294967296) : bits .xor .u32 ((x : Int) / 2) 3988292384 = ((x / 2 ^^^ 3988292384 : Nat) : Int) := by
  have := u32_xor_nat (x / 2) 3988292384 (by omega) (by omega)
  rw [show ((x / 2 : Nat) : Int) = (x : Int) / 2 by omega] at this
  exact this
theorem sh_odd (x : Nat) (h : x % 2 = 1) : sh x = x / 2 ^^^ 3988292384 := if_pos h
theorem sh_even (x : Nat) (h : ¬ x % 2 = 1) : sh x = x / 2 := if_neg h

set_option maxHeartbeats 400000 in
theorem crcShift_any (r n : Int) (w : World) (hr0 : 0 ≤ r) (hr1 : r < 4294967296) (hn0 : 0 ≤ n) (hn1 : n ≤ 1000000) :
    Calls Try.prog 44 #[.int .u32 r, .int .i64 n] w fun e w' => e = .returned (.int .u32 (shN n.toNat r.toNat : Nat)) ∧ w' = w := by
  obtain ⟨R, rfl⟩ := Int.eq_ofNat_of_zero_le hr0
  obtain ⟨m, rfl⟩ := Int.eq_ofNat_of_zero_le hn0
  rw [Int.toNat_natCast, Int.toNat_natCast]
  go_enter Try.func44, Try.ntmps44
  go_wp2
  go_loop [0, 6] (fun x i => ∃ k : Nat, k ≤ m ∧ i = .int .i64 k ∧ x = .int .u32 (shN k R : Nat)) (fun _ i => m - (intOf i).toNat)
  case atStart => exact ⟨0, Nat.zero_le _, rfl, rfl⟩
  case round =>
    obtain ⟨k, hk, rfl, rfl⟩ := hrel
    have hx := shN_lt k R (by omega)
    have hs := hide (shN_succ' k R)
    by_cases hlt : k < m
    · generalize hX : shN k R = x at *
      have HX := hide hX
      clear hX
      have h1 := u32_one x hx
      have h2 := u32_poly x hx
      by_cases ho : x % 2 = 1
      · have ho' : (x : Int) % 2 = 1 := by omega
        have H := hide ho
        clear ho
        go_wp2
        go_round
        case rel => exact ⟨k + 1, by omega, by go_num, by rw [unhide hs, sh_odd x (unhide H)]⟩
        case measure => simp [intOf]; omega
      · have ho' : (x : Int) % 2 = 0 := by omega
        have H := hide ho
        clear ho
        go_wp2
        go_round
        case rel => exact ⟨k + 1, by omega, by go_num, by rw [unhide hs, sh_even x (unhide H)]; rfl⟩
        case measure => simp [intOf]; omega
    · go_wp2
      go_ret
      exact ⟨ret_int (by rw [show k = m by omega]), rfl⟩

theorem u32_xor_byte (x : Nat) (b : Nat) (h : x < 4294967296) (hb : b < 256) : bits .xor .u32 (x : Int) (b : Int) = ((x ^^^ b : Nat) : Int) :=
  u32_xor_nat x b h (by omega)

set_option maxHeartbeats 400000 in
theorem l2Step_any (c b : Int) (w : World) (hr0 : 0 ≤ c) (hr1 : c < 4294967296) (hn0 : 0 ≤ b) (hn1 : b < 256) :
    Calls Try.prog 46 #[.int .u32 c, .int .u8 b] w fun e w' => e = .returned (.int .u32 (shN 8 (c.toNat ^^^ b.toNat) : Nat)) ∧ w' = w := by
  obtain ⟨R, rfl⟩ := Int.eq_ofNat_of_zero_le hr0
  obtain ⟨B, rfl⟩ := Int.eq_ofNat_of_zero_le hn0
  rw [Int.toNat_natCast, Int.toNat_natCast]
  have hx0 := u32_xor_byte R B (by omega) (by omega)
  have hlt0 : R ^^^ B < 4294967296 := Nat.xor_lt_two_pow (n := 32) (by omega) (by omega)
  generalize R ^^^ B = X at *
  go_enter Try.func46, Try.ntmps46
  go_wp2
  go_loop [0, 5] (fun x i => ∃ k : Nat, k ≤ 8 ∧ i = .int .i64 k ∧ x = .int .u32 (shN k X : Nat)) (fun _ i => 8 - (intOf i).toNat)
  case atStart => exact ⟨0, by omega, rfl, rfl⟩
  case round =>
    obtain ⟨k, hk, rfl, rfl⟩ := hrel
    have hx := shN_lt k X hlt0
    have hk' : (k : Int) ≤ 8 := by omega
    clear hk
    have hs := hide (shN_succ' k X)
    clear hx0 hlt0
    by_cases hlt : (k : Int) < 8
    · generalize hX : shN k X = x at *
      have HX := hide hX
      clear hX
      have h2 := u32_poly x hx
      by_cases ho : x % 2 = 1
      · have ho' : (x : Int) % 2 = 1 := by omega
        have H := hide ho
        clear ho
        go_wp2
        go_round
        case rel => exact ⟨k + 1, by omega, by go_num, by rw [unhide hs, sh_odd x (unhide H)]⟩
        case measure => simp [intOf]; omega
      · have ho' : (x : Int) % 2 = 0 := by omega
        have H := hide ho
        clear ho
        go_wp2
        go_round
        case rel => exact ⟨k + 1, by omega, by go_num, by rw [unhide hs, sh_even x (unhide H)]; rfl⟩
        case measure => simp [intOf]; omega
    · go_wp2
      go_ret
      exact ⟨ret_int (by rw [show k = 8 by omega]), rfl⟩

end Go.Proofs.Yticegedgmbpphaa
