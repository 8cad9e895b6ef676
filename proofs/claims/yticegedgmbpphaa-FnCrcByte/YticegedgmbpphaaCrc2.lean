/- Contracts of CrcJoin, and of the model's Crc, CrcMore and Adler, over this seat's program. -/
import Derived.Test.YticegedgmbpphaaCrc1
import Derived.Test.YticegedgmbpphaaAdlerMath
namespace Go.Proofs.Yticegedgmbpphaa
open Go.RowKit Corb

/-- What may be joined. -/
def cjOk (a b n : Int) : Bool := inB a 0 4294967295 && (inB b 0 4294967295 && inB n 0 100000)
def cjI (a b n : Int) : Int := if cjOk a b n = true then (crcJoin a.toNat b.toNat n.toNat : Nat) else -1
theorem cjI_yes {a b n : Int} (h : cjOk a b n = true) : cjI a b n = (crcJoin a.toNat b.toNat n.toNat : Nat) := if_pos h
theorem cjI_no {a b n : Int} (h : cjOk a b n = false) : cjI a b n = -1 := if_neg (by simp [h])

set_option maxHeartbeats 400000 in
theorem implCrcJoin_no (a b n : Int) (w : World) (h : cjOk a b n = false) :
    Calls Try.prog 26 #[.int .i64 a, .int .i64 b, .int .i64 n] w fun e w' => e = .returned (.int .i64 (cjI a b n)) ∧ w' = w := by
  have HI := hide (cjI_no h)
  have H := hide h
  clear h
  cases ha : inB a 0 4294967295
  · go_enter Try.func26, Try.ntmps26
    go_wp2_with (go_at_call 39; refine (sumOk_any _ _).mono ?_; rintro e w' ⟨rfl, rfl⟩)
    go_ret
    exact ⟨ret_int (unhide HI).symm, rfl⟩
  · cases hb : inB b 0 4294967295
    · go_enter Try.func26, Try.ntmps26
      go_wp2_with (go_at_call 39; refine (sumOk_any _ _).mono ?_; rintro e w' ⟨rfl, rfl⟩)
      go_ret
      exact ⟨ret_int (unhide HI).symm, rfl⟩
    · have hn : inB n 0 100000 = false := by have := unhide H; simpa [cjOk, ha, hb] using this
      go_enter Try.func26, Try.ntmps26
      go_wp2_with (first | (go_at_call 39; refine (sumOk_any _ _).mono ?_; rintro e w' ⟨rfl, rfl⟩) | (go_at_call 43; refine (sumLongOk_any _ _).mono ?_; rintro e w' ⟨rfl, rfl⟩))
      go_ret
      exact ⟨ret_int (unhide HI).symm, rfl⟩

theorem specCrcJoin_no (a b n : Int) (w : World) (h : cjOk a b n = false) :
    Calls Try.prog 27 #[.int .i64 a, .int .i64 b, .int .i64 n] w fun e w' => e = .returned (.int .i64 (cjI a b n)) ∧ w' = w := by
  have HI := hide (cjI_no h)
  have H := hide h
  clear h
  cases ha : inB a 0 4294967295
  · go_enter Try.func27, Try.ntmps27
    go_wp2_with (go_at_call 42; refine (l2Word_any _ _).mono ?_; rintro e w' ⟨rfl, rfl⟩)
    go_ret
    exact ⟨ret_int (unhide HI).symm, rfl⟩
  · cases hb : inB b 0 4294967295
    · go_enter Try.func27, Try.ntmps27
      go_wp2_with (go_at_call 42; refine (l2Word_any _ _).mono ?_; rintro e w' ⟨rfl, rfl⟩)
      go_ret
      exact ⟨ret_int (unhide HI).symm, rfl⟩
    · have hn : inB n 0 100000 = false := by have := unhide H; simpa [cjOk, ha, hb] using this
      go_enter Try.func27, Try.ntmps27
      go_wp2_with (first | (go_at_call 42; refine (l2Word_any _ _).mono ?_; rintro e w' ⟨rfl, rfl⟩) | (go_at_call 45; refine (l1In_any _ _ _ _).mono ?_; rintro e w' ⟨rfl, rfl⟩))
      go_ret
      exact ⟨ret_int (unhide HI).symm, rfl⟩

theorem u32_xor_int (x : Nat) (b : Int) (hx : x < 4294967296) (h0 : 0 ≤ b) (h1 : b < 4294967296) : bits .xor .u32 (x : Int) b = ((x ^^^ b.toNat : Nat) : Int) := by
  obtain ⟨B, rfl⟩ := Int.eq_ofNat_of_zero_le h0
  exact u32_xor_nat x B hx (by omega)

set_option maxHeartbeats 400000 in
theorem implCrcJoin_yes (a b n : Int) (w : World) (h : cjOk a b n = true) :
    Calls Try.prog 26 #[.int .i64 a, .int .i64 b, .int .i64 n] w fun e w' => e = .returned (.int .i64 (cjI a b n)) ∧ w' = w := by
  have HI := hide (cjI_yes h)
  simp only [cjOk, Bool.and_eq_true] at h
  obtain ⟨ha, hb, hn⟩ := h
  obtain ⟨a1, a2⟩ := inB_true.1 ha
  obtain ⟨b1, b2⟩ := inB_true.1 hb
  obtain ⟨n1, n2⟩ := inB_true.1 hn
  have hlt := shN_lt (8 * n).toNat a.toNat (by omega)
  have hx := u32_xor_int (shN (8 * n).toNat a.toNat) b hlt b1 (by omega)
  have HJ : Hid (crcJoin a.toNat b.toNat n.toNat = shN (8 * n).toNat a.toNat ^^^ b.toNat) := by
    unfold crcJoin; rw [show 8 * n.toNat = (8 * n).toNat by omega]; exact rfl
  have hlt2 : shN (8 * n).toNat a.toNat ^^^ b.toNat < 4294967296 := Nat.xor_lt_two_pow (n := 32) hlt (by omega)
  generalize hv : shN (8 * n).toNat a.toNat ^^^ b.toNat = v at *
  generalize hu : shN (8 * n).toNat a.toNat = u at *
  have HU := hide hu
  have HV := hide hv
  clear hu hv
  go_enter Try.func26, Try.ntmps26
  go_wp2_with (first | (go_at_call 39; refine (sumOk_any _ _).mono ?_; rintro e w' ⟨rfl, rfl⟩) | (go_at_call 43; refine (sumLongOk_any _ _).mono ?_; rintro e w' ⟨rfl, rfl⟩) | (go_at_call 44; refine (crcShift_any _ _ _ (by omega) (by omega) (by omega) (by omega)).mono ?_; rintro e w' ⟨rfl, rfl⟩; rw [unhide HU]))
  go_ret
  exact ⟨ret_int (by rw [unhide HI, unhide HJ]), rfl⟩

theorem implCrcJoin_any (a b n : Int) (w : World) :
    Calls Try.prog 26 #[.int .i64 a, .int .i64 b, .int .i64 n] w fun e w' => e = .returned (.int .i64 (cjI a b n)) ∧ w' = w := by
  cases h : cjOk a b n
  · exact implCrcJoin_no a b n w h
  · exact implCrcJoin_yes a b n w h

set_option maxHeartbeats 400000 in
theorem specCrcJoin_yes (a b n : Int) (w : World) (h : cjOk a b n = true) :
    Calls Try.prog 27 #[.int .i64 a, .int .i64 b, .int .i64 n] w fun e w' => e = .returned (.int .i64 (cjI a b n)) ∧ w' = w := by
  have HI := hide (cjI_yes h)
  simp only [cjOk, Bool.and_eq_true] at h
  obtain ⟨ha, hb, hn⟩ := h
  obtain ⟨a1, a2⟩ := inB_true.1 ha
  obtain ⟨b1, b2⟩ := inB_true.1 hb
  obtain ⟨n1, n2⟩ := inB_true.1 hn
  obtain ⟨m, rfl⟩ := Int.eq_ofNat_of_zero_le n1
  obtain ⟨A, rfl⟩ := Int.eq_ofNat_of_zero_le a1
  go_enter Try.func27, Try.ntmps27
  go_wp2_with (first | (go_at_call 42; refine (l2Word_any _ _).mono ?_; rintro e w' ⟨rfl, rfl⟩) | (go_at_call 45; refine (l1In_any _ _ _ _).mono ?_; rintro e w' ⟨rfl, rfl⟩))
  go_loop [7, 8] (fun c i => ∃ k : Nat, k ≤ m ∧ i = .int .i64 k ∧ c = .int .u32 (shN (8 * k) A : Nat)) (fun _ i => m - (intOf i).toNat)
  case atStart => exact ⟨0, Nat.zero_le _, rfl, rfl⟩
  case round =>
    obtain ⟨k, hk, rfl, rfl⟩ := hrel
    have hx := shN_lt (8 * k) A (by omega)
    by_cases hlt : k < m
    · have hs : Hid (shN (8 * (k + 1)) A = shN 8 (shN (8 * k) A)) := by
        rw [show 8 * (k + 1) = 8 * k + 8 by omega, shN_add]; exact rfl
      generalize shN (8 * k) A = x at *
      go_wp2_with (go_at_call 46; refine (l2Step_any _ _ _ (by omega) (by omega) (by omega) (by omega)).mono ?_; rintro e w' ⟨rfl, rfl⟩)
      go_round
      case rel => exact ⟨k + 1, by omega, by go_num, by rw [unhide hs]⟩
      case measure => simp [intOf]; omega
    · have hu := u32_xor_int (shN (8 * k) A) b hx b1 (by omega)
      have hl2 : shN (8 * k) A ^^^ b.toNat < 4294967296 := Nat.xor_lt_two_pow (n := 32) hx (by omega)
      have HJ : Hid (crcJoin A b.toNat m = shN (8 * k) A ^^^ b.toNat) := by
        unfold crcJoin; rw [show k = m by omega]; exact rfl
      generalize shN (8 * k) A ^^^ b.toNat = v at *
      generalize shN (8 * k) A = x at *
      go_wp2
      go_ret
      exact ⟨ret_int (by rw [unhide HI]; simp only [Int.toNat_natCast]; rw [unhide HJ]), rfl⟩

theorem specCrcJoin_any (a b n : Int) (w : World) :
    Calls Try.prog 27 #[.int .i64 a, .int .i64 b, .int .i64 n] w fun e w' => e = .returned (.int .i64 (cjI a b n)) ∧ w' = w := by
  cases h : cjOk a b n
  · exact specCrcJoin_no a b n w h
  · exact specCrcJoin_yes a b n w h

theorem cjI_bd (a b n : Int) : -1 ≤ cjI a b n ∧ cjI a b n ≤ 4294967295 := by
  unfold cjI
  split
  · rename_i h
    simp only [cjOk, Bool.and_eq_true, inB_true] at h
    have := crcJoin_lt a.toNat b.toNat n.toNat (by omega) (by omega)
    omega
  · omega

end Go.Proofs.Yticegedgmbpphaa
