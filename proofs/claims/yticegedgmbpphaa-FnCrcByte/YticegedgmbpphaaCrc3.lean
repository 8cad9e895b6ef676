/- Contracts of the model's Crc, CrcMore and Adler, over this seat's program. -/
import Derived.Test.YticegedgmbpphaaCrc2
namespace Go.Proofs.Yticegedgmbpphaa
open Go.RowKit Corb

theorem take_snoc (s : ByteArray) (k : Nat) (h : k < s.size) : s.data.toList.take (k + 1) = s.data.toList.take k ++ [s[k]] := by
  rw [List.take_succ_eq_append_getElem (by simpa using h)]; rfl

theorem fold_snoc (c : Nat) (l : List UInt8) (b : UInt8) : fold c (l ++ [b]) = shN 8 (fold c l ^^^ b.toNat) := by
  rw [fold_append]; rfl

set_option maxHeartbeats 400000 in
theorem l2More_any (c : Int) (s : ByteArray) (w : World) (h0 : 0 ≤ c) (h1 : c < 4294967296) (hs : s.size ≤ maxLen) :
    Calls Try.prog 36 #[.int .u32 c, .string s] w fun e w' => e = .returned (.int .u32 (crcMore c.toNat s.data.toList : Nat)) ∧ w' = w := by
  obtain ⟨C, rfl⟩ := Int.eq_ofNat_of_zero_le h0
  rw [Int.toNat_natCast]
  unfold maxLen at hs
  have hx : bits .xor .u32 (C : Int) 4294967295 = ((C ^^^ full : Nat) : Int) := u32_xor_nat C 4294967295 (by omega) (by omega)
  have hxl : C ^^^ full < 4294967296 := Nat.xor_lt_two_pow (n := 32) (by omega) (by decide)
  have HF : Hid (crcMore C s.data.toList = fold (C ^^^ full) s.data.toList ^^^ full) := rfl
  generalize C ^^^ full = X at *
  generalize hfin : crcMore C s.data.toList = F at *
  have HFin := hide hfin
  clear hfin
  go_enter Try.func36, Try.ntmps36
  go_wp2
  go_loop [5, 6] (fun c i => ∃ k : Nat, k ≤ s.size ∧ i = .int .i64 k ∧ c = .int .u32 (fold X (s.data.toList.take k) : Nat)) (fun _ i => s.size - (intOf i).toNat)
  case atStart => exact ⟨0, Nat.zero_le _, rfl, rfl⟩
  case round =>
    obtain ⟨k, hk, rfl, rfl⟩ := hrel
    have hl := fold_lt X (s.data.toList.take k) hxl
    by_cases hlt : k < s.size
    · have hsn : Hid (fold X (s.data.toList.take (k + 1)) = shN 8 (fold X (s.data.toList.take k) ^^^ s[k].toNat)) := by
        rw [take_snoc s k hlt, fold_snoc]; exact rfl
      have hb : (s[k].toNat : Int) < 256 := by have := byte_lt s[k]; omega
      generalize fold X (s.data.toList.take k) = x at *
      clear hx hxl
      go_wp2_with (go_at_call 46; refine (l2Step_any _ _ _ (by omega) (by omega) (by omega) (by omega)).mono ?_; rintro e w' ⟨rfl, rfl⟩)
      go_round
      case rel => exact ⟨k + 1, by omega, by go_num, by rw [unhide hsn]⟩
      case measure => simp [intOf]; omega
    · have hu : bits .xor .u32 ((fold X (s.data.toList.take k) : Nat) : Int) 4294967295 = ((fold X (s.data.toList.take k) ^^^ full : Nat) : Int) := u32_xor_nat _ 4294967295 hl (by omega)
      have HE : Hid (fold X (s.data.toList.take k) ^^^ full = F) := by
        have h := unhide HF
        rw [h, List.take_of_length_le (by simp; omega)]; exact rfl
      generalize fold X (s.data.toList.take k) ^^^ full = v at *
      generalize fold X (s.data.toList.take k) = x at *
      clear hx hxl
      go_wp2
      go_ret
      exact ⟨ret_int (by rw [unhide HE]), rfl⟩

theorem crc_bd (c : Int) (l : List UInt8) (h0 : 0 ≤ c) (h1 : c < 4294967296) : crcMore c.toNat l < 4294967296 := crcMore_lt _ _ (by omega)

theorem specCrc_any (s : ByteArray) (w : World) (hs : s.size ≤ maxLen) :
    Calls Try.prog 21 #[.string s] w fun e w' => e = .returned (.int .i64 (crcMore 0 s.data.toList : Nat)) ∧ w' = w := by
  have hb : crcMore 0 s.data.toList < 4294967296 := crcMore_lt _ _ (by omega)
  go_enter Try.func21, Try.ntmps21
  go_wp2_with (go_at_call 36; refine (l2More_any _ _ _ (by omega) (by omega) hs).mono ?_; rintro e w' ⟨rfl, rfl⟩)
  go_ret
  exact ⟨rfl, rfl⟩

/-- CrcMore at every number. -/
def cmI (c : Int) (l : List UInt8) : Int := if inB c 0 4294967295 = true then (crcMore c.toNat l : Nat) else -1
theorem cmI_yes {c : Int} {l : List UInt8} (h : inB c 0 4294967295 = true) : cmI c l = (crcMore c.toNat l : Nat) := if_pos h
theorem cmI_no {c : Int} {l : List UInt8} (h : inB c 0 4294967295 = false) : cmI c l = -1 := if_neg (by simp [h])

theorem specCrcMore_any (c : Int) (s : ByteArray) (w : World) (hs : s.size ≤ maxLen) :
    Calls Try.prog 24 #[.int .i64 c, .string s] w fun e w' => e = .returned (.int .i64 (cmI c s.data.toList)) ∧ w' = w := by
  cases h : inB c 0 4294967295
  · have HI := hide (cmI_no (l := s.data.toList) h)
    go_enter Try.func24, Try.ntmps24
    go_wp2_with (go_at_call 42; refine (l2Word_any _ _).mono ?_; rintro e w' ⟨rfl, rfl⟩)
    go_ret
    exact ⟨ret_int (unhide HI).symm, rfl⟩
  · have HI := hide (cmI_yes (l := s.data.toList) h)
    obtain ⟨c1, c2⟩ := inB_true.1 h
    have hb := crc_bd c s.data.toList (by omega) (by omega)
    go_enter Try.func24, Try.ntmps24
    go_wp2_with (first | (go_at_call 42; refine (l2Word_any _ _).mono ?_; rintro e w' ⟨rfl, rfl⟩) | (go_at_call 36; refine (l2More_any _ _ _ (by omega) (by omega) hs).mono ?_; rintro e w' ⟨rfl, rfl⟩))
    go_ret
    exact ⟨ret_int (unhide HI).symm, rfl⟩

theorem aFold_snoc1 (l : List UInt8) (b : UInt8) : (aFold (1, 0) (l ++ [b])).1 = ((aFold (1, 0) l).1 + b.toNat) % 65521 := by rw [aFold_snoc]; rfl
theorem aFold_snoc2 (l : List UInt8) (b : UInt8) : (aFold (1, 0) (l ++ [b])).2 = ((aFold (1, 0) l).2 + ((aFold (1, 0) l).1 + b.toNat) % 65521) % 65521 := by rw [aFold_snoc]; rfl

set_option maxHeartbeats 400000 in
theorem specAdler_any (s : ByteArray) (w : World) (hs : s.size ≤ maxLen) :
    Calls Try.prog 30 #[.string s] w fun e w' => e = .returned (.int .i64 (adler s.data.toList : Nat)) ∧ w' = w := by
  unfold maxLen at hs
  go_enter Try.func30, Try.ntmps30
  go_wp2
  go_loop [3, 4, 5] (fun a b i => ∃ k : Nat, k ≤ s.size ∧ i = .int .i64 k ∧ a = .int .i64 ((aFold (1, 0) (s.data.toList.take k)).1 : Nat) ∧ b = .int .i64 ((aFold (1, 0) (s.data.toList.take k)).2 : Nat)) (fun _ _ i => s.size - (intOf i).toNat)
  case atStart => exact ⟨0, Nat.zero_le _, rfl, rfl, rfl⟩
  case round =>
    obtain ⟨k, hk, rfl, rfl, rfl⟩ := hrel
    obtain ⟨hl1, hl2⟩ := aFold_lt (1, 0) (s.data.toList.take k) (by decide) (by decide)
    by_cases hlt : k < s.size
    · have hs1 : Hid ((aFold (1, 0) (s.data.toList.take (k + 1))).1 = ((aFold (1, 0) (s.data.toList.take k)).1 + s[k].toNat) % 65521) := by
        rw [take_snoc s k hlt, aFold_snoc1]; exact rfl
      have hs2 : Hid ((aFold (1, 0) (s.data.toList.take (k + 1))).2 = ((aFold (1, 0) (s.data.toList.take k)).2 + ((aFold (1, 0) (s.data.toList.take k)).1 + s[k].toNat) % 65521) % 65521) := by
        rw [take_snoc s k hlt, aFold_snoc2]; exact rfl
      have hb : (s[k].toNat : Int) < 256 := by have := byte_lt s[k]; omega
      have hl1' : (((aFold (1, 0) (s.data.toList.take k)).1 : Nat) : Int) < 65521 := by omega
      have hl2' : (((aFold (1, 0) (s.data.toList.take k)).2 : Nat) : Int) < 65521 := by omega
      clear hl1 hl2
      generalize (aFold (1, 0) (s.data.toList.take k)).1 = x at *
      generalize (aFold (1, 0) (s.data.toList.take k)).2 = y at *
      go_wp2
      go_round
      case rel => exact ⟨k + 1, by omega, by go_num, by rw [unhide hs1]; go_num, by rw [unhide hs2]; go_num⟩
      case measure => simp [intOf]; omega
    · have HE : Hid (adler s.data.toList = (aFold (1, 0) (s.data.toList.take k)).2 * 65536 + (aFold (1, 0) (s.data.toList.take k)).1) := by
        rw [List.take_of_length_le (by simp; omega)]; exact rfl
      have hl1' : (((aFold (1, 0) (s.data.toList.take k)).1 : Nat) : Int) < 65521 := by omega
      have hl2' : (((aFold (1, 0) (s.data.toList.take k)).2 : Nat) : Int) < 65521 := by omega
      clear hl1 hl2
      generalize (aFold (1, 0) (s.data.toList.take k)).1 = x at *
      generalize (aFold (1, 0) (s.data.toList.take k)).2 = y at *
      go_wp2
      go_ret
      exact ⟨ret_int (by rw [unhide HE]; go_num), rfl⟩

end Go.Proofs.Yticegedgmbpphaa
