/- Contracts of the program's Crc and CrcMore, over this seat's program. -/
import Derived.Test.YticegedgmbpphaaCt2
import Derived.Test.YticegedgmbpphaaAd2
namespace Go.Proofs.Yticegedgmbpphaa
open Go.RowKit Corb

theorem methCrcAdd (a : Addr) (w : World) : (method 182 45 (.pointer (some a)) "loop.example/corbel/impl.add").run Try.prog w = .ok (68, .pointer (some a)) w := by kernel_rfl
theorem methCrcTold (a : Addr) (w : World) : (method 182 45 (.pointer (some a)) "loop.example/corbel/impl.told").run Try.prog w = .ok (69, .pointer (some a)) w := by kernel_rfl
theorem nilCrcAdd (a : Addr) (w : World) : (nilAhead 182 45 (.pointer (some a)) "loop.example/corbel/impl.add").run Try.prog w = .ok (some false) w := by kernel_rfl

theorem u32_full (x : Nat) (h : x < 4294967296) : bits .xor .u32 (x : Int) 4294967295 = ((x ^^^ full : Nat) : Int) := u32_xor_nat x 4294967295 h (by omega)

theorem crcTold_any (b : Nat) (x : Nat) (v : Value) (w : World) (h : Two w b (.int .u32 (x : Int)) v) (hx : x < 4294967296) :
    Calls Try.prog 69 #[.pointer (some ⟨b, 0, none⟩)] w fun e w' => e = .returned (.int .i64 (x ^^^ full : Nat)) ∧ w' = w := by
  obtain ⟨c0, c1, f0, f1, hb⟩ := h
  have ho := u32_full x hx
  have hl : x ^^^ full < 4294967296 := Nat.xor_lt_two_pow (n := 32) hx (by decide)
  generalize x ^^^ full = y at *
  go_enter Try.func69, Try.ntmps69
  go_wp2
  go_ret
  exact ⟨rfl, rfl⟩

set_option maxHeartbeats 800000 in
theorem sumOfCrc_any (b t : Nat) (X : Nat) (s : ByteArray) (w : World) (h : Two w b (.int .u32 (X : Int)) (.func (.func 52) #[] #[.pointer (some ⟨t, 0, none⟩)])) (ht : TabTo w t 16) (htb : t < b) (hX : X < 4294967296) (hs : s.size ≤ maxLen) :
    Calls Try.prog 40 #[.iface 45 (.pointer (some ⟨b, 0, none⟩)), .string s] w fun e w' => e = .returned (.int .i64 (fold X s.data.toList ^^^ full : Nat)) ∧ Below b w w' := by
  unfold maxLen at hs
  have m1 := methCrcAdd ⟨b, 0, none⟩
  have m2 := methCrcTold ⟨b, 0, none⟩
  have m3 := nilCrcAdd ⟨b, 0, none⟩
  go_enter Try.func40, Try.ntmps40
  go_wp2
  go_loopw [8] (fun i wr => ∃ k : Nat, k ≤ s.size ∧ i = .int .i64 k ∧ Two wr b (.int .u32 (fold X (s.data.toList.take k) : Nat)) (.func (.func 52) #[] #[.pointer (some ⟨t, 0, none⟩)]) ∧ Below b w wr) (fun i _ => s.size - (intOf i).toNat)
  case atStart => exact ⟨0, Nat.zero_le _, rfl, h, Below.refl _ _⟩
  case round =>
    obtain ⟨k, hk, rfl, htwo, hbel⟩ := hrel
    have hl := fold_lt X (s.data.toList.take k) hX
    have ht1 := ht.below hbel htb
    clear ht h
    by_cases hlt : k < s.size
    · have hsn : Hid (fold X (s.data.toList.take (k + 1)) = shN 8 (fold X (s.data.toList.take k) ^^^ s[k].toNat)) := by
        rw [take_snoc s k hlt, fold_snoc]; exact rfl
      have hb : (s[k].toNat : Int) < 256 := by have := byte_lt s[k]; omega
      generalize fold X (s.data.toList.take k) = x at *
      go_wp2_with fail
      go_region_with (go_at_call 68; refine (crcAdd_any b t _ _ _ htwo.drew ht1.drew htb (by omega) (by omega) (by omega) hb).mono ?_; rintro e w' ⟨rfl, htwo', hbel'⟩)
      all_goals
        go_wp2
        go_roundw
        case rel => exact ⟨k + 1, by omega, by go_num, by rw [unhide hsn]; exact htwo', hbel.drew.trans hbel'⟩
        case measure => simp [intOf]; omega
    · have HE : Hid (fold X (s.data.toList.take k) ^^^ full = fold X s.data.toList ^^^ full) := by
        rw [List.take_of_length_le (by simp; omega)]; exact rfl
      generalize fold X (s.data.toList.take k) = x at *
      go_wp2_with (go_at_call 69; refine (crcTold_any b _ _ _ htwo hl).mono ?_; rintro e w' ⟨rfl, rfl⟩)
      go_ret
      exact ⟨ret_int (by rw [unhide HE]), hbel⟩

set_option maxHeartbeats 400000 in
theorem implCrcMore_any (c : Int) (s : ByteArray) (w : World) (hs : s.size ≤ maxLen) :
    Calls Try.prog 23 #[.int .i64 c, .string s] w fun e w' => e = .returned (.int .i64 (cmI c s.data.toList)) ∧ Below w.heap.size w w' := by
  cases h : inB c 0 4294967295
  · have HI := hide (cmI_no (l := s.data.toList) h)
    go_enter Try.func23, Try.ntmps23
    go_wp2_with (go_at_call 39; refine (sumOk_any _ _).mono ?_; rintro e w' ⟨rfl, rfl⟩)
    go_ret
    exact ⟨ret_int (unhide HI).symm, Below.refl _ _⟩
  · have HI := hide (cmI_yes (l := s.data.toList) h)
    obtain ⟨c1, c2⟩ := inB_true.1 h
    obtain ⟨C, rfl⟩ := Int.eq_ofNat_of_zero_le c1
    have hx := u32_full C (by omega)
    have hxl : C ^^^ full < 4294967296 := Nat.xor_lt_two_pow (n := 32) (by omega) (by decide)
    have HF : Hid (cmI (C : Int) s.data.toList = ((fold (C ^^^ full) s.data.toList ^^^ full : Nat) : Int)) := by
      have := unhide HI; rw [this]; exact rfl
    generalize C ^^^ full = X at *
    go_enter Try.func23, Try.ntmps23
    go_wp2_with (first | (go_at_call 39; refine (sumOk_any _ _).mono ?_; rintro e w' ⟨rfl, rfl⟩) | (go_at_call 41; refine (crcTable_any _).mono ?_; rintro e w1 ⟨rfl, htab, hbel1⟩))
    have hlt := htab.2
    refine (sumOfCrc_any w1.heap.size _ X s _ (two_new w1 _ _ _) (htab.below ((Below.refl _ w1).alloc (Nat.le_refl _) _) hlt) hlt hxl hs).mono ?_
    rintro e w2 ⟨rfl, hbel2⟩
    go_wp2
    go_ret
    exact ⟨ret_int (unhide HF).symm, hbel1.trans (((Below.refl _ w1).alloc (Nat.le_refl _) _).trans hbel2 |>.mono (Nat.le_of_lt hlt))⟩

theorem implCrc_any (s : ByteArray) (w : World) (hs : s.size ≤ maxLen) :
    Calls Try.prog 20 #[.string s] w fun e w' => e = .returned (.int .i64 (crcMore 0 s.data.toList : Nat)) ∧ Below w.heap.size w w' := by
  have HI : Hid (cmI 0 s.data.toList = (crcMore 0 s.data.toList : Nat)) := cmI_yes (c := 0) (l := s.data.toList) rfl
  go_enter Try.func20, Try.ntmps20
  go_wp2_with (go_at_call 23; refine (implCrcMore_any _ _ _ hs).mono ?_; rintro e w' ⟨rfl, hbel⟩)
  go_ret
  exact ⟨ret_int (unhide HI), hbel⟩

theorem exCrc_walk (s : ByteArray) (hs : s.size ≤ maxLen) (w : World) :
    Calls Try.prog 14 #[.string s] w fun e w' => e = .returned (.bool true) ∧ Below w.heap.size w w' := by
  have hs' := hide hs
  unfold maxLen at hs
  by_cases hl : (s.size : Int) ≤ 1048576
  · go_enter Try.func14, Try.ntmps14
    go_wp2_with (first | (go_at_call 20; refine (implCrc_any _ _ (unhide hs')).mono ?_; rintro e w' ⟨rfl, hbel⟩) | (go_at_call 21; refine (specCrc_any _ _ (unhide hs')).mono ?_; rintro e w' ⟨rfl, rfl⟩))
    go_ret
    exact ⟨rfl, hbel⟩
  · go_enter Try.func14, Try.ntmps14
    go_wp2
    go_ret
    exact ⟨rfl, Below.refl _ _⟩

theorem exCrcMore_walk (c : Int) (s : ByteArray) (_ : (Lit.int .i64 c).wf = true) (hs : s.size ≤ maxLen) (w : World) :
    Calls Try.prog 15 #[.int .i64 c, .string s] w fun e w' => e = .returned (.bool true) ∧ Below w.heap.size w w' := by
  have hs' := hide hs
  unfold maxLen at hs
  by_cases hl : (s.size : Int) ≤ 1048576
  · go_enter Try.func15, Try.ntmps15
    go_wp2_with (first | (go_at_call 23; refine (implCrcMore_any _ _ _ (unhide hs')).mono ?_; rintro e w' ⟨rfl, hbel⟩) | (go_at_call 24; refine (specCrcMore_any _ _ _ (unhide hs')).mono ?_; rintro e w' ⟨rfl, rfl⟩))
    go_ret
    exact ⟨rfl, hbel⟩
  · go_enter Try.func15, Try.ntmps15
    go_wp2
    go_ret
    exact ⟨rfl, Below.refl _ _⟩

end Go.Proofs.Yticegedgmbpphaa
