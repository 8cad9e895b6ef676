/- The walk of a law of sums: CrcByte. -/
import Derived.Test.YticegedgmbpphaaLa3
import Derived.Deep.RegionHeld3
import Derived.Deep.DrawnRows
namespace Go.Proofs.Yticegedgmbpphaa
open Go.RowKit Corb
attribute [local go_sem ↓] Go.wp_at_zero Go.wp_at_succ

theorem wrap_i64 (n : Int) (h0 : -9223372036854775808 ≤ n) (h1 : n ≤ 9223372036854775807) : IntKind.i64.wrap n = n := by
  simp only [IntKind.wrap, IntKind.bits, IntKind.signed]; simp; omega

theorem one_back (x : World) (b : UInt8) :
    (convert 22 9 (.slice (some ⟨x.heap.size, 0, none⟩) 1 1)).run Try.prog (x.alloc (.cells #[.int .u8 (IntKind.u8.wrap ((b.toNat : Int) + 1))] 5)).drew =
      .ok (.string ⟨[b + 1].toArray⟩) (x.alloc (.cells #[.int .u8 (IntKind.u8.wrap ((b.toNat : Int) + 1))] 5)).drew := by
  refine run_convert_bytes_back _ _ _ 5 ⟨x.heap.size, 0, none⟩ 1 [b + 1] Try.underlying22 Try.underlying5 Try.underlying9 (fun j hj => ?_)
  have hj1 : j = 0 := by simpa using hj
  subst hj1
  have e : IntKind.u8.wrap ((b.toNat : Int) + 1) = ((b + 1).toNat : Int) := by
    simp [IntKind.wrap, IntKind.bits, IntKind.signed]
  rw [e]
  simp [Addr.add]

theorem crc_one (A C : List UInt8) (b b' : UInt8) (h : b ≠ b') : crcMore 0 (A ++ b :: C) ≠ crcMore 0 (A ++ b' :: C) := by
  intro e
  unfold crcMore at e
  have e1 := xor_cancel _ _ _ e
  rw [fold_append, fold_append, fold_cons, fold_cons] at e1
  have hA : fold (0 ^^^ full) A < 4294967296 := fold_lt _ _ (by decide)
  have e2 := fold_inj _ _ _ (shN_lt _ _ (xorb_lt _ _ hA)) (shN_lt _ _ (xorb_lt _ _ hA)) e1
  have e3 := shN_inj _ _ _ (xorb_lt _ _ hA) (xorb_lt _ _ hA) e2
  rw [Nat.xor_comm _ b.toNat, Nat.xor_comm _ b'.toNat] at e3
  exact h (UInt8.toNat_inj.1 (xor_cancel _ _ _ e3))

theorem bytes_at (s : ByteArray) (k : Nat) (h : k < s.size) : s.data.toList = s.data.toList.take k ++ s[k] :: s.data.toList.drop (k + 1) := by
  have h' : k < s.data.toList.length := by simpa using h
  have : s[k] = s.data.toList[k] := rfl
  rw [this, List.getElem_cons_drop, List.take_append_drop]

theorem bytes_bent (s : ByteArray) (k : Nat) (b : UInt8) (h : k < s.size) : (s.extract 0 k ++ ⟨[b].toArray⟩ ++ s.extract (k + 1) s.size).data.toList = s.data.toList.take k ++ b :: s.data.toList.drop (k + 1) := by
  rw [data_append, data_append, ByteArray.data_extract, ByteArray.data_extract, Array.toList_extract, Array.toList_extract]
  have hl : s.data.toList.length = s.size := by simp
  simp only [List.extract, List.drop_zero, Nat.sub_zero]
  rw [List.take_of_length_le (l := List.drop (k + 1) s.data.toList) (by rw [List.length_drop]; omega), List.append_assoc, List.singleton_append]

theorem empty_yes {s : ByteArray} (h : s.size = 0) : s.toList.isEmpty = true := by
  have : s = ByteArray.empty := ByteArray.size_eq_zero_iff.1 h
  subst this
  unfold ByteArray.toList ByteArray.toList.loop
  rfl

theorem list_size (s : ByteArray) : s.data.toList.length = s.size := by simp

theorem take_list (s : ByteArray) (k : Nat) : (s.extract 0 k).data.toList = s.data.toList.take k := by
  rw [ByteArray.data_extract, Array.toList_extract]
  simp [List.extract]

theorem implCrc_eq (s : ByteArray) (Y : Nat) (w : World) (hs : s.size ≤ maxLen) (HY : Hid (crcMore 0 s.data.toList = Y)) :
    Calls Try.prog 20 #[.string s] w fun e w' => e = .returned (.int .i64 (Y : Int)) ∧ Below w.heap.size w w' := by
  have := implCrc_any s w hs
  rw [unhide HY] at this
  exact this

theorem succ_ne (b : UInt8) : b + 1 ≠ b := by
  intro h
  have := congrArg UInt8.toNat h
  simp at this
  have := b.toNat_lt
  omega

set_option maxHeartbeats 1600000 in
theorem fnCrcByte_walk (a : Option Addr) (len cap : Nat) (zs : List Int) (a1 : Option Addr) (len1 cap1 : Nat) (zs1 : List Int) (w : World) (w0 : IsRow .u8 w a len cap zs) (w1 : IsRow .u8 w a1 len1 cap1 zs1) :
    Calls Try.prog 6 #[.slice a len cap, .slice a1 len1 cap1] w fun e w' => e = .returned (.bool true) ∧ Below w.heap.size w w' := by
  obtain ⟨⟨z, hsrc⟩, hc, hm⟩ := src_of w0
  obtain ⟨⟨z1, hsrc1⟩, hc1, hm1⟩ := src_of w1
  have hm' := hide hm
  unfold maxLen at hm hm1
  clear w0 w1
  by_cases hl : (len : Int) ≤ 1048576
  · by_cases hl1 : (len1 : Int) ≤ 1048576
    · go_enter Try.func6, Try.ntmps6
      go_wp2_with fail
      refine (drawCrc_any a len cap z _ hsrc hc (unhide hm')).mono ?_
      rintro e x1 ⟨⟨s, rfl, hs⟩, hb1⟩
      have hs' := size_max hs (by omega)
      have hx : (crcMore 0 s.data.toList : Int) < 4294967296 := by have := crcMore_lt 0 s.data.toList (by omega); omega
      generalize hX : crcMore 0 s.data.toList = X at *
      have HX := hide hX
      clear hX
      go_wp2_with fail
      refine (implCrc_any s _ hs').mono ?_
      rintro e x2 ⟨rfl, hb2⟩
      rw [unhide HX]
      go_wp2_with fail
      refine (specCrc_any s _ hs').mono ?_
      rintro e x3 ⟨rfl, rfl⟩
      rw [unhide HX]
      clear hm hm1 hx
      by_cases hE : s.toList.isEmpty = true
      · go_wp2_with fail
        refine (specCrc_any s _ hs').mono ?_
        rintro e x4 ⟨rfl, rfl⟩
        rw [unhide HX]
        go_wp2
        go_ret
        exact ⟨ret_bool (by simp), bnext hb1 hb2⟩
      · have hpos : 0 < s.size := by
          rcases Nat.eq_zero_or_pos s.size with h0 | h0
          · exact absurd (empty_yes h0) hE
          · exact h0
        have hE' : s.toList.isEmpty = false := by simpa using hE
        clear hE
        have hp' : (0 : Int) < (s.size : Int) := by omega
        have hs4 : (s.size : Int) ≤ 400 := by omega
        obtain ⟨k, hk⟩ : ∃ k : Nat, k = len1 % s.size := ⟨_, rfl⟩
        have hkz : (len1 : Int) % (s.size : Int) = (k : Int) := by subst hk; simp
        have hkl : k < s.size := hk ▸ Nat.mod_lt _ hpos
        have k0 : (0 : Int) ≤ (k : Int) := by omega
        have k1 : (k : Int) < (s.size : Int) := by omega
        have k2 : (k : Int) ≤ (s.size : Int) := by omega
        have k3 : (k : Int) + 1 ≤ (s.size : Int) := by omega
        have k4 : IntKind.i64.wrap ((k : Int) + 1) = (k : Int) + 1 := wrap_i64 _ (by omega) (by omega)
        have k5 : (0 : Int) ≤ (k : Int) + 1 := by omega
        have k6 : IntKind.i64.wrap (1 + (k : Int)) = 1 + (k : Int) := wrap_i64 _ (by omega) (by omega)
        have hqb := one_back x3 s[k]
        clear hk
        go_wp2_with fail
        go_region_with fail
        go_wp2_with fail
        have hxl := bytes_bent s k (s[k] + 1) hkl
        have hxs : (s.extract 0 k ++ ⟨#[s[k] + 1]⟩ ++ s.extract (k + 1) s.size).size = s.size := by
          have := congrArg List.length hxl
          have hl : s.data.toList.length = s.size := by simp
          rw [List.length_append, List.length_cons, List.length_take, List.length_drop, hl] at this
          exact (list_size _).symm.trans (this.trans (by omega))
        have hxl' : (s.extract 0 k ++ (⟨#[s[k] + 1]⟩ : ByteArray) ++ s.extract (k + 1) s.size).data.toList = s.data.toList.take k ++ (s[k] + 1) :: s.data.toList.drop (k + 1) := hxl
        generalize hx : s.extract 0 k ++ (⟨#[s[k] + 1]⟩ : ByteArray) ++ s.extract (k + 1) s.size = x at *
        clear hx hxl
        have hxm : x.size ≤ maxLen := by rw [hxs]; exact hs'
        obtain ⟨Y, hY⟩ : ∃ Y, crcMore 0 x.data.toList = Y := ⟨_, rfl⟩
        have HY := hide hY
        have hne : ¬ (Y : Int) = (X : Int) := by
          have h1 := unhide HX
          rw [bytes_at s k hkl] at h1
          have := crc_one (s.data.toList.take k) (s.data.toList.drop (k + 1)) (s[k] + 1) s[k] (succ_ne _)
          rw [← hxl', hY, h1] at this
          omega
        have hne2 : ((Y : Int) != (X : Int)) = true := by simpa using hne
        have hne3 : (Y != X) = true := by simp; omega
        obtain ⟨Z, hZ⟩ : ∃ Z, crcMore 0 (s.extract 0 k).data.toList = Z := ⟨_, rfl⟩
        have HZ := hide hZ
        have HV : Hid (crcMore 0 (x.extract 0 k).data.toList = Z) := by
          refine hide ?_
          rw [← hZ, take_list, take_list, hxl', List.take_left' (by rw [List.length_take]; simp; omega)]
        have hem1 : (s.extract 0 k).size ≤ maxLen := by rw [ByteArray.size_extract]; unfold maxLen; omega
        have hem2 : (x.extract 0 k).size ≤ maxLen := by rw [ByteArray.size_extract]; unfold maxLen; omega
        have kx : (k : Int) ≤ (x.size : Int) := by omega
        clear hY hZ hxl' hs4 hqb
        go_region_held3 (fun _ => True) (trivial) (first
          | (go_at_call 20; refine (implCrc_eq x Y _ hxm HY).mono ?_; rintro e y1 ⟨rfl, hc1⟩)
          | (go_at_call 20; refine (implCrc_eq (x.extract 0 k) Z _ hem2 HV).mono ?_; rintro e y2 ⟨rfl, hc2⟩)
          | (go_at_call 20; refine (implCrc_eq (s.extract 0 k) Z _ hem1 HZ).mono ?_; rintro e y3 ⟨rfl, hc3⟩))
        go_wp2
        go_ret
        exact ⟨rfl, bnext (bnext (bnext (bnext (bnext hb1 hb2) ((((Below.refl _ _).alloc (Nat.le_refl _) _).drew).drew)) hc1) hc2) hc3⟩
    · go_enter Try.func6, Try.ntmps6
      go_wp2
      go_ret
      exact ⟨rfl, Below.refl _ _⟩
  · go_enter Try.func6, Try.ntmps6
    go_wp2
    go_ret
    exact ⟨rfl, Below.refl _ _⟩

end Go.Proofs.Yticegedgmbpphaa
