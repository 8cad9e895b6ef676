/- Contracts of StorePut, the model's and the program's; the walk of its exact statement. -/
import Derived.Test.YtmocfpjcknmhlaaSm1
import Derived.Test.YtmocfpjcknmhlaaPw3
namespace Go.Proofs.Ytmocfpjcknmhlaa
open Go.RowKit Corb

set_option maxHeartbeats 800000 in
theorem wholeOut_any (b V m : Nat) (w : World) (h : Out w b V m) (hm : m ≤ 90000) :
    Calls Try.prog 10 #[.pointer (some ⟨b, 0, none⟩)] w fun e w' => e = .returned (.tuple #[]) ∧ Out w' b V (8 * ((m + 7) / 8)) ∧ Below b w w' := by
  have h' := hide h
  obtain ⟨hV, v, ht, hy⟩ := h
  obtain ⟨k0, k1, k2, f0, f1, f2, hbw⟩ := ht
  by_cases hr : m % 8 = 0
  · have hr0 : ((m % 8 : Nat) : Int) = 0 := by omega
    have he : Hid (8 * ((m + 7) / 8) = m) := by show _ = _; omega
    clear hr hV hy k0 k1 hm
    go_enter Try.func10, Try.ntmps10
    go_wp2
    go_end0
    exact ⟨rfl, by rw [unhide he]; exact unhide h', Below.refl _ _⟩
  · have hr0 : (0 : Int) < ((m % 8 : Nat) : Int) := by omega
    have hr1 : ((m % 8 : Nat) : Int) < 8 := by omega
    have hfin : Hid (m + (8 - m % 8) = 8 * ((m + 7) / 8)) := by show _ = _; omega
    have htn : Hid ((8 - ((m % 8 : Nat) : Int)).toNat = 8 - m % 8) := by show (8 - ((m % 8 : Nat) : Int)).toNat = 8 - m % 8; omega
    have hm' := hide hm
    clear hr hV hy k0 k1 hm
    generalize ((m % 8 : Nat) : Int) = r at *
    go_enter Try.func10, Try.ntmps10
    go_wp2_with fail
    refine (put_any b V m 0 (8 - r) _ (unhide h') (by omega) (by omega) (by omega) (by omega) (by have := unhide hm'; omega)).mono ?_
    rintro e w1 ⟨rfl, ho, hb⟩
    rw [unhide htn] at ho
    simp only [Int.toNat_zero, Nat.zero_mod, Nat.zero_mul, Nat.add_zero] at ho
    rw [unhide hfin] at ho
    have HO := hide ho
    clear ho
    go_wp2
    go_end0
    exact ⟨rfl, unhide HO, hb⟩

theorem str_bytes (s : ByteArray) : s.data.toList.length = s.size := by simp
theorem cat_str (l : List UInt8) (s : ByteArray) : (⟨l.toArray⟩ : ByteArray) ++ s = ⟨(l ++ s.data.toList).toArray⟩ := by
  apply ByteArray.ext
  rw [ByteArray.data_append]
  apply Array.ext'
  simp

set_option maxHeartbeats 1600000 in
theorem l5Store_any (s : ByteArray) (w : World) (hs : s.size ≤ 300) :
    Calls Try.prog 6 #[.string s] w fun e w' => e = .returned (.string ⟨(leS 5 (headV s.size) ++ s.data.toList).toArray⟩) ∧ Below w.heap.size w w' := by
  have hsI : (s.size : Int) ≤ 300 := by omega
  have h0 := hide (out_new w 32)
  have hB0 : Hid (Below w.heap.size w (w.alloc (.cells #[.slice none 0 0, .int .i64 0, .int .i64 0] 32))) := (Below.refl _ _).alloc (Nat.le_refl _) _
  have HS := hide hs
  clear hs
  go_enter Try.func6, Try.ntmps6
  go_wp2_with fail
  refine (put_any _ 0 0 1 1 _ (unhide h0) (by omega) (by omega) (by omega) (by omega) (by omega)).mono ?_
  rintro e x1 ⟨rfl, h1, hb1⟩
  go_wp2_with fail
  refine (put_any _ _ _ 0 2 _ h1 (by omega) (by omega) (by omega) (by omega) (by omega)).mono ?_
  rintro e x2 ⟨rfl, h2, hb2⟩
  have h2' : Out x2 w.heap.size 1 3 := h2
  clear h1 h2
  go_wp2_with fail
  refine (wholeOut_any _ _ _ _ h2' (by omega)).mono ?_
  rintro e x3 ⟨rfl, h3, hb3⟩
  have h3' : Out x3 w.heap.size 1 8 := h3
  have hB3 := hide (((unhide hB0).trans hb1).trans (hb2.trans hb3))
  clear h2' h3 hb1 hb2 hb3
  go_wp2_with fail
  refine (put_any _ _ _ (s.size : Int) 16 _ h3' (by omega) (by omega) (by omega) (by omega) (by omega)).mono ?_
  rintro e x4 ⟨rfl, h4, hb4⟩
  clear h3'
  go_wp2_with fail
  refine (put_any _ _ _ (65535 - (s.size : Int)) 16 _ h4 (by omega) (by omega) (by omega) (by omega) (by omega)).mono ?_
  rintro e x5 ⟨rfl, h5, hb5⟩
  have hV : 1 + ((s.size : Int).toNat % p2 (16 : Int).toNat * p2 8) + ((65535 - (s.size : Int)).toNat % p2 (16 : Int).toNat * p2 (8 + (16 : Int).toNat)) = headV s.size := by
    have e16 : p2 (16 : Int).toNat = 65536 := by decide
    have e8 : p2 8 = 256 := by decide
    have e24 : p2 (8 + (16 : Int).toNat) = 16777216 := by decide
    rw [e16, e8, e24]
    unfold headV
    have := unhide HS
    rw [Int.toNat_natCast, show (65535 - (s.size : Int)).toNat = 65535 - s.size by omega, Nat.mod_eq_of_lt (by omega), Nat.mod_eq_of_lt (by omega)]
  have h5' : Out x5 w.heap.size (headV s.size) 40 := by rw [← hV]; exact h5
  obtain ⟨_, v, T, Y⟩ := h5'
  have hcv := conv_bytes Y
  have hB5 := hide ((unhide hB3).trans (hb4.trans hb5))
  obtain ⟨k0, k1, k2, f0, f1, f2, hbw⟩ := T
  have hle : leS (40 / 8) (headV s.size) = leS 5 (headV s.size) := rfl
  rw [hle] at hcv
  have HC := hide (cat_str (leS 5 (headV s.size)) s)
  clear h4 h5 hV hb4 hb5 Y k1 k2 hle
  have hPl := leS_len 5 (headV s.size)
  generalize hP : leS 5 (headV s.size) = P at hcv HC hPl
  have HP := hide hP
  have hPs : ¬ 9223372036854775807 < P.length + s.size := by have := unhide HS; omega
  clear hP hPl
  go_wp2
  go_ret
  exact ⟨by rw [unhide HP, ← unhide HC]; rfl, unhide hB5⟩
theorem specStorePut_any (s : ByteArray) (w : World) (hs : s.size ≤ 1048576) :
    Calls Try.prog 4 #[.string s] w fun e w' => e = .returned (.string ⟨(storeL s.data.toList).toArray⟩) ∧ Below w.heap.size w w' := by
  have hsI : (s.size : Int) ≤ 1048576 := by omega
  by_cases h3 : s.size ≤ 300
  · have hI : ¬ (300 : Int) < (s.size : Int) := by omega
    have HL := hide (l5Store_any s w h3)
    have e : Hid (storeL s.data.toList = leS 5 (headV s.size) ++ s.data.toList) := by show _ = _; unfold storeL; rw [str_bytes, if_pos h3]
    clear hs h3
    rw [unhide e]
    go_enter Try.func4, Try.ntmps4
    go_wp2_with fail
    refine (unhide HL).mono ?_
    rintro e1 x1 ⟨rfl, hb⟩
    go_wp2
    go_ret
    exact ⟨rfl, hb⟩
  · have hI : (300 : Int) < (s.size : Int) := by omega
    have e : storeL s.data.toList = [] := by unfold storeL; rw [str_bytes, if_neg h3]
    rw [e]
    clear hs h3 e
    go_enter Try.func4, Try.ntmps4
    go_wp2
    go_ret
    exact ⟨rfl, Below.refl _ _⟩

end Go.Proofs.Ytmocfpjcknmhlaa
