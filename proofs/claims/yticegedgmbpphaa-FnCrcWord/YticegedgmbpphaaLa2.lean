/- The walks of laws of sums: CrcJoin, CrcThree, CrcEnd, CrcWord. -/
import Derived.Test.YticegedgmbpphaaLa1
namespace Go.Proofs.Yticegedgmbpphaa
open Go.RowKit Corb

theorem cj_crc (s t : ByteArray) (ht : t.size ≤ 100000) : cjI ((crcMore 0 s.data.toList : Nat) : Int) ((crcMore 0 t.data.toList : Nat) : Int) (t.size : Int) = ((crcMore 0 (s ++ t).data.toList : Nat) : Int) := by
  have h1 := crcMore_lt 0 s.data.toList (by omega)
  have h2 := crcMore_lt 0 t.data.toList (by omega)
  have hok : cjOk ((crcMore 0 s.data.toList : Nat) : Int) ((crcMore 0 t.data.toList : Nat) : Int) (t.size : Int) = true := by
    simp only [cjOk, Bool.and_eq_true, inB_true]; omega
  rw [cjI_yes hok, Int.toNat_natCast, Int.toNat_natCast, Int.toNat_natCast, data_append, crcJoin_append]
  have e : t.data.toList.length = t.size := Array.length_toList
  rw [e]
theorem cj_none (c : Nat) (h : c < 4294967296) : cjI (c : Int) 0 0 = (c : Int) := by
  have hok : cjOk (c : Int) 0 0 = true := by simp only [cjOk, Bool.and_eq_true, inB_true]; omega
  rw [cjI_yes hok]
  simp [crcJoin, shN]

set_option maxHeartbeats 1600000 in
theorem fnCrcJoin_walk (a : Option Addr) (len cap : Nat) (zs : List Int) (a1 : Option Addr) (len1 cap1 : Nat) (zs1 : List Int) (w : World) (w0 : IsRow .u8 w a len cap zs) (w1 : IsRow .u8 w a1 len1 cap1 zs1) :
    Calls Try.prog 5 #[.slice a len cap, .slice a1 len1 cap1] w fun e w' => e = .returned (.bool true) ∧ Below w.heap.size w w' := by
  obtain ⟨⟨z, hsrc⟩, hc, hm⟩ := src_of w0
  obtain ⟨⟨z1, hsrc1⟩, hc1, hm1⟩ := src_of w1
  have hm' := hide hm
  have hm1' := hide hm1
  unfold maxLen at hm hm1
  clear w0 w1
  by_cases hl : (len : Int) ≤ 1048576
  · by_cases hl1 : (len1 : Int) ≤ 1048576
    · go_enter Try.func5, Try.ntmps5
      go_wp2_with fail
      refine (drawCrcJoin_any a len cap z _ hsrc hc (unhide hm')).mono ?_
      rintro e x1 ⟨⟨p, q, n, rfl⟩, hb1⟩
      go_wp2_with fail
      refine (implCrcJoin_any p q n _).mono ?_
      rintro e x2 ⟨rfl, rfl⟩
      go_wp2_with fail
      refine (drawCrc_any a len cap z _ (hsrc.later hb1) hc (unhide hm')).mono ?_
      rintro e x3 ⟨⟨s, rfl, hs⟩, hb3⟩
      have hb3' := bnext hb1 hb3
      go_wp2_with fail
      refine (drawCrc_any a1 len1 cap1 z1 _ (hsrc1.later hb3') hc1 (unhide hm1')).mono ?_
      rintro e x4 ⟨⟨t, rfl, ht⟩, hb4⟩
      have hs' := size_max hs (by omega)
      have ht' := size_max ht (by omega)
      have hst : (s ++ t).size ≤ maxLen := by rw [ByteArray.size_append]; unfold maxLen; omega
      have e1 := hide (cj_crc s t (by omega))
      have e2 := hide (cj_none _ (crcMore_lt 0 s.data.toList (by omega)))
      generalize hx : ((crcMore 0 s.data.toList : Nat) : Int) = x at *
      generalize hy : ((crcMore 0 t.data.toList : Nat) : Int) = y at *
      generalize hxy : ((crcMore 0 (s ++ t).data.toList : Nat) : Int) = xy at *
      have HX := hide hx
      have HY := hide hy
      have HXY := hide hxy
      clear hx hy hxy
      go_wp2_with fail
      refine (specCrcJoin_any p q n _).mono ?_
      rintro e x5 ⟨rfl, rfl⟩
      generalize cjI p q n = j
      go_wp2_with fail
      refine (implCrc_any s _ hs').mono ?_
      rintro e x6 ⟨rfl, hb6⟩
      rw [unhide HX]
      go_wp2_with fail
      refine (implCrc_any t _ ht').mono ?_
      rintro e x7 ⟨rfl, hb7⟩
      rw [unhide HY]
      go_wp2_with fail
      refine (implCrcJoin_any _ _ _ _).mono ?_
      rintro e x8 ⟨rfl, rfl⟩
      rw [unhide e1]
      go_wp2_with fail
      refine (implCrc_any (s ++ t) _ hst).mono ?_
      rintro e x9 ⟨rfl, hb9⟩
      rw [unhide HXY]
      go_wp2_with fail
      refine (implCrc_any s _ hs').mono ?_
      rintro e xa ⟨rfl, hba⟩
      rw [unhide HX]
      go_wp2_with fail
      refine (implCrcJoin_any _ _ _ _).mono ?_
      rintro e xb ⟨rfl, rfl⟩
      rw [unhide e2]
      go_wp2_with fail
      refine (implCrc_any s _ hs').mono ?_
      rintro e xc ⟨rfl, hbc⟩
      rw [unhide HX]
      go_wp2
      go_ret
      refine ⟨ret_bool (by simp), ?_⟩
      exact bnext (bnext (bnext (bnext (bnext (bnext hb3' hb4) hb6) hb7) hb9) hba) hbc
    · go_enter Try.func5, Try.ntmps5
      go_wp2
      go_ret
      exact ⟨rfl, Below.refl _ _⟩
  · go_enter Try.func5, Try.ntmps5
    go_wp2
    go_ret
    exact ⟨rfl, Below.refl _ _⟩

set_option maxHeartbeats 1600000 in
theorem fnCrcThree_walk (a : Option Addr) (len cap : Nat) (zs : List Int) (a1 : Option Addr) (len1 cap1 : Nat) (zs1 : List Int) (w : World) (w0 : IsRow .u8 w a len cap zs) (w1 : IsRow .u8 w a1 len1 cap1 zs1) :
    Calls Try.prog 9 #[.slice a len cap, .slice a1 len1 cap1] w fun e w' => e = .returned (.bool true) ∧ Below w.heap.size w w' := by
  obtain ⟨⟨z, hsrc⟩, hc, hm⟩ := src_of w0
  obtain ⟨⟨z1, hsrc1⟩, hc1, hm1⟩ := src_of w1
  have hm' := hide hm
  have hm1' := hide hm1
  unfold maxLen at hm hm1
  clear w0 w1
  by_cases hl : (len : Int) ≤ 1048576
  · by_cases hl1 : (len1 : Int) ≤ 1048576
    · go_enter Try.func9, Try.ntmps9
      go_wp2_with fail
      refine (drawCrc_any a len cap z _ hsrc hc (unhide hm')).mono ?_
      rintro e x1 ⟨⟨s, rfl, hs⟩, hb1⟩
      go_wp2_with fail
      refine (drawCrc_any a1 len1 cap1 z1 _ (hsrc1.later hb1) hc1 (unhide hm1')).mono ?_
      rintro e x2 ⟨⟨t, rfl, ht⟩, hb2⟩
      have hs' := size_max hs (by omega)
      have ht' := size_max ht (by omega)
      have hsz : (s ++ t ++ s).size ≤ maxLen := by rw [ByteArray.size_append, ByteArray.size_append]; unfold maxLen; omega
      have e1 := hide (cj_crc s t (by omega))
      have e2 := hide (cj_crc (s ++ t) s (by omega))
      have e3 := hide (cj_crc t s (by omega))
      have e4 : Hid (cjI ((crcMore 0 s.data.toList : Nat) : Int) ((crcMore 0 (t ++ s).data.toList : Nat) : Int) ((t.size : Int) + (s.size : Int)) = ((crcMore 0 (s ++ t ++ s).data.toList : Nat) : Int)) := by
        have := cj_crc s (t ++ s) (by rw [ByteArray.size_append]; omega)
        rw [ByteArray.size_append] at this
        rw [show (t.size : Int) + (s.size : Int) = ((t.size + s.size : Nat) : Int) by omega, this, data_append, data_append, data_append, data_append, List.append_assoc]
        exact rfl
      generalize hx : ((crcMore 0 s.data.toList : Nat) : Int) = x at *
      generalize hy : ((crcMore 0 t.data.toList : Nat) : Int) = y at *
      generalize ((crcMore 0 (s ++ t).data.toList : Nat) : Int) = xy at *
      generalize ((crcMore 0 (t ++ s).data.toList : Nat) : Int) = yx at *
      generalize hv : ((crcMore 0 (s ++ t ++ s).data.toList : Nat) : Int) = v at *
      have HX := hide hx
      have HY := hide hy
      have HV := hide hv
      clear hx hy hv
      go_wp2_with fail
      refine (implCrc_any s _ hs').mono ?_
      rintro e x3 ⟨rfl, hb3⟩
      rw [unhide HX]
      go_wp2_with fail
      refine (implCrc_any t _ ht').mono ?_
      rintro e x4 ⟨rfl, hb4⟩
      rw [unhide HY]
      go_wp2_with fail
      refine (specCrc_any s _ hs').mono ?_
      rintro e x5 ⟨rfl, rfl⟩
      rw [unhide HX]
      go_wp2_with fail
      refine (implCrcJoin_any _ _ _ _).mono ?_
      rintro e x6 ⟨rfl, rfl⟩
      rw [unhide e1]
      go_wp2_with fail
      refine (implCrcJoin_any _ _ _ _).mono ?_
      rintro e x7 ⟨rfl, rfl⟩
      rw [unhide e2]
      go_wp2_with fail
      refine (implCrcJoin_any _ _ _ _).mono ?_
      rintro e x8 ⟨rfl, rfl⟩
      rw [unhide e3]
      go_wp2_with fail
      refine (implCrcJoin_any _ _ _ _).mono ?_
      rintro e x9 ⟨rfl, rfl⟩
      rw [unhide e4]
      go_wp2_with fail
      refine (implCrc_any (s ++ t ++ s) _ hsz).mono ?_
      rintro e xa ⟨rfl, hba⟩
      rw [unhide HV]
      go_wp2
      go_ret
      refine ⟨ret_bool (by simp), ?_⟩
      exact bnext (bnext (bnext (bnext hb1 hb2) hb3) hb4) hba
    · go_enter Try.func9, Try.ntmps9
      go_wp2
      go_ret
      exact ⟨rfl, Below.refl _ _⟩
  · go_enter Try.func9, Try.ntmps9
    go_wp2
    go_ret
    exact ⟨rfl, Below.refl _ _⟩

set_option maxHeartbeats 1600000 in
theorem fnCrcWord_walk (a : Option Addr) (len cap : Nat) (zs : List Int) (w : World) (w0 : IsRow .u8 w a len cap zs) :
    Calls Try.prog 13 #[.slice a len cap] w fun e w' => e = .returned (.bool true) ∧ Below w.heap.size w w' := by
  obtain ⟨⟨z, hsrc⟩, hc, hm⟩ := src_of w0
  have hm' := hide hm
  unfold maxLen at hm
  clear w0
  by_cases hl : (len : Int) ≤ 1048576
  · go_enter Try.func13, Try.ntmps13
    go_wp2_with fail
    refine (drawCrcMore_any a len cap z _ hsrc hc (unhide hm')).mono ?_
    rintro e x1 ⟨⟨c, s, rfl, hs⟩, hb1⟩
    have hs' := size_max hs (by omega)
    have e1 : Hid (cmI (-1) s.data.toList = -1) := cmI_no rfl
    have e2 : Hid (cmI 4294967296 s.data.toList = -1) := cmI_no rfl
    have e3 : Hid (cmI 0 s.data.toList = ((crcMore 0 s.data.toList : Nat) : Int)) := cmI_yes (c := 0) rfl
    have e4 : cmI c s.data.toList < 0 ↔ c < 0 ∨ 4294967295 < c := by
      cases hin : inB c 0 4294967295
      · rw [cmI_no hin]; have := inB_false.1 hin; omega
      · rw [cmI_yes hin]; have := inB_true.1 hin; omega
    have E4 := hide e4
    clear e4
    generalize hn : cmI c s.data.toList = n at *
    generalize hx : ((crcMore 0 s.data.toList : Nat) : Int) = x at *
    have HN := hide hn
    have HX := hide hx
    clear hn hx
    go_wp2_with fail
    refine (implCrcMore_any c s _ hs').mono ?_
    rintro e x2 ⟨rfl, hb2⟩
    rw [unhide HN]
    go_wp2_with fail
    refine (specCrcMore_any c s _ hs').mono ?_
    rintro e x3 ⟨rfl, rfl⟩
    rw [unhide HN]
    go_wp2_with fail
    refine (implCrcMore_any _ s _ hs').mono ?_
    rintro e x4 ⟨rfl, hb4⟩
    rw [unhide e1]
    go_wp2_with fail
    refine (implCrcMore_any _ s _ hs').mono ?_
    rintro e x5 ⟨rfl, hb5⟩
    rw [unhide e2]
    go_wp2_with fail
    refine (implCrcMore_any _ s _ hs').mono ?_
    rintro e x6 ⟨rfl, hb6⟩
    rw [unhide e3]
    go_wp2_with fail
    refine (implCrc_any s _ hs').mono ?_
    rintro e x7 ⟨rfl, hb7⟩
    rw [unhide HX]
    have hfin := bnext (bnext (bnext (bnext (bnext hb1 hb2) hb4) hb5) hb6) hb7
    by_cases hc0 : c < 0
    · have hn0 := (unhide E4).2 (.inl hc0)
      go_wp2
      go_ret
      exact ⟨ret_bool (by simp), hfin⟩
    · by_cases hc1 : 4294967295 < c
      · have hn0 := (unhide E4).2 (.inr hc1)
        go_wp2
        go_ret
        exact ⟨ret_bool (by simp), hfin⟩
      · have hn0 : ¬ n < 0 := fun h => by have := (unhide E4).1 h; omega
        go_wp2
        go_ret
        exact ⟨ret_bool (by rw [decide_eq_false (by omega), decide_eq_false (by omega), decide_eq_false (by omega)]; rfl), hfin⟩
  · go_enter Try.func13, Try.ntmps13
    go_wp2
    go_ret
    exact ⟨rfl, Below.refl _ _⟩

end Go.Proofs.Yticegedgmbpphaa
