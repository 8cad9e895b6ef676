/- The walks of laws of sums: Crc, CrcMore, CrcJoin. -/
import Derived.Test.YticegedgmbpphaaDr2
import Derived.Test.YticegedgmbpphaaCt3
namespace Go.Proofs.Yticegedgmbpphaa
open Go.RowKit Corb

theorem Src.later {w w' : World} {a : Option Addr} {len : Nat} {z : Nat → Int} (h : Src w a len z) (hb : Below w.heap.size w w') : Src w' a len z := by
  refine ⟨h.1, fun h0 => ?_⟩
  obtain ⟨ab, ao, e, hlt, hc⟩ := h.2 h0
  exact ⟨ab, ao, e, Nat.lt_of_lt_of_le hlt hb.size, fun i hi => (hb.cell (p := ⟨ab, ao + i, none⟩) hlt).trans (hc i hi)⟩

theorem bnext {w w1 w2 : World} (h : Below w.heap.size w w1) (k : Below w1.heap.size w1 w2) : Below w.heap.size w w2 := h.trans (k.mono h.size)

theorem size_max {s : ByteArray} {n : Nat} (h : s.size ≤ n) (hn : n ≤ 1000000) : s.size ≤ maxLen := by unfold maxLen; omega

theorem implCrc_nine (w : World) : Calls Try.prog 20 #[.string { data := #[49, 50, 51, 52, 53, 54, 55, 56, 57] }] w fun e w' => e = .returned (.int .i64 3421780262) ∧ Below w.heap.size w w' := by
  refine (implCrc_any _ w (by unfold maxLen; decide)).mono ?_
  rintro e w' ⟨rfl, hb⟩
  refine ⟨ret_int ?_, hb⟩
  decide +kernel
theorem implCrc_none (w : World) : Calls Try.prog 20 #[.string { data := #[] }] w fun e w' => e = .returned (.int .i64 0) ∧ Below w.heap.size w w' := by
  refine (implCrc_any _ w (by unfold maxLen; decide)).mono ?_
  rintro e w' ⟨rfl, hb⟩
  refine ⟨ret_int ?_, hb⟩
  decide +kernel

set_option maxHeartbeats 800000 in
theorem fnCrc_walk (a : Option Addr) (len cap : Nat) (zs : List Int) (w : World) (w0 : IsRow .u8 w a len cap zs) :
    Calls Try.prog 3 #[.slice a len cap] w fun e w' => e = .returned (.bool true) ∧ Below w.heap.size w w' := by
  obtain ⟨⟨z, hsrc⟩, hc, hm⟩ := src_of w0
  have hm' := hide hm
  unfold maxLen at hm
  clear w0
  by_cases hl : (len : Int) ≤ 1048576
  · go_enter Try.func3, Try.ntmps3
    go_wp2_with fail
    refine (drawCrc_any a len cap z _ hsrc hc (unhide hm')).mono ?_
    rintro e w1 ⟨⟨s, rfl, hs⟩, hb1⟩
    have hs' := size_max hs (by omega)
    have hx : (crcMore 0 s.data.toList : Int) < 4294967296 := by have := crcMore_lt 0 s.data.toList (by omega); omega
    generalize hX : crcMore 0 s.data.toList = X at *
    have HX := hide hX
    clear hX
    go_wp2_with fail
    refine (implCrc_any s _ hs').mono ?_
    rintro e w2 ⟨rfl, hb2⟩
    rw [unhide HX]
    go_wp2_with fail
    refine (specCrc_any s _ hs').mono ?_
    rintro e w3 ⟨rfl, rfl⟩
    rw [unhide HX]
    go_wp2_with fail
    refine (implCrc_nine _).mono ?_
    rintro e w4 ⟨rfl, hb4⟩
    go_wp2_with fail
    refine (implCrc_none _).mono ?_
    rintro e w5 ⟨rfl, hb5⟩
    go_wp2
    go_ret
    exact ⟨ret_bool (by simp; omega), bnext (bnext (bnext hb1 hb2) hb4) hb5⟩
  · go_enter Try.func3, Try.ntmps3
    go_wp2
    go_ret
    exact ⟨rfl, Below.refl _ _⟩

theorem data_append (a b : ByteArray) : (a ++ b).data.toList = a.data.toList ++ b.data.toList := by simp

theorem more_join (t s : ByteArray) : cmI ((crcMore 0 t.data.toList : Nat) : Int) s.data.toList = ((crcMore 0 (t ++ s).data.toList : Nat) : Int) := by
  have h := crcMore_lt 0 t.data.toList (by omega)
  rw [cmI_yes (inB_true.2 ⟨by omega, by omega⟩), Int.toNat_natCast, data_append, crcMore_append]
theorem more_none (c : Int) (h : inB c 0 4294967295 = true) : cmI c (ByteArray.data { data := #[] }).toList = c := by
  obtain ⟨h0, h1⟩ := inB_true.1 h
  rw [cmI_yes h]
  show ((crcMore c.toNat [] : Nat) : Int) = c
  rw [crcMore_nil]; omega
theorem more_more (c : Int) (s t : ByteArray) (h : inB c 0 4294967295 = true) : cmI (cmI c s.data.toList) t.data.toList = cmI c (s ++ t).data.toList := by
  obtain ⟨h0, h1⟩ := inB_true.1 h
  have hl := crcMore_lt c.toNat s.data.toList (by omega)
  rw [cmI_yes h, cmI_yes (inB_true.2 ⟨by omega, by omega⟩), cmI_yes h, Int.toNat_natCast, data_append, crcMore_append]

set_option maxHeartbeats 1600000 in
theorem fnCrcMore_walk (a : Option Addr) (len cap : Nat) (zs : List Int) (a1 : Option Addr) (len1 cap1 : Nat) (zs1 : List Int) (w : World) (w0 : IsRow .u8 w a len cap zs) (w1 : IsRow .u8 w a1 len1 cap1 zs1) :
    Calls Try.prog 4 #[.slice a len cap, .slice a1 len1 cap1] w fun e w' => e = .returned (.bool true) ∧ Below w.heap.size w w' := by
  obtain ⟨⟨z, hsrc⟩, hc, hm⟩ := src_of w0
  obtain ⟨⟨z1, hsrc1⟩, hc1, hm1⟩ := src_of w1
  have hm' := hide hm
  have hm1' := hide hm1
  unfold maxLen at hm hm1
  clear w0 w1
  by_cases hl : (len : Int) ≤ 1048576
  · by_cases hl1 : (len1 : Int) ≤ 1048576
    · go_enter Try.func4, Try.ntmps4
      go_wp2_with fail
      refine (drawCrcMore_any a len cap z _ hsrc hc (unhide hm')).mono ?_
      rintro e x1 ⟨⟨c, s, rfl, hs⟩, hb1⟩
      go_wp2_with fail
      refine (drawCrc_any a1 len1 cap1 z1 _ (hsrc1.later hb1) hc1 (unhide hm1')).mono ?_
      rintro e x2 ⟨⟨t, rfl, ht⟩, hb2⟩
      have hs' := size_max hs (by omega)
      have ht' := size_max ht (by omega)
      have hts : (t ++ s).size ≤ maxLen := by rw [ByteArray.size_append]; unfold maxLen; omega
      have hst : (s ++ t).size ≤ maxLen := by rw [ByteArray.size_append]; unfold maxLen; omega
      go_wp2_with fail
      refine (implCrcMore_any c s _ hs').mono ?_
      rintro e x3 ⟨rfl, hb3⟩
      go_wp2_with fail
      refine (specCrcMore_any c s _ hs').mono ?_
      rintro e x4 ⟨rfl, rfl⟩
      cases hin : inB c 0 4294967295
      · have hn : cmI c s.data.toList = -1 := cmI_no hin
        rw [hn]
        go_wp2_with fail
        refine (specCrcMore_any c s _ hs').mono ?_
        rintro e x5 ⟨rfl, rfl⟩
        rw [hn]
        go_wp2
        go_ret
        exact ⟨rfl, bnext (bnext hb1 hb2) hb3⟩
      · have hn : 0 ≤ cmI c s.data.toList := by rw [cmI_yes hin]; omega
        have e1 := hide (more_join t s)
        have e2 := hide (more_none c hin)
        have e3 := hide (more_more c s t hin)
        generalize cmI c s.data.toList = n at *
        generalize hy : ((crcMore 0 (t ++ s).data.toList : Nat) : Int) = y at *
        generalize hy' : cmI c (s ++ t).data.toList = y' at *
        have HY := hide hy
        have HY' := hide hy'
        clear hy hy'
        go_wp2_with fail
        refine (implCrc_any t _ ht').mono ?_
        rintro e x5 ⟨rfl, hb5⟩
        go_wp2_with fail
        refine (implCrcMore_any _ s _ hs').mono ?_
        rintro e x6 ⟨rfl, hb6⟩
        rw [unhide e1]
        go_wp2_with fail
        refine (implCrc_any (t ++ s) _ hts).mono ?_
        rintro e x7 ⟨rfl, hb7⟩
        rw [unhide HY]
        go_wp2_with fail
        refine (implCrcMore_any c _ _ (by unfold maxLen; decide)).mono ?_
        rintro e x8 ⟨rfl, hb8⟩
        rw [unhide e2]
        go_wp2_with fail
        refine (implCrcMore_any n t _ ht').mono ?_
        rintro e x9 ⟨rfl, hb9⟩
        rw [unhide e3]
        go_wp2_with fail
        refine (implCrcMore_any c (s ++ t) _ hst).mono ?_
        rintro e xa ⟨rfl, hba⟩
        rw [unhide HY']
        go_wp2
        go_ret
        refine ⟨ret_bool (by simp), ?_⟩
        exact bnext (bnext (bnext (bnext (bnext (bnext (bnext (bnext hb1 hb2) hb3) hb5) hb6) hb7) hb8) hb9) hba
    · go_enter Try.func4, Try.ntmps4
      go_wp2
      go_ret
      exact ⟨rfl, Below.refl _ _⟩
  · go_enter Try.func4, Try.ntmps4
    go_wp2
    go_ret
    exact ⟨rfl, Below.refl _ _⟩

end Go.Proofs.Yticegedgmbpphaa
