/- The walks of laws of sums: Adler, AdlerJoin, AdlerThree, AdlerByte. -/
import Derived.Test.YticegedgmbpphaaLa1
namespace Go.Proofs.Yticegedgmbpphaa
open Go.RowKit Corb

theorem ajv_cast (a b n M K L : Nat) : ((a : Int) / K + (b : Int) / K + (n : Int) * ((a : Int) % K + L)) % M * K + ((a : Int) % K + (b : Int) % K + L) % M = (((a / K + b / K + n * (a % K + L)) % M * K + (a % K + b % K + L) % M : Nat) : Int) := by
  push_cast
  rfl
theorem ajVal_nat (a b n : Nat) : ajVal (a : Int) (b : Int) (n : Int) = ((adlerJoin a b n : Nat) : Int) :=
  ajv_cast a b n 65521 65536 65520

theorem adB_adler (l : List UInt8) : adB ((adler l : Nat) : Int) = true := by
  have := adler_lt l
  rw [adB_true]; omega

theorem aj_append (s t : ByteArray) (ht : t.size ≤ 100000) : ajI ((adler s.data.toList : Nat) : Int) ((adler t.data.toList : Nat) : Int) (t.size : Int) = ((adler (s ++ t).data.toList : Nat) : Int) := by
  have hok : ajOk ((adler s.data.toList : Nat) : Int) ((adler t.data.toList : Nat) : Int) (t.size : Int) = true := by
    simp only [ajOk, adB_adler, Bool.true_and, inB_true]; omega
  have e : t.data.toList.length = t.size := Array.length_toList
  rw [ajI_yes hok, ajVal_nat, data_append, ← adlerJoin_append, e]

theorem implAdler_none (w : World) : Calls Try.prog 29 #[.string { data := #[] }] w fun e w' => e = .returned (.int .i64 1) ∧ Below w.heap.size w w' := by
  refine (implAdler_any _ w (by unfold maxLen; decide)).mono ?_
  rintro e w' ⟨rfl, hb⟩
  exact ⟨ret_int (by decide +kernel), hb⟩
theorem implAdler_wiki (w : World) : Calls Try.prog 29 #[.string { data := #[87, 105, 107, 105, 112, 101, 100, 105, 97] }] w fun e w' => e = .returned (.int .i64 300286872) ∧ Below w.heap.size w w' := by
  refine (implAdler_any _ w (by unfold maxLen; decide)).mono ?_
  rintro e w' ⟨rfl, hb⟩
  exact ⟨ret_int (by decide +kernel), hb⟩

set_option maxHeartbeats 1600000 in
theorem fnAdler_walk (a : Option Addr) (len cap : Nat) (zs : List Int) (a1 : Option Addr) (len1 cap1 : Nat) (zs1 : List Int) (w : World) (w0 : IsRow .u8 w a len cap zs) (w1 : IsRow .u8 w a1 len1 cap1 zs1) :
    Calls Try.prog 7 #[.slice a len cap, .slice a1 len1 cap1] w fun e w' => e = .returned (.bool true) ∧ Below w.heap.size w w' := by
  obtain ⟨⟨z, hsrc⟩, hc, hm⟩ := src_of w0
  obtain ⟨⟨z1, hsrc1⟩, hc1, hm1⟩ := src_of w1
  have hm' := hide hm
  have hm1' := hide hm1
  unfold maxLen at hm hm1
  clear w0 w1
  by_cases hl : (len : Int) ≤ 1048576
  · by_cases hl1 : (len1 : Int) ≤ 1048576
    · go_enter Try.func7, Try.ntmps7
      go_wp2_with fail
      refine (drawAdler_any a len cap z _ hsrc hc (unhide hm')).mono ?_
      rintro e x1 ⟨⟨s, rfl, hs⟩, hb1⟩
      go_wp2_with fail
      refine (drawAdler_any a1 len1 cap1 z1 _ (hsrc1.later hb1) hc1 (unhide hm1')).mono ?_
      rintro e x2 ⟨⟨t, rfl, ht⟩, hb2⟩
      have hs' := size_max hs (by omega)
      have ht' := size_max ht (by omega)
      have hst : (s ++ t).size ≤ maxLen := by rw [ByteArray.size_append]; unfold maxLen; omega
      have e1 := hide (aj_append s t (by omega))
      generalize hx : ((adler s.data.toList : Nat) : Int) = x at *
      generalize hy : ((adler t.data.toList : Nat) : Int) = y at *
      generalize hxy : ((adler (s ++ t).data.toList : Nat) : Int) = xy at *
      have HX := hide hx
      have HY := hide hy
      have HXY := hide hxy
      clear hx hy hxy
      go_wp2_with fail
      refine (implAdler_any s _ hs').mono ?_
      rintro e x3 ⟨rfl, hb3⟩
      rw [unhide HX]
      go_wp2_with fail
      refine (specAdler_any s _ hs').mono ?_
      rintro e x4 ⟨rfl, rfl⟩
      rw [unhide HX]
      go_wp2_with fail
      refine (implAdler_any t _ ht').mono ?_
      rintro e x5 ⟨rfl, hb5⟩
      rw [unhide HY]
      go_wp2_with fail
      refine (implAdlerJoin_any _ _ _ _).mono ?_
      rintro e x6 ⟨rfl, rfl⟩
      rw [unhide e1]
      go_wp2_with fail
      refine (implAdler_any (s ++ t) _ hst).mono ?_
      rintro e x7 ⟨rfl, hb7⟩
      rw [unhide HXY]
      go_wp2_with fail
      refine (implAdler_none _).mono ?_
      rintro e x8 ⟨rfl, hb8⟩
      go_wp2_with fail
      refine (implAdler_wiki _).mono ?_
      rintro e x9 ⟨rfl, hb9⟩
      go_wp2
      go_ret
      refine ⟨ret_bool (by simp), ?_⟩
      exact bnext (bnext (bnext (bnext (bnext (bnext hb1 hb2) hb3) hb5) hb7) hb8) hb9
    · go_enter Try.func7, Try.ntmps7
      go_wp2
      go_ret
      exact ⟨rfl, Below.refl _ _⟩
  · go_enter Try.func7, Try.ntmps7
    go_wp2
    go_ret
    exact ⟨rfl, Below.refl _ _⟩

set_option maxHeartbeats 1600000 in
theorem fnAdlerThree_walk (a : Option Addr) (len cap : Nat) (zs : List Int) (a1 : Option Addr) (len1 cap1 : Nat) (zs1 : List Int) (w : World) (w0 : IsRow .u8 w a len cap zs) (w1 : IsRow .u8 w a1 len1 cap1 zs1) :
    Calls Try.prog 10 #[.slice a len cap, .slice a1 len1 cap1] w fun e w' => e = .returned (.bool true) ∧ Below w.heap.size w w' := by
  obtain ⟨⟨z, hsrc⟩, hc, hm⟩ := src_of w0
  obtain ⟨⟨z1, hsrc1⟩, hc1, hm1⟩ := src_of w1
  have hm' := hide hm
  have hm1' := hide hm1
  unfold maxLen at hm hm1
  clear w0 w1
  by_cases hl : (len : Int) ≤ 1048576
  · by_cases hl1 : (len1 : Int) ≤ 1048576
    · go_enter Try.func10, Try.ntmps10
      go_wp2_with fail
      refine (drawAdler_any a len cap z _ hsrc hc (unhide hm')).mono ?_
      rintro e x1 ⟨⟨s, rfl, hs⟩, hb1⟩
      go_wp2_with fail
      refine (drawAdler_any a1 len1 cap1 z1 _ (hsrc1.later hb1) hc1 (unhide hm1')).mono ?_
      rintro e x2 ⟨⟨t, rfl, ht⟩, hb2⟩
      have hs' := size_max hs (by omega)
      have ht' := size_max ht (by omega)
      have hsz : (s ++ t ++ s).size ≤ maxLen := by rw [ByteArray.size_append, ByteArray.size_append]; unfold maxLen; omega
      have e1 := hide (aj_append s t (by omega))
      have e2 := hide (aj_append (s ++ t) s (by omega))
      have e3 := hide (aj_append t s (by omega))
      have e4 : Hid (ajI ((adler s.data.toList : Nat) : Int) ((adler (t ++ s).data.toList : Nat) : Int) ((t.size : Int) + (s.size : Int)) = ((adler (s ++ t ++ s).data.toList : Nat) : Int)) := by
        have := aj_append s (t ++ s) (by rw [ByteArray.size_append]; omega)
        rw [ByteArray.size_append] at this
        rw [show (t.size : Int) + (s.size : Int) = ((t.size + s.size : Nat) : Int) by omega, this, data_append, data_append, data_append, data_append, List.append_assoc]
        exact rfl
      generalize hx : ((adler s.data.toList : Nat) : Int) = x at *
      generalize hy : ((adler t.data.toList : Nat) : Int) = y at *
      generalize ((adler (s ++ t).data.toList : Nat) : Int) = xy at *
      generalize ((adler (t ++ s).data.toList : Nat) : Int) = yx at *
      generalize hv : ((adler (s ++ t ++ s).data.toList : Nat) : Int) = v at *
      have HX := hide hx
      have HY := hide hy
      have HV := hide hv
      clear hx hy hv
      go_wp2_with fail
      refine (implAdler_any s _ hs').mono ?_
      rintro e x3 ⟨rfl, hb3⟩
      rw [unhide HX]
      go_wp2_with fail
      refine (implAdler_any t _ ht').mono ?_
      rintro e x4 ⟨rfl, hb4⟩
      rw [unhide HY]
      go_wp2_with fail
      refine (specAdler_any s _ hs').mono ?_
      rintro e x5 ⟨rfl, rfl⟩
      rw [unhide HX]
      go_wp2_with fail
      refine (implAdlerJoin_any _ _ _ _).mono ?_
      rintro e x6 ⟨rfl, rfl⟩
      rw [unhide e1]
      go_wp2_with fail
      refine (implAdlerJoin_any _ _ _ _).mono ?_
      rintro e x7 ⟨rfl, rfl⟩
      rw [unhide e2]
      go_wp2_with fail
      refine (implAdlerJoin_any _ _ _ _).mono ?_
      rintro e x8 ⟨rfl, rfl⟩
      rw [unhide e3]
      go_wp2_with fail
      refine (implAdlerJoin_any _ _ _ _).mono ?_
      rintro e x9 ⟨rfl, rfl⟩
      rw [unhide e4]
      go_wp2_with fail
      refine (implAdler_any (s ++ t ++ s) _ hsz).mono ?_
      rintro e xa ⟨rfl, hba⟩
      rw [unhide HV]
      go_wp2
      go_ret
      refine ⟨ret_bool (by simp), ?_⟩
      exact bnext (bnext (bnext (bnext hb1 hb2) hb3) hb4) hba
    · go_enter Try.func10, Try.ntmps10
      go_wp2
      go_ret
      exact ⟨rfl, Below.refl _ _⟩
  · go_enter Try.func10, Try.ntmps10
    go_wp2
    go_ret
    exact ⟨rfl, Below.refl _ _⟩

theorem ajI_parts (a b n : Int) (h : ajOk a b n = true) : 0 ≤ ajI a b n ∧ ajI a b n ≤ 4294967295 ∧ ajI a b n % 65536 < 65521 ∧ ajI a b n / 65536 < 65521 := by
  rw [ajI_yes h]
  unfold ajVal
  have h1 := Int.emod_lt_of_pos (a / 65536 + b / 65536 + n * (a % 65536 + 65520)) (by omega : (0 : Int) < 65521)
  have h2 := Int.emod_nonneg (a / 65536 + b / 65536 + n * (a % 65536 + 65520)) (by omega : (65521 : Int) ≠ 0)
  generalize (a / 65536 + b / 65536 + n * (a % 65536 + 65520)) % 65521 = p at *
  omega
theorem ajI_one (a b n : Int) (h : ajOk a b n = true) : ajI a 1 0 = a := by
  simp only [ajOk, Bool.and_eq_true] at h
  obtain ⟨ha, _, _⟩ := h
  have ha' := adB_true.1 ha
  have hok : ajOk a 1 0 = true := by
    simp only [ajOk, Bool.and_eq_true]
    exact ⟨ha, by decide, by decide⟩
  rw [ajI_yes hok]
  unfold ajVal
  rw [Int.zero_mul]
  omega

set_option maxHeartbeats 1600000 in
theorem fnAdlerJoin_walk (a : Option Addr) (len cap : Nat) (zs : List Int) (w : World) (w0 : IsRow .u8 w a len cap zs) :
    Calls Try.prog 8 #[.slice a len cap] w fun e w' => e = .returned (.bool true) ∧ Below w.heap.size w w' := by
  obtain ⟨⟨z, hsrc⟩, hc, hm⟩ := src_of w0
  have hm' := hide hm
  unfold maxLen at hm
  clear w0
  by_cases hl : (len : Int) ≤ 1048576
  · go_enter Try.func8, Try.ntmps8
    go_wp2_with fail
    refine (drawAdlerJoin_any a len cap z _ hsrc hc (unhide hm')).mono ?_
    rintro e x1 ⟨⟨p, q, n, rfl⟩, hb1⟩
    go_wp2_with fail
    refine (implAdlerJoin_any p q n _).mono ?_
    rintro e x2 ⟨rfl, rfl⟩
    go_wp2_with fail
    refine (specAdlerJoin_any p q n _).mono ?_
    rintro e x3 ⟨rfl, rfl⟩
    cases hok : ajOk p q n
    · have hn := ajI_no hok
      rw [hn]
      go_wp2_with fail
      refine (specAdlerJoin_any p q n _).mono ?_
      rintro e x4 ⟨rfl, rfl⟩
      rw [hn]
      go_wp2
      go_ret
      exact ⟨rfl, hb1⟩
    · obtain ⟨n0, n1, n2, n3⟩ := ajI_parts p q n hok
      have e1 := hide (ajI_one p q n hok)
      generalize ajI p q n = j at *
      clear hok
      go_wp2_with fail
      refine (implAdlerJoin_any p _ _ _).mono ?_
      rintro e x4 ⟨rfl, rfl⟩
      rw [unhide e1]
      go_wp2
      go_ret
      exact ⟨ret_bool (by simp), hb1⟩
  · go_enter Try.func8, Try.ntmps8
    go_wp2
    go_ret
    exact ⟨rfl, Below.refl _ _⟩

set_option maxHeartbeats 1600000 in
theorem fnAdlerByte_walk (a : Option Addr) (len cap : Nat) (zs : List Int) (w : World) (w0 : IsRow .u8 w a len cap zs) :
    Calls Try.prog 11 #[.slice a len cap] w fun e w' => e = .returned (.bool true) ∧ Below w.heap.size w w' := by
  obtain ⟨⟨z, hsrc⟩, hc, hm⟩ := src_of w0
  have hm' := hide hm
  unfold maxLen at hm
  clear w0
  by_cases hl : (len : Int) ≤ 1048576
  · go_enter Try.func11, Try.ntmps11
    go_wp2_with fail
    refine (drawAdler_any a len cap z _ hsrc hc (unhide hm')).mono ?_
    rintro e x1 ⟨⟨s, rfl, hs⟩, hb1⟩
    have hs' := size_max hs (by omega)
    have hsz : (s ++ (⟨#[65]⟩ : ByteArray)).size ≤ maxLen := by
      rw [ByteArray.size_append]; have : (⟨#[65]⟩ : ByteArray).size = 1 := rfl; unfold maxLen; omega
    obtain ⟨p1, p2⟩ := adler_parts s.data.toList
    obtain ⟨q1, q2⟩ := adler_parts (s ++ (⟨#[65]⟩ : ByteArray)).data.toList
    have b1 := (adler_lt s.data.toList).1
    have b2 := (adler_lt (s ++ (⟨#[65]⟩ : ByteArray)).data.toList).1
    have hd : (s ++ (⟨#[65]⟩ : ByteArray)).data.toList = s.data.toList ++ [65] := by rw [data_append]
    rw [hd, aFold_snoc1] at q1
    rw [hd, aFold_snoc2] at q2
    rw [← p1] at q1 q2
    rw [← p2] at q2
    rw [show (65 : UInt8).toNat = 65 from rfl] at q1 q2
    rw [← hd] at q1 q2
    clear p1 p2 hd
    generalize hx : adler s.data.toList = x at *
    generalize hy : adler (s ++ (⟨#[65]⟩ : ByteArray)).data.toList = y at *
    have HX := hide hx
    have HY := hide hy
    have Q1 : Hid ((y : Int) % 65536 = ((x : Int) % 65536 + 65) % 65521) := by show (y : Int) % 65536 = ((x : Int) % 65536 + 65) % 65521; omega
    have Q2 : Hid ((y : Int) / 65536 = ((x : Int) / 65536 + ((x : Int) % 65536 + 65) % 65521) % 65521) := by show (y : Int) / 65536 = ((x : Int) / 65536 + ((x : Int) % 65536 + 65) % 65521) % 65521; omega
    have b1' : (x : Int) < 4294967296 := by omega
    have b2' : (y : Int) < 4294967296 := by omega
    clear hx hy q1 q2 b1 b2
    go_wp2_with fail
    refine (implAdler_any s _ hs').mono ?_
    rintro e x2 ⟨rfl, hb2⟩
    rw [unhide HX]
    go_wp2_with fail
    refine (specAdler_any s _ hs').mono ?_
    rintro e x3 ⟨rfl, rfl⟩
    rw [unhide HX]
    go_wp2_with fail
    refine (implAdler_any _ _ hsz).mono ?_
    rintro e x4 ⟨rfl, hb4⟩
    rw [unhide HY]
    have hfin := bnext (bnext hb1 hb2) hb4
    have q1 := unhide Q1
    have q2 := unhide Q2
    go_wp2
    go_ret
    exact ⟨rfl, hfin⟩
  · go_enter Try.func11, Try.ntmps11
    go_wp2
    go_ret
    exact ⟨rfl, Below.refl _ _⟩

end Go.Proofs.Yticegedgmbpphaa
