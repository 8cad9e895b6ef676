/- The walk of a law: the first symbols of some are read alone. -/
import Derived.Test.YtnomiopdpmecbaaDl3
import Derived.Test.YtnomiopdpmecbaaSg7
import Derived.Test.YtnomiopdpmecbaaCb1
namespace Go.Proofs.Ytnomiopdpmecbaa
open Go.RowKit Corb

set_option maxHeartbeats 3200000 in
theorem fnSymbolsGet_walk (a : Option Addr) (len cap : Nat) (zs : List Int) (a1 : Option Addr) (len1 cap1 : Nat) (zs1 : List Int) (w : World) (w0 : IsRow .u8 w a len cap zs) (w1 : IsRow .u8 w a1 len1 cap1 zs1) :
    Calls Try.prog 5 #[.slice a len cap, .slice a1 len1 cap1] w fun e w' => e = .returned (.bool true) ∧ Below w.heap.size w w' := by
  obtain ⟨⟨z, hsrc⟩, hc, hm⟩ := src_of w0
  obtain ⟨_, _, hm1⟩ := src_of w1
  have hm' := hide hm
  unfold maxLen at hm hm1
  clear w0 w1
  by_cases hl : (len : Int) ≤ 1048576
  · by_cases hl1 : (len1 : Int) ≤ 1048576
    · go_enter Try.func5, Try.ntmps5
      go_wp2_with fail
      refine (drawSymbolsGet_any a len cap z _ hsrc hc (unhide hm')).mono ?_
      rintro e x1 ⟨⟨l, va, vc, n, s, c, rfl, hn, ho1, hn3, hs, hc0, hc1⟩, hb1⟩
      have HN := hide hn
      have H3 := hide hn3
      have HS := hide hs
      have HR := hide (fun (W : World) (h : Below x1.heap.size x1 W) => (ho1.later h (Nat.le_refl _)).rowN hn)
      obtain ⟨m, hRm⟩ : ∃ m, (sgL l s c).length = m := ⟨_, rfl⟩
      have hm4 : m ≤ 4000 := by rw [← hRm]; exact sgL_len l s c
      have hmI : (m : Int) ≤ 4000 := by omega
      have HM := hide hRm
      have HB1 := hide hb1
      clear hn hn3 hs ho1 hsrc hm hc hRm hb1
      cases hok : sgOk l s c
      · have HIM := hide (implSymbolsGet_n va vc n m l s c _ false x1 (unhide HN) (unhide HR _ (Below.refl _ _)) (by have := unhide H3; omega) (by have := unhide HS; omega) rfl (unhide HM) hok)
        have HSP := hide (fun (W : World) (h : Below x1.heap.size x1 W) => specSymbolsGet_n va vc n m l s c _ false W (unhide HN) (unhide HR _ h) (by have := unhide H3; omega) (by have := unhide HS; omega) rfl (unhide HM) hok)
        clear hok
        go_wp2_with fail
        refine (unhide HIM).mono ?_
        rintro e x2 ⟨ra, rc, rfl, hr2, hb2⟩
        have HR2 := hide (fun (W : World) (h : Below x2.heap.size x2 W) => (hr2.later h (Nat.le_refl _)).rowN (unhide HM))
        have HB2 := hide hb2
        clear hr2 hb2
        go_wp2_with fail
        refine (unhide HSP x2 (unhide HB2)).mono ?_
        rintro e x3 ⟨qa, qc, rfl, hr3, hb3⟩
        have HR3 := hide (fun (W : World) (h : Below x3.heap.size x3 W) => (hr3.later h (Nat.le_refl _)).rowN (unhide HM))
        have HB3 := hide hb3
        clear hr3 hb3
        go_wp2_with fail
        refine (cbInts_n ra qa rc qc m (sgL l s c) x3 (unhide HM) (unhide HR2 _ (unhide HB3)) (unhide HR3 _ (Below.refl _ _)) (by rw [unhide HM]; omega)).mono ?_
        rintro e x4 ⟨rfl, hb4⟩
        have HB4 := hide hb4
        clear hb4
        go_wp2_with fail
        refine (cbInts_n ra qa rc qc m (sgL l s c) x4 (unhide HM) (unhide HR2 _ (bnext (unhide HB3) (unhide HB4))) (unhide HR3 _ (unhide HB4)) (by rw [unhide HM]; omega)).mono ?_
        rintro e x5 ⟨rfl, hb5⟩
        have HB5 := hide hb5
        clear hb5
        go_wp2
        go_ret
        exact ⟨rfl, bnext (unhide HB1) (bnext (unhide HB2) (bnext (unhide HB3) (bnext (unhide HB4) (unhide HB5))))⟩
      · have hcn := (sg_neg hok).1
        obtain ⟨cn, rfl⟩ := Int.eq_ofNat_of_zero_le hcn
        have HF := hide (sg_first hok)
        have hmc : m = cn := by rw [← unhide HM]; exact (unhide HF).1
        subst hmc
        have HIM := hide (implSymbolsGet_n va vc n m l s m _ true x1 (unhide HN) (unhide HR _ (Below.refl _ _)) (by have := unhide H3; omega) (by have := unhide HS; omega) rfl (unhide HM) hok)
        have HSP := hide (fun (W : World) (h : Below x1.heap.size x1 W) => specSymbolsGet_n va vc n m l s m _ true W (unhide HN) (unhide HR _ h) (by have := unhide H3; omega) (by have := unhide HS; omega) rfl (unhide HM) hok)
        clear hok
        go_wp2_with fail
        refine (unhide HIM).mono ?_
        rintro e x2 ⟨ra, rc, rfl, hr2, hb2⟩
        have HO2 := hide (fun (W : World) (h : Below x2.heap.size x2 W) => (hr2.later h (Nat.le_refl _)))
        have HR2 := hide (fun (W : World) (h : Below x2.heap.size x2 W) => (hr2.later h (Nat.le_refl _)).rowN (unhide HM))
        have HB2 := hide hb2
        clear hr2 hb2
        go_wp2_with fail
        refine (unhide HSP x2 (unhide HB2)).mono ?_
        rintro e x3 ⟨qa, qc, rfl, hr3, hb3⟩
        have HR3 := hide (fun (W : World) (h : Below x3.heap.size x3 W) => (hr3.later h (Nat.le_refl _)).rowN (unhide HM))
        have HB3 := hide hb3
        clear hr3 hb3
        go_wp2_with fail
        refine (cbInts_n ra qa rc qc m (sgL l s m) x3 (unhide HM) (unhide HR2 _ (unhide HB3)) (unhide HR3 _ (Below.refl _ _)) (by rw [unhide HM]; omega)).mono ?_
        rintro e x4 ⟨rfl, hb4⟩
        have HB4 := hide (bnext (unhide HB3) hb4)
        clear hb4 HB3 HR3
        go_wp2_with fail
        have hK : ((len1 : Int) % ((m : Int) + 1)) = ((len1 % (m + 1) : Nat) : Int) := by simp
        have hk : len1 % (m + 1) ≤ m := by have := Nat.mod_lt len1 (show 0 < m + 1 by omega); omega
        rw [hK]
        clear hK
        generalize len1 % (m + 1) = k at *
        have hkI : (k : Int) ≤ (m : Int) := by omega
        obtain ⟨hk1, hk2⟩ := (unhide HF).2.2 k hk
        have hlk : Hid (((sgL l s m).take k).length = k) := by show ((sgL l s m).take k).length = k; rw [List.length_take, unhide HM]; omega
        refine (implSymbolsGet_n va vc n k l s k ((sgL l s m).take k) true x4 (unhide HN) (unhide HR _ (bnext (unhide HB2) (unhide HB4))) (by have := unhide H3; omega) (by have := unhide HS; omega) hk2 (unhide hlk) hk1).mono ?_
        rintro e x5 ⟨ka, kc, rfl, hr5, hb5⟩
        have HR5 := hide (fun (W : World) (h : Below x5.heap.size x5 W) => (hr5.later h (Nat.le_refl _)).rowN (unhide hlk))
        have HB5 := hide (bnext (unhide HB4) hb5)
        clear hr5 hb5 HB4 hk1 hk2
        have hrc : m ≤ rc := by
          rcases (unhide HO2 x2 (Below.refl _ _)).2 with ⟨e, h0⟩ | ⟨g, c', cur, e, _, _, hle, _⟩
          · simp only [Value.slice.injEq] at e; omega
          · simp only [Value.slice.injEq] at e; rw [unhide HM] at hle; omega
        have hrcI : (m : Int) ≤ (rc : Int) := by omega
        go_wp2_with fail
        go_loopw [15] (fun i wr => ∃ j : Nat, j ≤ m ∧ i = .int .i64 j ∧ Below x5.heap.size x5 wr) (fun i _ => m - (intOf i).toNat)
        case atStart => exact ⟨0, Nat.zero_le _, rfl, Below.refl _ _⟩
        case round =>
          obtain ⟨j, hj, rfl, hbel⟩ := hrel
          have HJ := hide hj
          have hB2r := hide (bnext (unhide HB5) hbel)
          clear hj
          by_cases hlt : j < m
          · have hltI : (j : Int) < (m : Int) := by omega
            have hj0 : (0 : Int) ≤ (j : Int) := by omega
            obtain ⟨g, o, rfl, hg, hcc⟩ := unhide HR2 wr (unhide hB2r) (by rw [unhide HM]; omega)
            have c0 := hcc j (by rw [unhide HM]; exact hlt)
            obtain ⟨y0, y1, y2⟩ := (unhide HF).2.1 ((sgL l s m).getD j 0) (by have := unhide HM; simp [List.getD, show j < (sgL l s m).length by omega])
            clear hcc
            generalize (sgL l s m).getD j 0 = y at *
            obtain ⟨q, rfl⟩ := Int.eq_ofNat_of_zero_le y0
            rw [unhide HN] at y1
            rw [Int.toNat_natCast] at y2
            obtain ⟨g2, o2, rfl, hg2, hcc2⟩ := unhide HR wr (bnext (unhide HB2) (unhide hB2r)) (by rw [unhide HN]; omega)
            have c1 := hcc2 q (by rw [unhide HN]; omega)
            clear hcc2
            generalize l.getD q 0 = x at *
            have hx : (x == 0) = false := by simp; omega
            go_wp2
            go_roundw
            case rel => exact ⟨j + 1, by omega, by go_num, hbel⟩
            case measure => simp [intOf]; omega
          · have hltI : ¬ (j : Int) < (m : Int) := by omega
            go_wp2_with fail
            refine (cbInts_n ka ra kc rc k ((sgL l s m).take k) wr (unhide hlk) (unhide HR5 _ hbel) ((unhide HR2 _ (unhide hB2r)).take k) (by rw [unhide hlk]; omega)).mono ?_
            rintro e x6 ⟨rfl, hb6⟩
            have HB6 := hide hb6
            clear hb6
            go_wp2
            go_ret
            exact ⟨rfl, bnext (unhide HB1) (bnext (unhide HB2) (bnext (unhide hB2r) (unhide HB6)))⟩
    · go_enter Try.func5, Try.ntmps5
      clear hsrc
      go_wp2
      go_ret
      exact ⟨rfl, Below.refl _ _⟩
  · go_enter Try.func5, Try.ntmps5
    clear hsrc
    go_wp2
    go_ret
    exact ⟨rfl, Below.refl _ _⟩

end Go.Proofs.Ytnomiopdpmecbaa
