/- The walk of a law: symbols are read back from their codes. -/
import Derived.Test.YtnomiopdpmecbaaM9
import Derived.Test.YtnomiopdpmecbaaM8
import Derived.Test.YtnomiopdpmecbaaCp1
import Derived.Test.YtnomiopdpmecbaaM5
import Derived.Test.YtnomiopdpmecbaaSb1
import Derived.Test.YtnomiopdpmecbaaM12
namespace Go.Proofs.Ytnomiopdpmecbaa
open Go.RowKit Corb

theorem symPut_all {l t : List Int} (h : (symPut l t).length = t.length) : t.all (hasS l) = true := by
  cases ha : t.all (hasS l)
  · rw [symPut_no2 ha] at h
    have : t = [] := List.eq_nil_of_length_eq_zero h.symm
    subst this
    simp at ha
  · rfl
theorem symP_lOk {l t : List Int} (hok : lensOk l = true) (ht : t.all (hasS l) = true) (h : t.length ≤ 4000) : lOk (symP l t) = true := by
  simp only [lOk, symP_ok hok ht, Bool.true_and, decide_eq_true_iff]
  rw [symP_len]; exact h
theorem sg_put {l t : List Int} (hok : lensOk l = true) (ht : t.all (hasS l) = true) (h : t.length ≤ 4000) : sgOk l ⟨(putS (symP l t)).toArray⟩ (t.length : Int) = true ∧ sgL l ⟨(putS (symP l t)).toArray⟩ (t.length : Int) = t := by
  have hl := symP_lOk hok ht h
  have hV : numB ⟨(putS (symP l t)).toArray⟩ = (valP (symP l t)).1 := by
    show valB (putS (symP l t)).toArray.toList = _
    rw [List.toList_toArray]; exact valB_put hl
  have hsz : sumN (bitsOf (symP l t)) ≤ 8 * (⟨(putS (symP l t)).toArray⟩ : ByteArray).size := by
    have e : (⟨(putS (symP l t)).toArray⟩ : ByteArray).size = (putS (symP l t)).length := by simp [ByteArray.size]
    rw [e, putS_len' hl]; omega
  have hd := decs_put hok ht hV hsz t.length (Nat.le_refl _)
  rw [List.take_length] at hd
  exact sg_yes hok (inB_true.2 (by omega)) (by rw [Int.toNat_natCast]; exact hd)
theorem sum_sym {l t : List Int} (k : Nat) (h : k < t.length) : sumBits (symP l (t.take (k + 1))) = sumBits (symP l (t.take k)) + l.getD (t.getD k 0).toNat 0 := by
  rw [symP_take l t k h]
  simp [sumBits, pcOf]
theorem sum_sym_bd {l t : List Int} (hok : lensOk l = true) (ht : t.all (hasS l) = true) (k : Nat) : 0 ≤ sumBits (symP l (t.take k)) ∧ sumBits (symP l (t.take k)) ≤ 16 * (t.length : Int) := by
  have h1 : (t.take k).all (hasS l) = true := by
    rw [List.all_eq_true] at ht ⊢
    exact fun x hx => ht x (List.mem_of_mem_take hx)
  have h2 := sum_bd (symP_ok hok h1)
  rw [symP_len] at h2
  have h3 : (t.take k).length ≤ t.length := by simp; omega
  omega

set_option maxHeartbeats 3200000 in
theorem fnSymbols_walk (a : Option Addr) (len cap : Nat) (zs : List Int) (w : World) (w0 : IsRow .u8 w a len cap zs) :
    Calls Try.prog 3 #[.slice a len cap] w fun e w' => e = .returned (.bool true) ∧ Below w.heap.size w w' := by
  obtain ⟨⟨z, hsrc⟩, hc, hm⟩ := src_of w0
  have hm' := hide hm
  unfold maxLen at hm
  clear w0
  by_cases hl : (len : Int) ≤ 1048576
  · go_enter Try.func3, Try.ntmps3
    go_wp2_with fail
    refine (drawSymbolsPut_any a len cap z _ hsrc hc (unhide hm')).mono ?_
    rintro e x1 ⟨⟨l, t, va, ta, vc, n, tc, k, rfl, hn, ho1, hn3, hk, ht1, hk12⟩, hb1⟩
    have HN := hide hn
    have HKn := hide hk
    have H3 := hide hn3
    have H12 := hide hk12
    have hkI : (k : Int) ≤ 12 := by omega
    have HR := hide (fun (W : World) (h : Below x1.heap.size x1 W) => (ho1.later h (Nat.le_refl _)).rowN hn)
    have HTR := hide (fun (W : World) (h : Below x1.heap.size x1 W) => (ht1.later h (Nat.le_refl _)).rowN hk)
    obtain ⟨q, hq⟩ : ∃ q, (symPut l t).length = q := ⟨_, rfl⟩
    have hqk : q ≤ k := by rw [← hq, ← hk]; exact symPut_len l t
    have hqI : (q : Int) ≤ 12 := by omega
    have HQ := hide hq
    have HIM := hide (implSymbolsPut_n va ta vc tc n k q l t _ x1 hn (unhide HR _ (Below.refl _ _)) (by omega) hk (unhide HTR _ (Below.refl _ _)) (by omega) rfl hq)
    have HSP := hide (fun (W : World) (h : Below x1.heap.size x1 W) => specSymbolsPut_n va ta vc tc n k q l t _ W hn (unhide HR _ h) (by omega) hk (unhide HTR _ h) (by omega) rfl hq)
    have HLO := hide (fun (W : World) (h : Below x1.heap.size x1 W) => implLensOk_any va vc n l W hn (unhide HR _ h) (by omega))
    have Hqk := hide hqk
    have HB1 := hide hb1
    clear hn hn3 ho1 ht1 hk hk12 hsrc hm hc hq hqk hb1
    go_wp2_with fail
    refine (unhide HIM).mono ?_
    rintro e x2 ⟨pa, pc, rfl, hp2, hb2⟩
    have HP := hide (fun (W : World) (h : Below x2.heap.size x2 W) => hp2.later h (Nat.le_refl _))
    have HB2 := hide hb2
    clear hp2 hb2 HIM
    go_wp2_with fail
    refine (unhide HSP x2 (unhide HB2)).mono ?_
    rintro e x3 ⟨sa, sc, rfl, hp3, hb3⟩
    have HP3 := hide hp3
    have HB3 := hide hb3
    clear hp3 hb3
    go_wp2_with fail
    refine (cbPieces_n pa sa pc sc q (symPut l t) x3 (unhide HQ) ((unhide HP _ (unhide HB3)).rowN (unhide HQ)) ((unhide HP3).rowN (unhide HQ)) (by have := unhide Hqk; have := unhide H12; omega)).mono ?_
    rintro e x4 ⟨rfl, hb4⟩
    have HB4 := hide (bnext (unhide HB3) hb4)
    clear hb4 HP3 HB3
    have HTAIL : Hid (∀ (W : World), Below x2.heap.size x2 W → Calls Try.prog 9 #[.slice va n vc, .slice ta k tc] W fun e w' => ∃ sa sc, e = .returned (.slice sa q sc) ∧ (Calls Try.prog 8 #[.slice pa q pc, .slice sa q sc] w' fun e w'' => e = .returned (.bool true) ∧ Below w'.heap.size w' w'') ∧ Below W.heap.size W w') := by
      intro W hW
      refine (unhide HSP W (bnext (unhide HB2) hW)).mono ?_
      rintro e w' ⟨sa, sc, he, hp, hb⟩
      exact ⟨sa, sc, he, cbPieces_n pa sa pc sc q (symPut l t) w' (unhide HQ) ((unhide HP _ (bnext hW hb)).rowN (unhide HQ)) (hp.rowN (unhide HQ)) (by have := unhide Hqk; have := unhide H12; omega), hb⟩
    by_cases hqk : q = k
    · subst hqk
      cases hok : lensOk l
      · go_wp2_with fail
        refine (unhide HLO x4 (bnext (unhide HB2) (unhide HB4))).mono ?_
        rintro e y4 ⟨rfl, hy4⟩
        rw [hy4, hok]
        clear hy4 y4
        go_wp2_with fail
        refine (unhide HTAIL x4 (unhide HB4)).mono ?_
        rintro e x5 ⟨sa, sc, rfl, hcb, hb5⟩
        have HB5 := hide hb5
        have HCB := hide hcb
        clear hb5 hcb
        go_wp2_with fail
        refine (unhide HCB).mono ?_
        rintro e x6 ⟨rfl, hb6⟩
        have HB6 := hide hb6
        clear hb6
        go_wp2
        go_ret
        exact ⟨rfl, bnext (unhide HB1) (bnext (unhide HB2) (bnext (unhide HB4) (bnext (unhide HB5) (unhide HB6))))⟩
      · have hall := symPut_all ((unhide HQ).trans (unhide HKn).symm)
        have HA := hide hall
        have HOK := hide hok
        have HSY := hide (symPut_yes hok hall)
        clear hall
        go_wp2_with fail
        refine (unhide HLO x4 (bnext (unhide HB2) (unhide HB4))).mono ?_
        rintro e y4 ⟨rfl, hy4⟩
        rw [hy4, hok]
        clear hy4 y4 HTAIL hok
        go_wp2_with fail
        go_loopw [6, 7] (fun s i wr => ∃ j : Nat, j ≤ q ∧ i = .int .i64 j ∧ s = .int .i64 (sumBits (symP l (t.take j))) ∧ Below x4.heap.size x4 wr) (fun _ i _ => q - (intOf i).toNat)
        case atStart => exact ⟨0, Nat.zero_le _, rfl, rfl, Below.refl _ _⟩
        case round =>
          obtain ⟨j, hj, rfl, rfl, hbel⟩ := hrel
          have HJ := hide hj
          have hB2r := hide (bnext (unhide HB4) hbel)
          have hB1r := hide (bnext (unhide HB2) (unhide hB2r))
          clear hj
          obtain ⟨s0, s1⟩ := sum_sym_bd (unhide HOK) (unhide HA) j
          rw [unhide HKn] at s1
          by_cases hlt : j < q
          · have hltI : (j : Int) < (q : Int) := by omega
            have hj0 : (0 : Int) ≤ (j : Int) := by omega
            have hst := hide (sum_sym (l := l) (t := t) j (by rw [unhide HKn]; exact hlt))
            obtain ⟨g, o, rfl, hg, hcc⟩ := unhide HTR wr (unhide hB1r) (by rw [unhide HKn]; omega)
            have c0 := hcc j (by rw [unhide HKn]; exact hlt)
            obtain ⟨y0, y1, y2⟩ := hasS_true (List.all_eq_true.1 (unhide HA) (t.getD j 0) (by have := unhide HKn; simp [List.getD, show j < t.length by omega]))
            clear hcc
            generalize t.getD j 0 = y at *
            obtain ⟨r, rfl⟩ := Int.eq_ofNat_of_zero_le y0
            rw [unhide HN] at y1
            rw [Int.toNat_natCast] at y2 hst
            have hb15 := (inL_bd (lensOk_in (unhide HOK)) (i := r) (by rw [unhide HN]; omega)).2
            obtain ⟨g2, o2, rfl, hg2, hcc2⟩ := unhide HR wr (unhide hB1r) (by rw [unhide HN]; omega)
            have c1 := hcc2 r (by rw [unhide HN]; omega)
            clear hcc2
            generalize l.getD r 0 = x at *
            generalize sumBits (symP l (t.take j)) = S at *
            go_wp2
            go_roundw
            case rel => exact ⟨j + 1, by omega, by go_num, by rw [unhide hst], hbel⟩
            case measure => simp [intOf]; omega
          · have hltI : ¬ (j : Int) < (q : Int) := by omega
            have hjq : j = q := by have := unhide HJ; omega
            have htk : t.take j = t := List.take_of_length_le (by rw [unhide HKn]; omega)
            rw [htk, ← unhide HSY]
            rw [htk, ← unhide HSY] at s0 s1
            have hlk := hide (symP_lOk (unhide HOK) (unhide HA) (by rw [unhide HKn]; have := unhide H12; omega))
            have HSG := hide (sg_put (unhide HOK) (unhide HA) (by rw [unhide HKn]; have := unhide H12; omega))
            have HSZ := hide (putS_len (symPut l t) (by rw [unhide HQ]; have := unhide H12; omega))
            have HLG := hide (longI_yes (unhide hlk))
            rw [unhide HKn, ← unhide HSY] at HSG
            rw [← unhide HSY] at HLG
            clear htk hjq
            go_wp2_with fail
            refine (implBitsPut_n pa pc q (symPut l t) wr (unhide HQ) ((unhide HP _ (unhide hB2r)).rowN (unhide HQ)) (by have := unhide H12; omega)).mono ?_
            rintro e x5 ⟨rfl, hb5⟩
            have HB5 := hide (bnext (unhide hB2r) hb5)
            clear hb5
            have hsz : Hid ((⟨(putS (symPut l t)).toArray⟩ : ByteArray).size ≤ 2000000) := by
              show _ ≤ _
              have := unhide HSZ
              have e : (⟨(putS (symPut l t)).toArray⟩ : ByteArray).size = (putS (symPut l t)).length := by simp [ByteArray.size]
              omega
            generalize (⟨(putS (symPut l t)).toArray⟩ : ByteArray) = B at *
            go_wp2_with fail
            refine (implSymbolsGet_n va vc n q l B q t true x5 (unhide HN) (unhide HR _ (bnext (unhide HB2) (unhide HB5))) (by have := unhide H3; omega) (unhide hsz) (unhide HSG).2 (unhide HKn) (unhide HSG).1).mono ?_
            rintro e x6 ⟨ya, yc, rfl, ho6, hb6⟩
            have HO6 := hide (ho6.rowN (unhide HKn))
            have HB6 := hide (bnext (unhide HB5) hb6)
            clear ho6 hb6
            go_wp2_with fail
            refine (cbInts_n ya ta yc tc q t x6 (unhide HKn) (unhide HO6) (unhide HTR _ (bnext (unhide HB2) (unhide HB6))) (by rw [unhide HKn]; have := unhide H12; omega)).mono ?_
            rintro e x7 ⟨rfl, hb7⟩
            have HB7 := hide (bnext (unhide HB6) hb7)
            clear hb7
            go_wp2_with fail
            refine (implBitsLong_n pa pc q (symPut l t) x7 (unhide HQ) ((unhide HP _ (unhide HB7)).rowN (unhide HQ)) (by have := unhide H12; omega)).mono ?_
            rintro e x8 ⟨rfl, hb8⟩
            have HB8 := hide (bnext (unhide HB7) hb8)
            clear hb8
            rw [unhide HLG]
            generalize sumBits (symPut l t) = S at *
            go_wp2
            go_ret
            exact ⟨rfl, bnext (unhide HB1) (bnext (unhide HB2) (unhide HB8))⟩
    · have hne : ((q : Int) == (k : Int)) = false := by simp; omega
      go_wp2_with fail
      refine (unhide HTAIL x4 (unhide HB4)).mono ?_
      rintro e x5 ⟨sa, sc, rfl, hcb, hb5⟩
      have HB5 := hide hb5
      have HCB := hide hcb
      clear hb5 hcb
      go_wp2_with fail
      refine (unhide HCB).mono ?_
      rintro e x6 ⟨rfl, hb6⟩
      have HB6 := hide hb6
      clear hb6
      go_wp2
      go_ret
      exact ⟨rfl, bnext (unhide HB1) (bnext (unhide HB2) (bnext (unhide HB4) (bnext (unhide HB5) (unhide HB6))))⟩
  · go_enter Try.func3, Try.ntmps3
    clear hsrc
    go_wp2
    go_ret
    exact ⟨rfl, Below.refl _ _⟩

end Go.Proofs.Ytnomiopdpmecbaa
