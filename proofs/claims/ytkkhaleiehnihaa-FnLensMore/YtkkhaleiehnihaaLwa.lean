/- Walks of laws: what comes more often has no longer code; counts that are twice as great. -/
import Derived.Test.YtkkhaleiehnihaaLw9
namespace Go.Proofs.Ytkkhaleiehnihaa
open Go.RowKit Corb

set_option maxHeartbeats 3200000 in
theorem fnLensMore_walk (a : Option Addr) (len cap : Nat) (zs : List Int) (w : World) (w0 : IsRow .u8 w a len cap zs) :
    Calls Try.prog 5 #[.slice a len cap] w fun e w' => e = .returned (.bool true) ∧ Below w.heap.size w w' := by
  obtain ⟨⟨z, hsrc⟩, hc, hm⟩ := src_of w0
  have hm' := hide hm
  unfold maxLen at hm
  clear w0
  by_cases hl : (len : Int) ≤ 1048576
  · obtain ⟨i0, hi, hz0, hz1, hz2⟩ := info_parts Try.infoInt
    go_enter Try.func5, Try.ntmps5
    go_wp2_with fail
    refine (drawLensOf_any a len cap z _ hsrc hc (unhide hm')).mono ?_
    rintro e x1 ⟨⟨l, va, vc, n, mo, rfl, hn, ho1, hn1, hn13, hmo0, hmo1⟩, hb1⟩
    have HN := hide (And.intro hn (And.intro hn1 hn13))
    have hnI : (n : Int) ≤ 13 := by omega
    have HR := hide (fun (W : World) (h : Below x1.heap.size x1 W) => (ho1.later h (Nat.le_refl _)).rowN hn)
    obtain ⟨R, hRe⟩ : ∃ R, lensOfL l 15 = R := ⟨_, rfl⟩
    obtain ⟨q, hq⟩ : ∃ q, R.length = q := ⟨_, rfl⟩
    have hqb := lensOfL_len l 15
    rw [hRe, hq] at hqb
    have hqI : (q : Int) ≤ 300 := by omega
    have HIM := hide (implLens_n va vc n q l R 15 x1 hn (unhide HR x1 (Below.refl _ _)) (by omega) hRe hq)
    have HSP := hide (fun (W : World) (h : Below x1.heap.size x1 W) => specLens_n va vc n q l R 15 W hn (unhide HR W h) (by omega) hRe hq)
    have HQ := hide (And.intro hRe (And.intro hq hqb))
    have HB1 := hide hb1
    clear hn hn1 hn13 ho1 hsrc hm hc hRe hq hqb hb1 hmo0 hmo1
    go_wp2_with fail
    refine (unhide HIM).mono ?_
    rintro e x2 ⟨ra, rc, rfl, hr2, hb2⟩
    go_wp2_with fail
    refine (unhide HSP x2 hb2).mono ?_
    rintro e x3 ⟨sa, sc, rfl, hs3, hb3⟩
    have hr3 := hr2.later hb3 (Nat.le_refl _)
    have hB3 := bnext hb2 hb3
    go_wp2_with fail
    refine (cbInts_n _ _ _ _ q R _ (unhide HQ).2.1 (hr3.rowN (unhide HQ).2.1) (hs3.rowN (unhide HQ).2.1) (by have := (unhide HQ).2; omega)).mono ?_
    rintro e x4 ⟨rfl, hb4⟩
    have hr4 := hr3.later hb4 (Nat.le_refl _)
    have hB4 := bnext hB3 hb4
    clear hr2 hb2 hs3 hb3 hr3 hb4 hB3 HIM
    by_cases h0 : q = 0
    · subst h0
      go_wp2_with fail
      refine (unhide HSP x4 hB4).mono ?_
      rintro e x5 ⟨ta, tc, rfl, ht5, hb5⟩
      have hr5 := hr4.later hb5 (Nat.le_refl _)
      go_wp2_with fail
      refine (cbInts_n _ _ _ _ 0 R _ (unhide HQ).2.1 (hr5.rowN (unhide HQ).2.1) (ht5.rowN (unhide HQ).2.1) (by have := (unhide HQ).2; omega)).mono ?_
      rintro e x6 ⟨rfl, hb6⟩
      go_wp2
      go_ret
      exact ⟨rfl, bnext (unhide HB1) (bnext (bnext hB4 hb5) hb6)⟩
    · have h0I : ((q : Int) == 0) = false := by simp; omega
      rcases lens_say l 15 with hno | ⟨m, hm15, hm14, hfit, hok, hl3, hs1, hsU⟩
      · exfalso
        rw [(unhide HQ).1] at hno
        have := (unhide HQ).2.1
        rw [hno] at this
        simp at this
        omega
      · have hqn : q = n := by
          have h1 := (lens_law hok hl3 hs1 hsU hm14).1
          rw [← hm15, ← hfit, (unhide HQ).1] at h1
          have := (unhide HQ).2.1
          have := (unhide HN).1
          omega
        subst hqn
        have hRh : R = hufL l := by rw [← (unhide HQ).1, hfit, fit_few hok hs1 (by have := (unhide HN).1; omega)]
        have hpos := (lens_law hok hl3 hs1 hsU hm14).2.2
        rw [← hm15, ← hfit, (unhide HQ).1] at hpos
        have HH := hide (And.intro hRh (And.intro hok (And.intro hs1 hpos)))
        have hrow := hide (And.intro (hr4.rowN (unhide HQ).2.1) (unhide HR x4 hB4))
        have HB4 := hide hB4
        clear hr4 hB4 hfit hok hl3 hs1 hsU HSP hRh hpos hm15 hm14
        have hus : Hid (us R = us l) := by
          show us R = us l
          have h1 := (kr_list (l := l) (o := R) (by have := (unhide HQ).2.1; have := (unhide HN).1; omega) (fun i hi => ((unhide HH).2.2.2 i hi).2.2) l.length (Nat.le_refl _)).2
          rw [List.take_of_length_le (by have := (unhide HQ).2.1; have := (unhide HN).1; omega)] at h1
          rw [h1, seed_usL]
        clear hi hz0 hz1 hz2
        go_wp2_with fail
        go_loopw [6, 7] (fun i _ wr => ∃ k : Nat, k ≤ q ∧ i = .int .i64 k ∧ Below x4.heap.size x4 wr) (fun i _ _ => q - (intOf i).toNat)
        case atStart => exact ⟨0, Nat.zero_le _, rfl, Below.refl _ _⟩
        case round =>
          obtain ⟨k, hk, rfl, hbr⟩ := hrel
          have HK := hide hk
          have hltK : Hid (q - (intOf (.int .i64 (k : Int))).toNat = q - k) := by show _ = _; simp [intOf]
          by_cases hlt : k < q
          · have hltI : (k : Int) < (q : Int) := by omega
            have HBR := hide hbr
            clear hk hbr
            go_wp2_with fail
            go_loopw [7] (fun i wr => ∃ j : Nat, j ≤ q ∧ i = .int .i64 j ∧ Below x4.heap.size x4 wr) (fun i _ => q - (intOf i).toNat)
            case atStart => exact ⟨0, Nat.zero_le _, rfl, unhide HBR⟩
            case round =>
              obtain ⟨j, hj, rfl, hbr⟩ := hrel
              have HJ := hide hj
              by_cases hltj : j < q
              · obtain ⟨g1, o1, rfl, hg1, hc1⟩ := ((unhide hrow).1.later hbr) (by rw [(unhide HQ).2.1]; omega)
                obtain ⟨g2, o2, rfl, hg2, hc2⟩ := ((unhide hrow).2.later hbr) (by rw [(unhide HN).1]; omega)
                have c0 := hc1 k (by rw [(unhide HQ).2.1]; exact hlt)
                have c1 := hc1 j (by rw [(unhide HQ).2.1]; exact hltj)
                have d0 := hc2 k (by rw [(unhide HN).1]; exact hlt)
                have d1 := hc2 j (by rw [(unhide HN).1]; exact hltj)
                have hlaw : Hid (l.getD j 0 < l.getD k 0 → 0 < l.getD j 0 → R.getD k 0 ≤ R.getD j 0) := by
                  intro h1 h2
                  obtain ⟨e1, e2, e3, _⟩ := unhide HH
                  rw [e1]
                  exact more_law e2 e3 (by rw [(unhide HN).1]; exact hlt) (by rw [(unhide HN).1]; exact hltj) h1 h2
                clear hc1 hc2 hj
                generalize R.getD k 0 = xk at *
                generalize R.getD j 0 = xj at *
                generalize l.getD k 0 = yk at *
                generalize l.getD j 0 = yj at *
                by_cases h1 : yj < yk
                · have e1 : decide (yj < yk) = true := decide_eq_true h1
                  by_cases h2 : 0 < yj
                  · have e2 : decide (0 < yj) = true := decide_eq_true h2
                    have e3 : decide (xj < xk) = false := decide_eq_false (by have := unhide hlaw h1 h2; omega)
                    go_wp2_with fail
                    go_quiet (fail)
                    go_wp2
                    go_roundw
                    case rel => exact ⟨j + 1, by have := unhide HJ; omega, by go_num, below_drewN hbr _⟩
                    case measure => simp [intOf]; omega
                  · have e2 : decide (0 < yj) = false := decide_eq_false h2
                    go_wp2_with fail
                    go_quiet (fail)
                    go_wp2
                    go_roundw
                    case rel => exact ⟨j + 1, by have := unhide HJ; omega, by go_num, below_drewN hbr _⟩
                    case measure => simp [intOf]; omega
                · have e1 : decide (yj < yk) = false := decide_eq_false h1
                  go_wp2_with fail
                  go_quiet (fail)
                  go_wp2
                  go_roundw
                  case rel => exact ⟨j + 1, by have := unhide HJ; omega, by go_num, below_drewN hbr _⟩
                  case measure => simp [intOf]; omega
              · go_wp2_with fail
                go_roundw
                case rel => exact ⟨k + 1, by have := unhide HK; omega, by go_num, hbr⟩
                case measure => simp [intOf]; omega
          · have HU1 := hide (cbUsed_any ra rc q R wr (unhide HQ).2.1 ((unhide hrow).1.later hbr) (by have := (unhide HQ).2.2; omega))
            have HU2 := hide (cbUsed_any va vc q l wr (unhide HN).1 ((unhide hrow).2.later hbr) (by have := (unhide HQ).2.2; omega))
            rw [unhide hus] at HU1
            generalize us l = U at *
            go_wp2_with fail
            refine (unhide HU1).mono ?_
            rintro e y1 ⟨rfl, hy1⟩
            rw [hy1]
            clear hy1 y1
            go_wp2_with fail
            refine (unhide HU2).mono ?_
            rintro e y1 ⟨rfl, hy1⟩
            rw [hy1]
            clear hy1 y1
            go_wp2
            go_ret
            exact ⟨rfl, bnext (unhide HB1) (bnext (unhide HB4) hbr)⟩
  · go_enter Try.func5, Try.ntmps5
    go_wp2
    go_ret
    exact ⟨rfl, Below.refl _ _⟩

end Go.Proofs.Ytkkhaleiehnihaa
