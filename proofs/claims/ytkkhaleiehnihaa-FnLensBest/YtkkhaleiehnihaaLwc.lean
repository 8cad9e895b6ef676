/- The walk of a law: no other lengths are better. -/
import Derived.Test.YtkkhaleiehnihaaLw9
namespace Go.Proofs.Ytkkhaleiehnihaa
open Go.RowKit Corb

theorem mul_bd {a b : Int} (a0 : 0 ≤ a) (a1 : a ≤ 100000) (b0 : 0 ≤ b) (b1 : b ≤ 15) : 0 ≤ a * b ∧ a * b ≤ 1500000 := by
  refine ⟨Int.mul_nonneg a0 b0, ?_⟩
  have h1 : a * b ≤ 100000 * b := Int.mul_le_mul_of_nonneg_right a1 b0
  omega
theorem dot_bound (l R : List Int) (f k : Nat) (hl : ∀ i, i < k → 0 ≤ l.getD i 0 ∧ l.getD i 0 ≤ 100000) (hR : ∀ i, i < k → 0 ≤ R.getD i 0 ∧ R.getD i 0 ≤ 15) (hf : f ≤ 15) : (0 ≤ dotL l R k ∧ dotL l R k ≤ 1500000 * (k : Int)) ∧ (0 ≤ dotR l (fun _ => f) k ∧ dotR l (fun _ => f) k ≤ 1500000 * (k : Int)) := by
  induction k with
  | zero => exact ⟨⟨Int.le_refl _, Int.le_refl _⟩, ⟨Int.le_refl _, Int.le_refl _⟩⟩
  | succ k ih =>
    obtain ⟨⟨h1, h2⟩, h3, h4⟩ := ih (fun i hi => hl i (by omega)) (fun i hi => hR i (by omega))
    obtain ⟨a0, a1⟩ := hl k (by omega)
    obtain ⟨b0, b1⟩ := hR k (by omega)
    have m1 := mul_bd a0 a1 b0 b1
    have m2 := mul_bd (b := (f : Int)) a0 a1 (by omega) (by omega)
    simp only [dotL, dotR]
    omega

set_option maxHeartbeats 3200000 in
theorem fnLensBest_walk (a : Option Addr) (len cap : Nat) (zs : List Int) (w : World) (w0 : IsRow .u8 w a len cap zs) :
    Calls Try.prog 8 #[.slice a len cap] w fun e w' => e = .returned (.bool true) ∧ Below w.heap.size w w' := by
  obtain ⟨⟨z, hsrc⟩, hc, hm⟩ := src_of w0
  have hm' := hide hm
  unfold maxLen at hm
  clear w0
  by_cases hl : (len : Int) ≤ 1048576
  · obtain ⟨i0, hi, hz0, hz1, hz2⟩ := info_parts Try.infoInt
    go_enter Try.func8, Try.ntmps8
    go_wp2_with fail
    refine (drawLensOf_any a len cap z _ hsrc hc (unhide hm')).mono ?_
    rintro e x1 ⟨⟨l, va, vc, n, mo, rfl, hn, ho1, hn1, hn13, hmo0, hmo1⟩, hb1⟩
    have HN := hide (And.intro hn (And.intro hn1 hn13))
    have hnI : (n : Int) ≤ 13 := by omega
    have HR := hide (fun (W : World) (h : Below x1.heap.size x1 W) => (ho1.later h (Nat.le_refl _)).rowN hn)
    obtain ⟨R, hRe⟩ : ∃ R, lensOfL l 15 = R := ⟨_, rfl⟩
    obtain ⟨q, hq⟩ : ∃ q, R.length = q := ⟨_, rfl⟩
    have hqb := lensOfL_len l 15
    rw [hRe, hq] at hqb
    have hqI : (q : Int) ≤ 300 := by omega
    have HIM := hide (implLens_n va vc n q l R 15 x1 hn (unhide HR x1 (Below.refl _ _)) (by omega) hRe hq)
    have HSP := hide (fun (W : World) (h : Below x1.heap.size x1 W) => specLens_n va vc n q l R 15 W hn (unhide HR W h) (by omega) hRe hq)
    have HQ := hide (And.intro hRe (And.intro hq hqb))
    have HB1 := hide hb1
    clear hn hn1 hn13 ho1 hsrc hm hc hRe hq hqb hb1 hmo0 hmo1
    go_wp2_with fail
    refine (unhide HIM).mono ?_
    rintro e x2 ⟨ra, rc, rfl, hr2, hb2⟩
    go_wp2_with fail
    refine (unhide HSP x2 hb2).mono ?_
    rintro e x3 ⟨sa, sc, rfl, hs3, hb3⟩
    have hr3 := hr2.later hb3 (Nat.le_refl _)
    have hB3 := bnext hb2 hb3
    go_wp2_with fail
    refine (cbInts_n _ _ _ _ q R _ (unhide HQ).2.1 (hr3.rowN (unhide HQ).2.1) (hs3.rowN (unhide HQ).2.1) (by have := (unhide HQ).2; omega)).mono ?_
    rintro e x4 ⟨rfl, hb4⟩
    have hr4 := hr3.later hb4 (Nat.le_refl _)
    have hB4 := bnext hB3 hb4
    clear hr2 hb2 hs3 hb3 hr3 hb4 hB3 HIM
    by_cases h0 : q = 0
    · subst h0
      go_wp2_with fail
      refine (unhide HSP x4 hB4).mono ?_
      rintro e x5 ⟨ta, tc, rfl, ht5, hb5⟩
      have hr5 := hr4.later hb5 (Nat.le_refl _)
      go_wp2_with fail
      refine (cbInts_n _ _ _ _ 0 R _ (unhide HQ).2.1 (hr5.rowN (unhide HQ).2.1) (ht5.rowN (unhide HQ).2.1) (by have := (unhide HQ).2; omega)).mono ?_
      rintro e x6 ⟨rfl, hb6⟩
      go_wp2
      go_ret
      exact ⟨rfl, bnext (unhide HB1) (bnext (bnext hB4 hb5) hb6)⟩
    · have h0I : ((q : Int) == 0) = false := by simp; omega
      rcases lens_say l 15 with hno | ⟨m, hm15, hm14, hfit, hok, hl3, hs1, hsU⟩
      · exfalso
        rw [(unhide HQ).1] at hno
        have := (unhide HQ).2.1
        rw [hno] at this
        simp at this
        omega
      · have hqn : q = n := by
          have h1 := (lens_law hok hl3 hs1 hsU hm14).1
          rw [← hm15, ← hfit, (unhide HQ).1] at h1
          have := (unhide HQ).2.1
          have := (unhide HN).1
          omega
        subst hqn
        have hRh : R = hufL l := by rw [← (unhide HQ).1, hfit, fit_few hok hs1 (by have := (unhide HN).1; omega)]
        have hpos := (lens_law hok hl3 hs1 hsU hm14).2.2
        rw [← hm15, ← hfit, (unhide HQ).1] at hpos
        have HH := hide (And.intro hRh (And.intro hok (And.intro hs1 hpos)))
        have hrow := hide (And.intro (hr4.rowN (unhide HQ).2.1) (unhide HR x4 hB4))
        have HB4 := hide hB4
        clear hr4 hB4 hfit hok hl3 hs1 hsU HSP hRh hpos hm15 hm14
        have hU13 : us l ≤ 13 := by have := us_le l; have := (unhide HN).1; omega
        have hUI : (us l : Int) ≤ 13 := by omega
        have HUS := hide (cbUsed_any va vc q l x4 (unhide HN).1 (unhide hrow).2 (by have := (unhide HQ).2.2; omega))
        have HUe := hide (seed_usL l)
        generalize hUu : us l = U at *
        have HUu := hide hUu
        clear hUu hi hz0 hz1 hz2
        go_wp2_with fail
        go_loopw [6] (fun f wr => ∃ k : Nat, 1 ≤ k ∧ k ≤ 4 ∧ f = .int .i64 k ∧ wr = x4) (fun f _ => 10 - (intOf f).toNat)
        case atStart => exact ⟨1, by omega, by omega, rfl, rfl⟩
        case round =>
          obtain ⟨f, hf1, hf4, rfl, hwr⟩ := hrel
          rw [hwr]
          have HPW := hide (cbPow_any (f : Int) x4 (by omega))
          rw [Int.toNat_natCast] at HPW
          have HF := hide (And.intro hf1 hf4)
          have hpl : p2 f ≤ 16 := by
            have h1 : p2 f ≤ p2 4 := Nat.pow_le_pow_right (by omega) (by omega)
            have h2 : p2 4 = 16 := rfl
            omega
          have hp4 : Hid (f = 4 → p2 f = 16) := by intro e; subst e; rfl
          have hplI : (p2 f : Int) ≤ 16 := by omega
          have hfI : (f : Int) ≤ 4 := by omega
          have hf0 : (1 : Int) ≤ (f : Int) := by omega
          obtain ⟨PW, hPW⟩ : ∃ PW, p2 f = PW := ⟨_, rfl⟩
          have HPe := hide hPW
          rw [hPW] at HPW hp4 hplI hpl
          clear hPW hwr hf1 hf4
          by_cases hlt : (PW : Int) < (U : Int)
          · go_wp2_with fail
            refine (unhide HPW).mono ?_
            rintro e y1 ⟨rfl, hy1⟩
            rw [hy1]
            clear hy1 y1
            go_wp2_with fail
            refine (unhide HUS).mono ?_
            rintro e y1 ⟨rfl, hy1⟩
            rw [hy1]
            clear hy1 y1
            go_wp2
            go_roundw
            case rel =>
              have h1 := unhide HF
              have h2 : f ≠ 4 := fun e => by have := unhide hp4 e; omega
              exact ⟨f + 1, by omega, by omega, by go_num, by first | rfl | trivial⟩
            case measure => simp [intOf]; omega
          · have hbest : Hid (dotL l R q ≤ dotR l (fun _ => f) q) := by
              obtain ⟨e1, e2, e3, _⟩ := unhide HH
              have h1 := best_law e2 f e3 (unhide HF).1 (by have h2 := unhide HUe; have h3 : p2 f = 2 ^ f := rfl; have := unhide HPe; omega)
              rw [(unhide HN).1] at h1
              show _ ≤ _
              rw [e1]
              exact h1
            go_wp2_with fail
            refine (unhide HPW).mono ?_
            rintro e y1 ⟨rfl, hy1⟩
            rw [hy1]
            clear hy1 y1
            go_wp2_with fail
            refine (unhide HUS).mono ?_
            rintro e y1 ⟨rfl, hy1⟩
            rw [hy1]
            clear hy1 y1
            go_wp2_with fail
            clear hlt hp4 HPW hplI
            go_loopw [7, 8, 9] (fun o v i wr => ∃ k : Nat, k ≤ q ∧ i = .int .i64 k ∧ o = .int .i64 (dotL l R k) ∧ v = .int .i64 (dotR l (fun _ => f) k) ∧ Below x4.heap.size x4 wr) (fun _ _ i _ => q - (intOf i).toNat)
            case atStart => exact ⟨0, Nat.zero_le _, rfl, rfl, rfl, Below.refl _ _⟩
            case round =>
              obtain ⟨k, hk, rfl, rfl, rfl, hbr⟩ := hrel
              have HK := hide hk
              by_cases hlt : k < q
              · obtain ⟨g1, o1, rfl, hg1, hc1⟩ := ((unhide hrow).1.later hbr) (by rw [(unhide HQ).2.1]; omega)
                obtain ⟨g2, o2, rfl, hg2, hc2⟩ := ((unhide hrow).2.later hbr) (by rw [(unhide HN).1]; omega)
                have c0 := hc1 k (by rw [(unhide HQ).2.1]; exact hlt)
                have d0 := hc2 k (by rw [(unhide HN).1]; exact hlt)
                obtain ⟨y0, y1⟩ := (unhide HH).2.1 k (by rw [(unhide HN).1]; exact hlt)
                obtain ⟨z0, z1, _⟩ := (unhide HH).2.2.2 k (by rw [(unhide HN).1]; exact hlt)
                obtain ⟨b0, b1⟩ := dot_bound l R f k (fun i hi => (unhide HH).2.1 i (by rw [(unhide HN).1]; omega)) (fun i hi => by obtain ⟨p0, p1, _⟩ := (unhide HH).2.2.2 i (by rw [(unhide HN).1]; omega); exact ⟨p0, by omega⟩) (by omega)
                have hs1 : Hid (dotL l R (k + 1) = dotL l R k + l.getD k 0 * R.getD k 0) := rfl
                have hs2 : Hid (dotR l (fun _ => f) (k + 1) = dotR l (fun _ => f) k + l.getD k 0 * (f : Int)) := rfl
                clear hc1 hc2 hk
                generalize R.getD k 0 = x at *
                generalize l.getD k 0 = y at *
                generalize dotL l R k = A at *
                generalize dotR l (fun _ => f) k = B at *
                obtain ⟨P1, hP1⟩ : ∃ P1, y * x = P1 := ⟨_, rfl⟩
                obtain ⟨P2, hP2⟩ : ∃ P2, y * (f : Int) = P2 := ⟨_, rfl⟩
                have hp1 : 0 ≤ P1 ∧ P1 ≤ 1500000 := by rw [← hP1]; exact mul_bd y0 y1 z0 (by omega)
                have hp2' : 0 ≤ P2 ∧ P2 ≤ 1500000 := by rw [← hP2]; exact mul_bd y0 y1 (by omega) (by omega)
                rw [hP1] at hs1
                rw [hP2] at hs2
                obtain ⟨p10, p11⟩ := hp1
                obtain ⟨p20, p21⟩ := hp2'
                have hkq : (k : Int) ≤ 13 := by omega
                have hw1 : IntKind.i64.wrap P1 = P1 := wrap_id _ (by omega) (by omega)
                have hw2 : IntKind.i64.wrap (A + P1) = A + P1 := wrap_id _ (by omega) (by omega)
                have b0a := b0.1
                have b0b := b0.2
                have b1a := b1.1
                have b1b := b1.2
                clear b0 b1
                go_wp2_with fail
                go_quiet (fail)
                go_wp2
                go_roundw
                case rel => exact ⟨k + 1, by have := unhide HK; omega, by go_num, by rw [unhide hs1], by rw [unhide hs2], below_drewN hbr _⟩
                case measure => simp [intOf]; omega
              · obtain rfl : k = q := by omega
                have hbe := unhide hbest
                generalize dotL l R k = A at *
                generalize dotR l (fun _ => f) k = B at *
                go_wp2
                go_ret
                exact ⟨rfl, bnext (unhide HB1) (bnext (unhide HB4) hbr)⟩
  · go_enter Try.func8, Try.ntmps8
    go_wp2
    go_ret
    exact ⟨rfl, Below.refl _ _⟩

end Go.Proofs.Ytkkhaleiehnihaa
