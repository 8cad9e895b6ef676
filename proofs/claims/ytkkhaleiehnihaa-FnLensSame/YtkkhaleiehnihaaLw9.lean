/- The walk of a law: lengths that are made of counts make a code. -/
import Derived.Test.YtkkhaleiehnihaaLx1
import Derived.Test.YtkkhaleiehnihaaHv4
import Derived.Test.YtkkhaleiehnihaaDl0
import Derived.Test.YtkkhaleiehnihaaCb1
import Derived.Test.YtkkhaleiehnihaaLk2
namespace Go.Proofs.Ytkkhaleiehnihaa
open Go.RowKit Corb

/-- What the lengths of drawn counts are: none, or such as fit. -/
theorem lens_say (l : List Int) (mo : Int) : lensOfL l mo = [] ∨ (∃ m : Nat, mo = (m : Int) + 1 ∧ m ≤ 14 ∧ lensOfL l mo = fitL mo l ∧ okC l ∧ l.length ≤ 300 ∧ 1 ≤ (seed l l.length).length ∧ (seed l l.length).length ≤ p2 m) := by
  unfold lensOfL
  cases hok : lofOk l mo
  · exact .inl rfl
  · refine .inr ?_
    unfold lofOk at hok
    simp only [Bool.and_eq_true, decide_eq_true_eq] at hok
    obtain ⟨⟨⟨h3, hmb⟩, hin⟩, hus⟩ := hok
    obtain ⟨m1, m2⟩ := inB_true.1 hmb
    obtain ⟨m, rfl⟩ : ∃ m : Nat, mo = (m : Int) + 1 := ⟨(mo - 1).toNat, by omega⟩
    have e3 : ((m : Int) + 1).toNat = m + 1 := by omega
    rw [e3, p2_half] at hus
    obtain ⟨u1, u2⟩ := inB_true.1 hus
    exact ⟨m, rfl, by omega, rfl, okC_of hin, h3, by rw [seed_usL]; omega, by rw [seed_usL]; omega⟩

set_option maxHeartbeats 3200000 in
theorem fnLens_walk (a : Option Addr) (len cap : Nat) (zs : List Int) (w : World) (w0 : IsRow .u8 w a len cap zs) :
    Calls Try.prog 4 #[.slice a len cap] w fun e w' => e = .returned (.bool true) ∧ Below w.heap.size w w' := by
  obtain ⟨⟨z, hsrc⟩, hc, hm⟩ := src_of w0
  have hm' := hide hm
  unfold maxLen at hm
  clear w0
  by_cases hl : (len : Int) ≤ 1048576
  · go_enter Try.func4, Try.ntmps4
    go_wp2_with fail
    refine (drawLensOf_any a len cap z _ hsrc hc (unhide hm')).mono ?_
    rintro e x1 ⟨⟨l, va, vc, n, mo, rfl, hn, ho1, hn1, hn13, hmo0, hmo1⟩, hb1⟩
    have HN := hide (And.intro hn (And.intro hn1 hn13))
    have hnI : (n : Int) ≤ 13 := by omega
    have HR := hide (fun (W : World) (h : Below x1.heap.size x1 W) => (ho1.later h (Nat.le_refl _)).rowN hn)
    obtain ⟨R, hRe⟩ : ∃ R, lensOfL l mo = R := ⟨_, rfl⟩
    obtain ⟨q, hq⟩ : ∃ q, R.length = q := ⟨_, rfl⟩
    have hqb := lensOfL_len l mo
    rw [hRe, hq] at hqb
    have hqI : (q : Int) ≤ 300 := by omega
    have HIM := hide (implLens_n va vc n q l R mo x1 hn (unhide HR x1 (Below.refl _ _)) (by omega) hRe hq)
    have HSP := hide (fun (W : World) (h : Below x1.heap.size x1 W) => specLens_n va vc n q l R mo W hn (unhide HR W h) (by omega) hRe hq)
    have HQ := hide (And.intro hRe (And.intro hq hqb))
    have HB1 := hide hb1
    clear hn hn1 hn13 ho1 hsrc hm hc hRe hq hqb hb1
    go_wp2_with fail
    refine (unhide HIM).mono ?_
    rintro e x2 ⟨ra, rc, rfl, hr2, hb2⟩
    go_wp2_with fail
    refine (unhide HSP x2 hb2).mono ?_
    rintro e x3 ⟨sa, sc, rfl, hs3, hb3⟩
    have hr3 := hr2.later hb3 (Nat.le_refl _)
    have hB3 := bnext hb2 hb3
    go_wp2_with fail
    refine (cbInts_n _ _ _ _ q R _ (unhide HQ).2.1 (hr3.rowN (unhide HQ).2.1) (hs3.rowN (unhide HQ).2.1) (by have := (unhide HQ).2; omega)).mono ?_
    rintro e x4 ⟨rfl, hb4⟩
    have hr4 := hr3.later hb4 (Nat.le_refl _)
    have hB4 := bnext hB3 hb4
    clear hr2 hb2 hs3 hb3 hr3 hb4 hB3 HIM
    by_cases h0 : q = 0
    · subst h0
      go_wp2_with fail
      refine (unhide HSP x4 hB4).mono ?_
      rintro e x5 ⟨ta, tc, rfl, ht5, hb5⟩
      have hr5 := hr4.later hb5 (Nat.le_refl _)
      go_wp2_with fail
      refine (cbInts_n _ _ _ _ 0 R _ (unhide HQ).2.1 (hr5.rowN (unhide HQ).2.1) (ht5.rowN (unhide HQ).2.1) (by have := (unhide HQ).2; omega)).mono ?_
      rintro e x6 ⟨rfl, hb6⟩
      go_wp2
      go_ret
      exact ⟨rfl, bnext (unhide HB1) (bnext (bnext hB4 hb5) hb6)⟩
    · have h0I : ((q : Int) == 0) = false := by simp; omega
      rcases lens_say l mo with hno | ⟨m, rfl, hm14, hfit, hok, hl3, hs1, hsU⟩
      · exfalso
        rw [(unhide HQ).1] at hno
        have := (unhide HQ).2.1
        rw [hno] at this
        simp at this
        omega
      · obtain ⟨L1, L2, L3⟩ := lens_law hok hl3 hs1 hsU hm14
        rw [← hfit, (unhide HQ).1] at L1 L2 L3
        have hqn : q = n := by have := (unhide HQ).2.1; have := (unhide HN).1; omega
        subst hqn
        have HL := hide (And.intro L2 L3)
        have hrow := hide (And.intro (hr4.rowN (unhide HQ).2.1) (unhide HR x4 hB4))
        have HB4 := hide hB4
        clear hr4 hB4 L1 L2 L3 hfit hok hl3 hs1 hsU HSP hmo0 hmo1
        go_wp2_with fail
        go_loopw [6] (fun i wr => ∃ k : Nat, k ≤ q ∧ i = .int .i64 k ∧ Below x4.heap.size x4 wr) (fun i _ => q - (intOf i).toNat)
        case atStart => exact ⟨0, Nat.zero_le _, rfl, Below.refl _ _⟩
        case round =>
          obtain ⟨k, hk, rfl, hbr⟩ := hrel
          have HK := hide hk
          by_cases hlt : k < q
          · obtain ⟨g1, o1, rfl, hg1, hc1⟩ := ((unhide hrow).1.later hbr) (by rw [(unhide HQ).2.1]; omega)
            obtain ⟨g2, o2, rfl, hg2, hc2⟩ := ((unhide hrow).2.later hbr) (by rw [(unhide HN).1]; omega)
            have c0 := hc1 k (by rw [(unhide HQ).2.1]; exact hlt)
            have d0 := hc2 k (by rw [(unhide HN).1]; exact hlt)
            obtain ⟨_, L4, L5⟩ := (unhide HL).2 k (by rw [(unhide HN).1]; exact hlt)
            clear hc1 hc2 hk
            generalize R.getD k 0 = x at *
            generalize l.getD k 0 = y at *
            have hd : decide ((m : Int) + 1 < x) = false := decide_eq_false (by omega)
            by_cases hy : 0 < y
            · have hx := L5.2 hy
              have hdx : decide (0 < x) = true := decide_eq_true hx
              have hdy : decide (0 < y) = true := decide_eq_true hy
              clear L5
              go_wp2_with fail
              go_quiet (fail)
              go_wp2
              go_roundw
              case rel => exact ⟨k + 1, by have := unhide HK; omega, by go_num, below_drewN hbr _⟩
              case measure => simp [intOf]; omega
            · have hx : ¬ 0 < x := fun h => hy (L5.1 h)
              have hdx : decide (0 < x) = false := decide_eq_false hx
              have hdy : decide (0 < y) = false := decide_eq_false hy
              clear L5
              go_wp2_with fail
              go_quiet (fail)
              go_wp2
              go_roundw
              case rel => exact ⟨k + 1, by have := unhide HK; omega, by go_num, below_drewN hbr _⟩
              case measure => simp [intOf]; omega
          · have HLo := hide (implLensOk_any ra rc q R wr (unhide HQ).2.1 ((unhide hrow).1.later hbr) (by have := (unhide HQ).2.2; omega))
            rw [(unhide HL).1] at HLo
            go_wp2_with fail
            refine (unhide HLo).mono ?_
            rintro e y1 ⟨rfl, hy1⟩
            rw [hy1]
            clear hy1 y1
            go_wp2
            go_ret
            exact ⟨rfl, bnext (unhide HB1) (bnext (unhide HB4) hbr)⟩
  · go_enter Try.func4, Try.ntmps4
    go_wp2
    go_ret
    exact ⟨rfl, Below.refl _ _⟩

end Go.Proofs.Ytkkhaleiehnihaa
