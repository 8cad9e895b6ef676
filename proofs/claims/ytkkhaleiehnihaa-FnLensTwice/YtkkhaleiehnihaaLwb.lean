/- Walks of laws: what comes more often has no longer code; counts that are twice as great. -/
import Derived.Test.YtkkhaleiehnihaaLw9
namespace Go.Proofs.Ytkkhaleiehnihaa
open Go.RowKit Corb

set_option maxHeartbeats 3200000 in
theorem fnLensTwice_walk (a : Option Addr) (len cap : Nat) (zs : List Int) (w : World) (w0 : IsRow .u8 w a len cap zs) :
    Calls Try.prog 7 #[.slice a len cap] w fun e w' => e = .returned (.bool true) ∧ Below w.heap.size w w' := by
  obtain ⟨⟨z, hsrc⟩, hc, hm⟩ := src_of w0
  have hm' := hide hm
  unfold maxLen at hm
  clear w0
  by_cases hl : (len : Int) ≤ 1048576
  · obtain ⟨i0, hi, hz0, hz1, hz2⟩ := info_parts Try.infoInt
    go_enter Try.func7, Try.ntmps7
    go_wp2_with fail
    refine (drawLensOf_any a len cap z _ hsrc hc (unhide hm')).mono ?_
    rintro e x1 ⟨⟨l, va, vc, n, mo, rfl, hn, ho1, hn1, hn13, hmo0, hmo1⟩, hb1⟩
    have HN := hide (And.intro hn (And.intro hn1 hn13))
    have hnI : (n : Int) ≤ 13 := by omega
    have HR := hide (fun (W : World) (h : Below x1.heap.size x1 W) => (ho1.later h (Nat.le_refl _)).rowN hn)
    obtain ⟨R, hRe⟩ : ∃ R, lensOfL l 15 = R := ⟨_, rfl⟩
    obtain ⟨q, hq⟩ : ∃ q, R.length = q := ⟨_, rfl⟩
    have hqb := lensOfL_len l 15
    rw [hRe, hq] at hqb
    have hqI : (q : Int) ≤ 300 := by omega
    have HIM := hide (implLens_n va vc n q l R 15 x1 hn (unhide HR x1 (Below.refl _ _)) (by omega) hRe hq)
    have HSP := hide (fun (W : World) (h : Below x1.heap.size x1 W) => specLens_n va vc n q l R 15 W hn (unhide HR W h) (by omega) hRe hq)
    have HQ := hide (And.intro hRe (And.intro hq hqb))
    have HB1 := hide hb1
    clear hn hn1 hn13 ho1 hsrc hm hc hRe hq hqb hb1 hmo0 hmo1
    go_wp2_with fail
    refine (unhide HIM).mono ?_
    rintro e x2 ⟨ra, rc, rfl, hr2, hb2⟩
    go_wp2_with fail
    refine (unhide HSP x2 hb2).mono ?_
    rintro e x3 ⟨sa, sc, rfl, hs3, hb3⟩
    have hr3 := hr2.later hb3 (Nat.le_refl _)
    have hB3 := bnext hb2 hb3
    go_wp2_with fail
    refine (cbInts_n _ _ _ _ q R _ (unhide HQ).2.1 (hr3.rowN (unhide HQ).2.1) (hs3.rowN (unhide HQ).2.1) (by have := (unhide HQ).2; omega)).mono ?_
    rintro e x4 ⟨rfl, hb4⟩
    have hr4 := hr3.later hb4 (Nat.le_refl _)
    have hB4 := bnext hB3 hb4
    clear hr2 hb2 hs3 hb3 hr3 hb4 hB3 HIM
    by_cases h0 : q = 0
    · subst h0
      go_wp2_with fail
      refine (unhide HSP x4 hB4).mono ?_
      rintro e x5 ⟨ta, tc, rfl, ht5, hb5⟩
      have hr5 := hr4.later hb5 (Nat.le_refl _)
      go_wp2_with fail
      refine (cbInts_n _ _ _ _ 0 R _ (unhide HQ).2.1 (hr5.rowN (unhide HQ).2.1) (ht5.rowN (unhide HQ).2.1) (by have := (unhide HQ).2; omega)).mono ?_
      rintro e x6 ⟨rfl, hb6⟩
      go_wp2
      go_ret
      exact ⟨rfl, bnext (unhide HB1) (bnext (bnext hB4 hb5) hb6)⟩
    · have h0I : ((q : Int) == 0) = false := by simp; omega
      rcases lens_say l 15 with hno | ⟨m, hm15, hm14, hfit, hok, hl3, hs1, hsU⟩
      · exfalso
        rw [(unhide HQ).1] at hno
        have := (unhide HQ).2.1
        rw [hno] at this
        simp at this
        omega
      · have hqn : q = n := by
          have h1 := (lens_law hok hl3 hs1 hsU hm14).1
          rw [← hm15, ← hfit, (unhide HQ).1] at h1
          have := (unhide HQ).2.1
          have := (unhide HN).1
          omega
        subst hqn
        have hRh : R = hufL l := by rw [← (unhide HQ).1, hfit, fit_few hok hs1 (by have := (unhide HN).1; omega)]
        have hpos := (lens_law hok hl3 hs1 hsU hm14).2.2
        rw [← hm15, ← hfit, (unhide HQ).1] at hpos
        have HH := hide (And.intro hRh (And.intro hok (And.intro hs1 hpos)))
        have hrow := hide (And.intro (hr4.rowN (unhide HQ).2.1) (unhide HR x4 hB4))
        have HB4 := hide hB4
        clear hr4 hB4 hfit hok hl3 hs1 hsU HSP hRh hpos hm15 hm14
        have hlit : IOwn (x4.alloc (.cells #[] 3)) x4.heap.size (.slice (some ⟨x4.heap.size, 0, none⟩) 0 0) [] := IOwn.lit _ _ (Nat.le_refl _)
        have hbl : Below x4.heap.size x4 (x4.alloc (.cells #[] 3)) := (Below.refl _ _).alloc (Nat.le_refl _) _
        have hlit' := hide (And.intro hlit hbl)
        clear hlit hbl
        go_wp2_with fail
        go_loopw [6, 7] (fun o i wr => ∃ k : Nat, k ≤ q ∧ i = .int .i64 k ∧ IOwn wr x4.heap.size o (twoL (l.take k)) ∧ Below x4.heap.size x4 wr ∧ (∀ j, j < k → 2 * l.getD j 0 ≤ 100000)) (fun _ i _ => q - (intOf i).toNat)
        case atStart => exact ⟨0, Nat.zero_le _, rfl, (unhide hlit').1, (unhide hlit').2, fun j hj => by omega⟩
        case round =>
          obtain ⟨k, hk, rfl, hown, hbr, hall⟩ := hrel
          have HK := hide (And.intro hk hall)
          have hbs := hbr.size
          clear hall
          by_cases hlt : k < q
          · obtain ⟨g2, o2, rfl, hg2, hc2⟩ := ((unhide hrow).2.later hbr) (by rw [(unhide HN).1]; omega)
            have d0 := hc2 k (by rw [(unhide HN).1]; exact hlt)
            obtain ⟨y0, y1⟩ := (unhide HH).2.1 k (by rw [(unhide HN).1]; exact hlt)
            have hst : Hid (twoL (l.take (k + 1)) = twoL (l.take k) ++ [2 * l.getD k 0]) := by
              show _ = _
              unfold twoL
              rw [take_snocI l k (by rw [(unhide HN).1]; exact hlt), List.map_append]; rfl
            have hlk : Hid ((twoL (l.take k)).length = k) := by show _ = k; rw [twoL_len]; have := (unhide HN).1; simp; omega
            have hall2 : Hid (2 * l.getD k 0 ≤ 100000 → ∀ j, j < k + 1 → 2 * l.getD j 0 ≤ 100000) := by
              intro h j hj
              by_cases e : j = k
              · subst e; exact h
              · exact (unhide HK).2 j (by omega)
            clear hc2 hk
            generalize l.getD k 0 = y at *
            by_cases hbig : 2 * y ≤ 100000
            · have hlen1 : Hid ((twoL (l.take k)).length + 1 ≤ maxLen ∧ ((twoL (l.take k)).length + 1) * 8 ≤ 140737488355328) := by
                show _ ∧ _
                rw [unhide hlk]
                unfold maxLen
                omega
              go_wp2_with (at_builtin; refine wpList_append_own _ rfl _ _ 22 rfl x4.heap.size 3 i0 (.int .i64 0) 1 8 Try.underlying22 hi hz0 hz1 hz2 rfl (by decide) _ _ _ rfl (World.ownsRow.alloc hown _) ⟨wr.heap.size, 0, none⟩ 1 1 [.int .i64 (2 * y)] rfl rfl (one_new _ _ rfl _ _) (one_int _) (unhide hlen1).1 (unhide hlen1).2 (size_alloc_le hbs _) ?_; intro v' x5 hown5 hgrow hnil; clear hnil)
              have hb5 := grown_step (v := u6) hgrow hown (Nat.le_refl _) hbs hbr
              have ho5 := iown_snoc hown5
              rw [← unhide hst] at ho5
              clear hown5 hgrow hown
              go_wp2
              go_roundw
              case rel => exact ⟨k + 1, by have := (unhide HK).1; omega, by go_num, ho5, hb5, unhide hall2 hbig⟩
              case measure => simp [intOf]; omega
            · go_wp2
              go_ret
              exact ⟨rfl, bnext (unhide HB1) (bnext (unhide HB4) hbr)⟩
          · obtain rfl : k = q := by omega
            rw [List.take_of_length_le (by rw [(unhide HN).1]; exact Nat.le_refl _)] at hown
            have hL2 : (twoL l).length = k := by rw [twoL_len, (unhide HN).1]
            obtain ⟨ua, uc, rfl⟩ := hown.formN hL2
            have hR2 : lensOfL (twoL l) 15 = R := by
              obtain ⟨e1, e2, e3, _⟩ := unhide HH
              have hokT : okC (twoL l) := by
                intro j hj
                rw [twoL_get]
                rw [twoL_len] at hj
                have h1 := (e2 j hj).1
                have h2 := (unhide HK).2 j (by have := (unhide HN).1; omega)
                omega
              have hseed : (seed (twoL l) (twoL l).length).length = (seed l l.length).length := by rw [twoL_len, seed_dbl, List.length_map]
              have hlo : lofOk (twoL l) 15 = true := by
                have hu := seed_usL (twoL l)
                have hub := us_le (twoL l)
                unfold lofOk
                have hinC : inC (twoL l) = true := by
                  unfold inC
                  rw [List.all_eq_true]
                  intro x hx
                  obtain ⟨j, hj, rfl⟩ := List.getElem_of_mem hx
                  have := hokT j hj
                  have e : (twoL l).getD j 0 = (twoL l)[j] := by simp [List.getD, hj]
                  rw [e] at this
                  exact inB_true.2 this
                have e15 : p2 (15 : Int).toNat / 2 = 16384 := rfl
                rw [hinC, decide_eq_true (by omega), e15]
                simp only [Bool.true_and, Bool.and_true, Bool.and_eq_true]
                refine ⟨by decide, inB_true.2 ⟨by omega, by omega⟩⟩
              unfold lensOfL
              rw [hlo, if_pos rfl, fit_few hokT (by omega) (by omega), huf_two, ← e1]
            have HI2 := hide (implLens_n ua uc k k (twoL l) R 15 wr hL2 (hown.rowN hL2) (by omega) hR2 (unhide HQ).2.1)
            have HBR := hide hbr
            have hrowR := hide ((unhide hrow).1.later hbr)
            clear hown hbr hL2 hR2 hk hlt
            go_wp2_with fail
            refine (unhide HI2).mono ?_
            rintro e x6 ⟨pa, pc, rfl, hp6, hb6⟩
            go_wp2_with fail
            refine (cbInts_n _ _ _ _ k R _ (unhide HQ).2.1 (hp6.rowN (unhide HQ).2.1) ((unhide hrowR).later hb6) (by have := (unhide HQ).2; omega)).mono ?_
            rintro e x7 ⟨rfl, hb7⟩
            go_wp2
            go_ret
            exact ⟨rfl, bnext (unhide HB1) (bnext (unhide HB4) (bnext (unhide HBR) (bnext hb6 hb7)))⟩
  · go_enter Try.func7, Try.ntmps7
    go_wp2
    go_ret
    exact ⟨rfl, Below.refl _ _⟩

end Go.Proofs.Ytkkhaleiehnihaa
