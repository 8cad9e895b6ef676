/- The walk of a law of bits: numbers of two lists. -/
import Derived.Test.YtmhpfnknamimbaaLc2
import Derived.Test.YtmhpfnknamimbaaTwoMath
import Derived.Test.YtmhpfnknamimbaaStepG
namespace Go.Proofs.Ytmhpfnknamimbaa
open Go.RowKit Corb

theorem cat_arr (a b : List UInt8) : (⟨a.toArray⟩ : ByteArray) ++ (⟨b.toArray⟩ : ByteArray) = ⟨(a ++ b).toArray⟩ := by
  apply ByteArray.ext
  simp
theorem arr_size (a : List UInt8) : (⟨a.toArray⟩ : ByteArray).size = a.length := by simp [ByteArray.size]
theorem putS_len (l : List (Int × Int)) (h : l.length ≤ 4000) : (putS l).length ≤ 8001 := by
  cases hk : lOk l
  · rw [putS_no hk]; simp
  · rw [putS_yes hk, textP, leS_len]
    simp only [lOk, Bool.and_eq_true] at hk
    have h1 := valP_bits l hk.1
    have h2 := sum_bd hk.1
    omega

set_option maxHeartbeats 1600000 in
theorem fnBitsTwo_walk (a : Option Addr) (len cap : Nat) (zs : List Int) (a1 : Option Addr) (len1 cap1 : Nat) (zs1 : List Int) (w : World) (w0 : IsRow .u8 w a len cap zs) (w1 : IsRow .u8 w a1 len1 cap1 zs1) :
    Calls Try.prog 6 #[.slice a len cap, .slice a1 len1 cap1] w fun e w' => e = .returned (.bool true) ∧ Below w.heap.size w w' := by
  obtain ⟨⟨z, hsrc⟩, hc, hm⟩ := src_of w0
  obtain ⟨⟨z1, hsrc1⟩, hc1, hm1⟩ := src_of w1
  have hm' := hide hm
  have hm1' := hide hm1
  unfold maxLen at hm hm1
  clear w0 w1
  obtain ⟨i0, hi, hz0, hz1, hz2⟩ := info_parts Try.infoPiece
  by_cases hl : (len : Int) ≤ 1048576
  · by_cases hl1 : (len1 : Int) ≤ 1048576
    · go_enter Try.func6, Try.ntmps6
      go_wp2_with fail
      refine (drawBitsPut_any a len cap z _ hsrc hc (unhide hm')).mono ?_
      rintro e x1 ⟨⟨l, g, lcap, rfl, hp1, hl12⟩, hb1⟩
      go_wp2_with fail
      refine (drawBitsPut_any a1 len1 cap1 z1 _ (hsrc1.later hb1) hc1 (unhide hm1')).mono ?_
      rintro e x2 ⟨⟨r, gr, rcap, rfl, hr2, hr12⟩, hb2⟩
      have hp2 := hp1.later hb2 (Nat.le_refl _)
      have hb12 := bnext hb1 hb2
      have HL := hide hl12
      have HR := hide hr12
      have hl12' : (l.length : Int) ≤ 12 := by omega
      have hr12' : (r.length : Int) ≤ 12 := by omega
      have hN := longI_ge l
      have hg64 : longI l ≤ 64000 := hN.2 (by omega)
      have hg1 : -1 ≤ longI l := hN.1
      have hfl := hide (fill_law l hl12)
      have hlokl := hide (lok_of (l := l))
      have hlokr := hide (lok_of (l := r))
      have htwo := hide (fun p hf hb h8 => two_law (l ++ [((0 : Int), p)]) r hf hb (by simp; omega) h8)
      have hsl := putS_len l (by omega)
      have hsr := putS_len r (by omega)
      have hcat := hide (cat_arr (putS l) (putS r))
      have hzl := arr_size (putS l)
      have hzr := arr_size (putS r)
      clear hl12 hr12 hp1 hb1 hb2 hN
      generalize hn : longI l = n at *
      generalize hn' : longI r = n' at *
      have Hn := hide hn
      have Hn' := hide hn'
      clear hn hn'
      go_wp2_with fail
      refine (implBitsLong_any _ _ l _ hp2.row (by have := unhide HL; omega)).mono ?_
      rintro e x3 ⟨rfl, hb3⟩
      rw [unhide Hn]
      have hp3 := hp2.later hb3 (Nat.le_refl _)
      have hr3 := hr2.later hb3 (Nat.le_refl _)
      go_wp2_with fail
      refine (specBitsLong_any _ _ l _ hp3.row (by have := unhide HL; omega)).mono ?_
      rintro e x4 ⟨rfl, hb4⟩
      rw [unhide Hn]
      have hp4 := hp3.later hb4 (Nat.le_refl _)
      have hr4 := hr3.later hb4 (Nat.le_refl _)
      have hb14 := bnext (bnext hb12 hb3) hb4
      clear hp2 hp3 hr2 hr3 hb3 hb4 hb12
      by_cases hn0 : n < 0
      · go_wp2_with fail
        refine (specBitsLong_any _ _ l _ hp4.row (by have := unhide HL; omega)).mono ?_
        rintro e x5 ⟨rfl, hb5⟩
        rw [unhide Hn]
        go_wp2
        go_ret
        exact ⟨ret_bool (by simp), bnext hb14 hb5⟩
      · have hlok := unhide hlokl (by omega)
        go_wp2_with fail
        refine (implBitsLong_any _ _ r _ hr4.row (by have := unhide HR; omega)).mono ?_
        rintro e x5 ⟨rfl, hb5⟩
        rw [unhide Hn']
        have hp5 := hp4.later hb5 (Nat.le_refl _)
        have hr5 := hr4.later hb5 (Nat.le_refl _)
        have hb15 := bnext hb14 hb5
        clear hp4 hr4 hb5 hb14
        by_cases hn1 : n' < 0
        · go_wp2_with fail
          refine (specBitsLong_any _ _ l _ hp5.row (by have := unhide HL; omega)).mono ?_
          rintro e x6 ⟨rfl, hb6⟩
          rw [unhide Hn]
          go_wp2
          go_ret
          exact ⟨ret_bool (by simp), bnext hb15 hb6⟩
        · have hrok := unhide hlokr (by omega)
          obtain ⟨f1, f2, f3⟩ := unhide hfl hlok ((8 - n % 8) % 8) rfl
          have f4 := unhide htwo ((8 - n % 8) % 8) f1 hrok f3
          rw [f2] at f4
          have F2 := hide f2
          have F4 := hide f4
          clear f1 f2 f3 f4 hlok hrok hfl htwo hlokl hlokr
          have hpd : (8 - n % 8) % 8 = (8 - n % 8) % 8 := rfl
          generalize hP : (8 - n % 8) % 8 = P at *
          clear hpd
          go_wp2_with (first | (at_builtin; refine wpList_append_own _ rfl (.tmp 40) (.tmp 41) 23 rfl x5.heap.size 29 i0 (.agg #[.int .i64 0, .int .i64 0]) 2 16 Try.underlying23 hi hz0 hz1 hz2 rfl (by decide) _ _ _ rfl (World.ownsRow_lit x5 #[] 0 (Nat.le_refl _) (by unfold maxLen; omega) rfl) ⟨g, 0, none⟩ l.length lcap (pcells l) rfl (pcells_len l) (Pcs.news (World.ownsRow.alloc hp5 _)) (pcells_one l) (by have := unhide HL; unfold maxLen; omega) (by have := unhide HL; omega) (by simp) ?_; intro v' x6 hown hgrow hnil; clear hnil; have hb6 := copy_below hgrow; have hq6 := pcs_copy hown; have hp6 := Pcs.later hp5 hb6 (Nat.le_refl _); clear hown hgrow; obtain ⟨_, _, rfl⟩ := hq6.form) | (at_builtin; refine wpList_append_own _ rfl (.tmp 42) (.tmp 48) 23 rfl x5.heap.size 29 i0 (.agg #[.int .i64 0, .int .i64 0]) 2 16 Try.underlying23 hi hz0 hz1 hz2 rfl (by decide) _ _ _ rfl (World.ownsRow.alloc hq6 _) ⟨_, 0, none⟩ 1 1 [.int .i64 0, .int .i64 P] rfl rfl (by intro j u hj; match j, hj with | 0, hj => simp at hj; subst hj; simp [Addr.add] | 1, hj => simp at hj; subst hj; simp [Addr.add]) (by intro u hu; simp at hu; rcases hu with rfl | rfl <;> rfl) (by have := unhide HL; unfold maxLen; omega) (by have := unhide HL; omega) (by have := hb6.size; simp; omega) ?_; intro v' x7 hown hgrow hnil; have hb7 := own_below hgrow (World.ownsRow.alloc hq6 _) hb6; have hq7 := pcs_snoc hown; clear hown hgrow))
          have hNl : (l ++ [(0, P)]).length = l.length + 1 := by simp
          obtain ⟨g7, c7, rfl⟩ := hq7.nonnilN hNl (by rintro rfl; simp at hnil)
          have hb17 := bnext hb15 hb7
          have hp7 := hp5.later hb7 (Nat.le_refl _)
          have hr7 := hr5.later hb7 (Nat.le_refl _)
          clear hnil hb6 hp6 hq6 hp5 hr5 hb15
          refine (implBitsPut_n _ _ _ (l ++ [(0, P)]) _ hNl (hq7.rowN hNl) (by have := unhide HL; omega)).mono ?_
          rintro e y1 ⟨rfl, hc1⟩
          rw [unhide F2]
          have hqA := hq7.later hc1 (Nat.le_refl _)
          have hpA := hp7.later hc1 (Nat.le_refl _)
          have hrA := hr7.later hc1 (Nat.le_refl _)
          clear hq7 hp7 hr7
          go_wp2_with fail
          refine (implBitsPut_any _ _ l _ hpA.row (by have := unhide HL; omega)).mono ?_
          rintro e y2 ⟨rfl, hc2⟩
          have hqB := hqA.later hc2 (Nat.le_refl _)
          have hpB := hpA.later hc2 (Nat.le_refl _)
          have hrB := hrA.later hc2 (Nat.le_refl _)
          have hb1B := bnext (bnext hb17 hc1) hc2
          have hNr : (l ++ [(0, P)] ++ r).length = l.length + 1 + r.length := by simp; omega
          clear hqA hpA hrA hc1 hc2 hb17
          go_wp2_with (first | (at_builtin; refine wpList_append_own_g _ (by first | rfl | simp [Region.wanted, yielded]) (.tmp 56) (.tmp 57) 23 rfl y2.heap.size 29 i0 (.agg #[.int .i64 0, .int .i64 0]) 2 16 Try.underlying23 hi hz0 hz1 hz2 rfl (by decide) _ _ _ rfl (World.ownsRow_lit y2 #[] 0 (Nat.le_refl _) (by unfold maxLen; omega) rfl) ⟨g7, 0, none⟩ (l.length + 1) c7 (pcells (l ++ [(0, P)])) rfl (by rw [pcells_len, hNl]) (Pcs.newsN hNl (World.ownsRow.alloc hqB _)) (pcells_one _) (by have := unhide HL; unfold maxLen; omega) (by have := unhide HL; omega) (by simp) ?_; intro v' y3 hown hgrow hnil; clear hnil; have hb3 := copy_below hgrow; have hq3 := pcs_copyN hNl hown; have hr3 := Pcs.later hrB hb3 (Nat.le_refl _); clear hown hgrow; obtain ⟨_, _, rfl⟩ := hq3.formN hNl) | (at_builtin; refine wpList_append_own_g _ (by first | rfl | simp [Region.wanted, yielded]) (.tmp 58) (.tmp 59) 23 rfl y2.heap.size 29 i0 (.agg #[.int .i64 0, .int .i64 0]) 2 16 Try.underlying23 hi hz0 hz1 hz2 rfl (by decide) _ (l.length + 1) _ rfl (hq3.own hNl) ⟨gr, 0, none⟩ r.length rcap (pcells r) rfl (pcells_len r) (Pcs.news hr3) (pcells_one _) (by have := unhide HL; have := unhide HR; unfold maxLen; omega) (by have := unhide HL; have := unhide HR; omega) hb3.size ?_; intro v' y4 hown hgrow hnil; clear hnil; have hb4 := grown_below hgrow (hq3.own hNl) hb3; have hq4 := pcs_cat hNl hown; clear hown hgrow; obtain ⟨_, _, rfl⟩ := hq4.formN hNr))
          have hp4 := hpB.later hb4 (Nat.le_refl _)
          have hr4 := hrB.later hb4 (Nat.le_refl _)
          have hb14 := bnext hb1B hb4
          clear hpB hrB hqB hb3 hb4 hq3 hr3 hb1B
          refine (implBitsPut_n _ _ _ (l ++ [(0, P)] ++ r) _ hNr (hq4.rowN hNr) (by have := unhide HL; have := unhide HR; omega)).mono ?_
          rintro e y5 ⟨rfl, hc5⟩
          rw [unhide F4]
          have hp5 := hp4.later hc5 (Nat.le_refl _)
          have hr5 := hr4.later hc5 (Nat.le_refl _)
          go_wp2_with fail
          refine (implBitsPut_any _ _ l _ hp5.row (by have := unhide HL; omega)).mono ?_
          rintro e y6 ⟨rfl, hc6⟩
          have hr6 := hr5.later hc6 (Nat.le_refl _)
          go_wp2_with fail
          refine (implBitsPut_any _ _ r _ hr6.row (by have := unhide HR; omega)).mono ?_
          rintro e y7 ⟨rfl, hc7⟩
          have hb17 := bnext (bnext (bnext hb14 hc5) hc6) hc7
          clear hp4 hr4 hp5 hr5 hr6 hc5 hc6 hc7
          have hca := unhide hcat
          go_wp2
          go_ret
          exact ⟨ret_bool (by simp), hb17⟩
    · go_enter Try.func6, Try.ntmps6
      go_wp2
      go_ret
      exact ⟨rfl, Below.refl _ _⟩
  · go_enter Try.func6, Try.ntmps6
    go_wp2
    go_ret
    exact ⟨rfl, Below.refl _ _⟩

end Go.Proofs.Ytmhpfnknamimbaa
