/- The walk of the statement: a text twice is its tokens, and one more. -/
import Derived.Test.YtlncdcdblmpmgaaTw1
namespace Go.Proofs.Ytlncdcdblmpmgaa
open Go.RowKit

theorem copyK_below {x x' : World} {t : TypeId} (h : (x.alloc (.cells #[] t)).grownBy x' (Value.slice (some ⟨x.heap.size, 0, none⟩) 0 0).ownBlock) : Below x.heap.size x x' :=
  ((Below.refl _ x).alloc (Nat.le_refl _) _).grown h (by simp) (fun k e => by cases e; exact Nat.le_refl _)
theorem kown_of {W : World} {base n m : Nat} {v : Value} {l : List Tk} {xs : List Value} (hn : l.length = m) (hx : kcells l = xs) (h : W.ownsRow base 40 3 v n xs) (hm : n = m) : KOwn W base v l := by
  unfold KOwn; rw [hn, hx, ← hm]; exact h

set_option maxHeartbeats 3200000 in
theorem fnTokensTwice_walk (a : Option Addr) (len cap : Nat) (zs : List Int) (w : World) (w0 : IsRow .u8 w a len cap zs) :
    Calls Try.prog 12 #[.slice a len cap] w fun e w' => e = .returned (.bool true) ∧ Below w.heap.size w w' := by
  obtain ⟨⟨z, hsrc⟩, hc, hm⟩ := src_of w0
  obtain ⟨i0, hi, hz0, hz1, hz2⟩ := info_parts Try.infoTok
  have hm' := hide hm
  unfold maxLen at hm
  clear w0
  by_cases hl : (len : Int) ≤ 1048576
  · go_enter Try.func12, Try.ntmps12
    go_wp2_with fail
    refine (drawTokensOf_any a len cap z _ hsrc hc (unhide hm')).mono ?_
    rintro e w1 ⟨⟨s, rfl, hs⟩, hb1⟩
    have HB1 := hide hb1
    have hsI : (s.size : Int) ≤ 400 := by omega
    have HS := hide hs
    have hspec := hide (fun W => specTokensOf_any s W (by omega))
    have himpl := hide (fun W => implTokensOf_any s W (by omega))
    have hlen := toksOf_less s.data.toList
    rw [str_len] at hlen
    have htx : Hid (3 ≤ s.size → s.size ≤ 60 → textT (toksOf s.data.toList ++ [((0 : Int), (s.size : Int), (s.size : Int))]) = some (s.data.toList ++ s.data.toList)) := fun h1 h2 => by
      have := twice_text (L := s.data.toList) (by rw [str_len]; exact h1) (by rw [str_len]; exact h2)
      rw [str_len] at this
      exact this
    have hL := hide (str_len s)
    generalize toksOf s.data.toList = R at *
    obtain ⟨m, hRm⟩ : ∃ m, R.length = m := ⟨_, rfl⟩
    have HR := hide hRm
    have hmI : (m : Int) ≤ (s.size : Int) := by omega
    have HM : Hid (m ≤ 100000) := by show m ≤ 100000; omega
    clear hs hlen hRm hb1 hsrc hc hm
    go_wp2_with fail
    refine (unhide himpl _).mono ?_
    rintro e x1 ⟨v1, rfl, hg1, hb1⟩
    obtain ⟨ga, gc, rfl⟩ := hg1.formN (unhide HR)
    go_wp2_with fail
    refine (unhide hspec _).mono ?_
    rintro e x2 ⟨v2, rfl, hw2, hb2⟩
    obtain ⟨wa, wc, rfl⟩ := hw2.formN (unhide HR)
    have hg2 := hg1.later hb2 (Nat.le_refl _)
    have h02 := bnext (unhide HB1) (bnext hb1 hb2)
    clear hb1 hb2 hg1
    go_wp2_with fail
    refine (cbTokens_same _ _ _ _ m R _ (unhide HR) (hg2.rowN (unhide HR)) (hw2.rowN (unhide HR)) (by have := unhide HM; omega)).mono ?_
    rintro e x3 ⟨rfl, hb3⟩
    have hg3 := hg2.later hb3 (Nat.le_refl _)
    have h03 := bnext h02 hb3
    clear hg2 hw2 hb3 h02
    by_cases h3 : (3 : Int) ≤ (s.size : Int) ∧ (s.size : Int) ≤ 60
    · obtain ⟨h3a, h3b⟩ := h3
      have hT := hide (unhide htx (by omega) (by omega))
      have hbd : Hid (0 + m ≤ maxLen ∧ (0 + m) * 24 ≤ 140737488355328 ∧ 0 + m + 1 ≤ maxLen ∧ (0 + m + 1) * 24 ≤ 140737488355328) := by show _ ∧ _; have := unhide HM; unfold maxLen; omega
      have hT3 := hg3.own (unhide HR)
      go_wp2_with (first
        | (at_builtin; refine wpList_append_rows _ rfl (.tmp 37) (.tmp 38) 25 rfl x3.heap.size 40 i0 (.agg #[.int .i64 0, .int .i64 0, .int .i64 0]) 3 24 Try.underlying25 hi hz0 hz1 hz2 rfl (by decide) _ _ _ rfl (World.ownsRow_lit x3 #[] 0 (Nat.le_refl _) (by unfold maxLen; omega) rfl) _ w1.heap.size m (kcells R) rfl (World.ownsRow.alloc hT3 _) (kcells_one R) (unhide hbd).1 (unhide hbd).2.1 (by simp) ?_; intro v4 x4 hown hgrow; have hb4 := copyK_below hgrow; clear hgrow)
        | (at_builtin; refine wpList_append_own _ rfl (.tmp 39) (.tmp 45) 25 rfl x3.heap.size 40 i0 (.agg #[.int .i64 0, .int .i64 0, .int .i64 0]) 3 24 Try.underlying25 hi hz0 hz1 hz2 rfl (by decide) _ _ _ rfl (World.ownsRow.alloc hown _) ⟨x4.heap.size, 0, none⟩ 1 1 [.int .i64 0, .int .i64 (s.size : Nat), .int .i64 (s.size : Nat)] rfl rfl (k3_new _ _ _ _ _ _ rfl) (k3_one _ _ _) (unhide hbd).2.2.1 (unhide hbd).2.2.2 (size_alloc_le hb4.size _) ?_; intro v5 x5 hown5 hgrow hnil; clear hnil; have hb5 : Below x3.heap.size x3 x5 := (hb4.alloc hb4.size _).grown hgrow (by simp; exact Nat.le_succ_of_le hb4.size) (fun k h => (World.ownsRow.lt hown k h).1); have hq5 := kown_of (l := R ++ [((0 : Int), (s.size : Int), (s.size : Int))]) (m := m + 1) (by rw [List.length_append, unhide HR]; rfl) (by rw [kcells_append]; rfl) hown5 (by omega); clear hown hown5 hgrow; obtain ⟨ya, yc, hv⟩ := hq5.formN (n := m + 1) (by rw [List.length_append, unhide HR]; rfl); subst hv)
        | fail)
      have hR1 : Hid ((R ++ [((0 : Int), (s.size : Int), (s.size : Int))]).length = m + 1) := by show _ = _; rw [List.length_append, unhide HR]; rfl
      have hss : Hid ((s ++ s).size = s.size + s.size ∧ (s ++ s).data.toList = s.data.toList ++ s.data.toList) := by show _ ∧ _; exact ⟨ByteArray.size_append, by simp⟩
      have h2 := hide (implTokensOf_any (s ++ s))
      have ht2 : Hid (textT (toksOf (s ++ s).data.toList) = some (s ++ s).data.toList) := toksOf_text (by rw [(unhide hss).2, List.length_append, unhide hL]; omega)
      have hl2 := toksOf_len (s ++ s).data.toList
      generalize hX : s ++ s = X at *
      have HX := hide hX
      generalize toksOf X.data.toList = R2 at *
      obtain ⟨m2, hRm2⟩ : ∃ m, R2.length = m := ⟨_, rfl⟩
      have HR2 := hide hRm2
      have HM2 : Hid (m2 ≤ 300) := by show m2 ≤ 300; omega
      clear hl2 hRm2
      refine (implText_yes _ _ (m + 1) _ X _ (unhide hR1) (hq5.rowN (unhide hR1)) (by have := unhide HM; omega) (by rw [(unhide hss).2]; exact unhide hT)).mono ?_
      rintro e x6 ⟨rfl, hb6⟩
      have h06 := bnext (bnext h03 hb5) hb6
      clear hb4 hb5 hb6 hq5 hg3 hT3 h03
      go_wp2_with fail
      refine (unhide h2 _ (by rw [(unhide hss).1]; omega)).mono ?_
      rintro e x7 ⟨v7, rfl, hg7, hb7⟩
      obtain ⟨za, zc, rfl⟩ := hg7.formN (unhide HR2)
      go_wp2_with fail
      refine (implText_yes _ _ m2 _ X _ (unhide HR2) (hg7.rowN (unhide HR2)) (by have := unhide HM2; omega) (unhide ht2)).mono ?_
      rintro e x8 ⟨rfl, hb8⟩
      go_wp2
      go_ret
      exact ⟨rfl, bnext h06 (bnext hb7 hb8)⟩
    · by_cases hd : (s.size : Int) < 3
      · clear h3
        go_wp2_with fail
        refine (unhide hspec _).mono ?_
        rintro e x4 ⟨v4, rfl, hw4, hb4⟩
        obtain ⟨wa', wc', rfl⟩ := hw4.formN (unhide HR)
        have hg4 := hg3.later hb4 (Nat.le_refl _)
        have h04 := bnext h03 hb4
        clear hb4 hg3 h03
        go_wp2_with fail
        refine (cbTokens_same _ _ _ _ m R _ (unhide HR) (hg4.rowN (unhide HR)) (hw4.rowN (unhide HR)) (by have := unhide HM; omega)).mono ?_
        rintro e x5 ⟨rfl, hb5⟩
        go_wp2
        go_ret
        exact ⟨rfl, bnext h04 hb5⟩
      · have hd2 : (60 : Int) < (s.size : Int) := by omega
        clear h3
        go_wp2_with fail
        refine (unhide hspec _).mono ?_
        rintro e x4 ⟨v4, rfl, hw4, hb4⟩
        obtain ⟨wa', wc', rfl⟩ := hw4.formN (unhide HR)
        have hg4 := hg3.later hb4 (Nat.le_refl _)
        have h04 := bnext h03 hb4
        clear hb4 hg3 h03
        go_wp2_with fail
        refine (cbTokens_same _ _ _ _ m R _ (unhide HR) (hg4.rowN (unhide HR)) (hw4.rowN (unhide HR)) (by have := unhide HM; omega)).mono ?_
        rintro e x5 ⟨rfl, hb5⟩
        go_wp2
        go_ret
        exact ⟨rfl, bnext h04 hb5⟩
  · clear hsrc
    go_enter Try.func12, Try.ntmps12
    go_wp2
    go_ret
    exact ⟨rfl, Below.refl _ _⟩

end Go.Proofs.Ytlncdcdblmpmgaa
