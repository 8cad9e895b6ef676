/- The statement of the program's lengths by counts. -/
import Derived.Test.YtkkhaleiehnihaaHo2
namespace Go.Proofs.Ytkkhaleiehnihaa
open Go.RowKit Corb

theorem specLens_n (a : Option Addr) (cap n m : Nat) (l R : List Int) (mo : Int) (w : World) (hn : l.length = n) (h : IRow w a l) (hm : n ≤ 1048576) (hR : lensOfL l mo = R) (hRm : R.length = m) :
    Calls Try.prog 9 #[.slice a n cap, .int .i64 mo] w fun e w' => ∃ va vc, e = .returned (.slice va m vc) ∧ IOwn w' w.heap.size (.slice va m vc) R ∧ Below w.heap.size w w' :=
  (specLensOf_any a cap n l mo w hn h hm).mono fun e w' ⟨⟨v, he, ho⟩, hb⟩ => by
    rw [hR] at ho
    obtain ⟨va, vc, rfl⟩ := ho.formN hRm
    exact ⟨va, vc, he, ho, hb⟩
theorem implLens_n (a : Option Addr) (cap n m : Nat) (l R : List Int) (mo : Int) (w : World) (hn : l.length = n) (h : IRow w a l) (hm : n ≤ 1048576) (hR : lensOfL l mo = R) (hRm : R.length = m) :
    Calls Try.prog 11 #[.slice a n cap, .int .i64 mo] w fun e w' => ∃ va vc, e = .returned (.slice va m vc) ∧ IOwn w' w.heap.size (.slice va m vc) R ∧ Below w.heap.size w w' :=
  (implLensOf_any a cap n l mo w hn h hm).mono fun e w' ⟨⟨v, he, ho⟩, hb⟩ => by
    rw [hR] at ho
    obtain ⟨va, vc, rfl⟩ := ho.formN hRm
    exact ⟨va, vc, he, ho, hb⟩
set_option maxHeartbeats 3200000 in
theorem exLensOf_walk (a : Option Addr) (len cap : Nat) (zs : List Int) (mo : Int) (w : World) (w1 : IsRow .i64 w a len cap zs) (_ : (Lit.int .i64 mo).wf = true) :
    Calls Try.prog 3 #[.slice a len cap, .int .i64 mo] w fun e w' => e = .returned (.bool true) ∧ Below w.heap.size w w' := by
  obtain ⟨l, hrow, hn, hm⟩ := irow_of w1
  clear w1
  unfold maxLen at hm
  by_cases hl : (len : Int) ≤ 1048576
  · have Hn := hide hn
    have HL : Hid (len ≤ 1048576) := by show len ≤ 1048576; omega
    obtain ⟨R, hR⟩ : ∃ R, lensOfL l mo = R := ⟨_, rfl⟩
    have hRl := lensOfL_len l mo
    rw [hR] at hRl
    obtain ⟨m, hRm⟩ : ∃ m, R.length = m := ⟨_, rfl⟩
    have HR := hide hR
    have HRm := hide hRm
    have hmI : (m : Int) ≤ 300 := by omega
    have HM : Hid (m ≤ 2000000) := by show m ≤ 2000000; omega
    clear hn hR hRl hRm
    have hspec := hide (fun (a : Option Addr) (cap : Nat) (W : World) (h : IRow W a l) => specLens_n a cap len m l R mo W (unhide Hn) h (unhide HL) (unhide HR) (unhide HRm))
    have himpl := hide (fun (a : Option Addr) (cap : Nat) (W : World) (h : IRow W a l) => implLens_n a cap len m l R mo W (unhide Hn) h (unhide HL) (unhide HR) (unhide HRm))
    go_enter Try.func3, Try.ntmps3
    go_wp2_with fail
    refine (toIntS_any a cap len l _ (unhide Hn) hrow (unhide HL)).mono ?_
    rintro e x1 ⟨rfl, ht1, hb1⟩
    go_wp2_with fail
    refine (unhide hspec _ _ _ (ht1.rowN (unhide Hn))).mono ?_
    rintro e x2 ⟨wa, wc, rfl, hw2, hb2⟩
    have hb12 := bnext hb1 hb2
    clear ht1 hb1 hb2
    go_wp2_with fail
    refine (toIntS_any a cap len l _ (unhide Hn) (hrow.later hb12) (unhide HL)).mono ?_
    rintro e x3 ⟨rfl, hx3, hb3⟩
    go_wp2_with fail
    refine (unhide himpl _ _ _ (hx3.rowN (unhide Hn))).mono ?_
    rintro e x4 ⟨ga, gc, rfl, hg4, hb4⟩
    have hx4 := hx3.later hb4 (Nat.le_refl _)
    have h24 := bnext hb3 hb4
    have hxlt := hx3.below.2
    have h34s := hb3.size
    have hw4 := hw2.later h24 (Nat.le_refl _)
    clear hb4
    go_wp2_with fail
    refine (eqIntS_same _ _ _ _ m R _ (unhide HRm) (hg4.rowN (unhide HRm)) (hw4.rowN (unhide HRm)) (unhide HM)).mono ?_
    rintro e x5 ⟨rfl, hb5⟩
    have hg5 := hg4.later hb5 (Nat.le_refl _)
    have hx5 := hx4.later hb5 (Nat.le_refl _)
    have h25 := bnext h24 hb5
    clear hg4 hx4 h24 hb5 hw4
    go_wp2_with fail
    refine (toIntS_any a cap len l _ (unhide Hn) (hrow.later (bnext hb12 h25)) (unhide HL)).mono ?_
    rintro e x6 ⟨rfl, ht6, hb6⟩
    have hg6 := hg5.later hb6 (Nat.le_refl _)
    have hx6 := hx5.later hb6 (Nat.le_refl _)
    have h26 := bnext h25 hb6
    clear hg5 hx5 h25 hb6
    go_wp2_with fail
    refine (eqIntS_same _ _ _ _ len l _ (unhide Hn) (hx6.rowN (unhide Hn)) (ht6.rowN (unhide Hn)) (by have := unhide HL; omega)).mono ?_
    rintro e x7 ⟨rfl, hb7⟩
    have hg7 := hg6.later hb7 (Nat.le_refl _)
    have hx7 := hx6.later hb7 (Nat.le_refl _)
    have h27 := bnext h26 hb7
    clear hg6 hx6 h26 hb7 ht6
    go_wp2_with fail
    refine (markIntS_any _ _ len x2.heap.size l _ (unhide Hn) hx7 (by have := unhide HL; omega)).mono ?_
    rintro e x8 ⟨rfl, _, hb8, ht8⟩
    have hg8 := hg7.touch ht8 (by intro g e; simp only [Option.some.injEq, Addr.mk.injEq, and_true] at e; omega)
    have h28 := h27.trans hb8
    have hw8 := hw2.later h28 (Nat.le_refl _)
    clear hg7 hx7 h27 hb8 ht8
    go_wp2_with fail
    refine (eqIntS_same _ _ _ _ m R _ (unhide HRm) (hg8.rowN (unhide HRm)) (hw8.rowN (unhide HRm)) (unhide HM)).mono ?_
    rintro e x9 ⟨rfl, hb9⟩
    have hg9 := hg8.later hb9 (Nat.le_refl _)
    have h29 := bnext h28 hb9
    clear hg8 h28 hb9 hw8
    go_wp2_with fail
    refine (markIntS_any _ _ m x3.heap.size R _ (unhide HRm) hg9 (unhide HM)).mono ?_
    rintro e y1 ⟨rfl, hg1, hc1, _⟩
    have hd1 := h29.trans (hc1.mono h34s)
    clear hg9 h29 hc1
    go_wp2_with fail
    refine (heldIntS_any _ _ m _ (hg1.rowN (ups_len 1 m)) (unhide HM)).mono ?_
    rintro e y2 ⟨rfl, hc2⟩
    have hg2 := hg1.later hc2 (Nat.le_refl _)
    have hd2 := bnext hd1 hc2
    clear hg1 hd1 hc2
    go_wp2_with fail
    refine (toIntS_any a cap len l _ (unhide Hn) (hrow.later (bnext hb12 hd2)) (unhide HL)).mono ?_
    rintro e y3 ⟨rfl, ht3, hc3⟩
    have hg3 := hg2.later hc3 (Nat.le_refl _)
    have hd3 := bnext hd2 hc3
    clear hg2 hd2 hc3
    go_wp2_with fail
    refine (unhide himpl _ _ _ (ht3.rowN (unhide Hn))).mono ?_
    rintro e y4 ⟨ha, hc, rfl, hh4, hc4⟩
    have hg4 := hg3.later hc4 (Nat.le_refl _)
    have hd4 := bnext hd3 hc4
    have hw4 := hw2.later hd4 (Nat.le_refl _)
    clear hg3 hd3 hc4 ht3
    go_wp2_with fail
    refine (eqIntS_same _ _ _ _ m R _ (unhide HRm) (hh4.rowN (unhide HRm)) (hw4.rowN (unhide HRm)) (unhide HM)).mono ?_
    rintro e y5 ⟨rfl, hc5⟩
    have hg5 := hg4.later hc5 (Nat.le_refl _)
    have hd5 := bnext hd4 hc5
    clear hg4 hd4 hc5 hw4
    go_wp2_with fail
    refine (heldIntS_any _ _ m _ (hg5.rowN (ups_len 1 m)) (unhide HM)).mono ?_
    rintro e y6 ⟨rfl, hc6⟩
    go_wp2
    go_ret
    exact ⟨rfl, bnext hb12 (bnext hd5 hc6)⟩
  · go_enter Try.func3, Try.ntmps3
    go_wp2
    go_ret
    exact ⟨rfl, Below.refl _ _⟩

end Go.Proofs.Ytkkhaleiehnihaa
