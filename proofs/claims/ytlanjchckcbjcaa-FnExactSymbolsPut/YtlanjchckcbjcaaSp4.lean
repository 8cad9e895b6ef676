/- The walk of an exact law: the program writes symbols by a code as the model does. -/
import Derived.Test.YtlanjchckcbjcaaSp3
import Derived.Test.YtlanjchckcbjcaaPr2
namespace Go.Proofs.Ytlanjchckcbjcaa
open Go.RowKit Corb

theorem specSymbolsPut_n (a b : Option Addr) (cap bc n m q : Nat) (l t : List Int) (R : List (Int × Int)) (w : World) (hn : l.length = n) (h : IRow w a l) (hm : n ≤ 1048576) (hnt : t.length = m) (ht : IRow w b t) (hmt : m ≤ 1048576) (hR : symPut l t = R) (hq : R.length = q) :
    Calls Try.prog 15 #[.slice a n cap, .slice b m bc] w fun e w' => ∃ va vc, e = .returned (.slice va q vc) ∧ Pcs w' w.heap.size (.slice va q vc) R ∧ Below w.heap.size w w' :=
  (specSymbolsPut_any a b cap bc n m l t w hn h hm hnt ht hmt).mono fun e w' ⟨v, he, ho, hb⟩ => by
    rw [hR] at ho
    obtain ⟨va, vc, rfl⟩ := ho.formN hq
    exact ⟨va, vc, he, ho, hb⟩
theorem implSymbolsPut_n (a b : Option Addr) (cap bc n m q : Nat) (l t : List Int) (R : List (Int × Int)) (w : World) (hn : l.length = n) (h : IRow w a l) (hm : n ≤ 1048576) (hnt : t.length = m) (ht : IRow w b t) (hmt : m ≤ 1048576) (hR : symPut l t = R) (hq : R.length = q) :
    Calls Try.prog 16 #[.slice a n cap, .slice b m bc] w fun e w' => ∃ va vc, e = .returned (.slice va q vc) ∧ Pcs w' w.heap.size (.slice va q vc) R ∧ Below w.heap.size w w' :=
  (implSymbolsPut_any a b cap bc n m l t w hn h hm hnt ht hmt).mono fun e w' ⟨v, he, ho, hb⟩ => by
    rw [hR] at ho
    obtain ⟨va, vc, rfl⟩ := ho.formN hq
    exact ⟨va, vc, he, ho, hb⟩
theorem eqPieceS_n (a b : Option Addr) (c d n : Nat) (l : List (Int × Int)) (w : World) (hn : l.length = n) (ha : PRow w a l) (hb : PRow w b l) (hm : n ≤ 1048576) :
    Calls Try.prog 17 #[.slice a n c, .slice b n d] w fun e w' => e = .returned (.bool true) ∧ Below w.heap.size w w' := by
  subst hn; exact eqPieceS_same a b c d l w ha hb hm

set_option maxHeartbeats 6400000 in
theorem exSymbolsPut_walk (a0 : Option Addr) (len0 cap0 : Nat) (z0 : List Int) (a1 : Option Addr) (len1 cap1 : Nat) (z1 : List Int) (w : World) (w0 : IsRow .i64 w a0 len0 cap0 z0) (w1 : IsRow .i64 w a1 len1 cap1 z1) :
    Calls Try.prog 5 #[.slice a0 len0 cap0, .slice a1 len1 cap1] w fun e w' => e = .returned (.bool true) ∧ Below w.heap.size w w' := by
  obtain ⟨l, hrow, hn, hm⟩ := irow_of w0
  obtain ⟨t, htow, hnt, hmt⟩ := irow_of w1
  clear w0 w1
  unfold maxLen at hm hmt
  by_cases hl : (len0 : Int) ≤ 1048576
  · by_cases hl2 : (len1 : Int) ≤ 1048576
    · have Hn := hide hn
      have Hnt := hide hnt
      have HL : Hid (len0 ≤ 1048576) := by show len0 ≤ 1048576; omega
      have HT : Hid (len1 ≤ 1048576) := by show len1 ≤ 1048576; omega
      obtain ⟨R, hR⟩ : ∃ R, symPut l t = R := ⟨_, rfl⟩
      have hRl := symPut_len l t
      rw [hR, hnt] at hRl
      obtain ⟨m, hRm⟩ : ∃ m, R.length = m := ⟨_, rfl⟩
      have HR := hide hR
      have HRm := hide hRm
      have hmI : (m : Int) ≤ 1048576 := by omega
      have HM : Hid (m ≤ 1048576) := by show m ≤ 1048576; omega
      clear hn hnt hR hRl hRm
      have hspec := hide (fun (a b : Option Addr) (c d : Nat) (W : World) (h : IRow W a l) (h2 : IRow W b t) => specSymbolsPut_n a b c d len0 len1 m l t R W (unhide Hn) h (unhide HL) (unhide Hnt) h2 (unhide HT) (unhide HR) (unhide HRm))
      have himpl := hide (fun (a b : Option Addr) (c d : Nat) (W : World) (h : IRow W a l) (h2 : IRow W b t) => implSymbolsPut_n a b c d len0 len1 m l t R W (unhide Hn) h (unhide HL) (unhide Hnt) h2 (unhide HT) (unhide HR) (unhide HRm))
      have hcl := hide (fun (W : World) (h : IRow W a0 l) => toIntS_any a0 cap0 len0 l W (unhide Hn) h (unhide HL))
      have hct := hide (fun (W : World) (h : IRow W a1 t) => toIntS_any a1 cap1 len1 t W (unhide Hnt) h (unhide HT))
      have heq := hide (fun (a b : Option Addr) (c d : Nat) (W : World) (h : PRow W a R) (h2 : PRow W b R) => eqPieceS_n a b c d m R W (unhide HRm) h h2 (unhide HM))
      go_enter Try.func5, Try.ntmps5
      go_wp2_with fail
      refine (unhide hcl _ hrow).mono ?_
      rintro e v1 ⟨rfl, hv1, b1⟩
      go_wp2_with fail
      refine (unhide hct _ (htow.later b1)).mono ?_
      rintro e v2 ⟨rfl, hv2, b2⟩
      go_wp2_with fail
      refine (unhide hspec _ _ _ _ _ ((hv1.later b2 (Nat.le_refl _)).rowN (unhide Hn)) (hv2.rowN (unhide Hnt))).mono ?_
      rintro e v3 ⟨wa, wc, rfl, hw3, b3⟩
      have B3 := bnext (bnext b1 b2) b3
      clear hv1 hv2 b1 b2 b3
      go_wp2_with fail
      refine (unhide hcl _ (hrow.later B3)).mono ?_
      rintro e v4 ⟨rfl, hx4, b4⟩
      go_wp2_with fail
      refine (unhide hct _ (htow.later (bnext B3 b4))).mono ?_
      rintro e v5 ⟨rfl, hy5, b5⟩
      have hx5 := hx4.later b5 (Nat.le_refl _)
      have hxb := hx4.below
      have hyb := hy5.below
      have s4 := b4.size
      have s5 := b5.size
      have B35 := bnext b4 b5
      clear hx4 b4 b5
      go_wp2_with fail
      refine (unhide himpl _ _ _ _ _ (hx5.rowN (unhide Hn)) (hy5.rowN (unhide Hnt))).mono ?_
      rintro e v6 ⟨ga, gc, rfl, hg6, b6⟩
      have hx6 := hx5.later b6 (Nat.le_refl _)
      have hy6 := hy5.later b6 (Nat.le_refl _)
      have B36 := bnext B35 b6
      have hw6 := Pcs.later hw3 B36 (Nat.le_refl _)
      clear hx5 hy5 B35 b6
      go_wp2_with fail
      refine (unhide heq _ _ _ _ _ (hg6.rowN (unhide HRm)) (hw6.rowN (unhide HRm))).mono ?_
      rintro e v7 ⟨rfl, b7⟩
      have hx7 := hx6.later b7 (Nat.le_refl _)
      have hy7 := hy6.later b7 (Nat.le_refl _)
      have hg7 := Pcs.later hg6 b7 (Nat.le_refl _)
      have B37 := bnext B36 b7
      clear hx6 hy6 hg6 hw6 B36 b7
      go_wp2_with fail
      refine (unhide hcl _ (hrow.later (bnext B3 B37))).mono ?_
      rintro e v8 ⟨rfl, ht8, b8⟩
      have hx8 := hx7.later b8 (Nat.le_refl _)
      go_wp2_with fail
      refine (eqIntS_same _ _ _ _ len0 l _ (unhide Hn) (hx8.rowN (unhide Hn)) (ht8.rowN (unhide Hn)) (by have := unhide HL; omega)).mono ?_
      rintro e v9 ⟨rfl, b9⟩
      have B89 := bnext b8 b9
      have hx9 := hx7.later B89 (Nat.le_refl _)
      have hy9 := hy7.later B89 (Nat.le_refl _)
      have hg9 := Pcs.later hg7 B89 (Nat.le_refl _)
      have B39 := bnext B37 B89
      clear hx7 hy7 hg7 hx8 ht8 B37 B89 b8 b9
      go_wp2_with fail
      refine (unhide hct _ (htow.later (bnext B3 B39))).mono ?_
      rintro e y0 ⟨rfl, ht0, b0⟩
      have hy0 := hy9.later b0 (Nat.le_refl _)
      go_wp2_with fail
      refine (eqIntS_same _ _ _ _ len1 t _ (unhide Hnt) (hy0.rowN (unhide Hnt)) (ht0.rowN (unhide Hnt)) (by have := unhide HT; omega)).mono ?_
      rintro e y1 ⟨rfl, b1⟩
      have B01 := bnext b0 b1
      have hx1 := hx9.later B01 (Nat.le_refl _)
      have hy1 := hy9.later B01 (Nat.le_refl _)
      have hg1 := Pcs.later hg9 B01 (Nat.le_refl _)
      have B31 := bnext B39 B01
      clear hx9 hy9 hg9 hy0 ht0 B39 B01 b0 b1
      go_wp2_with fail
      refine (markIntS_from 1 _ _ len0 v3.heap.size l _ (unhide Hn) hx1 (by have := unhide HL; omega) (by omega) (by omega)).mono ?_
      rintro e y2 ⟨rfl, _, b2, t2⟩
      have hg2 := hg1.touch t2 (by intro g e; simp only [Option.some.injEq, Addr.mk.injEq, and_true] at e; omega)
      have hy2 := hy1.touch t2 (by intro g e; simp only [Option.some.injEq, Addr.mk.injEq, and_true] at e; omega)
      have B32 := B31.trans b2
      clear hx1 hy1 hg1 B31 b2 t2
      go_wp2_with fail
      refine (markIntS_from (1 + (len0 : Int)) _ _ len1 v4.heap.size t _ (unhide Hnt) hy2 (by have := unhide HT; omega) (by omega) (by omega)).mono ?_
      rintro e y3 ⟨rfl, _, b3, t3⟩
      have hg3 := hg2.touch t3 (by intro g e; simp only [Option.some.injEq, Addr.mk.injEq, and_true] at e; omega)
      have B33 := B32.trans (b3.mono s4)
      have hw3' := Pcs.later hw3 B33 (Nat.le_refl _)
      clear hy2 hg2 B32 b3 t3
      go_wp2_with fail
      refine (unhide heq _ _ _ _ _ (hg3.rowN (unhide HRm)) (hw3'.rowN (unhide HRm))).mono ?_
      rintro e y4 ⟨rfl, b4⟩
      have hg4 := Pcs.later hg3 b4 (Nat.le_refl _)
      have B34 := bnext B33 b4
      clear hg3 hw3' B33 b4
      go_wp2_with fail
      refine (markPieceS_any _ _ m v5.heap.size R _ (unhide HRm) hg4 (by have := unhide HM; omega)).mono ?_
      rintro e y5 ⟨rfl, hg5, b5, _⟩
      have B35 := B34.trans (b5.mono (Nat.le_trans s4 s5))
      clear hg4 B34 b5
      go_wp2_with fail
      refine (heldPieceS_any _ _ m _ (hg5.rowN (upsP_len 1 m)) (by have := unhide HM; omega)).mono ?_
      rintro e y6 ⟨rfl, b6⟩
      have hg6 := Pcs.later hg5 b6 (Nat.le_refl _)
      have B36 := bnext B35 b6
      clear hg5 B35 b6
      go_wp2_with fail
      refine (unhide hcl _ (hrow.later (bnext B3 B36))).mono ?_
      rintro e y7 ⟨rfl, hx7, b7⟩
      go_wp2_with fail
      refine (unhide hct _ (htow.later (bnext B3 (bnext B36 b7)))).mono ?_
      rintro e y8 ⟨rfl, hy8, b8⟩
      have B78 := bnext b7 b8
      have hx8 := hx7.later b8 (Nat.le_refl _)
      have hg8 := Pcs.later hg6 B78 (Nat.le_refl _)
      have B38 := bnext B36 B78
      clear hx7 hg6 B36 B78 b7 b8
      go_wp2_with fail
      refine (unhide himpl _ _ _ _ _ (hx8.rowN (unhide Hn)) (hy8.rowN (unhide Hnt))).mono ?_
      rintro e y9 ⟨ha, hc, rfl, hh9, b9⟩
      have hg9 := Pcs.later hg8 b9 (Nat.le_refl _)
      have B39 := bnext B38 b9
      have hw9 := Pcs.later hw3 B39 (Nat.le_refl _)
      clear hx8 hy8 hg8 B38 b9
      go_wp2_with fail
      refine (unhide heq _ _ _ _ _ (hh9.rowN (unhide HRm)) (hw9.rowN (unhide HRm))).mono ?_
      rintro e u0 ⟨rfl, c0⟩
      have hg0 := Pcs.later hg9 c0 (Nat.le_refl _)
      have B30 := bnext B39 c0
      clear hh9 hw9 hg9 B39 c0
      go_wp2_with fail
      refine (heldPieceS_any _ _ m _ (hg0.rowN (upsP_len 1 m)) (by have := unhide HM; omega)).mono ?_
      rintro e u1 ⟨rfl, c1⟩
      go_wp2
      go_ret
      exact ⟨rfl, bnext B3 (bnext B30 c1)⟩
    · go_enter Try.func5, Try.ntmps5
      go_wp2
      go_ret
      exact ⟨rfl, Below.refl _ _⟩
  · go_enter Try.func5, Try.ntmps5
    go_wp2
    go_ret
    exact ⟨rfl, Below.refl _ _⟩

end Go.Proofs.Ytlanjchckcbjcaa
