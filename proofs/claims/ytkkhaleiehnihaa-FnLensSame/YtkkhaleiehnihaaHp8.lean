/- The program's lengths by counts, however long they are. -/
import Derived.Test.YtkkhaleiehnihaaHp7
import Derived.Test.YtkkhaleiehnihaaHq3
import Derived.Test.YtkkhaleiehnihaaGn1
namespace Go.Proofs.Ytkkhaleiehnihaa
open Go.RowKit Corb

theorem two_cells (w : World) (x y : Value) (t : TypeId) (g : Nat) (hg : w.heap.size = g) : (w.alloc (.cells #[x, y] t)).cell? ⟨g, 0, none⟩ = some x ∧ (w.alloc (.cells #[x, y] t)).cell? ⟨g, 1, none⟩ = some y := by
  subst hg
  simp
def cellLen (w : World) (b : Nat) : Nat := match w.cell? ⟨b, 0, none⟩ with | some v => sliceLen v | none => 0

set_option maxRecDepth 100000 in
set_option maxHeartbeats 6400000 in
theorem pairedLens_any (a : Option Addr) (cap n : Nat) (l : List Int) (w : World) (hn : l.length = n) (h : IRow w a l) (hm : n ≤ 300) (hc : ∀ i, i < l.length → 0 ≤ l.getD i 0 ∧ l.getD i 0 ≤ 100000) (h2 : 1 < (seed l l.length).length) :
    Calls Try.prog 27 #[.slice a n cap] w fun e w' => e = .returned (.slice (some ⟨w.heap.size, 0, none⟩) n n) ∧ IOwn w' w.heap.size (.slice (some ⟨w.heap.size, 0, none⟩) n n) (hufL l) ∧ Below w.heap.size w w' := by
  have hmI : (n : Int) ≤ 300 := by omega
  obtain ⟨i0, hi, hz0, hz1, hz2⟩ := info_parts Try.infoInt
  have HN := hide (And.intro hn (And.intro hm (And.intro hc h2)))
  have HR := hide h
  have hfin : Hid (∀ k, (seed l l.length).length - k ≤ 1 → (k < (seed l l.length).length ∨ k = 0) → hufL l = (hufI l k).2) := by
    intro k h3 h4
    unfold hufL
    rw [if_neg (by omega)]
    congr 2; omega
  clear hc h2 h
  go_enter Try.func27, Try.ntmps27
  go_wp2_with (at_make; refine wpList_make_full _ rfl _ _ 22 rfl w.heap.size 3 i0 (.int .i64 0) 1 Try.underlying22 hi hz0 hz1 .i64 .i64 _ _ n rfl rfl rfl rfl (by rw [hz2]; omega) (by unfold maxLen; omega) (Nat.le_refl _) ?_; intro w1 hown hgrow)
  have hp0 : IOwn w1 w.heap.size (.slice (some ⟨w.heap.size, 0, none⟩) n n) (List.replicate l.length 0) := by
    rw [hn]
    exact made_ints hown
  have hb0 : Below w.heap.size w w1 := (Below.refl _ _).grown hgrow (Nat.le_refl _) (fun k h => by cases h)
  have hw1 : w.heap.size + 1 ≤ w1.heap.size := hp0.below.2
  have HSy := hide (symHeapOf_any a cap n l w1 hn ((unhide HR).later hb0) hm)
  have HP0 := hide (And.intro hp0 hb0)
  clear hown hgrow hn hm hp0 hb0 hi hz0 hz1 hz2
  refine (unhide HSy).mono ?_
  rintro e w2 ⟨rfl, L0, va0, vc0, hh0, hP0, hL0, hs0, hb2⟩
  have hp2 := (unhide HP0).1.later hb2 (Nat.le_refl _)
  have hbb := bnext (unhide HP0).2 hb2
  rw [← (unhide HN).1] at hL0
  clear HSy HP0
  generalize hB : w1.heap.size = B at *
  clear hB
  go_wp2_with fail
  go_loopw [5, 6, 7, 9] (fun _ _ _ _ wq => ∃ (j : Nat) (L : List Grp) (va : Option Addr) (vc : Nat), (j < (seed l l.length).length ∨ j = 0) ∧ (L.map bare).Perm (hufI l j).1 ∧ Heap wq B (B + 1) (.slice va L.length vc) L ∧ HP L ∧ Syms wq (B + 1) L ∧ IOwn wq w.heap.size (.slice (some ⟨w.heap.size, 0, none⟩) n n) (hufI l j).2 ∧ Below w.heap.size w wq) (fun _ _ _ _ wq => cellLen wq B)
  case atStart => exact ⟨0, L0, va0, vc0, .inr rfl, hL0, hh0, hP0, hs0, hp2, hbb⟩
  case round =>
    obtain ⟨j, L, va, vc, hj, hL, hh, hP, hs, hp, hbel⟩ := hrel
    clear hL0 hh0 hP0 hs0 hp2 hbb hb2
    have HZ := hide (heapSize_any B (B + 1) L.length vc va L wr hh)
    have hlenL : L.length = (seed l l.length).length - j := by
      have h1 := hL.length_eq
      rw [List.length_map, (hufI_inv l j hj).2.2.2] at h1
      exact h1
    by_cases hgo : 1 < L.length
    · obtain ⟨q, hq⟩ : ∃ q, L.length = q + 2 := ⟨L.length - 2, by omega⟩
      obtain ⟨g, rfl⟩ := hh.2.somes (by omega)
      rw [hq] at HZ
      have hq300 : q + 2 ≤ 300 := by
        have h2 := seed_lenle l l.length
        have := (unhide HN).1
        have := (unhide HN).2.1
        omega
      have hqI : (q : Int) + 2 ≤ 300 := by omega
      have hhq : Heap wr B (B + 1) (.slice (some ⟨g, 0, none⟩) (q + 1 + 1) vc) L := by rw [hq] at hh; exact hh
      have HT1 := hide (take_any B g (q + 1) vc L wr hs hq (by omega) hhq hP)
      have HQ := hide (And.intro hj (And.intro hL (And.intro hhq (And.intro hP (And.intro hs (And.intro hp (And.intro hbel hgo)))))))
      clear hj hL hhq hP hs hp hbel hgo hlenL hh hq300
      go_wp2_with fail
      refine (unhide HZ).mono ?_
      rintro e y1 ⟨rfl, hy1⟩
      rw [hy1]
      clear hy1 y1
      go_wp2_with fail
      refine (unhide HT1).mono ?_
      rintro e x1 ⟨rfl, M1, hM1, hP1, hh1, hb1, hk1⟩
      have HT2 : Hid (Calls Try.prog 39 #[.pointer (some ⟨B, 0, none⟩)] x1 fun e w' => e = .returned (.agg #[.int .i64 (M1.getD 0 g0).cnt, .int .i64 (M1.getD 0 g0).fst, (M1.getD 0 g0).val]) ∧ ∃ M : List Grp, (M1.getD 0 g0 :: M).Perm M1 ∧ HP M ∧ Heap w' B (B + 1) (.slice (some ⟨g, 0, none⟩) q vc) M ∧ Below B x1 w' ∧ KeepT 3 x1 w') := by
        obtain ⟨hj, hL, hh, hP, hs, hp, hbel, hgo⟩ := unhide HQ
        have hl1 : M1.length = q + 1 := by have := hM1.length_eq; simp at this; omega
        exact take_any B g q vc M1 x1 ((hk1.syms hs).sub (fun y hy => hM1.mem_iff.1 (by simp [hy]))) hl1 (by omega) hh1 hP1
      have HX1 := hide (And.intro hM1 (And.intro hP1 (And.intro hb1 hk1)))
      obtain ⟨aa, ac, hav⟩ := ((unhide HQ).2.2.2.2.1 (L.getD 0 g0) (getD_mem L 0 (by omega))).form
      rw [hav]
      have hLm := getD_mem L 0 (by omega)
      have HAV := hide (And.intro hav hLm)
      clear hM1 hP1 hh1 hb1 hk1 hav hLm
      generalize hAe : L.getD 0 g0 = A at *
      have HAe := hide hAe
      clear hAe
      go_wp2_with fail
      refine (unhide HT2).mono ?_
      rintro e x2 ⟨rfl, M2, hM2, hP2, hh2, hb2, hk2⟩
      have HF : Hid (M1.length = q + 1 ∧ M2.length = q ∧ IOwn x2 (B + 1) A.val A.syms ∧ IOwn x2 (B + 1) (M1.getD 0 g0).val (M1.getD 0 g0).syms ∧ Syms x2 (B + 1) M2 ∧ IOwn x2 w.heap.size (.slice (some ⟨w.heap.size, 0, none⟩) n n) (hufI l j).2 ∧ Below w.heap.size w x2 ∧ M2.Perm M2) := by
        obtain ⟨hj, hL, hh, hP, hs, hp, hbel, hgo⟩ := unhide HQ
        obtain ⟨hM1, hP1, hb1, hk1⟩ := unhide HX1
        have hl1 : M1.length = q + 1 := by have := hM1.length_eq; simp at this; omega
        have hl2 : M2.length = q := by have := hM2.length_eq; simp at this; omega
        have hk := hk1.trans hk2
        have hs1 : Syms x2 (B + 1) M1 := (hk.syms hs).sub (fun y hy => hM1.mem_iff.1 (by simp [hy]))
        exact ⟨hl1, hl2, hk.ints (hs _ (unhide HAV).2), hs1 _ (getD_mem M1 0 (by omega)), hs1.sub (fun y hy => hM2.mem_iff.1 (by simp [hy])), hk.ints hp, (hbel.trans (hb1.mono (by omega))).trans (hb2.mono (by omega)), List.Perm.refl _⟩
      have HX2 := hide (And.intro hM2 (And.intro hP2 hh2))
      obtain ⟨ga, gc, hgv⟩ := (unhide HF).2.2.2.1.form
      have hTwo := hide (heap_two (unhide HN).2.2.1 (by rw [(unhide HN).1]; exact (unhide HN).2.1) (unhide HQ).1 (unhide HQ).2.1 (unhide HQ).2.2.2.1 (by omega) (by rw [unhide HAe]; exact (unhide HX1).1) (unhide HX1).2.1 hM2)
      rw [unhide HAe] at hTwo
      rw [hgv]
      have HGV := hide hgv
      have hx2s := hh2.lt
      clear hM2 hP2 hh2 hb2 hk2 hgv
      generalize M1.getD 0 g0 = G at *
      clear HT1 HT2 HZ
      go_wp2_with fail
      have hW3 : Below x2.heap.size x2 (((x2.alloc (.cells #[.int .i64 A.cnt, .int .i64 A.fst, .slice aa A.syms.length ac] 44)).alloc (.cells #[.int .i64 G.cnt, .int .i64 G.fst, .slice ga G.syms.length gc] 44)).alloc (.cells #[.slice aa A.syms.length ac, .slice ga G.syms.length gc] 22)) :=
        (((Below.refl _ _).alloc (Nat.le_refl _) _).alloc (by simp) _).alloc (by simp; omega) _
      have hTA : Three (((x2.alloc (.cells #[.int .i64 A.cnt, .int .i64 A.fst, .slice aa A.syms.length ac] 44)).alloc (.cells #[.int .i64 G.cnt, .int .i64 G.fst, .slice ga G.syms.length gc] 44)).alloc (.cells #[.slice aa A.syms.length ac, .slice ga G.syms.length gc] 22)) x2.heap.size (.int .i64 A.cnt) (.int .i64 A.fst) (.slice aa A.syms.length ac) :=
        ((three_of x2 _ _ _ _).later ((Below.refl _ _).alloc (Nat.le_refl _) _)).later ((Below.refl _ _).alloc (Nat.le_refl _) _)
      have hTG : Three (((x2.alloc (.cells #[.int .i64 A.cnt, .int .i64 A.fst, .slice aa A.syms.length ac] 44)).alloc (.cells #[.int .i64 G.cnt, .int .i64 G.fst, .slice ga G.syms.length gc] 44)).alloc (.cells #[.slice aa A.syms.length ac, .slice ga G.syms.length gc] 22)) (x2.heap.size + 1) (.int .i64 G.cnt) (.int .i64 G.fst) (.slice ga G.syms.length gc) := by
        have h1 := three_of (x2.alloc (.cells #[.int .i64 A.cnt, .int .i64 A.fst, .slice aa A.syms.length ac] 44)) (.int .i64 G.cnt) (.int .i64 G.fst) (.slice ga G.syms.length gc) 44
        have e : (x2.alloc (.cells #[.int .i64 A.cnt, .int .i64 A.fst, .slice aa A.syms.length ac] 44)).heap.size = x2.heap.size + 1 := by simp
        rw [e] at h1
        exact h1.later ((Below.refl _ _).alloc (Nat.le_refl _) _)
      have hRw : RowsInt (((x2.alloc (.cells #[.int .i64 A.cnt, .int .i64 A.fst, .slice aa A.syms.length ac] 44)).alloc (.cells #[.int .i64 G.cnt, .int .i64 G.fst, .slice ga G.syms.length gc] 44)).alloc (.cells #[.slice aa A.syms.length ac, .slice ga G.syms.length gc] 22)) (x2.heap.size + 1 + 1) (B + 1) [(.slice aa A.syms.length ac, A.syms.map (Value.int .i64)), (.slice ga G.syms.length gc, G.syms.map (Value.int .i64))] := by
        have hoA := (unhide HF).2.2.1.later hW3 (Nat.le_refl _)
        have hoG := (unhide HF).2.2.2.1.later hW3 (Nat.le_refl _)
        rw [(unhide HAV).1] at hoA
        rw [unhide HGV] at hoG
        intro i hi
        match i, hi with
        | 0, _ => exact ⟨(two_cells _ _ _ _ _ (by simp)).1, _, hoA, ints_oneCell .i64 _⟩
        | 1, _ => exact ⟨(two_cells _ _ _ _ _ (by simp)).2, _, hoG, ints_oneCell .i64 _⟩
      have hSz : (((x2.alloc (.cells #[.int .i64 A.cnt, .int .i64 A.fst, .slice aa A.syms.length ac] 44)).alloc (.cells #[.int .i64 G.cnt, .int .i64 G.fst, .slice ga G.syms.length gc] 44)).alloc (.cells #[.slice aa A.syms.length ac, .slice ga G.syms.length gc] 22)).heap.size = x2.heap.size + 3 := by simp
      generalize ((x2.alloc (.cells #[.int .i64 A.cnt, .int .i64 A.fst, .slice aa A.syms.length ac] 44)).alloc (.cells #[.int .i64 G.cnt, .int .i64 G.fst, .slice ga G.syms.length gc] 44)).alloc (.cells #[.slice aa A.syms.length ac, .slice ga G.syms.length gc] 22) = W3 at *
      have hlen2 : rowsLenInt [(Value.slice aa A.syms.length ac, A.syms.map (Value.int .i64)), (Value.slice ga G.syms.length gc, G.syms.map (Value.int .i64))] = (A.syms ++ G.syms).length := by simp [rowsLenInt, rowLenInt]
      have hall2 : rowsAllInt [(Value.slice aa A.syms.length ac, A.syms.map (Value.int .i64)), (Value.slice ga G.syms.length gc, G.syms.map (Value.int .i64))] = (A.syms ++ G.syms).map (Value.int .i64) := by simp [rowsAllInt]
      refine (concatInt (x2.heap.size + 1 + 1) (B + 1) 2 2 _ W3 rfl (by omega) (by omega) hRw (by rw [hlen2]; have := (unhide hTwo).2.2.2.2.2.1; omega)).mono ?_
      rintro e x3 ⟨v, rfl, ho3, hb3⟩
      rw [hlen2, hall2] at ho3
      have hS3 : IOwn x3 W3.heap.size v (A.syms ++ G.syms) := ho3
      have hTA3 := hTA.later hb3
      have hTG3 := hTG.later hb3
      have hW3' := bnext hW3 hb3
      have HX3 : Hid (Heap x3 B (B + 1) (.slice (some ⟨g, 0, none⟩) q vc) M2 ∧ Syms x3 (B + 1) M2 ∧ IOwn x3 w.heap.size (.slice (some ⟨w.heap.size, 0, none⟩) n n) (hufI l j).2 ∧ Below w.heap.size w x3 ∧ IOwn x3 W3.heap.size v (A.syms ++ G.syms) ∧ Three x3 x2.heap.size (.int .i64 A.cnt) (.int .i64 A.fst) (.slice aa A.syms.length ac) ∧ Three x3 (x2.heap.size + 1) (.int .i64 G.cnt) (.int .i64 G.fst) (.slice ga G.syms.length gc) ∧ x2.heap.size + 3 ≤ x3.heap.size) := by
        obtain ⟨hl1, hl2, hoA, hoG, hsm, hpl, hbw, _⟩ := unhide HF
        refine ⟨(unhide HX2).2.2.later hW3', hsm.later hW3' (Nat.le_refl _), hpl.later hW3' (Nat.le_refl _), hbw.trans (hW3'.mono (by omega)), hS3, hTA3, hTG3, ?_⟩
        have := hb3.size
        omega
      obtain ⟨sa, sc, hsv⟩ := hS3.form
      have hSl : Hid ((A.syms ++ G.syms).length ≤ 300 ∧ 0 < (A.syms ++ G.syms).length ∧ (∀ x ∈ A.syms ++ G.syms, 0 ≤ x ∧ x < (l.length : Int))) := by
        obtain ⟨t1, t2, t3, t4, t5, t6, t7, t8, t9⟩ := unhide hTwo
        refine ⟨t6, ?_, t9⟩
        rw [List.length_append]; omega
      clear hW3 hTA hTG hRw ho3 hb3 hS3 hTA3 hTG3 hW3' hall2 hlen2
      generalize hS : A.syms ++ G.syms = S at *
      have HSe := hide hS
      clear hS
      obtain ⟨gs, hgs⟩ := (show IOwn x3 W3.heap.size (.slice sa S.length sc) S by rw [← hsv]; exact (unhide HX3).2.2.2.2.1).somes (unhide hSl).2.1
      subst hgs
      subst hsv
      have sI : (S.length : Int) ≤ 300 := by have := (unhide hSl).1; omega
      have hgsb := (unhide HX3).2.2.2.2.1.below
      go_wp2_with fail
      have hmx := hide (hufI_max l (fun i hi => ((unhide HN).2.2.1 i hi).2) (by rw [(unhide HN).1]; exact (unhide HN).2.1) j (unhide HQ).1)
      have hjb : Hid ((j : Int) ≤ 300) := by
        show (j : Int) ≤ 300
        have h1 := (unhide HQ).1
        have h2 := seed_lenle l l.length
        have := (unhide HN).1
        have := (unhide HN).2.1
        omega
      have HCL : Hid (cellLen wr B = q + 2) := by
        show cellLen wr B = q + 2
        unfold cellLen
        rw [(unhide HQ).2.2.1.cell]
        rfl
      go_loopw [9, 30] (fun _ i wq => ∃ t : Nat, t ≤ S.length ∧ i = .int .i64 t ∧ IOwn wq w.heap.size (.slice (some ⟨w.heap.size, 0, none⟩) n n) (bump (hufI l j).2 (S.take t)) ∧ Touch (some ⟨w.heap.size, 0, none⟩) x3 wq ∧ Below w.heap.size w wq) (fun _ i _ => S.length - (intOf i).toNat)
      case atStart => exact ⟨0, Nat.zero_le _, rfl, (unhide HX3).2.2.1, Touch.refl _ _, (unhide HX3).2.2.2.1⟩
      case round =>
        obtain ⟨t, ht, rfl, hpt, htch, hbt⟩ := hrel
        have hln : Hid ((bump (hufI l j).2 (S.take t)).length = n) := by show (bump (hufI l j).2 (S.take t)).length = n; rw [bump_len, hufI_len, (unhide HN).1]
        have htk : Hid (t ≤ S.length) := ht
        clear ht
        by_cases hlt3 : t < S.length
        · have hsyt := (unhide HX3).2.2.2.2.1.touch htch (touch_lt _ _ (by omega))
          obtain ⟨c0, _, _, _⟩ := hsyt.at rfl hlt3
          have hx := (unhide hSl).2.2 (S.getD t 0) (by simp [List.getD, hlt3])
          rw [(unhide HN).1] at hx
          have hbt1 := hide (bump_take (hufI l j).2 S t hlt3)
          have hmx2 := hide (bump_max (unhide hmx) (S.take t))
          obtain ⟨p, hpp⟩ := Int.eq_ofNat_of_zero_le hx.1
          rw [hpp] at c0 hbt1
          have hpn : p < n := by omega
          obtain ⟨d0, f0, _, _⟩ := hpt.at (unhide hln) hpn
          have hyb := unhide hmx2 p (by rw [unhide hln]; exact hpn)
          have hput := hpt.put (j := p) (unhide hln) ((bump (hufI l j).2 (S.take t)).getD p 0 + 1)
          have hst : Hid (bump (hufI l j).2 (S.take (t + 1)) = (bump (hufI l j).2 (S.take t)).set p ((bump (hufI l j).2 (S.take t)).getD p 0 + 1)) := by
            show bump (hufI l j).2 (S.take (t + 1)) = _
            rw [unhide hbt1]
            unfold bump1
            rw [Int.toNat_natCast]
          have hyI : (bump (hufI l j).2 (S.take t)).getD p 0 ≤ 100000 := by
            have h1 := hyb.2
            have h2 : (S.take t).length ≤ 300 := by rw [List.length_take]; have := (unhide hSl).1; omega
            have := unhide hjb
            omega
          have hy0 := hyb.1
          have hbt2 := below_set hbt (b := w.heap.size) (o := p) (Nat.le_refl _) (.int .i64 ((bump (hufI l j).2 (S.take t)).getD p 0 + 1))
          have htch2 := htch.set (o := p) rfl (.int .i64 ((bump (hufI l j).2 (S.take t)).getD p 0 + 1))
          have hpnI : (p : Int) < (n : Int) := by omega
          rw [← unhide hst] at hput
          generalize (bump (hufI l j).2 (S.take t)).getD p 0 = y at *
          have HPUT := hide (And.intro hput (And.intro hbt2 htch2))
          have hltI : (t : Int) < (S.length : Int) := by omega
          clear hput hbt2 htch2 hst hyb hmx2 hbt1 hpp hx hsyt htch hbt hpt
          go_wp2
          go_roundw
          case rel => exact ⟨t + 1, by have := unhide htk; omega, by go_num, (unhide HPUT).1, (unhide HPUT).2.2, (unhide HPUT).2.1⟩
          case measure => simp [intOf]; omega
        · obtain rfl : t = S.length := by have := unhide htk; omega
          rw [List.take_of_length_le (Nat.le_refl _)] at hpt
          obtain ⟨h3, s3, _, _, o3, tA, tG, z3⟩ := unhide HX3
          have hBs : w.heap.size < B := by omega
          have hgl := (World.ownsRow.lt h3.2 g rfl).1
          have HY : Hid (Heap wr B (B + 1) (.slice (some ⟨g, 0, none⟩) q vc) M2 ∧ Syms wr (B + 1) M2 ∧ IOwn wr (B + 1) (.slice (some ⟨gs, 0, none⟩) S.length sc) S) := by
            refine ⟨⟨(htch.2 B (fun g' e => by simp only [Option.some.injEq, Addr.mk.injEq, and_true] at e; omega)).trans h3.1, ownsRow_touch h3.2 htch (touch_lt _ _ (by omega))⟩, fun y hy => (s3 y hy).touch htch (touch_lt _ _ (by omega)), ?_⟩
            have h4 := o3.touch htch (touch_lt _ _ (by omega))
            exact IOwn.mono h4 (by omega)
          obtain ⟨a0, a1, _, _, _, _, abl⟩ := tA
          obtain ⟨b0, b1, _, _, _, _, bbl⟩ := tG
          have a0' := (touch_cell htch (p := ⟨x2.heap.size, 0, none⟩) (by show x2.heap.size ≠ w.heap.size; omega)).trans a0
          have a1' := (touch_cell htch (p := ⟨x2.heap.size, 1, none⟩) (by show x2.heap.size ≠ w.heap.size; omega)).trans a1
          have b0' := (touch_cell htch (p := ⟨x2.heap.size + 1, 0, none⟩) (by show x2.heap.size + 1 ≠ w.heap.size; omega)).trans b0
          have b1' := (touch_cell htch (p := ⟨x2.heap.size + 1, 1, none⟩) (by show x2.heap.size + 1 ≠ w.heap.size; omega)).trans b1
          obtain ⟨t1, t2, t3, t4, t5, t6, t7, t8, t9⟩ := unhide hTwo
          obtain ⟨F, hF⟩ : ∃ F : Int, F = if G.fst < A.fst then G.fst else A.fst := ⟨_, rfl⟩
          rw [← hF] at t2
          have HT2 := hide (And.intro t1 t2)
          have HLy := hide (lay_any B q vc (some ⟨g, 0, none⟩) M2 ⟨A.cnt + G.cnt, F, S, .slice (some ⟨gs, 0, none⟩) S.length sc⟩ wr (unhide HY).2.1 (unhide HY).2.2 (unhide HF).2.1 (by omega) (unhide HY).1 (unhide HX2).2.1)
          have HPT := hide (And.intro hpt hbt)
          clear h3 s3 o3 z3 a0 a1 b0 b1 htch hpt hbt hSz hgsb t1 t2 t6 t7 t8 t9
          by_cases hlt2 : A.fst ≤ G.fst
          · have hFe : F = A.fst := by rw [hF, if_neg (by omega)]
            rw [hFe] at HLy HT2
            clear hF hFe
            go_wp2_with fail
            refine (unhide HLy).mono ?_
            rintro e x5 ⟨rfl, M3, g', c', hM3, hP3, hh5, hb5, hk5⟩
            go_wp2
            go_roundw
            case rel =>
              have hl3 : M3.length = q + 1 := by rw [hM3.length_eq, List.length_append, (unhide HF).2.1]; rfl
              have hcell := (unhide HPT).1
              refine ⟨j + 1, M3, some ⟨g', 0, none⟩, c', .inl ?_, (unhide HT2).2 M3 _ hM3, by rw [hl3]; exact hh5, hP3, ?_, ?_, (unhide HPT).2.trans (hb5.mono (by omega))⟩
              · have h1 := (unhide HQ).2.1.length_eq
                rw [List.length_map, (hufI_inv l j (unhide HQ).1).2.2.2] at h1
                omega
              · exact (((hk5.syms (unhide HY).2.1)).snoc (hk5.ints (unhide HY).2.2)).perm hM3
              · show IOwn x5 w.heap.size _ (bump (hufI l j).2 (symsG (hufI l j).1))
                rw [(unhide HT2).1]
                exact hk5.ints hcell
            case measure =>
              rw [unhide HCL]
              unfold cellLen
              rw [hh5.cell]
              simp [sliceLen]
          · have hFe : F = G.fst := by rw [hF, if_pos (by omega)]
            rw [hFe] at HLy HT2
            clear hF hFe
            go_wp2_with fail
            refine (unhide HLy).mono ?_
            rintro e x5 ⟨rfl, M3, g', c', hM3, hP3, hh5, hb5, hk5⟩
            go_wp2
            go_roundw
            case rel =>
              have hl3 : M3.length = q + 1 := by rw [hM3.length_eq, List.length_append, (unhide HF).2.1]; rfl
              have hcell := (unhide HPT).1
              refine ⟨j + 1, M3, some ⟨g', 0, none⟩, c', .inl ?_, (unhide HT2).2 M3 _ hM3, by rw [hl3]; exact hh5, hP3, ?_, ?_, (unhide HPT).2.trans (hb5.mono (by omega))⟩
              · have h1 := (unhide HQ).2.1.length_eq
                rw [List.length_map, (hufI_inv l j (unhide HQ).1).2.2.2] at h1
                omega
              · exact (((hk5.syms (unhide HY).2.1)).snoc (hk5.ints (unhide HY).2.2)).perm hM3
              · show IOwn x5 w.heap.size _ (bump (hufI l j).2 (symsG (hufI l j).1))
                rw [(unhide HT2).1]
                exact hk5.ints hcell
            case measure =>
              rw [unhide HCL]
              unfold cellLen
              rw [hh5.cell]
              simp [sliceLen]
    · obtain ⟨va', vc', hform⟩ : ∃ x y, Value.slice va L.length vc = .slice x L.length y := ⟨_, _, rfl⟩
      have hle : ¬ (1 : Int) < (L.length : Int) := by omega
      have hres := unhide hfin j (by omega) hj
      rw [← hres] at hp
      clear hform
      go_wp2_with fail
      refine (unhide HZ).mono ?_
      rintro e y1 ⟨rfl, hy1⟩
      rw [hy1]
      clear hy1 y1
      go_wp2
      go_ret
      exact ⟨rfl, hp, hbel⟩

end Go.Proofs.Ytkkhaleiehnihaa
