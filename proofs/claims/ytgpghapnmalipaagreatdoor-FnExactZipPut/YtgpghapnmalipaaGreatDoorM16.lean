/- Of what the proof is made: 5 texts, one behind the other. -/
import Derived.Test.YtgpghapnmalipaaGreatDoorM13
import Derived.Test.YtgpghapnmalipaaGreatDoorM11
namespace Go.Proofs.YtgpghapnmalipaaGreatDoor
open Go.RowKit Corb
theorem two_cells (w : World) (x y : Value) (t : TypeId) (g : Nat) (hg : w.heap.size = g) : (w.alloc (.cells #[x, y] t)).cell? ⟨g, 0, none⟩ = some x ∧ (w.alloc (.cells #[x, y] t)).cell? ⟨g, 1, none⟩ = some y := by
  subst hg
  simp
def cellLen (w : World) (b : Nat) : Nat := match w.cell? ⟨b, 0, none⟩ with | some v => sliceLen v | none => 0
set_option maxRecDepth 100000 in
set_option maxHeartbeats 6400000 in
theorem pairedLens_any (a : Option Addr) (cap n : Nat) (l : List Int) (w : World) (hn : l.length = n) (h : IRow w a l) (hm : n ≤ 300) (hc : ∀ i, i < l.length → 0 ≤ l.getD i 0 ∧ l.getD i 0 ≤ 100000) (h2 : 1 < (seed l l.length).length) :
    Calls Tryz.prog 107 #[.slice a n cap] w fun e w' => e = .returned (.slice (some ⟨w.heap.size, 0, none⟩) n n) ∧ IOwn w' w.heap.size (.slice (some ⟨w.heap.size, 0, none⟩) n n) (hufL l) ∧ Below w.heap.size w w' := by
  have hmI : (n : Int) ≤ 300 := by omega
  obtain ⟨i0, hi, hz0, hz1, hz2⟩ := info_parts Tryz.infoInt
  have HN := hide (And.intro hn (And.intro hm (And.intro hc h2)))
  have HR := hide h
  have hfin : Hid (∀ k, (seed l l.length).length - k ≤ 1 → (k < (seed l l.length).length ∨ k = 0) → hufL l = (hufI l k).2) := by
    intro k h3 h4
    unfold hufL
    rw [if_neg (by omega)]
    congr 2; omega
  clear hc h2 h
  go_enter Tryz.func107, Tryz.ntmps107
  go_wp2_with (at_make; refine wpList_make_full _ rfl _ _ 107 rfl w.heap.size 3 i0 (.int .i64 0) 1 Tryz.underlying107 hi hz0 hz1 .i64 .i64 _ _ n rfl rfl rfl rfl (by rw [hz2]; omega) (by unfold maxLen; omega) (Nat.le_refl _) ?_; intro w1 hown hgrow)
  have hp0 : IOwn w1 w.heap.size (.slice (some ⟨w.heap.size, 0, none⟩) n n) (List.replicate l.length 0) := by
    rw [hn]
    exact made_ints hown
  have hb0 : Below w.heap.size w w1 := (Below.refl _ _).grown hgrow (Nat.le_refl _) (fun k h => by cases h)
  have hw1 : w.heap.size + 1 ≤ w1.heap.size := hp0.below.2
  have HSy := hide (symHeapOf_any a cap n l w1 hn ((unhide HR).later hb0) hm)
  have HP0 := hide (And.intro hp0 hb0)
  clear hown hgrow hn hm hp0 hb0 hi hz0 hz1 hz2
  refine (unhide HSy).mono ?_
  rintro e w2 ⟨rfl, L0, va0, vc0, hh0, hP0, hL0, hs0, hb2⟩
  have hp2 := (unhide HP0).1.later hb2 (Nat.le_refl _)
  have hbb := bnext (unhide HP0).2 hb2
  rw [← (unhide HN).1] at hL0
  clear HSy HP0
  generalize hB : w1.heap.size = B at *
  clear hB
  go_wp2_with fail
  go_loopw [5, 6, 7, 9] (fun _ _ _ _ wq => ∃ (j : Nat) (L : List Grp) (va : Option Addr) (vc : Nat), (j < (seed l l.length).length ∨ j = 0) ∧ (L.map bare).Perm (hufI l j).1 ∧ Heap wq B (B + 1) (.slice va L.length vc) L ∧ HP L ∧ Syms wq (B + 1) L ∧ IOwn wq w.heap.size (.slice (some ⟨w.heap.size, 0, none⟩) n n) (hufI l j).2 ∧ Below w.heap.size w wq) (fun _ _ _ _ wq => cellLen wq B)
  case atStart => exact ⟨0, L0, va0, vc0, .inr rfl, hL0, hh0, hP0, hs0, hp2, hbb⟩
  case round =>
    obtain ⟨j, L, va, vc, hj, hL, hh, hP, hs, hp, hbel⟩ := hrel
    clear hL0 hh0 hP0 hs0 hp2 hbb hb2
    have HZ := hide (heapSize_any B (B + 1) L.length vc va L wr hh)
    have hlenL : L.length = (seed l l.length).length - j := by
      have h1 := hL.length_eq
      rw [List.length_map, (hufI_inv l j hj).2.2.2] at h1
      exact h1
    by_cases hgo : 1 < L.length
    · obtain ⟨q, hq⟩ : ∃ q, L.length = q + 2 := ⟨L.length - 2, by omega⟩
      obtain ⟨g, rfl⟩ := hh.2.somes (by omega)
      rw [hq] at HZ
      have hq300 : q + 2 ≤ 300 := by
        have h2 := seed_lenle l l.length
        have := (unhide HN).1
        have := (unhide HN).2.1
        omega
      have hqI : (q : Int) + 2 ≤ 300 := by omega
      have hhq : Heap wr B (B + 1) (.slice (some ⟨g, 0, none⟩) (q + 1 + 1) vc) L := by rw [hq] at hh; exact hh
      have HT1 := hide (take_any B g (q + 1) vc L wr hs hq (by omega) hhq hP)
      have HQ := hide (And.intro hj (And.intro hL (And.intro hhq (And.intro hP (And.intro hs (And.intro hp (And.intro hbel hgo)))))))
      clear hj hL hhq hP hs hp hbel hgo hlenL hh hq300
      go_wp2_with fail
      refine (unhide HZ).mono ?_
      rintro e y1 ⟨rfl, hy1⟩
      rw [hy1]
      clear hy1 y1
      go_wp2_with fail
      refine (unhide HT1).mono ?_
      rintro e x1 ⟨rfl, M1, hM1, hP1, hh1, hb1, hk1⟩
      have HT2 : Hid (Calls Tryz.prog 143 #[.pointer (some ⟨B, 0, none⟩)] x1 fun e w' => e = .returned (.agg #[.int .i64 (M1.getD 0 g0).cnt, .int .i64 (M1.getD 0 g0).fst, (M1.getD 0 g0).val]) ∧ ∃ M : List Grp, (M1.getD 0 g0 :: M).Perm M1 ∧ HP M ∧ Heap w' B (B + 1) (.slice (some ⟨g, 0, none⟩) q vc) M ∧ Below B x1 w' ∧ KeepT 3 x1 w') := by
        obtain ⟨hj, hL, hh, hP, hs, hp, hbel, hgo⟩ := unhide HQ
        have hl1 : M1.length = q + 1 := by have := hM1.length_eq; simp at this; omega
        exact take_any B g q vc M1 x1 ((hk1.syms hs).sub (fun y hy => hM1.mem_iff.1 (by simp [hy]))) hl1 (by omega) hh1 hP1
      have HX1 := hide (And.intro hM1 (And.intro hP1 (And.intro hb1 hk1)))
      obtain ⟨aa, ac, hav⟩ := ((unhide HQ).2.2.2.2.1 (L.getD 0 g0) (getD_mem L 0 (by omega))).form
      rw [hav]
      have hLm := getD_mem L 0 (by omega)
      have HAV := hide (And.intro hav hLm)
      clear hM1 hP1 hh1 hb1 hk1 hav hLm
      generalize hAe : L.getD 0 g0 = A at *
      have HAe := hide hAe
      clear hAe
      go_wp2_with fail
      refine (unhide HT2).mono ?_
      rintro e x2 ⟨rfl, M2, hM2, hP2, hh2, hb2, hk2⟩
      have HF : Hid (M1.length = q + 1 ∧ M2.length = q ∧ IOwn x2 (B + 1) A.val A.syms ∧ IOwn x2 (B + 1) (M1.getD 0 g0).val (M1.getD 0 g0).syms ∧ Syms x2 (B + 1) M2 ∧ IOwn x2 w.heap.size (.slice (some ⟨w.heap.size, 0, none⟩) n n) (hufI l j).2 ∧ Below w.heap.size w x2 ∧ M2.Perm M2) := by
        obtain ⟨hj, hL, hh, hP, hs, hp, hbel, hgo⟩ := unhide HQ
        obtain ⟨hM1, hP1, hb1, hk1⟩ := unhide HX1
        have hl1 : M1.length = q + 1 := by have := hM1.length_eq; simp at this; omega
        have hl2 : M2.length = q := by have := hM2.length_eq; simp at this; omega
        have hk := hk1.trans hk2
        have hs1 : Syms x2 (B + 1) M1 := (hk.syms hs).sub (fun y hy => hM1.mem_iff.1 (by simp [hy]))
        exact ⟨hl1, hl2, hk.ints (hs _ (unhide HAV).2), hs1 _ (getD_mem M1 0 (by omega)), hs1.sub (fun y hy => hM2.mem_iff.1 (by simp [hy])), hk.ints hp, (hbel.trans (hb1.mono (by omega))).trans (hb2.mono (by omega)), List.Perm.refl _⟩
      have HX2 := hide (And.intro hM2 (And.intro hP2 hh2))
      obtain ⟨ga, gc, hgv⟩ := (unhide HF).2.2.2.1.form
      have hTwo := hide (heap_two (unhide HN).2.2.1 (by rw [(unhide HN).1]; exact (unhide HN).2.1) (unhide HQ).1 (unhide HQ).2.1 (unhide HQ).2.2.2.1 (by omega) (by rw [unhide HAe]; exact (unhide HX1).1) (unhide HX1).2.1 hM2)
      rw [unhide HAe] at hTwo
      rw [hgv]
      have HGV := hide hgv
      have hx2s := hh2.lt
      clear hM2 hP2 hh2 hb2 hk2 hgv
      generalize M1.getD 0 g0 = G at *
      clear HT1 HT2 HZ
      go_wp2_with fail
      have hW3 : Below x2.heap.size x2 (((x2.alloc (.cells #[.int .i64 A.cnt, .int .i64 A.fst, .slice aa A.syms.length ac] 228)).alloc (.cells #[.int .i64 G.cnt, .int .i64 G.fst, .slice ga G.syms.length gc] 228)).alloc (.cells #[.slice aa A.syms.length ac, .slice ga G.syms.length gc] 107)) :=
        (((Below.refl _ _).alloc (Nat.le_refl _) _).alloc (by simp) _).alloc (by simp; omega) _
      have hTA : Three (((x2.alloc (.cells #[.int .i64 A.cnt, .int .i64 A.fst, .slice aa A.syms.length ac] 228)).alloc (.cells #[.int .i64 G.cnt, .int .i64 G.fst, .slice ga G.syms.length gc] 228)).alloc (.cells #[.slice aa A.syms.length ac, .slice ga G.syms.length gc] 107)) x2.heap.size (.int .i64 A.cnt) (.int .i64 A.fst) (.slice aa A.syms.length ac) :=
        ((three_of x2 _ _ _ _).later ((Below.refl _ _).alloc (Nat.le_refl _) _)).later ((Below.refl _ _).alloc (Nat.le_refl _) _)
      have hTG : Three (((x2.alloc (.cells #[.int .i64 A.cnt, .int .i64 A.fst, .slice aa A.syms.length ac] 228)).alloc (.cells #[.int .i64 G.cnt, .int .i64 G.fst, .slice ga G.syms.length gc] 228)).alloc (.cells #[.slice aa A.syms.length ac, .slice ga G.syms.length gc] 107)) (x2.heap.size + 1) (.int .i64 G.cnt) (.int .i64 G.fst) (.slice ga G.syms.length gc) := by
        have h1 := three_of (x2.alloc (.cells #[.int .i64 A.cnt, .int .i64 A.fst, .slice aa A.syms.length ac] 228)) (.int .i64 G.cnt) (.int .i64 G.fst) (.slice ga G.syms.length gc) 228
        have e : (x2.alloc (.cells #[.int .i64 A.cnt, .int .i64 A.fst, .slice aa A.syms.length ac] 228)).heap.size = x2.heap.size + 1 := by simp
        rw [e] at h1
        exact h1.later ((Below.refl _ _).alloc (Nat.le_refl _) _)
      have hRw : RowsInt (((x2.alloc (.cells #[.int .i64 A.cnt, .int .i64 A.fst, .slice aa A.syms.length ac] 228)).alloc (.cells #[.int .i64 G.cnt, .int .i64 G.fst, .slice ga G.syms.length gc] 228)).alloc (.cells #[.slice aa A.syms.length ac, .slice ga G.syms.length gc] 107)) (x2.heap.size + 1 + 1) (B + 1) [(.slice aa A.syms.length ac, A.syms.map (Value.int .i64)), (.slice ga G.syms.length gc, G.syms.map (Value.int .i64))] := by
        have hoA := (unhide HF).2.2.1.later hW3 (Nat.le_refl _)
        have hoG := (unhide HF).2.2.2.1.later hW3 (Nat.le_refl _)
        rw [(unhide HAV).1] at hoA
        rw [unhide HGV] at hoG
        intro i hi
        match i, hi with
        | 0, _ => exact ⟨(two_cells _ _ _ _ _ (by simp)).1, _, hoA, ints_oneCell .i64 _⟩
        | 1, _ => exact ⟨(two_cells _ _ _ _ _ (by simp)).2, _, hoG, ints_oneCell .i64 _⟩
      have hSz : (((x2.alloc (.cells #[.int .i64 A.cnt, .int .i64 A.fst, .slice aa A.syms.length ac] 228)).alloc (.cells #[.int .i64 G.cnt, .int .i64 G.fst, .slice ga G.syms.length gc] 228)).alloc (.cells #[.slice aa A.syms.length ac, .slice ga G.syms.length gc] 107)).heap.size = x2.heap.size + 3 := by simp
      generalize ((x2.alloc (.cells #[.int .i64 A.cnt, .int .i64 A.fst, .slice aa A.syms.length ac] 228)).alloc (.cells #[.int .i64 G.cnt, .int .i64 G.fst, .slice ga G.syms.length gc] 228)).alloc (.cells #[.slice aa A.syms.length ac, .slice ga G.syms.length gc] 107) = W3 at *
      have hlen2 : rowsLenInt [(Value.slice aa A.syms.length ac, A.syms.map (Value.int .i64)), (Value.slice ga G.syms.length gc, G.syms.map (Value.int .i64))] = (A.syms ++ G.syms).length := by simp [rowsLenInt, rowLenInt]
      have hall2 : rowsAllInt [(Value.slice aa A.syms.length ac, A.syms.map (Value.int .i64)), (Value.slice ga G.syms.length gc, G.syms.map (Value.int .i64))] = (A.syms ++ G.syms).map (Value.int .i64) := by simp [rowsAllInt]
      refine (concatInt (x2.heap.size + 1 + 1) (B + 1) 2 2 _ W3 rfl (by omega) (by omega) hRw (by rw [hlen2]; have := (unhide hTwo).2.2.2.2.2.1; omega)).mono ?_
      rintro e x3 ⟨v, rfl, ho3, hb3⟩
      rw [hlen2, hall2] at ho3
      have hS3 : IOwn x3 W3.heap.size v (A.syms ++ G.syms) := ho3
      have hTA3 := hTA.later hb3
      have hTG3 := hTG.later hb3
      have hW3' := bnext hW3 hb3
      have HX3 : Hid (Heap x3 B (B + 1) (.slice (some ⟨g, 0, none⟩) q vc) M2 ∧ Syms x3 (B + 1) M2 ∧ IOwn x3 w.heap.size (.slice (some ⟨w.heap.size, 0, none⟩) n n) (hufI l j).2 ∧ Below w.heap.size w x3 ∧ IOwn x3 W3.heap.size v (A.syms ++ G.syms) ∧ Three x3 x2.heap.size (.int .i64 A.cnt) (.int .i64 A.fst) (.slice aa A.syms.length ac) ∧ Three x3 (x2.heap.size + 1) (.int .i64 G.cnt) (.int .i64 G.fst) (.slice ga G.syms.length gc) ∧ x2.heap.size + 3 ≤ x3.heap.size) := by
        obtain ⟨hl1, hl2, hoA, hoG, hsm, hpl, hbw, _⟩ := unhide HF
        refine ⟨(unhide HX2).2.2.later hW3', hsm.later hW3' (Nat.le_refl _), hpl.later hW3' (Nat.le_refl _), hbw.trans (hW3'.mono (by omega)), hS3, hTA3, hTG3, ?_⟩
        have := hb3.size
        omega
      obtain ⟨sa, sc, hsv⟩ := hS3.form
      have hSl : Hid ((A.syms ++ G.syms).length ≤ 300 ∧ 0 < (A.syms ++ G.syms).length ∧ (∀ x ∈ A.syms ++ G.syms, 0 ≤ x ∧ x < (l.length : Int))) := by
        obtain ⟨t1, t2, t3, t4, t5, t6, t7, t8, t9⟩ := unhide hTwo
        refine ⟨t6, ?_, t9⟩
        rw [List.length_append]; omega
      clear hW3 hTA hTG hRw ho3 hb3 hS3 hTA3 hTG3 hW3' hall2 hlen2
      generalize hS : A.syms ++ G.syms = S at *
      have HSe := hide hS
      clear hS
      obtain ⟨gs, hgs⟩ := (show IOwn x3 W3.heap.size (.slice sa S.length sc) S by rw [← hsv]; exact (unhide HX3).2.2.2.2.1).somes (unhide hSl).2.1
      subst hgs
      subst hsv
      have sI : (S.length : Int) ≤ 300 := by have := (unhide hSl).1; omega
      have hgsb := (unhide HX3).2.2.2.2.1.below
      go_wp2_with fail
      have hmx := hide (hufI_max l (fun i hi => ((unhide HN).2.2.1 i hi).2) (by rw [(unhide HN).1]; exact (unhide HN).2.1) j (unhide HQ).1)
      have hjb : Hid ((j : Int) ≤ 300) := by
        show (j : Int) ≤ 300
        have h1 := (unhide HQ).1
        have h2 := seed_lenle l l.length
        have := (unhide HN).1
        have := (unhide HN).2.1
        omega
      have HCL : Hid (cellLen wr B = q + 2) := by
        show cellLen wr B = q + 2
        unfold cellLen
        rw [(unhide HQ).2.2.1.cell]
        rfl
      go_loopw [9, 30] (fun _ i wq => ∃ t : Nat, t ≤ S.length ∧ i = .int .i64 t ∧ IOwn wq w.heap.size (.slice (some ⟨w.heap.size, 0, none⟩) n n) (bump (hufI l j).2 (S.take t)) ∧ Touch (some ⟨w.heap.size, 0, none⟩) x3 wq ∧ Below w.heap.size w wq) (fun _ i _ => S.length - (intOf i).toNat)
      case atStart => exact ⟨0, Nat.zero_le _, rfl, (unhide HX3).2.2.1, Touch.refl _ _, (unhide HX3).2.2.2.1⟩
      case round =>
        obtain ⟨t, ht, rfl, hpt, htch, hbt⟩ := hrel
        have hln : Hid ((bump (hufI l j).2 (S.take t)).length = n) := by show (bump (hufI l j).2 (S.take t)).length = n; rw [bump_len, hufI_len, (unhide HN).1]
        have htk : Hid (t ≤ S.length) := ht
        clear ht
        by_cases hlt3 : t < S.length
        · have hsyt := (unhide HX3).2.2.2.2.1.touch htch (touch_lt _ _ (by omega))
          obtain ⟨c0, _, _, _⟩ := hsyt.at rfl hlt3
          have hx := (unhide hSl).2.2 (S.getD t 0) (by simp [List.getD, hlt3])
          rw [(unhide HN).1] at hx
          have hbt1 := hide (bump_take (hufI l j).2 S t hlt3)
          have hmx2 := hide (bump_max (unhide hmx) (S.take t))
          obtain ⟨p, hpp⟩ := Int.eq_ofNat_of_zero_le hx.1
          rw [hpp] at c0 hbt1
          have hpn : p < n := by omega
          obtain ⟨d0, f0, _, _⟩ := hpt.at (unhide hln) hpn
          have hyb := unhide hmx2 p (by rw [unhide hln]; exact hpn)
          have hput := hpt.put (j := p) (unhide hln) ((bump (hufI l j).2 (S.take t)).getD p 0 + 1)
          have hst : Hid (bump (hufI l j).2 (S.take (t + 1)) = (bump (hufI l j).2 (S.take t)).set p ((bump (hufI l j).2 (S.take t)).getD p 0 + 1)) := by
            show bump (hufI l j).2 (S.take (t + 1)) = _
            rw [unhide hbt1]
            unfold bump1
            rw [Int.toNat_natCast]
          have hyI : (bump (hufI l j).2 (S.take t)).getD p 0 ≤ 100000 := by
            have h1 := hyb.2
            have h2 : (S.take t).length ≤ 300 := by rw [List.length_take]; have := (unhide hSl).1; omega
            have := unhide hjb
            omega
          have hy0 := hyb.1
          have hbt2 := below_set hbt (b := w.heap.size) (o := p) (Nat.le_refl _) (.int .i64 ((bump (hufI l j).2 (S.take t)).getD p 0 + 1))
          have htch2 := htch.set (o := p) rfl (.int .i64 ((bump (hufI l j).2 (S.take t)).getD p 0 + 1))
          have hpnI : (p : Int) < (n : Int) := by omega
          rw [← unhide hst] at hput
          generalize (bump (hufI l j).2 (S.take t)).getD p 0 = y at *
          have HPUT := hide (And.intro hput (And.intro hbt2 htch2))
          have hltI : (t : Int) < (S.length : Int) := by omega
          clear hput hbt2 htch2 hst hyb hmx2 hbt1 hpp hx hsyt htch hbt hpt
          go_wp2
          go_roundw
          case rel => exact ⟨t + 1, by have := unhide htk; omega, by go_num, (unhide HPUT).1, (unhide HPUT).2.2, (unhide HPUT).2.1⟩
          case measure => simp [intOf]; omega
        · obtain rfl : t = S.length := by have := unhide htk; omega
          rw [List.take_of_length_le (Nat.le_refl _)] at hpt
          obtain ⟨h3, s3, _, _, o3, tA, tG, z3⟩ := unhide HX3
          have hBs : w.heap.size < B := by omega
          have hgl := (World.ownsRow.lt h3.2 g rfl).1
          have HY : Hid (Heap wr B (B + 1) (.slice (some ⟨g, 0, none⟩) q vc) M2 ∧ Syms wr (B + 1) M2 ∧ IOwn wr (B + 1) (.slice (some ⟨gs, 0, none⟩) S.length sc) S) := by
            refine ⟨⟨(htch.2 B (fun g' e => by simp only [Option.some.injEq, Addr.mk.injEq, and_true] at e; omega)).trans h3.1, ownsRow_touch h3.2 htch (touch_lt _ _ (by omega))⟩, fun y hy => (s3 y hy).touch htch (touch_lt _ _ (by omega)), ?_⟩
            have h4 := o3.touch htch (touch_lt _ _ (by omega))
            exact IOwn.mono h4 (by omega)
          obtain ⟨a0, a1, _, _, _, _, abl⟩ := tA
          obtain ⟨b0, b1, _, _, _, _, bbl⟩ := tG
          have a0' := (touch_cell htch (p := ⟨x2.heap.size, 0, none⟩) (by show x2.heap.size ≠ w.heap.size; omega)).trans a0
          have a1' := (touch_cell htch (p := ⟨x2.heap.size, 1, none⟩) (by show x2.heap.size ≠ w.heap.size; omega)).trans a1
          have b0' := (touch_cell htch (p := ⟨x2.heap.size + 1, 0, none⟩) (by show x2.heap.size + 1 ≠ w.heap.size; omega)).trans b0
          have b1' := (touch_cell htch (p := ⟨x2.heap.size + 1, 1, none⟩) (by show x2.heap.size + 1 ≠ w.heap.size; omega)).trans b1
          obtain ⟨t1, t2, t3, t4, t5, t6, t7, t8, t9⟩ := unhide hTwo
          obtain ⟨F, hF⟩ : ∃ F : Int, F = if G.fst < A.fst then G.fst else A.fst := ⟨_, rfl⟩
          rw [← hF] at t2
          have HT2 := hide (And.intro t1 t2)
          have HLy := hide (layH_any B q vc (some ⟨g, 0, none⟩) M2 ⟨A.cnt + G.cnt, F, S, .slice (some ⟨gs, 0, none⟩) S.length sc⟩ wr (unhide HY).2.1 (unhide HY).2.2 (unhide HF).2.1 (by omega) (unhide HY).1 (unhide HX2).2.1)
          have HPT := hide (And.intro hpt hbt)
          clear h3 s3 o3 z3 a0 a1 b0 b1 htch hpt hbt hSz hgsb t1 t2 t6 t7 t8 t9
          by_cases hlt2 : A.fst ≤ G.fst
          · have hFe : F = A.fst := by rw [hF, if_neg (by omega)]
            rw [hFe] at HLy HT2
            clear hF hFe
            go_wp2_with fail
            refine (unhide HLy).mono ?_
            rintro e x5 ⟨rfl, M3, g', c', hM3, hP3, hh5, hb5, hk5⟩
            go_wp2
            go_roundw
            case rel =>
              have hl3 : M3.length = q + 1 := by rw [hM3.length_eq, List.length_append, (unhide HF).2.1]; rfl
              have hcell := (unhide HPT).1
              refine ⟨j + 1, M3, some ⟨g', 0, none⟩, c', .inl ?_, (unhide HT2).2 M3 _ hM3, by rw [hl3]; exact hh5, hP3, ?_, ?_, (unhide HPT).2.trans (hb5.mono (by omega))⟩
              · have h1 := (unhide HQ).2.1.length_eq
                rw [List.length_map, (hufI_inv l j (unhide HQ).1).2.2.2] at h1
                omega
              · exact (((hk5.syms (unhide HY).2.1)).snoc (hk5.ints (unhide HY).2.2)).perm hM3
              · show IOwn x5 w.heap.size _ (bump (hufI l j).2 (symsG (hufI l j).1))
                rw [(unhide HT2).1]
                exact hk5.ints hcell
            case measure =>
              rw [unhide HCL]
              unfold cellLen
              rw [hh5.cell]
              simp [sliceLen]
          · have hFe : F = G.fst := by rw [hF, if_pos (by omega)]
            rw [hFe] at HLy HT2
            clear hF hFe
            go_wp2_with fail
            refine (unhide HLy).mono ?_
            rintro e x5 ⟨rfl, M3, g', c', hM3, hP3, hh5, hb5, hk5⟩
            go_wp2
            go_roundw
            case rel =>
              have hl3 : M3.length = q + 1 := by rw [hM3.length_eq, List.length_append, (unhide HF).2.1]; rfl
              have hcell := (unhide HPT).1
              refine ⟨j + 1, M3, some ⟨g', 0, none⟩, c', .inl ?_, (unhide HT2).2 M3 _ hM3, by rw [hl3]; exact hh5, hP3, ?_, ?_, (unhide HPT).2.trans (hb5.mono (by omega))⟩
              · have h1 := (unhide HQ).2.1.length_eq
                rw [List.length_map, (hufI_inv l j (unhide HQ).1).2.2.2] at h1
                omega
              · exact (((hk5.syms (unhide HY).2.1)).snoc (hk5.ints (unhide HY).2.2)).perm hM3
              · show IOwn x5 w.heap.size _ (bump (hufI l j).2 (symsG (hufI l j).1))
                rw [(unhide HT2).1]
                exact hk5.ints hcell
            case measure =>
              rw [unhide HCL]
              unfold cellLen
              rw [hh5.cell]
              simp [sliceLen]
    · obtain ⟨va', vc', hform⟩ : ∃ x y, Value.slice va L.length vc = .slice x L.length y := ⟨_, _, rfl⟩
      have hle : ¬ (1 : Int) < (L.length : Int) := by omega
      have hres := unhide hfin j (by omega) hj
      rw [← hres] at hp
      clear hform
      go_wp2_with fail
      refine (unhide HZ).mono ?_
      rintro e y1 ⟨rfl, hy1⟩
      rw [hy1]
      clear hy1 y1
      go_wp2
      go_ret
      exact ⟨rfl, hp, hbel⟩
end Go.Proofs.YtgpghapnmalipaaGreatDoor
namespace Go.Proofs.YtgpghapnmalipaaGreatDoor
open Go.RowKit Corb
theorem most_yes {o : List Int} {k : Nat} (h : mostL o k < o.getD k 0) : mostL o (k + 1) = o.getD k 0 := by simp only [mostL]; rw [if_pos h]
theorem most_no {o : List Int} {k : Nat} (h : ¬ mostL o k < o.getD k 0) : mostL o (k + 1) = mostL o k := by simp only [mostL]; rw [if_neg h]
theorem most_one {o : List Int} (h0 : 0 ≤ o.getD 0 0) : mostL o 1 = o.getD 0 0 := by
  by_cases h : mostL o 0 < o.getD 0 0
  · exact most_yes h
  · have h1 : mostL o 1 = mostL o 0 := most_no h
    have e : mostL o 0 = 0 := rfl
    rw [e] at h h1
    rw [h1]
    exact (Int.le_antisymm (Int.not_lt.1 h) h0).symm
def sumV (v : Value) (w : World) (n : Nat) : Nat := match v with
  | .slice (some a) _ _ => ((List.range n).map (fun i => (intOf ((w.cell? ⟨a.block, a.off + i, none⟩).getD (.int .i64 0))).toNat)).sum
  | _ => 0
theorem sumV_eq {w : World} {a : Option Addr} {n c : Nat} {l : List Int} (hn : l.length = n) (h1 : 1 ≤ n) (h : IRow w a l) : sumV (.slice a n c) w n = sumP l := by
  obtain ⟨g, o, rfl, hg, hc⟩ := h (by omega)
  unfold sumV sumP
  simp only
  congr 1
  apply List.ext_getElem
  · simp [hn]
  · intro i h1 h2
    simp only [List.length_map, List.length_range] at h1
    simp only [List.getElem_map, List.getElem_range]
    rw [hc i (by omega)]
    simp [intOf, List.getD, show i < l.length by omega]
set_option maxRecDepth 100000 in
set_option maxHeartbeats 800000 in
theorem maxInt_any (a : Option Addr) (cap n : Nat) (o : List Int) (w : World) (hn : o.length = n) (h : IRow w a o) (h1 : 1 ≤ n) (hm : n ≤ 300) (h0 : ∀ i, i < o.length → 0 ≤ o.getD i 0) :
    Calls Tryz.prog 103 #[.slice a n cap] w fun e w' => e = .returned (.int .i64 (mostL o n)) ∧ w' = w := by
  have hmI : (n : Int) ≤ 300 := by omega
  have h1I : (1 : Int) ≤ (n : Int) := by omega
  have HN := hide (And.intro hn (And.intro h1 h0))
  obtain ⟨g, off, rfl, hg, hc⟩ := h (by omega)
  have c0 := hc 0 (by omega)
  have e0 := hide (most_one (h0 0 (by omega)))
  rw [Nat.add_zero] at c0
  have HC := hide hc
  clear hn h hm h0 hc h1
  generalize hy : o.getD 0 0 = y0 at *
  clear hy
  go_enter Tryz.func103, Tryz.ntmps103
  go_wp2_with fail
  go_loop [3, 4] (fun m i => ∃ k : Nat, 1 ≤ k ∧ k ≤ n ∧ i = .int .i64 k ∧ m = .int .i64 (mostL o k)) (fun _ i => n - (intOf i).toNat)
  case atStart => exact ⟨1, Nat.le_refl _, (unhide HN).2.1, rfl, by rw [unhide e0]⟩
  case round =>
    obtain ⟨k, k1, hk, rfl, rfl⟩ := hrel
    have HK := hide (And.intro k1 hk)
    by_cases hlt : k < n
    · have d0 := unhide HC k (by rw [(unhide HN).1]; exact hlt)
      have hyes := hide (fun h => most_yes (o := o) (k := k) h)
      have hno := hide (fun h => most_no (o := o) (k := k) h)
      clear hk k1 c0
      generalize o.getD k 0 = y at *
      generalize mostL o k = q at *
      by_cases hqy : q < y
      · have e1 := hide (unhide hyes hqy)
        go_wp2
        go_round
        case rel => exact ⟨k + 1, by omega, by omega, by go_num, by rw [unhide e1]⟩
        case measure => simp [intOf]; omega
      · have e1 := hide (unhide hno hqy)
        go_wp2
        go_round
        case rel => exact ⟨k + 1, by omega, by omega, by go_num, by rw [unhide e1]⟩
        case measure => simp [intOf]; omega
    · obtain rfl : k = n := by omega
      go_wp2
      go_ret
      exact ⟨rfl, rfl⟩
theorem halfUp_any (x : Int) (w : World) (h0 : 0 ≤ x) (h1 : x ≤ 1000000) :
    Calls Tryz.prog 108 #[.int .i64 x] w fun e w' => e = .returned (.int .i64 (halfI x)) ∧ w' = w := by
  go_enter Tryz.func108, Tryz.ntmps108
  go_wp2
  go_ret
  exact ⟨rfl, rfl⟩
set_option maxRecDepth 100000 in
set_option maxHeartbeats 1600000 in
theorem eachHalf_any (a : Option Addr) (cap n : Nat) (l : List Int) (w : World) (hn : l.length = n) (h : IRow w a l) (hm : n ≤ 1048576) (hc : okC l) :
    Calls Tryz.prog 105 #[.slice a n cap, .func (.func 108) #[] #[]] w fun e w' => ∃ v, e = .returned v ∧ IOwn w' w.heap.size v (halfL l) ∧ Below w.heap.size w w' := by
  have hmI : (n : Int) ≤ 1048576 := by omega
  have Hn := hide hn
  have Hm := hide hm
  have HC := hide hc
  clear hn hm hc
  obtain ⟨i0, hi, hz0, hz1, hz2⟩ := info_parts Tryz.infoInt
  go_enter Tryz.func105, Tryz.ntmps105
  go_wp2_with fail
  go_loopw [5, 7, 10] (fun o _ i wr => ∃ k : Nat, k ≤ n ∧ i = .int .i64 k ∧ IOwn wr w.heap.size o (halfL (l.take k)) ∧ Below w.heap.size w wr) (fun _ _ i _ => n - (intOf i).toNat)
  case atStart => exact ⟨0, Nat.zero_le _, rfl, World.ownsRow_nil _ _ _ _, Below.refl _ _⟩
  case round =>
    obtain ⟨k, hk, rfl, hq, hbel⟩ := hrel
    have hbs := hbel.size
    by_cases hlt : k < n
    · obtain ⟨g, o, rfl, hg, hcc⟩ := (h.later hbel) (by rw [unhide Hn]; omega)
      have c0 := hcc k (by rw [unhide Hn]; exact hlt)
      obtain ⟨y0, y1⟩ := unhide HC k (by rw [unhide Hn]; exact hlt)
      have hst : Hid (halfL (l.take (k + 1)) = halfL (l.take k) ++ [halfI (l.getD k 0)]) := by
        show _ = _
        unfold halfL
        rw [take_snocI l k (by rw [unhide Hn]; exact hlt), List.map_append]; rfl
      have hlk : Hid ((halfL (l.take k)).length = k) := by show _ = k; have := unhide Hn; rw [halfL_len]; simp; omega
      have Hk := hide hk
      clear hcc hk h
      generalize l.getD k 0 = y at *
      have HP := hide (halfUp_any y wr (by omega) (by omega))
      generalize halfI y = R at *
      go_wp2_with fail
      refine (unhide HP).mono ?_
      rintro e x1 ⟨rfl, hx1⟩
      rw [hx1]
      clear hx1 x1
      have hlen1 : Hid ((halfL (l.take k)).length + 1 ≤ maxLen ∧ ((halfL (l.take k)).length + 1) * 8 ≤ 140737488355328) := by
        show _ ∧ _
        rw [unhide hlk]
        have := unhide Hm
        unfold maxLen
        omega
      clear HP
      go_wp2_with (at_builtin; refine wpList_append_own _ rfl _ _ 107 rfl w.heap.size 3 i0 (.int .i64 0) 1 8 Tryz.underlying107 hi hz0 hz1 hz2 rfl (by decide) _ _ _ rfl (World.ownsRow.alloc hq _) ⟨wr.heap.size, 0, none⟩ 1 1 [.int .i64 R] rfl rfl (one_new _ _ rfl _ _) (one_int _) (unhide hlen1).1 (unhide hlen1).2 (size_alloc_le hbs _) ?_; intro v' x2 hown hgrow hnil; clear hnil)
      have hb2 := grown_step (v := u5) hgrow hq (Nat.le_refl _) hbs hbel
      have hq2 := iown_snoc hown
      rw [← unhide hst] at hq2
      clear hown hgrow hq
      go_wp2
      go_roundw
      case rel => exact ⟨k + 1, by have := unhide Hk; omega, by go_num, hq2, hb2⟩
      case measure => simp [intOf]; omega
    · have hlk2 : l.take k = l := List.take_of_length_le (by rw [unhide Hn]; omega)
      rw [hlk2] at hq
      obtain ⟨va, vc, rfl⟩ := hq.form
      clear hlk2 h
      go_wp2
      go_ret
      exact ⟨_, rfl, hq, hbel⟩
end Go.Proofs.YtgpghapnmalipaaGreatDoor
namespace Go.Proofs.YtgpghapnmalipaaGreatDoor
open Go.RowKit Corb
theorem seed_has (l : List Int) (k i : Nat) (hi : i < k) (hp : 0 < l.getD i 0) : ∃ g ∈ seed l k, g.fst = (i : Int) := by
  induction k with
  | zero => omega
  | succ k ih =>
    by_cases e : i = k
    · subst e
      refine ⟨⟨l.getD i 0, (i : Int), [(i : Int)], .slice none 0 0⟩, ?_, rfl⟩
      rw [seed_yes hp]
      simp
    · obtain ⟨g, hg, hf⟩ := ih (by omega)
      refine ⟨g, ?_, hf⟩
      simp only [seed]
      split
      · simp [hg]
      · exact hg
theorem seed_pos (l : List Int) (k : Nat) : ∀ g ∈ seed l k, ∃ i : Nat, g.fst = (i : Int) ∧ i < k ∧ 0 < l.getD i 0 := by
  induction k with
  | zero => intro g hg; simp [seed] at hg
  | succ k ih =>
    intro g hg
    simp only [seed] at hg
    split at hg
    · rename_i hp
      simp only [List.mem_append, List.mem_singleton] at hg
      rcases hg with hg | rfl
      · obtain ⟨i, h1, h2, h3⟩ := ih g hg
        exact ⟨i, h1, by omega, h3⟩
      · exact ⟨k, rfl, by omega, hp⟩
    · obtain ⟨i, h1, h2, h3⟩ := ih g hg
      exact ⟨i, h1, by omega, h3⟩
theorem huf_one {l : List Int} (hc : okC l) (h1 : (seed l l.length).length = 1) : hufL l = l.map oneI := by
  unfold hufL
  rw [if_pos h1]
  obtain ⟨x, hx⟩ : ∃ x, seed l l.length = [x] := by
    cases hs : seed l l.length with
    | nil => rw [hs] at h1; simp at h1
    | cons x t => rw [hs] at h1; simp at h1; exact ⟨x, by rw [h1]⟩
  obtain ⟨q, hq, hql, hqp⟩ := seed_pos l l.length x (by rw [hx]; simp)
  rw [hx]
  simp only [List.getD_cons_zero]
  rw [hq, Int.toNat_natCast]
  apply List.ext_getElem
  · simp
  · intro i h2 h3
    have hi : i < l.length := by simpa using h3
    have e : l.getD i 0 = l[i] := by simp [List.getD, hi]
    have hci := hc i hi
    rw [List.getElem_set, List.getElem_map, List.getElem_replicate]
    by_cases hqi : q = i
    · subst hqi
      rw [if_pos rfl]
      rw [e] at hqp hci
      unfold oneI
      split <;> omega
    · rw [if_neg hqi]
      have hz : ¬ 0 < l.getD i 0 := by
        intro hp
        obtain ⟨g, hg, hf⟩ := seed_has l l.length i hi hp
        rw [hx] at hg
        simp only [List.mem_singleton] at hg
        subst hg
        rw [hq] at hf
        omega
      rw [e] at hz hci
      unfold oneI
      split <;> omega
theorem fit_one {l : List Int} {m : Int} (hm : 1 ≤ m) (hc : okC l) (h1 : (seed l l.length).length = 1) : fitL m l = l.map oneI := by
  have hf : fits (hufL l) m = true := by
    refine fits_of (by omega) ?_
    rw [huf_one hc h1]
    intro i hi
    have hi' : i < l.length := by simpa using hi
    have e : (l.map oneI).getD i 0 = oneI l[i] := by simp [List.getD, hi']
    have e2 : l.getD i 0 = l[i] := by simp [List.getD, hi']
    have hci := hc i hi'
    rw [e2] at hci
    rw [e]
    unfold oneI
    split <;> omega
  rw [← huf_one hc h1]
  unfold fitL
  cases sumP l with
  | zero => rfl
  | succ f => simp only [fitF]; rw [hf]; rfl
theorem huf_pos {l : List Int} (hc : okC l) (hn : l.length ≤ 300) (h2 : 1 < (seed l l.length).length) : ∀ i, i < (hufL l).length → 0 ≤ (hufL l).getD i 0 := by
  intro i hi
  have e : hufL l = (hufI l ((seed l l.length).length - 1)).2 := by unfold hufL; rw [if_neg (by omega)]
  rw [e] at hi ⊢
  exact ((hufI_max l (fun i hi => (hc i hi).2) hn _ (.inl (by omega))) i hi).1
set_option maxRecDepth 100000 in
set_option maxHeartbeats 800000 in
theorem implLensOf_nil (a : Option Addr) (cap n : Nat) (l : List Int) (m : Int) (w : World) (hn : l.length = n) (h : IRow w a l) (hm : n ≤ 1048576) (hno : lofOk l m = false) :
    Calls Tryz.prog 76 #[.slice a n cap, .int .i64 m] w fun e w' => e = .returned (.slice none 0 0) ∧ Below w.heap.size w w' := by
  have HU := hide (countsUsed_any a cap n l w hn h hm)
  by_cases h1 : m < 1
  · clear hn h hm hno
    generalize usedI l = U at *
    go_enter Tryz.func76, Tryz.ntmps76
    go_wp2_with fail
    refine (unhide HU).mono ?_
    rintro e x1 ⟨rfl, hx1⟩
    rw [hx1]
    go_wp2
    go_ret
    exact ⟨rfl, Below.refl _ _⟩
  · by_cases h15 : 15 < m
    · clear hn h hm hno
      generalize usedI l = U at *
      go_enter Tryz.func76, Tryz.ntmps76
      go_wp2_with fail
      refine (unhide HU).mono ?_
      rintro e x1 ⟨rfl, hx1⟩
      rw [hx1]
      go_wp2
      go_ret
      exact ⟨rfl, Below.refl _ _⟩
    · by_cases hu1 : usedI l < 1
      · clear hn h hm hno
        generalize usedI l = U at *
        go_enter Tryz.func76, Tryz.ntmps76
        go_wp2_with fail
        refine (unhide HU).mono ?_
        rintro e x1 ⟨rfl, hx1⟩
        rw [hx1]
        go_wp2
        go_ret
        exact ⟨rfl, Below.refl _ _⟩
      · obtain ⟨mm, rfl⟩ : ∃ mm : Nat, m = (mm : Int) + 1 := ⟨(m - 1).toNat, by omega⟩
        have hin : (decide (l.length ≤ 300) && inC l) = true := by
          cases hx : decide (l.length ≤ 300) && inC l
          · exfalso
            apply hu1
            unfold usedI
            rw [hx]
            simp
          · rfl
        have hbig : (p2 mm : Int) < usedI l := by
          simp only [Bool.and_eq_true, decide_eq_true_eq] at hin
          rw [usedI_yes hin.1 hin.2] at hu1 ⊢
          unfold lofOk at hno
          rw [decide_eq_true hin.1, hin.2, inB_true.2 ⟨by omega, by omega⟩] at hno
          have e3 : ((mm : Int) + 1).toNat = mm + 1 := by omega
          rw [e3, p2_half] at hno
          simp only [Bool.true_and] at hno
          have := inB_false.1 hno
          omega
        have hub : usedI l ≤ 300 := by
          simp only [Bool.and_eq_true, decide_eq_true_eq] at hin
          rw [usedI_yes hin.1 hin.2]
          have := us_le l
          omega
        have hp2 : (1 : Int) * 2 ^ mm = (p2 mm : Int) := by rw [Int.one_mul, p2_int]
        have hp2' : (2 : Int) ^ mm = (p2 mm : Int) := (p2_int mm).symm
        have hmI : (mm : Int) ≤ 14 := by omega
        have h15' : ¬ (15 : Int) < (mm : Int) + 1 := h15
        have hw2 : IntKind.i64.wrap (p2 mm : Int) = (p2 mm : Int) := wrap_id _ (by omega) (by omega)
        clear hn h hm hno hin
        generalize usedI l = U at *
        generalize p2 mm = PW at *
        go_enter Tryz.func76, Tryz.ntmps76
        go_wp2_with fail
        refine (unhide HU).mono ?_
        rintro e x1 ⟨rfl, hx1⟩
        rw [hx1]
        go_wp2
        go_ret
        exact ⟨rfl, Below.refl _ _⟩
end Go.Proofs.YtgpghapnmalipaaGreatDoor
namespace Go.Proofs.YtgpghapnmalipaaGreatDoor
open Go.RowKit
def lenF (o : List Int) (i : Nat) : Nat := (o.getD i 0).toNat
theorem mem_getD (l : List Int) (i : Nat) (h : i < l.length) : l.getD i 0 ∈ l := by simp [List.getD, h]
theorem huf_final {l : List Int} (h2 : 2 ≤ (seed l l.length).length) :
    (∀ i, i < l.length → 0 ≤ (hufL l).getD i 0 ∧ (hufL l).getD i 0 ≤ (((seed l l.length).length - 1 : Nat) : Int)) ∧
    (∀ i, i < l.length → (0 < (hufL l).getD i 0 ↔ 0 < l.getD i 0)) ∧
    (∀ D, (seed l l.length).length ≤ D → krR l (lenF (hufL l)) D l.length = 2 ^ D) ∧
    dotL l (hufL l) l.length = costG ((seed l l.length).length - 1) (seed l l.length) := by
  obtain ⟨U, hU⟩ : ∃ U, (seed l l.length).length = U + 2 := ⟨(seed l l.length).length - 2, by omega⟩
  have he : hufL l = (hufI l (U + 1)).2 := by
    unfold hufL
    rw [if_neg (by omega), hU]
    rfl
  have hk : U + 1 < (seed l l.length).length ∨ U + 1 = 0 := .inl (by omega)
  have hdep := hufI_depth l (U + 1) hk
  have hl1 : (hufI l (U + 1)).1.length = 1 := by have := (hufI_inv l (U + 1) hk).2.2.2; omega
  have hlU : (hufI l U).1.length = 2 := by have := (hufI_inv l U (by omega)).2.2.2; omega
  obtain ⟨g, hg⟩ : ∃ g, (hufI l (U + 1)).1 = [g] := by
    cases hs : (hufI l (U + 1)).1 with
    | nil => rw [hs] at hl1; simp at hl1
    | cons x t => rw [hs] at hl1; simp at hl1; exact ⟨x, by rw [hl1]⟩
  have hflat := flat_same l (U + 1) hk
  have hgs : (g.syms).Perm (flatS (seed l l.length)) := by
    rw [hg] at hflat
    simpa [flatS] using hflat
  rw [he]
  refine ⟨?_, ?_, ?_, ?_⟩
  · intro i hi
    have := hdep i (by rw [hufI_len]; exact hi)
    refine ⟨this.1, ?_⟩
    have e : (((seed l l.length).length - 1 : Nat) : Int) = ((U + 1 : Nat) : Int) := by rw [hU]; omega
    rw [e]
    exact this.2
  · intro i hi
    constructor
    · intro hp
      apply Classical.byContradiction
      intro hn
      have hz := hufI_zero l i hi (fun hm => by
        obtain ⟨j, h1, h3, h4⟩ := (flat_mem l l.length (i : Int)).1 hm
        have : i = j := by omega
        subst this
        exact hn h4) (U + 1) hk
      omega
    · intro hp
      have hm : (i : Int) ∈ flatS (seed l l.length) := (flat_mem l l.length (i : Int)).2 ⟨i, rfl, hi, hp⟩
      have hlen : 1 < (hufI l U).1.length := by omega
      have hfl := flat_hufI l U (by omega)
      have hsub := syms_sub _ hlen
      have hr := rest_len (hufI l U).1 (by omega)
      have hr2 := rest_len (restU (hufI l U).1) (by omega)
      have hnil : restU (restU (hufI l U).1) = [] := List.eq_nil_of_length_eq_zero (by omega)
      rw [hnil] at hsub
      have hsy : (i : Int) ∈ symsG (hufI l U).1 := by
        have h1 := (flat_same l U (by omega)).mem_iff.2 hm
        have h3 := hsub.mem_iff.2 h1
        simpa [flatS] using h3
      have hb := bump_get (hufI l U).2 (symsG (hufI l U).1) i (syms_nodup hlen hfl.1).1 (fun y hy => (hfl.2 y (hsub.mem_iff.1 (by simp [hy]))).1) (by rw [hufI_len]; exact hi)
      rw [if_pos hsy] at hb
      have hd := (hufI_depth l U (by omega)) i (by rw [hufI_len]; exact hi)
      show 0 < (bump (hufI l U).2 (symsG (hufI l U).1)).getD i 0
      omega
  · intro D hD
    have h1 := huf_kap l D hD (U + 1) hk g (by rw [hg]; simp)
    rw [← flat_seed_sum, ← h1]
    exact (nsum_perm _ hgs).symm
  · have h1 := huf_dot l (U + 1) hk
    have e : (seed l l.length).length - 1 - (U + 1) = 0 := by omega
    rw [e] at h1
    simp only [costG, Int.add_zero] at h1
    exact h1
theorem kr_scale {l : List Int} {len : Nat → Nat} {D E n : Nat} (hE : E ≤ D) (h : ∀ i, i < n → 0 < l.getD i 0 → len i ≤ E) : krR l len D n = 2 ^ (D - E) * krR l len E n := by
  induction n with
  | zero => rfl
  | succ n ih =>
    simp only [krR]
    rw [ih (fun i hi => h i (by omega)), Nat.mul_add]
    by_cases hp : 0 < l.getD n 0
    · rw [if_pos hp, if_pos hp]
      have := h n (by omega) hp
      rw [← Nat.pow_add]
      congr 2
      omega
    · rw [if_neg hp, if_neg hp]
      rfl
theorem kr_whole {l : List Int} {E : Nat} (h2 : 2 ≤ (seed l l.length).length) (h : ∀ i, i < l.length → (hufL l).getD i 0 ≤ (E : Int)) : krR l (lenF (hufL l)) E l.length = 2 ^ E := by
  obtain ⟨h0, _, hk, _⟩ := huf_final h2
  have hE : ∀ i, i < l.length → 0 < l.getD i 0 → lenF (hufL l) i ≤ E := by
    intro i hi _
    have := h i hi
    unfold lenF
    omega
  have h1 := kr_scale (D := E + (seed l l.length).length) (Nat.le_add_right _ _) hE
  rw [hk _ (Nat.le_add_left _ _), Nat.add_sub_cancel_left, Nat.pow_add, Nat.mul_comm] at h1
  exact (Nat.eq_of_mul_eq_mul_left (Nat.pow_pos (by omega)) h1).symm
theorem kr_list {l o : List Int} (ho : o.length = l.length) (h : ∀ i, i < l.length → (0 < o.getD i 0 ↔ 0 < l.getD i 0)) (k : Nat) (hk : k ≤ l.length) : kr (o.take k) = krR l (lenF o) 15 k ∧ us (o.take k) = (seed l k).length := by
  induction k with
  | zero => exact ⟨rfl, rfl⟩
  | succ k ih =>
    obtain ⟨h1, h2⟩ := ih (by omega)
    rw [kr_take o k (by omega), us_take o k (by omega), h1, h2]
    simp only [krR]
    have hi := h k (by omega)
    by_cases hp : 0 < l.getD k 0
    · rw [if_pos hp, if_pos (hi.2 hp), seed_yes' hp]
      refine ⟨?_, by simp⟩
      unfold krN lenF p2
      rw [if_pos (hi.2 hp)]
      congr 2
      have := hi.2 hp
      omega
    · rw [if_neg hp, if_neg (fun x => hp (hi.1 x)), seed_no' hp]
      refine ⟨?_, rfl⟩
      unfold krN
      rw [if_neg (fun x => hp (hi.1 x))]
theorem whole_ok {l o : List Int} (ho : o.length = l.length) (hl : l.length ≤ 300) (h : ∀ i, i < l.length → (0 < o.getD i 0 ↔ 0 < l.getD i 0)) (h15 : ∀ i, i < l.length → 0 ≤ o.getD i 0 ∧ o.getD i 0 ≤ 15) (hk : krR l (lenF o) 15 l.length = 32768 ∨ ((seed l l.length).length = 1 ∧ krR l (lenF o) 15 l.length = 16384)) : lensOk o = true := by
  obtain ⟨h1, h2⟩ := kr_list ho h l.length (Nat.le_refl _)
  rw [← ho, List.take_length, ho] at h1 h2
  unfold lensOk wholeL
  simp only [Bool.and_eq_true, Bool.or_eq_true, decide_eq_true_eq]
  refine ⟨⟨?_, by omega⟩, ?_⟩
  · unfold inL
    rw [List.all_eq_true]
    intro x hx
    obtain ⟨i, hi, rfl⟩ := List.getElem_of_mem hx
    have := h15 i (by omega)
    have e : o.getD i 0 = o[i] := by simp [List.getD, hi]
    rw [e] at this
    exact inB_true.2 this
  · rw [h1, h2]
    rcases hk with hk | hk
    · exact .inl hk
    · exact .inr hk
theorem most_ge (o : List Int) (k i : Nat) (hi : i < k) : o.getD i 0 ≤ mostL o k := by
  induction k with
  | zero => omega
  | succ k ih =>
    by_cases h : mostL o k < o.getD k 0
    · rw [most_yes h]
      by_cases e : i = k
      · subst e; exact Int.le_refl _
      · have := ih (by omega); omega
    · rw [most_no h]
      by_cases e : i = k
      · subst e; omega
      · exact ih (by omega)
theorem fit_final (m : Nat) : ∀ (f : Nat) (l : List Int), okC l → 1 ≤ (seed l l.length).length → (seed l l.length).length ≤ p2 m → sumP l ≤ f →
    ∃ c : List Int, c.length = l.length ∧ okC c ∧ (∀ i, i < l.length → (0 < c.getD i 0 ↔ 0 < l.getD i 0)) ∧ fitF ((m : Int) + 1) f l = hufL c ∧ (∀ i, i < l.length → (hufL c).getD i 0 ≤ (m : Int) + 1) ∧ (seed c c.length).length = (seed l l.length).length := by
  intro f
  induction f with
  | zero =>
    intro l hc h1 _ hs
    exfalso
    obtain ⟨g, hg⟩ : ∃ g, g ∈ seed l l.length := by
      cases hse : seed l l.length with
      | nil => rw [hse] at h1; simp at h1
      | cons x t => exact ⟨x, by simp⟩
    obtain ⟨_, i, _, hi, hp, _⟩ := seed_cnt l l.length g hg
    have : ∀ (a : List Int) (x : Int), x ∈ a → 0 < x → 0 < sumP a := by
      intro a x hx hp
      induction a with
      | nil => cases hx
      | cons y a ih =>
        simp only [sumP, List.map_cons, List.sum_cons] at ih ⊢
        simp only [List.mem_cons] at hx
        rcases hx with rfl | hx
        · omega
        · have := ih hx; omega
    have := this l (l.getD i 0) (mem_getD l i hi) hp
    omega
  | succ f ih =>
    intro l hc h1 hU hs
    cases hf : fits (hufL l) ((m : Int) + 1)
    · have hex := not_ones hU hf
      have hsum := (sum_half l (okC_pos hc)).2 hex
      have hse := seed_half l (fun i hi => (hc i hi).1) l.length (Nat.le_refl _)
      obtain ⟨c, c1, c2, c3, c4, c5, c6⟩ := ih (halfL l) (okC_half hc) (by rw [halfL_len, hse]; exact h1) (by rw [halfL_len, hse]; exact hU) (by omega)
      rw [halfL_len] at c1 c3 c5 c6
      refine ⟨c, c1, c2, ?_, ?_, c5, by rw [c6, hse]⟩
      · intro i hi
        rw [c3 i hi, halfL_get l i hi]
        unfold halfI
        have := (hc i hi).1
        omega
      · simp only [fitF]
        rw [hf]
        exact c4
    · refine ⟨l, rfl, hc, fun i _ => Iff.rfl, ?_, ?_, rfl⟩
      · simp only [fitF]
        rw [hf]; rfl
      · intro i hi
        unfold fits at hf
        have h3 := of_decide_eq_true hf
        rw [hufL_len] at h3
        have := most_ge (hufL l) l.length i hi
        omega
theorem one_facts {c : List Int} (hc : okC c) (h1 : (seed c c.length).length = 1) (i : Nat) (hi : i < c.length) : (hufL c).getD i 0 = if 0 < c.getD i 0 then 1 else 0 := by
  rw [huf_one hc h1]
  have e : (c.map oneI).getD i 0 = oneI c[i] := by simp [List.getD, hi]
  have e2 : c.getD i 0 = c[i] := by simp [List.getD, hi]
  have hci := hc i hi
  rw [e2] at hci ⊢
  rw [e]
  unfold oneI
  by_cases hp : 0 < c[i]
  · rw [if_pos hp]; split <;> omega
  · rw [if_neg hp]; split <;> omega
theorem kr_one {c : List Int} (hc : okC c) (k : Nat) (hk : k ≤ c.length) (h1 : (seed c c.length).length = 1) : krR c (lenF (hufL c)) 15 k = (seed c k).length * 16384 := by
  induction k with
  | zero => simp [krR, seed]
  | succ k ih =>
    simp only [krR]
    rw [ih (by omega)]
    have h := one_facts hc h1 k (by omega)
    by_cases hp : 0 < c.getD k 0
    · rw [if_pos hp, seed_yes' hp]
      have e : lenF (hufL c) k = 1 := by unfold lenF; rw [h, if_pos hp]; rfl
      have e2 : (2 : Nat) ^ (15 - 1) = 16384 := by decide
      rw [e, e2, List.length_append, List.length_singleton, Nat.add_mul, Nat.one_mul]
    · rw [if_neg hp, seed_no' hp, Nat.add_zero]
theorem lens_law {l : List Int} {m : Nat} (hc : okC l) (hl : l.length ≤ 300) (h1 : 1 ≤ (seed l l.length).length) (hU : (seed l l.length).length ≤ p2 m) (hm : m ≤ 14) :
    (fitL ((m : Int) + 1) l).length = l.length ∧ lensOk (fitL ((m : Int) + 1) l) = true ∧ ∀ i, i < l.length → 0 ≤ (fitL ((m : Int) + 1) l).getD i 0 ∧ (fitL ((m : Int) + 1) l).getD i 0 ≤ (m : Int) + 1 ∧ (0 < (fitL ((m : Int) + 1) l).getD i 0 ↔ 0 < l.getD i 0) := by
  obtain ⟨c, c1, c2, c3, c4, c5, c6⟩ := fit_final m (sumP l) l hc h1 hU (Nat.le_refl _)
  have e : fitL ((m : Int) + 1) l = hufL c := c4
  rw [e]
  by_cases hone : (seed c c.length).length = 1
  · have hf := one_facts c2 hone
    have hpos : ∀ i, i < l.length → 0 ≤ (hufL c).getD i 0 ∧ (hufL c).getD i 0 ≤ 1 ∧ (0 < (hufL c).getD i 0 ↔ 0 < l.getD i 0) := by
      intro i hi
      have h := hf i (by omega)
      have h3 := c3 i hi
      by_cases hp : 0 < c.getD i 0
      · rw [if_pos hp] at h; rw [h]; exact ⟨by omega, by omega, ⟨fun _ => h3.1 hp, fun _ => by omega⟩⟩
      · rw [if_neg hp] at h; rw [h]; exact ⟨by omega, by omega, ⟨fun x => by omega, fun x => absurd (h3.2 x) hp⟩⟩
    refine ⟨by rw [hufL_len, c1], ?_, fun i hi => ⟨(hpos i hi).1, c5 i hi, (hpos i hi).2.2⟩⟩
    refine whole_ok (l := c) (hufL_len c) (by omega) ?_ ?_ (.inr ⟨hone, by rw [kr_one c2 _ (Nat.le_refl _) hone, hone]⟩)
    · intro i hi
      exact (hpos i (by omega)).2.2.trans (c3 i (by omega)).symm
    · intro i hi
      have := hpos i (by omega)
      exact ⟨this.1, by omega⟩
  · have h2 : 2 ≤ (seed c c.length).length := by omega
    obtain ⟨f0, f1, _, _⟩ := huf_final h2
    refine ⟨by rw [hufL_len, c1], ?_, fun i hi => ⟨(f0 i (by omega)).1, c5 i hi, (f1 i (by omega)).trans (c3 i hi)⟩⟩
    have h15 : ∀ i, i < c.length → (hufL c).getD i 0 ≤ ((15 : Nat) : Int) := fun i hi => by have := c5 i (by omega); omega
    refine whole_ok (l := c) (hufL_len c) (by omega) f1 (fun i hi => ⟨(f0 i hi).1, h15 i hi⟩) (.inl (kr_whole h2 h15))
end Go.Proofs.YtgpghapnmalipaaGreatDoor
namespace Go.Proofs.YtgpghapnmalipaaGreatDoor
open Go.RowKit Corb
set_option maxRecDepth 100000 in
set_option maxHeartbeats 3200000 in
theorem implLensOf_yes (a : Option Addr) (cap n mm : Nat) (l : List Int) (w : World) (hn : l.length = n) (h : IRow w a l) (hm : n ≤ 300) (hc : inC l = true) (hmm : mm ≤ 14) (hu1 : 1 ≤ us l) (hu2 : us l ≤ p2 mm) :
    Calls Tryz.prog 76 #[.slice a n cap, .int .i64 ((mm : Int) + 1)] w fun e w' => (∃ v, e = .returned v ∧ IOwn w' w.heap.size v (fitL ((mm : Int) + 1) l)) ∧ Below w.heap.size w w' := by
  have hcu := us_le l
  have HU := hide (countsUsed_any a cap n l w hn h (by omega))
  rw [usedI_yes (by omega) hc] at HU
  have hUI : (us l : Int) ≤ 300 := by omega
  have h1I : (1 : Int) ≤ (us l : Int) := by omega
  have hU2 : (us l : Int) ≤ (p2 mm : Int) := by omega
  have hp2 : (1 : Int) * 2 ^ mm = (p2 mm : Int) := by rw [Int.one_mul, p2_int]
  have hp2' : (2 : Int) ^ mm = (p2 mm : Int) := (p2_int mm).symm
  have hmI : (mm : Int) ≤ 14 := by omega
  have hpl : p2 mm ≤ 16384 := by
    have h1 : p2 mm ≤ p2 14 := Nat.pow_le_pow_right (by omega) (by omega)
    have h2 : p2 14 = 16384 := rfl
    omega
  have hw2 : IntKind.i64.wrap (p2 mm : Int) = (p2 mm : Int) := wrap_id _ (by omega) (by omega)
  have hok := okC_of hc
  by_cases hone : us l = 1
  · have HE := hide (eachOne_any a cap n l w hn h (by omega) hok)
    have hfit : Hid (fitL ((mm : Int) + 1) l = l.map oneI) := fit_one (by omega) hok (by rw [seed_usL]; exact hone)
    rw [hone] at hU2 HU
    have Hn := hide hn
    clear hn h hm hc hmm hu1 hu2 hcu hUI h1I hone hok hpl
    generalize p2 mm = PW at *
    go_enter Tryz.func76, Tryz.ntmps76
    go_wp2_with fail
    refine (unhide HU).mono ?_
    rintro e x1 ⟨rfl, hx1⟩
    rw [hx1]
    clear hx1 x1
    go_wp2_with fail
    refine (unhide HE).mono ?_
    rintro e x2 ⟨v, rfl, ho, hb⟩
    obtain ⟨va, vc, rfl⟩ := ho.formN (n := n) (by rw [List.length_map, unhide Hn])
    go_wp2
    go_ret
    exact ⟨⟨_, rfl, by rw [unhide hfit]; exact ho⟩, hb⟩
  · have hneI : ((us l : Int) == 1) = false := by simp; omega
    have hs2 : 1 < (seed l l.length).length := by rw [seed_usL]; omega
    have HN := hide (And.intro hn (And.intro hm (And.intro hok (show (seed l l.length).length ≤ p2 mm by rw [seed_usL]; exact hu2))))
    have hn1 : Hid (1 ≤ n) := by show 1 ≤ n; omega
    have HP := hide (pairedLens_any a cap n l w hn h hm hok hs2)
    have HH := hide (And.intro h hs2)
    clear hn h hm hc hmm hu1 hu2 hcu hone hok hpl hs2
    have hmI3 : Hid (n ≤ 300) := (unhide HN).2.1
    generalize us l = U at *
    have hpw : Hid (∃ x, x = p2 mm) := ⟨_, rfl⟩
    generalize hPW : p2 mm = PW at *
    have HPW := hide hPW
    clear hPW hpw
    go_enter Tryz.func76, Tryz.ntmps76
    go_wp2_with fail
    refine (unhide HU).mono ?_
    rintro e x1 ⟨rfl, hx1⟩
    rw [hx1]
    clear hx1 x1
    go_wp2_with fail
    refine (unhide HP).mono ?_
    rintro e x2 ⟨rfl, ho, hb⟩
    go_wp2_with fail
    go_loopw [0, 6] (fun c v wr => ∃ (cur : List Int) (f ob cc : Nat) (ca : Option Addr), cur.length = n ∧ okC cur ∧ (seed cur cur.length).length ≤ PW ∧ 1 < (seed cur cur.length).length ∧ sumP cur ≤ f ∧ fitL ((mm : Int) + 1) l = fitF ((mm : Int) + 1) f cur ∧ c = .slice ca n cc ∧ v = .slice (some ⟨ob, 0, none⟩) n n ∧ w.heap.size ≤ ob ∧ IOwn wr ob (.slice (some ⟨ob, 0, none⟩) n n) (hufL cur) ∧ IRow wr ca cur ∧ Below w.heap.size w wr) (fun c _ wr => sumV c wr n)
    case atStart => exact ⟨l, sumP l, w.heap.size, cap, a, (unhide HN).1, (unhide HN).2.2.1, (unhide HN).2.2.2, (unhide HH).2, Nat.le_refl _, rfl, rfl, rfl, Nat.le_refl _, ho, (unhide HH).1.later hb, hb⟩
    case round =>
      obtain ⟨cur, f, ob, cc, ca, hcn, hcok, hcU, hc2, hcf, hfit, rfl, rfl, hob, hou, hcv, hbel⟩ := hrel
      clear ho hb
      have hlenh : (hufL cur).length = n := (hufL_len cur).trans hcn
      have HMo := hide (maxInt_any (some ⟨ob, 0, none⟩) n n (hufL cur) wr hlenh (hou.rowN hlenh) (unhide hn1) (unhide hmI3) (huf_pos hcok (by rw [hcn]; exact unhide hmI3) hc2))
      have hmost : Hid (fits (hufL cur) ((mm : Int) + 1) = decide (mostL (hufL cur) n ≤ (mm : Int) + 1)) := by show _ = _; unfold fits; rw [hlenh]
      have HQ := hide (And.intro hcn (And.intro hcok (And.intro hcU (And.intro hc2 (And.intro hcf hfit)))))
      have HO := hide (And.intro hou (And.intro hcv (And.intro hbel hob)))
      have HE := hide (eachHalf_any ca cc n cur wr hcn hcv (by have := unhide hmI3; omega) hcok)
      have HS := hide (sumV_eq (c := cc) hcn (unhide hn1) hcv)
      clear hcn hcok hcU hc2 hcf hfit hlenh hou hcv hbel hob
      generalize mostL (hufL cur) n = mo at *
      by_cases hbig : (mm : Int) + 1 < mo
      · have hnf : fits (hufL cur) ((mm : Int) + 1) = false := by rw [unhide hmost]; exact decide_eq_false (by omega)
        obtain ⟨hcn, hcok, hcU, hc2, hcf, hfit⟩ := unhide HQ
        rw [← unhide HPW] at hcU
        have hex := not_ones hcU hnf
        have hsum := (sum_half cur (okC_pos hcok)).2 hex
        obtain ⟨f', hff⟩ : ∃ f', f = f' + 1 := ⟨f - 1, by omega⟩
        have hfit2 : Hid (fitL ((mm : Int) + 1) l = fitF ((mm : Int) + 1) f' (halfL cur)) := by
          show _ = _
          rw [hfit, hff]
          simp only [fitF]
          rw [hnf]; rfl
        have hcf2 : Hid (sumP (halfL cur) ≤ f') := by show _ ≤ _; omega
        have HSL := hide hsum
        have hcok2 := hide (okC_half hcok)
        have hse := seed_half cur (fun i hi => (hcok i hi).1) cur.length (Nat.le_refl _)
        have hcU2 : Hid ((seed (halfL cur) (halfL cur).length).length ≤ PW ∧ 1 < (seed (halfL cur) (halfL cur).length).length) := by
          show _ ∧ _
          rw [halfL_len, hse, ← unhide HPW]
          exact ⟨hcU, hc2⟩
        have hcn2 : Hid ((halfL cur).length = n) := (halfL_len cur).trans hcn
        clear hcn hcok hcU hcf hfit hex hsum hff hse hc2
        go_wp2_with fail
        refine (unhide HMo).mono ?_
        rintro e x3 ⟨rfl, hx3⟩
        rw [hx3]
        clear hx3 x3
        go_wp2_with fail
        refine (unhide HE).mono ?_
        rintro e x4 ⟨v, rfl, ho4, hb4⟩
        obtain ⟨va, vc, rfl⟩ := ho4.formN (unhide hcn2)
        have hrow4 := ho4.rowN (unhide hcn2)
        have hB4 : Below w.heap.size w x4 := bnext (unhide HO).2.2.1 hb4
        have HP4 := hide (pairedLens_any va vc n (halfL cur) x4 (unhide hcn2) hrow4 (unhide hmI3) (unhide hcok2) (unhide hcU2).2)
        have HX4 := hide (And.intro ho4 (And.intro hB4 hrow4))
        clear ho4 hb4 hrow4 hB4
        go_wp2_with fail
        refine (unhide HP4).mono ?_
        rintro e x5 ⟨rfl, ho5, hb5⟩
        obtain ⟨ho4, hB4, hrow4⟩ := unhide HX4
        have hms : Hid (sumV (.slice va n vc) x5 n < sumV (.slice ca n cc) wr n) := by
          show sumV _ _ _ < sumV _ _ _
          rw [sumV_eq (unhide hcn2) (unhide hn1) (hrow4.later hb5), unhide HS]
          exact unhide HSL
        have HR := hide (And.intro ho5 (And.intro (hrow4.later hb5) (bnext hB4 hb5)))
        have hx4 : Hid (w.heap.size ≤ x4.heap.size) := hB4.size
        clear ho4 hB4 hrow4 ho5 hb5
        go_wp2
        go_roundw
        case rel => exact ⟨halfL cur, f', x4.heap.size, vc, va, unhide hcn2, unhide hcok2, (unhide hcU2).1, (unhide hcU2).2, unhide hcf2, unhide hfit2, rfl, rfl, unhide hx4, (unhide HR).1, (unhide HR).2.1, (unhide HR).2.2⟩
        case measure => exact unhide hms
      · have hnf : fits (hufL cur) ((mm : Int) + 1) = true := by rw [unhide hmost]; exact decide_eq_true (by omega)
        have hres : Hid (fitL ((mm : Int) + 1) l = hufL cur) := by
          show _ = _
          rw [(unhide HQ).2.2.2.2.2]
          cases f with
          | zero => rfl
          | succ f => simp only [fitF]; rw [hnf]; rfl
        go_wp2_with fail
        refine (unhide HMo).mono ?_
        rintro e x3 ⟨rfl, hx3⟩
        rw [hx3]
        clear hx3 x3
        obtain ⟨hou, hcv, hbel, hob⟩ := unhide HO
        go_wp2
        go_ret
        exact ⟨⟨_, rfl, by rw [unhide hres]; exact hou.mono hob⟩, hbel⟩
theorem implLensOf_any (a : Option Addr) (cap n : Nat) (l : List Int) (m : Int) (w : World) (hn : l.length = n) (h : IRow w a l) (hm : n ≤ 1048576) :
    Calls Tryz.prog 76 #[.slice a n cap, .int .i64 m] w fun e w' => (∃ v, e = .returned v ∧ IOwn w' w.heap.size v (lensOfL l m)) ∧ Below w.heap.size w w' := by
  cases hok : lofOk l m
  · refine (implLensOf_nil a cap n l m w hn h hm hok).mono ?_
    rintro e w' ⟨rfl, hb⟩
    refine ⟨⟨_, rfl, ?_⟩, hb⟩
    unfold lensOfL
    rw [hok]
    exact World.ownsRow_nil _ _ _ _
  · have hk := hok
    unfold lofOk at hk
    simp only [Bool.and_eq_true, decide_eq_true_eq] at hk
    obtain ⟨⟨⟨h3, hmb⟩, hin⟩, hus⟩ := hk
    obtain ⟨m1, m2⟩ := inB_true.1 hmb
    obtain ⟨mm, rfl⟩ : ∃ mm : Nat, m = (mm : Int) + 1 := ⟨(m - 1).toNat, by omega⟩
    have e3 : ((mm : Int) + 1).toNat = mm + 1 := by omega
    rw [e3, p2_half] at hus
    obtain ⟨u1, u2⟩ := inB_true.1 hus
    have := implLensOf_yes a cap n mm l w hn h (by omega) hin (by omega) (by omega) (by omega)
    unfold lensOfL
    rw [hok]
    exact this
end Go.Proofs.YtgpghapnmalipaaGreatDoor
