/- Files that are drawn, over this seat's program. -/
import Derived.Test.YtggklkemcapbfaaDoorEk2
import Derived.Test.YtggklkemcapbfaaDoorRk1
import Derived.Test.YtggklkemcapbfaaDoorDs2
namespace Go.Proofs.YtggklkemcapbfaaDoor
open Go.RowKit

theorem Ent.kn {w w' : World} {b c : Nat} {n t : ByteArray} {y mo d h mi s : Int} (k : Ent w c n y mo d h mi s t) (hk : Kn b w w') (hc : c ≠ b) : Ent w' c n y mo d h mi s t := by
  obtain ⟨⟨c0, c1, c2, c3, c4, c5, c6, c7⟩, ⟨f0, f1, f2, f3, f4, f5, f6, f7⟩, hlt⟩ := k
  have e := hk.2.1 c hlt hc
  refine ⟨⟨?_, ?_, ?_, ?_, ?_, ?_, ?_, ?_⟩, ⟨?_, ?_, ?_, ?_, ?_, ?_, ?_, ?_⟩, Nat.lt_of_lt_of_le hlt hk.2.2⟩
  · exact (World.cell?_of_block (w := w) e).trans c0
  · exact (World.cell?_of_block (w := w) e).trans c1
  · exact (World.cell?_of_block (w := w) e).trans c2
  · exact (World.cell?_of_block (w := w) e).trans c3
  · exact (World.cell?_of_block (w := w) e).trans c4
  · exact (World.cell?_of_block (w := w) e).trans c5
  · exact (World.cell?_of_block (w := w) e).trans c6
  · exact (World.cell?_of_block (w := w) e).trans c7
  · exact (World.frozen?_of_block (w := w) e).trans f0
  · exact (World.frozen?_of_block (w := w) e).trans f1
  · exact (World.frozen?_of_block (w := w) e).trans f2
  · exact (World.frozen?_of_block (w := w) e).trans f3
  · exact (World.frozen?_of_block (w := w) e).trans f4
  · exact (World.frozen?_of_block (w := w) e).trans f5
  · exact (World.frozen?_of_block (w := w) e).trans f6
  · exact (World.frozen?_of_block (w := w) e).trans f7
theorem kn_set {b c o : Nat} {a w : World} (h : Kn b a w) (v : Value) (hc : a.heap.size ≤ c) (hb : b < a.heap.size) : Kn b a (w.setCell ⟨c, o, none⟩ v) :=
  ⟨below_set h.1 (Nat.le_trans (Nat.le_of_lt hb) hc) _, fun k hk hkb => (Below.heap_setCell w ⟨c, o, none⟩ v k (by show k ≠ c; omega)).trans (h.2.1 k hk hkb), by simpa using h.2.2⟩
theorem rd_setE {w : World} {B b m c o : Nat} (h : Rd w B b m) (v : Value) (hc : b < c) : Rd (w.setCell ⟨c, o, none⟩ v) B b m :=
  h.kept (below_set (Below.refl _ _) (by omega) _)
theorem kn_eight {b c : Nat} {a w : World} (h : Kn b a w) (hc : a.heap.size ≤ c) (hb : b < a.heap.size) (v0 v1 v2 v3 v4 v5 v6 v7 : Value) : Kn b a ((((((((w.setCell ⟨c, 0, none⟩ v0).setCell ⟨c, 1, none⟩ v1).setCell ⟨c, 2, none⟩ v2).setCell ⟨c, 3, none⟩ v3).setCell ⟨c, 4, none⟩ v4).setCell ⟨c, 5, none⟩ v5).setCell ⟨c, 6, none⟩ v6).setCell ⟨c, 7, none⟩ v7) :=
  (kn_set (kn_set (kn_set (kn_set (kn_set (kn_set (kn_set (kn_set h _ hc hb) _ hc hb) _ hc hb) _ hc hb) _ hc hb) _ hc hb) _ hc hb) _ hc hb)
theorem rd_eight {w : World} {B b m c : Nat} (h : Rd w B b m) (hc : b < c) (v0 v1 v2 v3 v4 v5 v6 v7 : Value) : Rd ((((((((w.setCell ⟨c, 0, none⟩ v0).setCell ⟨c, 1, none⟩ v1).setCell ⟨c, 2, none⟩ v2).setCell ⟨c, 3, none⟩ v3).setCell ⟨c, 4, none⟩ v4).setCell ⟨c, 5, none⟩ v5).setCell ⟨c, 6, none⟩ v6).setCell ⟨c, 7, none⟩ v7) B b m :=
  (rd_setE (rd_setE (rd_setE (rd_setE (rd_setE (rd_setE (rd_setE (rd_setE h _ hc) _ hc) _ hc) _ hc) _ hc) _ hc) _ hc) _ hc)
theorem kn_of_kb {b : Nat} {w w' : World} (h : Kb b w w') : Kn b w w' := h
theorem ok_size {v : ByteArray} (h : v ∈ noNames ++ okNames) : v.size ≤ 100 := by
  simp only [noNames, okNames, List.cons_append, List.nil_append, List.mem_cons, List.not_mem_nil, or_false] at h
  rcases h with rfl | rfl | rfl | rfl | rfl | rfl | rfl | rfl | rfl | rfl | rfl | rfl | rfl | rfl | rfl | rfl <;> decide

set_option maxHeartbeats 1600000 in
theorem l11Entry_any (B b m : Nat) (w : World) (h : Rd w B b m) (hm : m ≤ 70000) :
    Calls Tryd.prog 33 #[.pointer (some ⟨b, 0, none⟩)] w fun e w' => ∃ n y mo d h mi s t, e = .returned (.agg #[.string n, .int .i64 y, .int .i64 mo, .int .i64 d, .int .i64 h, .int .i64 mi, .int .i64 s, .string t]) ∧ (n.size ≤ 100 ∧ t.size ≤ 400) ∧ Rd w' B b (m + 57) ∧ Kn b w w' := by
  have hlt := h.lt
  have K0 := hide (kn_alloc w (.cells #[.string ⟨#[]⟩, .int .i64 0, .int .i64 0, .int .i64 0, .int .i64 0, .int .i64 0, .int .i64 0, .string ⟨#[]⟩] 31) hlt)
  have X0 := hide (ent_alloc w ⟨#[]⟩ 0 0 0 0 0 0 ⟨#[]⟩ 31)
  have R0 := hide (h.alloc (.cells #[.string ⟨#[]⟩, .int .i64 0, .int .i64 0, .int .i64 0, .int .i64 0, .int .i64 0, .int .i64 0, .string ⟨#[]⟩] 31))
  have HNE := hide (show w.heap.size ≠ b by omega)
  have HLT := hide hlt
  have HM := hide hm
  clear h hlt hm
  go_enter Tryd.func33, Tryd.ntmps33
  go_wp2_with fail
  refine (l11Name_any B b m _ (unhide R0) (by have := unhide HM; omega)).mono ?_
  rintro e w1 ⟨n, hn, rfl, r1, k1⟩
  have HN := hide (ok_size (List.mem_append.2 (.inr hn)))
  have K1 := hide ((unhide K0).trans k1)
  have X1 := hide ((unhide X0).kn k1 (unhide HNE))
  have R1 := hide r1
  clear K0 X0 R0 k1 r1 hn
  go_wp2_with fail
  refine (l11Stamp_any B b _ _ (unhide R1) (by have := unhide HM; omega)).mono ?_
  rintro e w2 ⟨y, mo, d, h, mi, s, rfl, ds, r2, k2⟩
  have K2 := hide ((unhide K1).trans (kn_of_kb k2))
  have X2 := hide ((unhide X1).kn (kn_of_kb k2) (unhide HNE))
  have R2 := hide r2
  clear K1 X1 R1 k2 r2 ds
  go_wp2_with fail
  refine (l11TextK_any B b _ _ (unhide R2) (by have := unhide HM; omega)).mono ?_
  rintro e w3 ⟨⟨t, rfl, ht⟩, r3, k3⟩
  have HT := hide ht
  have K3 := hide ((unhide K2).trans k3)
  have X3 := hide ((unhide X2).kn k3 (unhide HNE))
  have R3 := hide r3
  clear K2 X2 R2 k3 r3 ht
  have HZ := hide ((unhide X3).store n y mo d h mi s t)
  obtain ⟨⟨c0, c1, c2, c3, c4, c5, c6, c7⟩, ⟨f0, f1, f2, f3, f4, f5, f6, f7⟩, hl3⟩ := unhide X3
  clear X3
  go_wp2
  obtain ⟨⟨z0, z1, z2, z3, z4, z5, z6, z7⟩, _, _⟩ := unhide HZ
  refine bodyPost_ret (v := .agg #[.string n, .int .i64 y, .int .i64 mo, .int .i64 d, .int .i64 h, .int .i64 mi, .int .i64 s, .string t]) (by simp [results, Tryd.results33, go_sem, z0, z1, z2, z3, z4, z5, z6, z7]) rfl ⟨n, y, mo, d, h, mi, s, t, rfl, ⟨unhide HN, unhide HT⟩, ?_, ?_⟩
  · exact rd_eight (unhide R3) (unhide HLT) _ _ _ _ _ _ _ _
  · exact kn_eight (unhide K3) (Nat.le_refl _) (unhide HLT) _ _ _ _ _ _ _ _

set_option maxHeartbeats 4000000 in
theorem l11AnyEntry_any (B b m : Nat) (w : World) (h : Rd w B b m) (hm : m ≤ 60000) :
    Calls Tryd.prog 25 #[.pointer (some ⟨b, 0, none⟩)] w fun e w' => ∃ n y mo d h mi s t, e = .returned (.agg #[.string n, .int .i64 y, .int .i64 mo, .int .i64 d, .int .i64 h, .int .i64 mi, .int .i64 s, .string t]) ∧ (n.size ≤ 100 ∧ t.size ≤ 400) ∧ Rd w' B b (m + 120) ∧ Kn b w w' := by
  have hlt := h.lt
  have K0 := hide (kn_alloc w (.cells #[.string ⟨#[]⟩, .int .i64 0, .int .i64 0, .int .i64 0, .int .i64 0, .int .i64 0, .int .i64 0, .string ⟨#[]⟩] 31) hlt)
  have X0 := hide (ent_alloc w ⟨#[]⟩ 0 0 0 0 0 0 ⟨#[]⟩ 31)
  have R0 := hide (h.alloc (.cells #[.string ⟨#[]⟩, .int .i64 0, .int .i64 0, .int .i64 0, .int .i64 0, .int .i64 0, .int .i64 0, .string ⟨#[]⟩] 31))
  have HNE := hide (show w.heap.size ≠ b by omega)
  have HLT := hide hlt
  have HM := hide hm
  clear h hlt hm
  go_enter Tryd.func25, Tryd.ntmps25
  go_wp2_with fail
  refine (l11Entry_any B b m _ (unhide R0) (by have := unhide HM; omega)).mono ?_
  rintro e w1 ⟨n, y, mo, d, h, mi, s, t, rfl, ⟨hn, ht⟩, r1, k1⟩
  have HN := hide hn
  have HT := hide ht
  have K1 := hide ((unhide K0).trans k1)
  have X1 := hide ((unhide X0).kn k1 (unhide HNE))
  have hb1 := r1.lt
  have hs1 := (unhide X1).2.2
  have hne1 : ¬ w1.heap.size = w.heap.size := by omega
  have hne2 : ¬ w.heap.size = w1.heap.size := by omega
  have HNB := hide (show w1.heap.size ≠ b by omega)
  have HLE := hide (show w.heap.size ≤ w1.heap.size by omega)
  have A1 := hide (ent_alloc w1 n y mo d h mi s t 31)
  have KA := hide (kn_alloc w1 (.cells #[.string n, .int .i64 y, .int .i64 mo, .int .i64 d, .int .i64 h, .int .i64 mi, .int .i64 s, .string t] 31) hb1)
  have RA := hide (r1.alloc (.cells #[.string n, .int .i64 y, .int .i64 mo, .int .i64 d, .int .i64 h, .int .i64 mi, .int .i64 s, .string t] 31))
  clear K0 X0 R0 k1 r1 hn ht hb1 hs1
  go_wp2_with fail
  refine (pick_any B b _ 10 _ (unhide RA) (by have := unhide HM; omega) (by omega) (by omega)).mono ?_
  rintro e w2 ⟨r, rfl, r0, r1, rr, k2⟩
  have K2 := hide (((unhide K1).trans (unhide KA)).trans k2.kn)
  have X2 := hide (((unhide X1).kn (unhide KA) (unhide HNE)).kn k2.kn (unhide HNE))
  have A2 := hide ((unhide A1).kn k2.kn (unhide HNB))
  have R2 := hide rr
  clear K1 X1 A1 KA RA k2 rr
  by_cases q0 : r = 0
  · subst q0
    go_wp2_with fail
    refine (l11AnyName_any B b _ _ (unhide R2) (by have := unhide HM; omega)).mono ?_
    rintro e w3 ⟨v, hv, rfl, r3, k3⟩
    have HV := hide (ok_size hv)
    clear hv
    have K3 := hide ((unhide K2).trans k3)
    have X3 := hide ((unhide X2).kn k3 (unhide HNE))
    have A3 := hide ((unhide A2).kn k3 (unhide HNB))
    have R3 := hide r3
    clear K2 X2 A2 R2 k3 r3
    have HZ := hide (Ent.store ((unhide X3).set_other (c := w1.heap.size) (o := 0) (.string v) hne2) v y mo d h mi s t)
    obtain ⟨⟨c0, c1, c2, c3, c4, c5, c6, c7⟩, ⟨f0, f1, f2, f3, f4, f5, f6, f7⟩, hl3⟩ := unhide X3
    obtain ⟨⟨a0, a1, a2, a3, a4, a5, a6, a7⟩, ⟨g0, g1, g2, g3, g4, g5, g6, g7⟩, hm3⟩ := unhide A3
    clear X3 A3
    go_wp2
    obtain ⟨⟨z0, z1, z2, z3, z4, z5, z6, z7⟩, _, _⟩ := unhide HZ
    refine bodyPost_ret (v := .agg #[.string v, .int .i64 y, .int .i64 mo, .int .i64 d, .int .i64 h, .int .i64 mi, .int .i64 s, .string t]) (by simp [results, Tryd.results25, go_sem, z0, z1, z2, z3, z4, z5, z6, z7]) rfl ⟨v, y, mo, d, h, mi, s, t, rfl, ⟨unhide HV, unhide HT⟩, ?_, ?_⟩
    · exact rd_eight (rd_setE ((unhide R3).mono (by omega)) _ (Nat.lt_of_lt_of_le (unhide HLT) (unhide HLE))) (unhide HLT) _ _ _ _ _ _ _ _
    · exact kn_eight (kn_set (unhide K3) _ (unhide HLE) (unhide HLT)) (Nat.le_refl _) (unhide HLT) _ _ _ _ _ _ _ _
  · skip
    by_cases q1 : r = 1
    · subst q1
      go_wp2_with fail
      refine (l11AnyStamp_any B b _ _ (unhide R2) (by have := unhide HM; omega)).mono ?_
      rintro e w3 ⟨y', mo', d', h', mi', s', rfl, ds, r3, k3'⟩
      have k3 := kn_of_kb k3'
      clear ds k3'
      have K3 := hide ((unhide K2).trans k3)
      have X3 := hide ((unhide X2).kn k3 (unhide HNE))
      have A3 := hide ((unhide A2).kn k3 (unhide HNB))
      have R3 := hide r3
      clear K2 X2 A2 R2 k3 r3
      have HZ := hide (Ent.store (((((((unhide X3).set_other (c := w1.heap.size) (o := 1) (.int .i64 y') hne2).set_other (c := w1.heap.size) (o := 2) (.int .i64 mo') hne2).set_other (c := w1.heap.size) (o := 3) (.int .i64 d') hne2).set_other (c := w1.heap.size) (o := 4) (.int .i64 h') hne2).set_other (c := w1.heap.size) (o := 5) (.int .i64 mi') hne2).set_other (c := w1.heap.size) (o := 6) (.int .i64 s') hne2) n y' mo' d' h' mi' s' t)
      obtain ⟨⟨c0, c1, c2, c3, c4, c5, c6, c7⟩, ⟨f0, f1, f2, f3, f4, f5, f6, f7⟩, hl3⟩ := unhide X3
      obtain ⟨⟨a0, a1, a2, a3, a4, a5, a6, a7⟩, ⟨g0, g1, g2, g3, g4, g5, g6, g7⟩, hm3⟩ := unhide A3
      clear X3 A3
      go_wp2
      obtain ⟨⟨z0, z1, z2, z3, z4, z5, z6, z7⟩, _, _⟩ := unhide HZ
      refine bodyPost_ret (v := .agg #[.string n, .int .i64 y', .int .i64 mo', .int .i64 d', .int .i64 h', .int .i64 mi', .int .i64 s', .string t]) (by simp [results, Tryd.results25, go_sem, z0, z1, z2, z3, z4, z5, z6, z7]) rfl ⟨n, y', mo', d', h', mi', s', t, rfl, ⟨unhide HN, unhide HT⟩, ?_, ?_⟩
      · exact rd_eight (rd_setE (rd_setE (rd_setE (rd_setE (rd_setE (rd_setE ((unhide R3).mono (by omega)) _ (Nat.lt_of_lt_of_le (unhide HLT) (unhide HLE))) _ (Nat.lt_of_lt_of_le (unhide HLT) (unhide HLE))) _ (Nat.lt_of_lt_of_le (unhide HLT) (unhide HLE))) _ (Nat.lt_of_lt_of_le (unhide HLT) (unhide HLE))) _ (Nat.lt_of_lt_of_le (unhide HLT) (unhide HLE))) _ (Nat.lt_of_lt_of_le (unhide HLT) (unhide HLE))) (unhide HLT) _ _ _ _ _ _ _ _
      · exact kn_eight (kn_set (kn_set (kn_set (kn_set (kn_set (kn_set (unhide K3) _ (unhide HLE) (unhide HLT)) _ (unhide HLE) (unhide HLT)) _ (unhide HLE) (unhide HLT)) _ (unhide HLE) (unhide HLT)) _ (unhide HLE) (unhide HLT)) _ (unhide HLE) (unhide HLT)) (Nat.le_refl _) (unhide HLT) _ _ _ _ _ _ _ _
    · skip
      by_cases q2 : r = 2
      · subst q2
        go_wp2_with fail
        refine (l11AnyTextK_any B b _ _ (unhide R2) (by have := unhide HM; omega)).mono ?_
        rintro e w3 ⟨⟨v, rfl, hv⟩, r3, k3⟩
        have HV := hide hv
        clear hv
        have K3 := hide ((unhide K2).trans k3)
        have X3 := hide ((unhide X2).kn k3 (unhide HNE))
        have A3 := hide ((unhide A2).kn k3 (unhide HNB))
        have R3 := hide r3
        clear K2 X2 A2 R2 k3 r3
        have HZ := hide (Ent.store ((unhide X3).set_other (c := w1.heap.size) (o := 7) (.string v) hne2) n y mo d h mi s v)
        obtain ⟨⟨c0, c1, c2, c3, c4, c5, c6, c7⟩, ⟨f0, f1, f2, f3, f4, f5, f6, f7⟩, hl3⟩ := unhide X3
        obtain ⟨⟨a0, a1, a2, a3, a4, a5, a6, a7⟩, ⟨g0, g1, g2, g3, g4, g5, g6, g7⟩, hm3⟩ := unhide A3
        clear X3 A3
        go_wp2
        obtain ⟨⟨z0, z1, z2, z3, z4, z5, z6, z7⟩, _, _⟩ := unhide HZ
        refine bodyPost_ret (v := .agg #[.string n, .int .i64 y, .int .i64 mo, .int .i64 d, .int .i64 h, .int .i64 mi, .int .i64 s, .string v]) (by simp [results, Tryd.results25, go_sem, z0, z1, z2, z3, z4, z5, z6, z7]) rfl ⟨n, y, mo, d, h, mi, s, v, rfl, ⟨unhide HN, unhide HV⟩, ?_, ?_⟩
        · exact rd_eight (rd_setE ((unhide R3).mono (by omega)) _ (Nat.lt_of_lt_of_le (unhide HLT) (unhide HLE))) (unhide HLT) _ _ _ _ _ _ _ _
        · exact kn_eight (kn_set (unhide K3) _ (unhide HLE) (unhide HLT)) (Nat.le_refl _) (unhide HLT) _ _ _ _ _ _ _ _
      · skip
        have K3 := K2
        have X3 := X2
        have A3 := A2
        have R3 := R2
        clear K2 X2 A2 R2
        have HZ := hide (Ent.store (unhide X3) n y mo d h mi s t)
        obtain ⟨⟨c0, c1, c2, c3, c4, c5, c6, c7⟩, ⟨f0, f1, f2, f3, f4, f5, f6, f7⟩, hl3⟩ := unhide X3
        obtain ⟨⟨a0, a1, a2, a3, a4, a5, a6, a7⟩, ⟨g0, g1, g2, g3, g4, g5, g6, g7⟩, hm3⟩ := unhide A3
        clear X3 A3
        go_wp2
        obtain ⟨⟨z0, z1, z2, z3, z4, z5, z6, z7⟩, _, _⟩ := unhide HZ
        refine bodyPost_ret (v := .agg #[.string n, .int .i64 y, .int .i64 mo, .int .i64 d, .int .i64 h, .int .i64 mi, .int .i64 s, .string t]) (by simp [results, Tryd.results25, go_sem, z0, z1, z2, z3, z4, z5, z6, z7]) rfl ⟨n, y, mo, d, h, mi, s, t, rfl, ⟨unhide HN, unhide HT⟩, ?_, ?_⟩
        · exact rd_eight ((unhide R3).mono (by omega)) (unhide HLT) _ _ _ _ _ _ _ _
        · exact kn_eight (unhide K3) (Nat.le_refl _) (unhide HLT) _ _ _ _ _ _ _ _

theorem drawEntryOk_any (a : Option Addr) (len cap : Nat) (z : Nat → Int) (w : World) (h : Src w a len z) (hc : len ≤ cap) (hm : len ≤ maxLen) :
    Calls Tryd.prog 15 #[.slice a len cap] w fun e w' => ∃ n y mo d h mi s t, e = .returned (.agg #[.string n, .int .i64 y, .int .i64 mo, .int .i64 d, .int .i64 h, .int .i64 mi, .int .i64 s, .string t]) ∧ (n.size ≤ 100 ∧ t.size ≤ 400) ∧ Below w.heap.size w w' := by
  have X0 := hide (ent_alloc w ⟨#[]⟩ 0 0 0 0 0 0 ⟨#[]⟩ 31)
  have B0 := hide ((Below.refl w.heap.size w).alloc (Nat.le_refl _) (.cells #[.string ⟨#[]⟩, .int .i64 0, .int .i64 0, .int .i64 0, .int .i64 0, .int .i64 0, .int .i64 0, .string ⟨#[]⟩] 31))
  have hs := hide (h.later (unhide B0))
  clear h
  go_enter Tryd.func15, Tryd.ntmps15
  go_wp2_with fail
  refine (l1Open_any a len cap z _ (unhide hs) hc hm).mono ?_
  rintro e w1 ⟨rfl, hrd, hbel, hsz⟩
  have hsz0 : (w.alloc (.cells #[.string ⟨#[]⟩, .int .i64 0, .int .i64 0, .int .i64 0, .int .i64 0, .int .i64 0, .int .i64 0, .string ⟨#[]⟩] 31)).heap.size = w.heap.size + 1 := by simp
  have X1 := hide ((unhide X0).later hbel (by simp))
  have B1 := hide ((unhide B0).trans (hbel.mono (by simp)))
  rw [hsz0] at hrd
  have R1 := hide hrd
  have HLT := hide (Nat.lt_succ_self w.heap.size)
  clear hrd hbel hsz X0 B0 hs hsz0
  go_wp2_with fail
  refine (l11AnyEntry_any (w.heap.size + 1) (w.heap.size + 1) 0 _ (unhide R1) (by omega)).mono ?_
  rintro e w2 ⟨n, y, mo, d, h, mi, s, t, rfl, hd, rr, k2⟩
  have X2 := hide ((unhide X1).kn k2 (Nat.ne_of_lt (unhide HLT)))
  have B2 := hide ((unhide B1).trans (k2.1.mono (Nat.le_of_lt (unhide HLT))))
  have HD := hide hd
  clear rr k2 X1 B1 hd R1
  have HZ := hide ((unhide X2).store n y mo d h mi s t)
  obtain ⟨⟨c0, c1, c2, c3, c4, c5, c6, c7⟩, ⟨f0, f1, f2, f3, f4, f5, f6, f7⟩, hl3⟩ := unhide X2
  clear X2
  go_wp2
  obtain ⟨⟨z0, z1, z2, z3, z4, z5, z6, z7⟩, _, _⟩ := unhide HZ
  refine bodyPost_ret (v := .agg #[.string n, .int .i64 y, .int .i64 mo, .int .i64 d, .int .i64 h, .int .i64 mi, .int .i64 s, .string t]) (by simp [results, Tryd.results15, go_sem, z0, z1, z2, z3, z4, z5, z6, z7]) rfl ⟨n, y, mo, d, h, mi, s, t, rfl, unhide HD, ?_⟩
  exact (below_set (below_set (below_set (below_set (below_set (below_set (below_set (below_set (unhide B2) (Nat.le_refl _) _) (Nat.le_refl _) _) (Nat.le_refl _) _) (Nat.le_refl _) _) (Nat.le_refl _) _) (Nat.le_refl _) _) (Nat.le_refl _) _) (Nat.le_refl _) _)

end Go.Proofs.YtggklkemcapbfaaDoor
