/- Draws of stamps that may be none, over this seat's program. -/
import Derived.Test.YthokkljiccgpiaaDs1
namespace Go.Proofs.Ythokkljiccgpiaa
open Go.RowKit

theorem Six.set_other {w : World} {b c o : Nat} {y mo d h mi s : Int} (k : Six w b y mo d h mi s) (v : Value) (hc : b ≠ c) : Six (w.setCell ⟨c, o, none⟩ v) b y mo d h mi s := by
  have e : (w.setCell ⟨c, o, none⟩ v).heap[b]? = w.heap[b]? := Below.heap_setCell w ⟨c, o, none⟩ v b hc
  obtain ⟨⟨c0, c1, c2, c3, c4, c5⟩, ⟨f0, f1, f2, f3, f4, f5⟩, hlt⟩ := k
  refine ⟨⟨?_, ?_, ?_, ?_, ?_, ?_⟩, ⟨?_, ?_, ?_, ?_, ?_, ?_⟩, by simpa using hlt⟩
  · exact (World.cell?_of_block (w := w) e).trans c0
  · exact (World.cell?_of_block (w := w) e).trans c1
  · exact (World.cell?_of_block (w := w) e).trans c2
  · exact (World.cell?_of_block (w := w) e).trans c3
  · exact (World.cell?_of_block (w := w) e).trans c4
  · exact (World.cell?_of_block (w := w) e).trans c5
  · exact (World.frozen?_of_block (w := w) e).trans f0
  · exact (World.frozen?_of_block (w := w) e).trans f1
  · exact (World.frozen?_of_block (w := w) e).trans f2
  · exact (World.frozen?_of_block (w := w) e).trans f3
  · exact (World.frozen?_of_block (w := w) e).trans f4
  · exact (World.frozen?_of_block (w := w) e).trans f5

set_option maxHeartbeats 4000000 in
theorem l11AnyStamp_any (B b m : Nat) (w : World) (h : Rd w B b m) (hm : m ≤ 98000) :
    Calls Try.prog 27 #[.pointer (some ⟨b, 0, none⟩)] w fun e w' => ∃ y mo d h mi s, e = .returned (.agg #[.int .i64 y, .int .i64 mo, .int .i64 d, .int .i64 h, .int .i64 mi, .int .i64 s]) ∧ DrS y mo d h mi s ∧ Rd w' B b (m + 8) ∧ Kb b w w' := by
  have hlt := h.lt
  have K0 := hide (kb_alloc w (.cells #[.int .i64 0, .int .i64 0, .int .i64 0, .int .i64 0, .int .i64 0, .int .i64 0] 25) hlt)
  have X0 := hide (six_alloc w 0 0 0 0 0 0 25)
  have R0 := hide (h.alloc (.cells #[.int .i64 0, .int .i64 0, .int .i64 0, .int .i64 0, .int .i64 0, .int .i64 0] 25))
  have HNE := hide (show w.heap.size ≠ b by omega)
  have HLT := hide hlt
  have HM := hide hm
  clear h hlt hm
  go_enter Try.func27, Try.ntmps27
  go_wp2_with fail
  refine (l11Stamp_any B b m _ (unhide R0) (by have := unhide HM; omega)).mono ?_
  rintro e w1 ⟨y, mo, d, h, mi, s, rfl, ds, r1, k1⟩
  have K1 := hide ((unhide K0).trans k1)
  have X1 := hide ((unhide X0).kb k1 (unhide HNE))
  have HD := hide ds
  have hb1 := r1.lt
  have hs1 := (unhide X1).2.2
  have hne1 : ¬ w1.heap.size = w.heap.size := by omega
  have hne2 : ¬ w.heap.size = w1.heap.size := by omega
  have HNB := hide (show w1.heap.size ≠ b by omega)
  have HLE := hide (show w.heap.size ≤ w1.heap.size by omega)
  have A1 := hide (six_alloc w1 y mo d h mi s 25)
  have KA := hide (kb_alloc w1 (.cells #[.int .i64 y, .int .i64 mo, .int .i64 d, .int .i64 h, .int .i64 mi, .int .i64 s] 25) hb1)
  have RA := hide (r1.alloc (.cells #[.int .i64 y, .int .i64 mo, .int .i64 d, .int .i64 h, .int .i64 mi, .int .i64 s] 25))
  clear K0 X0 R0 k1 r1 ds hb1 hs1
  go_wp2_with fail
  refine (pick_any B b _ 10 _ (unhide RA) (by have := unhide HM; omega) (by omega) (by omega)).mono ?_
  rintro e w2 ⟨r, rfl, r0, r1, rr, k2⟩
  have K2 := hide (((unhide K1).trans (unhide KA)).trans k2.kb)
  have X2 := hide (((unhide X1).kb (unhide KA) (unhide HNE)).kb k2.kb (unhide HNE))
  have A2 := hide ((unhide A1).kb k2.kb (unhide HNB))
  have R2 := hide rr
  clear K1 X1 A1 KA RA k2 rr
  by_cases q0 : r = 0
  · subst q0
    go_wp2_with fail
    refine (one_kb B b _ 5 w2.heap.size [0, 29, 30, 31, 32] 3 w2 rfl rfl (unhide R2) (by have := unhide HM; omega) (by omega) (by omega)).mono ?_
    rintro e w3 ⟨v, hv, rfl, rr, k3⟩
    have hv' := hide hv
    have K3 := hide ((unhide K2).trans k3)
    have X3 := hide ((unhide X2).kb k3 (unhide HNE))
    have A3 := hide ((unhide A2).kb k3 (unhide HNB))
    have R3 := hide rr
    clear K2 X2 A2 R2 k3 rr hv
    have HZ := hide (((unhide X3).set_other (c := w1.heap.size) (o := 2) (.int .i64 v) hne2).store y mo v h mi s)
    obtain ⟨⟨c0, c1, c2, c3, c4, c5⟩, ⟨f0, f1, f2, f3, f4, f5⟩, hl3⟩ := unhide X3
    obtain ⟨⟨a0, a1, a2, a3, a4, a5⟩, ⟨g0, g1, g2, g3, g4, g5⟩, hm3⟩ := unhide A3
    clear X3 A3
    go_wp2
    obtain ⟨⟨z0, z1, z2, z3, z4, z5⟩, _, _⟩ := unhide HZ
    refine bodyPost_ret (v := .agg #[.int .i64 y, .int .i64 mo, .int .i64 v, .int .i64 h, .int .i64 mi, .int .i64 s]) (by simp [results, Try.results27, go_sem, z0, z1, z2, z3, z4, z5]) rfl ⟨y, mo, v, h, mi, s, rfl, ?_, ?_, ?_⟩
    · obtain ⟨_, _, _, _, _, _, _⟩ := unhide HD; have := unhide hv'; simp at this; refine ⟨?_, ?_, ?_, ?_, ?_, ?_⟩ <;> omega
    · exact rd_six (rd_set ((unhide R3).mono (by omega)) _ (Nat.lt_of_lt_of_le (unhide HLT) (unhide HLE))) (unhide HLT) _ _ _ _ _ _
    · exact kb_six (kb_set (unhide K3) _ (unhide HLE) (unhide HLT)) (Nat.le_refl _) (unhide HLT) _ _ _ _ _ _
  · skip
    by_cases q1 : r = 1
    · subst q1
      go_wp2_with fail
      refine (one_kb B b _ 4 w2.heap.size [1979, 2100, 2108, 1900] 3 w2 rfl rfl (unhide R2) (by have := unhide HM; omega) (by omega) (by omega)).mono ?_
      rintro e w3 ⟨v, hv, rfl, rr, k3⟩
      have hv' := hide hv
      have K3 := hide ((unhide K2).trans k3)
      have X3 := hide ((unhide X2).kb k3 (unhide HNE))
      have A3 := hide ((unhide A2).kb k3 (unhide HNB))
      have R3 := hide rr
      clear K2 X2 A2 R2 k3 rr hv
      have HZ := hide (((unhide X3).set_other (c := w1.heap.size) (o := 0) (.int .i64 v) hne2).store v mo d h mi s)
      obtain ⟨⟨c0, c1, c2, c3, c4, c5⟩, ⟨f0, f1, f2, f3, f4, f5⟩, hl3⟩ := unhide X3
      obtain ⟨⟨a0, a1, a2, a3, a4, a5⟩, ⟨g0, g1, g2, g3, g4, g5⟩, hm3⟩ := unhide A3
      clear X3 A3
      go_wp2
      obtain ⟨⟨z0, z1, z2, z3, z4, z5⟩, _, _⟩ := unhide HZ
      refine bodyPost_ret (v := .agg #[.int .i64 v, .int .i64 mo, .int .i64 d, .int .i64 h, .int .i64 mi, .int .i64 s]) (by simp [results, Try.results27, go_sem, z0, z1, z2, z3, z4, z5]) rfl ⟨v, mo, d, h, mi, s, rfl, ?_, ?_, ?_⟩
      · obtain ⟨_, _, _, _, _, _, _⟩ := unhide HD; have := unhide hv'; simp at this; refine ⟨?_, ?_, ?_, ?_, ?_, ?_⟩ <;> omega
      · exact rd_six (rd_set ((unhide R3).mono (by omega)) _ (Nat.lt_of_lt_of_le (unhide HLT) (unhide HLE))) (unhide HLT) _ _ _ _ _ _
      · exact kb_six (kb_set (unhide K3) _ (unhide HLE) (unhide HLT)) (Nat.le_refl _) (unhide HLT) _ _ _ _ _ _
    · skip
      by_cases q2 : r = 2
      · subst q2
        go_wp2_with fail
        refine (one_kb B b _ 4 w2.heap.size [1, 59, 60, -2] 3 w2 rfl rfl (unhide R2) (by have := unhide HM; omega) (by omega) (by omega)).mono ?_
        rintro e w3 ⟨v, hv, rfl, rr, k3⟩
        have hv' := hide hv
        have K3 := hide ((unhide K2).trans k3)
        have X3 := hide ((unhide X2).kb k3 (unhide HNE))
        have A3 := hide ((unhide A2).kb k3 (unhide HNB))
        have R3 := hide rr
        clear K2 X2 A2 R2 k3 rr hv
        have HZ := hide (((unhide X3).set_other (c := w1.heap.size) (o := 5) (.int .i64 v) hne2).store y mo d h mi v)
        obtain ⟨⟨c0, c1, c2, c3, c4, c5⟩, ⟨f0, f1, f2, f3, f4, f5⟩, hl3⟩ := unhide X3
        obtain ⟨⟨a0, a1, a2, a3, a4, a5⟩, ⟨g0, g1, g2, g3, g4, g5⟩, hm3⟩ := unhide A3
        clear X3 A3
        go_wp2
        obtain ⟨⟨z0, z1, z2, z3, z4, z5⟩, _, _⟩ := unhide HZ
        refine bodyPost_ret (v := .agg #[.int .i64 y, .int .i64 mo, .int .i64 d, .int .i64 h, .int .i64 mi, .int .i64 v]) (by simp [results, Try.results27, go_sem, z0, z1, z2, z3, z4, z5]) rfl ⟨y, mo, d, h, mi, v, rfl, ?_, ?_, ?_⟩
        · obtain ⟨_, _, _, _, _, _, _⟩ := unhide HD; have := unhide hv'; simp at this; refine ⟨?_, ?_, ?_, ?_, ?_, ?_⟩ <;> omega
        · exact rd_six (rd_set ((unhide R3).mono (by omega)) _ (Nat.lt_of_lt_of_le (unhide HLT) (unhide HLE))) (unhide HLT) _ _ _ _ _ _
        · exact kb_six (kb_set (unhide K3) _ (unhide HLE) (unhide HLT)) (Nat.le_refl _) (unhide HLT) _ _ _ _ _ _
      · skip
        by_cases q3 : r = 3
        · subst q3
          go_wp2_with fail
          refine (one_kb B b _ 3 w2.heap.size [0, 2, 13] 3 w2 rfl rfl (unhide R2) (by have := unhide HM; omega) (by omega) (by omega)).mono ?_
          rintro e w3 ⟨v, hv, rfl, rr, k3⟩
          have hv' := hide hv
          have K3 := hide ((unhide K2).trans k3)
          have X3 := hide ((unhide X2).kb k3 (unhide HNE))
          have A3 := hide ((unhide A2).kb k3 (unhide HNB))
          have R3 := hide rr
          clear K2 X2 A2 R2 k3 rr hv
          have HZ := hide (((unhide X3).set_other (c := w1.heap.size) (o := 1) (.int .i64 v) hne2).store y v d h mi s)
          obtain ⟨⟨c0, c1, c2, c3, c4, c5⟩, ⟨f0, f1, f2, f3, f4, f5⟩, hl3⟩ := unhide X3
          obtain ⟨⟨a0, a1, a2, a3, a4, a5⟩, ⟨g0, g1, g2, g3, g4, g5⟩, hm3⟩ := unhide A3
          clear X3 A3
          go_wp2
          obtain ⟨⟨z0, z1, z2, z3, z4, z5⟩, _, _⟩ := unhide HZ
          refine bodyPost_ret (v := .agg #[.int .i64 y, .int .i64 v, .int .i64 d, .int .i64 h, .int .i64 mi, .int .i64 s]) (by simp [results, Try.results27, go_sem, z0, z1, z2, z3, z4, z5]) rfl ⟨y, v, d, h, mi, s, rfl, ?_, ?_, ?_⟩
          · obtain ⟨_, _, _, _, _, _, _⟩ := unhide HD; have := unhide hv'; simp at this; refine ⟨?_, ?_, ?_, ?_, ?_, ?_⟩ <;> omega
          · exact rd_six (rd_set ((unhide R3).mono (by omega)) _ (Nat.lt_of_lt_of_le (unhide HLT) (unhide HLE))) (unhide HLT) _ _ _ _ _ _
          · exact kb_six (kb_set (unhide K3) _ (unhide HLE) (unhide HLT)) (Nat.le_refl _) (unhide HLT) _ _ _ _ _ _
        · skip
          have X3 := X2
          have HZ := hide ((unhide X2).store y mo d h mi s)
          obtain ⟨⟨c0, c1, c2, c3, c4, c5⟩, ⟨f0, f1, f2, f3, f4, f5⟩, hl3⟩ := unhide X2
          obtain ⟨⟨a0, a1, a2, a3, a4, a5⟩, ⟨g0, g1, g2, g3, g4, g5⟩, hm3⟩ := unhide A2
          clear X2 A2 X3
          go_wp2
          obtain ⟨⟨z0, z1, z2, z3, z4, z5⟩, _, _⟩ := unhide HZ
          refine bodyPost_ret (v := .agg #[.int .i64 y, .int .i64 mo, .int .i64 d, .int .i64 h, .int .i64 mi, .int .i64 s]) (by simp [results, Try.results27, go_sem, z0, z1, z2, z3, z4, z5]) rfl ⟨y, mo, d, h, mi, s, rfl, unhide HD, ?_, ?_⟩
          · exact rd_six ((unhide R2).mono (by omega)) (unhide HLT) _ _ _ _ _ _
          · exact kb_six (unhide K2) (Nat.le_refl _) (unhide HLT) _ _ _ _ _ _

theorem drawStampOk_any (a : Option Addr) (len cap : Nat) (z : Nat → Int) (w : World) (h : Src w a len z) (hc : len ≤ cap) (hm : len ≤ maxLen) :
    Calls Try.prog 20 #[.slice a len cap] w fun e w' => ∃ y mo d h mi s, e = .returned (.agg #[.int .i64 y, .int .i64 mo, .int .i64 d, .int .i64 h, .int .i64 mi, .int .i64 s]) ∧ DrS y mo d h mi s ∧ Below w.heap.size w w' := by
  have X0 := hide (six_alloc w 0 0 0 0 0 0 25)
  have B0 := hide ((Below.refl w.heap.size w).alloc (Nat.le_refl _) (.cells #[.int .i64 0, .int .i64 0, .int .i64 0, .int .i64 0, .int .i64 0, .int .i64 0] 25))
  have hs := hide (h.later (unhide B0))
  clear h
  go_enter Try.func20, Try.ntmps20
  go_wp2_with fail
  refine (l1Open_any a len cap z _ (unhide hs) hc hm).mono ?_
  rintro e w1 ⟨rfl, hrd, hbel, hsz⟩
  have hsz0 : (w.alloc (.cells #[.int .i64 0, .int .i64 0, .int .i64 0, .int .i64 0, .int .i64 0, .int .i64 0] 25)).heap.size = w.heap.size + 1 := by simp
  have X1 := hide ((unhide X0).later hbel (by simp))
  have B1 := hide ((unhide B0).trans (hbel.mono (by simp)))
  rw [hsz0] at hrd
  have R1 := hide hrd
  have HLT := hide (Nat.lt_succ_self w.heap.size)
  clear hrd hbel hsz X0 B0 hs hsz0
  go_wp2_with fail
  refine (l11AnyStamp_any (w.heap.size + 1) (w.heap.size + 1) 0 _ (unhide R1) (by omega)).mono ?_
  rintro e w2 ⟨y, mo, d, h, mi, s, rfl, ds, rr, k2⟩
  have X2 := hide ((unhide X1).kb k2 (Nat.ne_of_lt (unhide HLT)))
  have B2 := hide ((unhide B1).trans (k2.below (Nat.le_of_lt (unhide HLT))))
  have HD := hide ds
  clear rr k2 X1 B1 ds R1
  have HZ := hide ((unhide X2).store y mo d h mi s)
  obtain ⟨⟨c0, c1, c2, c3, c4, c5⟩, ⟨f0, f1, f2, f3, f4, f5⟩, hl3⟩ := unhide X2
  clear X2
  go_wp2
  obtain ⟨⟨z0, z1, z2, z3, z4, z5⟩, _, _⟩ := unhide HZ
  refine bodyPost_ret (v := .agg #[.int .i64 y, .int .i64 mo, .int .i64 d, .int .i64 h, .int .i64 mi, .int .i64 s]) (by simp [results, Try.results20, go_sem, z0, z1, z2, z3, z4, z5]) rfl ⟨y, mo, d, h, mi, s, rfl, unhide HD, ?_⟩
  exact six_below (unhide B2) (Nat.le_refl _) _ _ _ _ _ _

theorem drawStampPut_any (a : Option Addr) (len cap : Nat) (z : Nat → Int) (w : World) (h : Src w a len z) (hc : len ≤ cap) (hm : len ≤ maxLen) :
    Calls Try.prog 18 #[.slice a len cap] w fun e w' => ∃ y mo d h mi s, e = .returned (.agg #[.int .i64 y, .int .i64 mo, .int .i64 d, .int .i64 h, .int .i64 mi, .int .i64 s]) ∧ DrS y mo d h mi s ∧ Below w.heap.size w w' := by
  have X0 := hide (six_alloc w 0 0 0 0 0 0 25)
  have B0 := hide ((Below.refl w.heap.size w).alloc (Nat.le_refl _) (.cells #[.int .i64 0, .int .i64 0, .int .i64 0, .int .i64 0, .int .i64 0, .int .i64 0] 25))
  have hs := hide (h.later (unhide B0))
  clear h
  go_enter Try.func18, Try.ntmps18
  go_wp2_with fail
  refine (l1Open_any a len cap z _ (unhide hs) hc hm).mono ?_
  rintro e w1 ⟨rfl, hrd, hbel, hsz⟩
  have hsz0 : (w.alloc (.cells #[.int .i64 0, .int .i64 0, .int .i64 0, .int .i64 0, .int .i64 0, .int .i64 0] 25)).heap.size = w.heap.size + 1 := by simp
  have X1 := hide ((unhide X0).later hbel (by simp))
  have B1 := hide ((unhide B0).trans (hbel.mono (by simp)))
  rw [hsz0] at hrd
  have R1 := hide hrd
  have HLT := hide (Nat.lt_succ_self w.heap.size)
  clear hrd hbel hsz X0 B0 hs hsz0
  go_wp2_with fail
  refine (l11AnyStamp_any (w.heap.size + 1) (w.heap.size + 1) 0 _ (unhide R1) (by omega)).mono ?_
  rintro e w2 ⟨y, mo, d, h, mi, s, rfl, ds, rr, k2⟩
  have X2 := hide ((unhide X1).kb k2 (Nat.ne_of_lt (unhide HLT)))
  have B2 := hide ((unhide B1).trans (k2.below (Nat.le_of_lt (unhide HLT))))
  have HD := hide ds
  clear rr k2 X1 B1 ds R1
  have HZ := hide ((unhide X2).store y mo d h mi s)
  obtain ⟨⟨c0, c1, c2, c3, c4, c5⟩, ⟨f0, f1, f2, f3, f4, f5⟩, hl3⟩ := unhide X2
  clear X2
  go_wp2
  obtain ⟨⟨z0, z1, z2, z3, z4, z5⟩, _, _⟩ := unhide HZ
  refine bodyPost_ret (v := .agg #[.int .i64 y, .int .i64 mo, .int .i64 d, .int .i64 h, .int .i64 mi, .int .i64 s]) (by simp [results, Try.results18, go_sem, z0, z1, z2, z3, z4, z5]) rfl ⟨y, mo, d, h, mi, s, rfl, unhide HD, ?_⟩
  exact six_below (unhide B2) (Nat.le_refl _) _ _ _ _ _ _

end Go.Proofs.Ythokkljiccgpiaa
