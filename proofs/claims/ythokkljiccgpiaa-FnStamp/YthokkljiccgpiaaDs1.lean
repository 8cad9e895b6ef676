/- Draws of stamps, over this seat's program. -/
import Derived.Test.YthokkljiccgpiaaSt5
namespace Go.Proofs.Ythokkljiccgpiaa
open Go.RowKit

/-- All that was there is there, but for one block; something may be new. -/
def Kb (b : Nat) (w w' : World) : Prop := Below b w w' ∧ (∀ k, k < w.heap.size → k ≠ b → w'.heap[k]? = w.heap[k]?) ∧ w.heap.size ≤ w'.heap.size
theorem Kb.refl (b : Nat) (w : World) : Kb b w w := ⟨Below.refl _ _, fun _ _ _ => rfl, Nat.le_refl _⟩
theorem Kb.trans {b : Nat} {u v w : World} (h : Kb b u v) (k : Kb b v w) : Kb b u w :=
  ⟨h.1.trans k.1, fun i hi hb => (k.2.1 i (Nat.lt_of_lt_of_le hi h.2.2) hb).trans (h.2.1 i hi hb), Nat.le_trans h.2.2 k.2.2⟩
theorem Only.kb {b : Nat} {w w' : World} (h : Only b w w') : Kb b w w' := ⟨h.1, fun k _ hk => h.2.1 k hk, by rw [h.2.2]; exact Nat.le_refl _⟩
theorem kb_alloc {b : Nat} (w : World) (o : Obj) (hb : b < w.heap.size) : Kb b w (w.alloc o) :=
  ⟨(Below.refl _ _).alloc (Nat.le_of_lt hb) _, fun k hk _ => ((Below.refl w.heap.size w).alloc (Nat.le_refl _) o).block k hk, by simp⟩
theorem kb_below {b : Nat} {w w' : World} (h : Below w.heap.size w w') (hb : b ≤ w.heap.size) : Kb b w w' :=
  ⟨h.mono hb, fun k hk _ => h.block k hk, h.size⟩
theorem Kb.below {b B : Nat} {w w' : World} (h : Kb b w w') (hB : B ≤ b) : Below B w w' := h.1.mono hB
theorem Six.kb {w w' : World} {b c : Nat} {y mo d h mi s : Int} (k : Six w c y mo d h mi s) (hk : Kb b w w') (hc : c ≠ b) : Six w' c y mo d h mi s := by
  obtain ⟨⟨c0, c1, c2, c3, c4, c5⟩, ⟨f0, f1, f2, f3, f4, f5⟩, hlt⟩ := k
  have e := hk.2.1 c hlt hc
  refine ⟨⟨?_, ?_, ?_, ?_, ?_, ?_⟩, ⟨?_, ?_, ?_, ?_, ?_, ?_⟩, Nat.lt_of_lt_of_le hlt hk.2.2⟩
  · exact (World.cell?_of_block (w := w) e).trans c0
  · exact (World.cell?_of_block (w := w) e).trans c1
  · exact (World.cell?_of_block (w := w) e).trans c2
  · exact (World.cell?_of_block (w := w) e).trans c3
  · exact (World.cell?_of_block (w := w) e).trans c4
  · exact (World.cell?_of_block (w := w) e).trans c5
  · exact (World.frozen?_of_block (w := w) e).trans f0
  · exact (World.frozen?_of_block (w := w) e).trans f1
  · exact (World.frozen?_of_block (w := w) e).trans f2
  · exact (World.frozen?_of_block (w := w) e).trans f3
  · exact (World.frozen?_of_block (w := w) e).trans f4
  · exact (World.frozen?_of_block (w := w) e).trans f5
theorem kb_set {b c o : Nat} {a w : World} (h : Kb b a w) (v : Value) (hc : a.heap.size ≤ c) (hb : b < a.heap.size) : Kb b a (w.setCell ⟨c, o, none⟩ v) :=
  ⟨below_set h.1 (Nat.le_trans (Nat.le_of_lt hb) hc) _, fun k hk hkb => (Below.heap_setCell w ⟨c, o, none⟩ v k (by show k ≠ c; omega)).trans (h.2.1 k hk hkb), by simpa using h.2.2⟩
theorem kb_six {b c : Nat} {a w : World} (h : Kb b a w) (hc : a.heap.size ≤ c) (hb : b < a.heap.size) (v0 v1 v2 v3 v4 v5 : Value) : Kb b a ((((((w.setCell ⟨c, 0, none⟩ v0).setCell ⟨c, 1, none⟩ v1).setCell ⟨c, 2, none⟩ v2).setCell ⟨c, 3, none⟩ v3).setCell ⟨c, 4, none⟩ v4).setCell ⟨c, 5, none⟩ v5) :=
  kb_set (kb_set (kb_set (kb_set (kb_set (kb_set h _ hc hb) _ hc hb) _ hc hb) _ hc hb) _ hc hb) _ hc hb
theorem rd_set {w : World} {B b m c o : Nat} (h : Rd w B b m) (v : Value) (hc : b < c) : Rd (w.setCell ⟨c, o, none⟩ v) B b m :=
  h.kept (below_set (Below.refl _ _) (by omega) _)
theorem rd_six {w : World} {B b m c : Nat} (h : Rd w B b m) (hc : b < c) (v0 v1 v2 v3 v4 v5 : Value) : Rd ((((((w.setCell ⟨c, 0, none⟩ v0).setCell ⟨c, 1, none⟩ v1).setCell ⟨c, 2, none⟩ v2).setCell ⟨c, 3, none⟩ v3).setCell ⟨c, 4, none⟩ v4).setCell ⟨c, 5, none⟩ v5) B b m :=
  rd_set (rd_set (rd_set (rd_set (rd_set (rd_set h _ hc) _ hc) _ hc) _ hc) _ hc) _ hc

theorem one_kb (B b m n lb : Nat) (l : List Int) (t : TypeId) (w : World) (hb : w.heap.size = lb) (hn : l.length = n) (h : Rd w B b m) (hm : m ≤ 100000) (n1 : 0 < n) (n2 : n ≤ 70000) :
    Calls Try.prog 29 #[.pointer (some ⟨b, 0, none⟩), .slice (some ⟨lb, 0, none⟩) n n] (w.alloc (.cells (l.map (Value.int .i64)).toArray t)) fun e w' => ∃ v : Int, v ∈ l ∧ e = .returned (.int .i64 v) ∧ Rd w' B b (m + 1) ∧ Kb b w w' := by
  subst hn hb
  have hlt := h.lt
  refine (one_any B b m w.heap.size 0 l.length l.length (fun i => l.getD i 0) _ (h.alloc _) hm n1 n2 (Nat.ne_of_gt hlt) (lit_cells w l t)).mono ?_
  rintro e w' ⟨i, hi, he, hr, ho⟩
  refine ⟨l.getD i 0, ?_, he, hr, (kb_alloc w _ hlt).trans ho.kb⟩
  simp [List.getD, hi]

/-- What is drawn. -/
def DrS (y mo d h mi s : Int) : Prop := (1900 ≤ y ∧ y ≤ 2108) ∧ (0 ≤ mo ∧ mo ≤ 13) ∧ (0 ≤ d ∧ d ≤ 32) ∧ (0 ≤ h ∧ h ≤ 23) ∧ (0 ≤ mi ∧ mi ≤ 59) ∧ -2 ≤ s ∧ s ≤ 60

set_option maxHeartbeats 1600000 in
theorem l11Stamp_any (B b m : Nat) (w : World) (h : Rd w B b m) (hm : m ≤ 99000) :
    Calls Try.prog 30 #[.pointer (some ⟨b, 0, none⟩)] w fun e w' => ∃ y mo d h mi s, e = .returned (.agg #[.int .i64 y, .int .i64 mo, .int .i64 d, .int .i64 h, .int .i64 mi, .int .i64 s]) ∧ DrS y mo d h mi s ∧ Rd w' B b (m + 6) ∧ Kb b w w' := by
  have hlt := h.lt
  have K0 := hide (kb_alloc w (.cells #[.int .i64 0, .int .i64 0, .int .i64 0, .int .i64 0, .int .i64 0, .int .i64 0] 25) hlt)
  have X0 := hide (six_alloc w 0 0 0 0 0 0 25)
  have R0 := hide (h.alloc (.cells #[.int .i64 0, .int .i64 0, .int .i64 0, .int .i64 0, .int .i64 0, .int .i64 0] 25))
  have hne : w.heap.size ≠ b := by omega
  have HNE := hide hne
  have HLT := hide hlt
  have HM := hide hm
  clear h hne hlt hm
  go_enter Try.func30, Try.ntmps30
  go_wp2_with fail
  refine (one_kb B b m 4 (w.heap.size + 1) [1980, 2000, 2024, 2107] 3 (w.alloc (.cells #[.int .i64 0, .int .i64 0, .int .i64 0, .int .i64 0, .int .i64 0, .int .i64 0] 25)) (by simp) rfl (unhide R0) (by have := unhide HM; omega) (by omega) (by omega)).mono ?_
  rintro e w1 ⟨y, hy, rfl, r1, k1⟩
  have K1 := hide ((unhide K0).trans k1)
  have X1 := hide ((unhide X0).kb k1 (unhide HNE))
  have R1 := hide r1
  clear K0 X0 R0 k1 r1
  have y0 : 1980 ≤ y := by simp at hy; omega
  have y1 : y ≤ 2107 := by simp at hy; omega
  clear hy
  go_wp2_with fail
  refine (pick_any B b _ 12 _ (unhide R1) (by have := unhide HM; omega) (by omega) (by omega)).mono ?_
  rintro e w2 ⟨mo, rfl, m0, m1, r2, k2⟩
  have K2 := hide ((unhide K1).trans k2.kb)
  have X2 := hide ((unhide X1).kb k2.kb (unhide HNE))
  have R2 := hide r2
  clear K1 X1 R1 k2 r2
  go_wp2_with fail
  refine (pick_any B b _ 28 _ (unhide R2) (by have := unhide HM; omega) (by omega) (by omega)).mono ?_
  rintro e w3 ⟨d, rfl, d0, d1, r3, k3⟩
  have K3 := hide ((unhide K2).trans k3.kb)
  have X3 := hide ((unhide X2).kb k3.kb (unhide HNE))
  have R3 := hide r3
  clear K2 X2 R2 k3 r3
  go_wp2_with fail
  refine (pick_any B b _ 24 _ (unhide R3) (by have := unhide HM; omega) (by omega) (by omega)).mono ?_
  rintro e w4 ⟨h, rfl, h0, h1, r4, k4⟩
  have K4 := hide ((unhide K3).trans k4.kb)
  have X4 := hide ((unhide X3).kb k4.kb (unhide HNE))
  have R4 := hide r4
  clear K3 X3 R3 k4 r4
  go_wp2_with fail
  refine (pick_any B b _ 60 _ (unhide R4) (by have := unhide HM; omega) (by omega) (by omega)).mono ?_
  rintro e w5 ⟨mi, rfl, i0, i1, r5, k5⟩
  have K5 := hide ((unhide K4).trans k5.kb)
  have X5 := hide ((unhide X4).kb k5.kb (unhide HNE))
  have R5 := hide r5
  clear K4 X4 R4 k5 r5
  go_wp2_with fail
  refine (pick_any B b _ 30 _ (unhide R5) (by have := unhide HM; omega) (by omega) (by omega)).mono ?_
  rintro e w6 ⟨s, rfl, s0, s1, r6, k6⟩
  have K6 := hide ((unhide K5).trans k6.kb)
  have X6 := hide ((unhide X5).kb k6.kb (unhide HNE))
  have R6 := hide r6
  clear K5 X5 R5 k6 r6
  have HZ := hide ((unhide X6).store y (1 + mo) (1 + d) h mi (2 * s))
  obtain ⟨⟨c0, c1, c2, c3, c4, c5⟩, ⟨f0, f1, f2, f3, f4, f5⟩, hl6⟩ := unhide X6
  clear X6
  go_wp2
  obtain ⟨⟨z0, z1, z2, z3, z4, z5⟩, _, _⟩ := unhide HZ
  refine bodyPost_ret (v := .agg #[.int .i64 y, .int .i64 (1 + mo), .int .i64 (1 + d), .int .i64 h, .int .i64 mi, .int .i64 (2 * s)]) (by simp [results, Try.results30, go_sem, z0, z1, z2, z3, z4, z5]) rfl ⟨y, 1 + mo, 1 + d, h, mi, 2 * s, rfl, ⟨by omega, by omega, by omega, by omega, by omega, by omega⟩, ?_, ?_⟩
  · exact rd_six (unhide R6) (unhide HLT) _ _ _ _ _ _
  · exact kb_six (unhide K6) (Nat.le_refl _) (unhide HLT) _ _ _ _ _ _

end Go.Proofs.Ythokkljiccgpiaa
