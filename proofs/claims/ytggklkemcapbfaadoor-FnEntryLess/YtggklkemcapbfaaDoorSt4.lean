/- Contracts of StampPut and StampGet, the model's and the program's. -/
import Derived.Test.YtggklkemcapbfaaDoorSt3
namespace Go.Proofs.YtggklkemcapbfaaDoor
open Go.RowKit

theorem or_join' (i : Nat) (x y : Int) (h0 : 0 ≤ x) (h1 : x < 2 ^ i) (h2 : 0 ≤ y) (h3 : y < 9223372036854775808) (h4 : x < 9223372036854775808) (h : y % 2 ^ i = 0) : bits .or .i64 x y = x + y := by
  obtain ⟨a, rfl⟩ := Int.eq_ofNat_of_zero_le h0
  obtain ⟨b, rfl⟩ := Int.eq_ofNat_of_zero_le h2
  rw [i64_or_nat a b (by omega) (by omega), Nat.or_comm, nat_join i b a (by exact_mod_cast h) (by exact_mod_cast h1)]
  omega

/-- A stamp in a block of the call's own. -/
def Six (w : World) (b : Nat) (y mo d h mi s : Int) : Prop :=
  (w.cell? ⟨b, 0, none⟩ = some (.int .i64 y) ∧ w.cell? ⟨b, 1, none⟩ = some (.int .i64 mo) ∧ w.cell? ⟨b, 2, none⟩ = some (.int .i64 d) ∧ w.cell? ⟨b, 3, none⟩ = some (.int .i64 h) ∧ w.cell? ⟨b, 4, none⟩ = some (.int .i64 mi) ∧ w.cell? ⟨b, 5, none⟩ = some (.int .i64 s)) ∧
  (w.frozen? ⟨b, 0, none⟩ = false ∧ w.frozen? ⟨b, 1, none⟩ = false ∧ w.frozen? ⟨b, 2, none⟩ = false ∧ w.frozen? ⟨b, 3, none⟩ = false ∧ w.frozen? ⟨b, 4, none⟩ = false ∧ w.frozen? ⟨b, 5, none⟩ = false) ∧ b < w.heap.size
theorem six_alloc (w : World) (y mo d h mi s : Int) (t : TypeId) : Six (w.alloc (.cells #[.int .i64 y, .int .i64 mo, .int .i64 d, .int .i64 h, .int .i64 mi, .int .i64 s] t)) w.heap.size y mo d h mi s := by
  refine ⟨⟨?_, ?_, ?_, ?_, ?_, ?_⟩, ⟨?_, ?_, ?_, ?_, ?_, ?_⟩, ?_⟩ <;> simp
theorem Six.later {w w' : World} {b B : Nat} {y mo d h mi s : Int} (k : Six w b y mo d h mi s) (hb : Below B w w') (hB : b < B) : Six w' b y mo d h mi s := by
  obtain ⟨⟨c0, c1, c2, c3, c4, c5⟩, ⟨f0, f1, f2, f3, f4, f5⟩, hlt⟩ := k
  refine ⟨⟨?_, ?_, ?_, ?_, ?_, ?_⟩, ⟨?_, ?_, ?_, ?_, ?_, ?_⟩, Nat.lt_of_lt_of_le hlt hb.size⟩
  · exact (hb.cell (p := ⟨b, 0, none⟩) hB).trans c0
  · exact (hb.cell (p := ⟨b, 1, none⟩) hB).trans c1
  · exact (hb.cell (p := ⟨b, 2, none⟩) hB).trans c2
  · exact (hb.cell (p := ⟨b, 3, none⟩) hB).trans c3
  · exact (hb.cell (p := ⟨b, 4, none⟩) hB).trans c4
  · exact (hb.cell (p := ⟨b, 5, none⟩) hB).trans c5
  · exact (hb.frozen (p := ⟨b, 0, none⟩) hB).trans f0
  · exact (hb.frozen (p := ⟨b, 1, none⟩) hB).trans f1
  · exact (hb.frozen (p := ⟨b, 2, none⟩) hB).trans f2
  · exact (hb.frozen (p := ⟨b, 3, none⟩) hB).trans f3
  · exact (hb.frozen (p := ⟨b, 4, none⟩) hB).trans f4
  · exact (hb.frozen (p := ⟨b, 5, none⟩) hB).trans f5
theorem set_keep {w : World} {b i j : Nat} {v : Value} {c : Option Value} (k : w.cell? ⟨b, j, none⟩ = c) (h : i ≠ j) : (w.setCell ⟨b, i, none⟩ v).cell? ⟨b, j, none⟩ = c := by
  rw [World.cell?_setCell_other _ _ _ _ (fun e => h (by cases e; rfl))]; exact k
theorem Six.store {w : World} {b : Nat} {y mo d h mi s : Int} (k : Six w b y mo d h mi s) (y' mo' d' h' mi' s' : Int) :
    Six ((((((w.setCell ⟨b, 0, none⟩ (.int .i64 y')).setCell ⟨b, 1, none⟩ (.int .i64 mo')).setCell ⟨b, 2, none⟩ (.int .i64 d')).setCell ⟨b, 3, none⟩ (.int .i64 h')).setCell ⟨b, 4, none⟩ (.int .i64 mi')).setCell ⟨b, 5, none⟩ (.int .i64 s')) b y' mo' d' h' mi' s' := by
  obtain ⟨⟨c0, c1, c2, c3, c4, c5⟩, ⟨f0, f1, f2, f3, f4, f5⟩, hlt⟩ := k
  refine ⟨⟨?_, ?_, ?_, ?_, ?_, ?_⟩, ⟨?_, ?_, ?_, ?_, ?_, ?_⟩, ?_⟩
  · exact set_keep (set_keep (set_keep (set_keep (set_keep (World.cell?_setCell_same _ _ _ c0) (by decide)) (by decide)) (by decide)) (by decide)) (by decide)
  · exact set_keep (set_keep (set_keep (set_keep (World.cell?_setCell_same _ _ _ (set_keep c1 (by decide))) (by decide)) (by decide)) (by decide)) (by decide)
  · exact set_keep (set_keep (set_keep (World.cell?_setCell_same _ _ _ (set_keep (set_keep c2 (by decide)) (by decide))) (by decide)) (by decide)) (by decide)
  · exact set_keep (set_keep (World.cell?_setCell_same _ _ _ (set_keep (set_keep (set_keep c3 (by decide)) (by decide)) (by decide))) (by decide)) (by decide)
  · exact set_keep (World.cell?_setCell_same _ _ _ (set_keep (set_keep (set_keep (set_keep c4 (by decide)) (by decide)) (by decide)) (by decide))) (by decide)
  · exact World.cell?_setCell_same _ _ _ (set_keep (set_keep (set_keep (set_keep (set_keep c5 (by decide)) (by decide)) (by decide)) (by decide)) (by decide))
  · simpa using f0
  · simpa using f1
  · simpa using f2
  · simpa using f3
  · simpa using f4
  · simpa using f5
  · simpa using hlt
theorem six_below {B : Nat} {a w : World} {b : Nat} (k : Below B a w) (hb : B ≤ b) (v0 v1 v2 v3 v4 v5 : Value) : Below B a ((((((w.setCell ⟨b, 0, none⟩ v0).setCell ⟨b, 1, none⟩ v1).setCell ⟨b, 2, none⟩ v2).setCell ⟨b, 3, none⟩ v3).setCell ⟨b, 4, none⟩ v4).setCell ⟨b, 5, none⟩ v5) :=
  below_set (below_set (below_set (below_set (below_set (below_set k hb _) hb _) hb _) hb _) hb _) hb _
theorem six_call {w w1 : World} {y mo d h mi s : Int} {t : TypeId} (hb : Below (w.alloc (.cells #[.int .i64 y, .int .i64 mo, .int .i64 d, .int .i64 h, .int .i64 mi, .int .i64 s] t)).heap.size (w.alloc (.cells #[.int .i64 y, .int .i64 mo, .int .i64 d, .int .i64 h, .int .i64 mi, .int .i64 s] t)) w1) :
    Six w1 w.heap.size y mo d h mi s ∧ Below w.heap.size w w1 :=
  ⟨(six_alloc w y mo d h mi s t).later hb (by simp), ((Below.refl _ _).alloc (Nat.le_refl _) _).trans (hb.mono (by simp))⟩

/-- The number of a day and a time. -/
def stN (y mo d h mi s : Int) : Int := (((((y - 1980) * 16 + mo) * 32 + d) * 32 + h) * 64 + mi) * 32 + s / 2
/-- The same; -1 of what is none. -/
def stI (y mo d h mi s : Int) : Int := if stOk y mo d h mi s then stN y mo d h mi s else -1
theorem st_bd {y mo d h mi s : Int} (k : stOk y mo d h mi s = true) : (1980 ≤ y ∧ y ≤ 2107) ∧ (1 ≤ mo ∧ mo ≤ 12) ∧ (1 ≤ d ∧ d ≤ daysN y mo ∧ d ≤ 31) ∧ (0 ≤ h ∧ h ≤ 23) ∧ (0 ≤ mi ∧ mi ≤ 59) ∧ (0 ≤ s ∧ s ≤ 58) ∧ s % 2 = 0 := by
  simp only [stOk, Bool.and_eq_true, inB_true, decide_eq_true_eq] at k
  obtain ⟨ey, em, ed, eh, ei, es, e2⟩ := k
  have h1 : daysI y mo = daysN y mo := by simp [daysI, inB_true.2 em]
  have h2 := (daysI_bd y mo).2
  refine ⟨ey, em, ⟨ed.1, ed.2, ?_⟩, eh, ei, es, e2⟩
  omega


end Go.Proofs.YtggklkemcapbfaaDoor
