/- Readers of bits, the model's and the program's, over this seat's program. -/
import Derived.Test.YtgpghapnmalipaaGreatDoorM3
import Derived.Test.YtgpghapnmalipaaGreatDoorM2
import Derived.Deep.RegionHeld3
import Derived.Deep.DrawnRows
namespace Go.Proofs.YtgpghapnmalipaaGreatDoor
open Go.RowKit Corb
def Three (w : World) (b : Nat) (v0 v1 v2 : Value) : Prop :=
  w.cell? ⟨b, 0, none⟩ = some v0 ∧ w.cell? ⟨b, 1, none⟩ = some v1 ∧ w.cell? ⟨b, 2, none⟩ = some v2 ∧ w.frozen? ⟨b, 0, none⟩ = false ∧ w.frozen? ⟨b, 1, none⟩ = false ∧ w.frozen? ⟨b, 2, none⟩ = false ∧ b < w.heap.size
theorem Three.set0 {w : World} {b : Nat} {v0 v1 v2 : Value} (h : Three w b v0 v1 v2) (u : Value) : Three (w.setCell ⟨b, 0, none⟩ u) b u v1 v2 := by
  obtain ⟨c0, c1, c2, f0, f1, f2, hb⟩ := h
  refine ⟨World.cell?_setCell_same _ _ _ c0, ?_, ?_, by simpa using f0, by simpa using f1, by simpa using f2, by simpa using hb⟩
  · rw [World.cell?_setCell_other _ _ _ _ (by simp)]; exact c1
  · rw [World.cell?_setCell_other _ _ _ _ (by simp)]; exact c2
theorem Three.set1 {w : World} {b : Nat} {v0 v1 v2 : Value} (h : Three w b v0 v1 v2) (u : Value) : Three (w.setCell ⟨b, 1, none⟩ u) b v0 u v2 := by
  obtain ⟨c0, c1, c2, f0, f1, f2, hb⟩ := h
  refine ⟨?_, World.cell?_setCell_same _ _ _ c1, ?_, by simpa using f0, by simpa using f1, by simpa using f2, by simpa using hb⟩
  · rw [World.cell?_setCell_other _ _ _ _ (by simp)]; exact c0
  · rw [World.cell?_setCell_other _ _ _ _ (by simp)]; exact c2
theorem Three.set2 {w : World} {b : Nat} {v0 v1 v2 : Value} (h : Three w b v0 v1 v2) (u : Value) : Three (w.setCell ⟨b, 2, none⟩ u) b v0 v1 u := by
  obtain ⟨c0, c1, c2, f0, f1, f2, hb⟩ := h
  refine ⟨?_, ?_, World.cell?_setCell_same _ _ _ c2, by simpa using f0, by simpa using f1, by simpa using f2, by simpa using hb⟩
  · rw [World.cell?_setCell_other _ _ _ _ (by simp)]; exact c0
  · rw [World.cell?_setCell_other _ _ _ _ (by simp)]; exact c1
theorem Three.drew {w : World} {b : Nat} {v0 v1 v2 : Value} (h : Three w b v0 v1 v2) : Three w.drew b v0 v1 v2 := h
theorem Three.kept {w w' : World} {b : Nat} {v0 v1 v2 : Value} (h : Three w b v0 v1 v2) (hb : Below (b + 1) w w') : Three w' b v0 v1 v2 := by
  obtain ⟨c0, c1, c2, f0, f1, f2, hlt⟩ := h
  have hs := Nat.lt_succ_self b
  exact ⟨(hb.cell (p := ⟨b, 0, none⟩) hs).trans c0, (hb.cell (p := ⟨b, 1, none⟩) hs).trans c1, (hb.cell (p := ⟨b, 2, none⟩) hs).trans c2, (hb.frozen (p := ⟨b, 0, none⟩) hs).trans f0, (hb.frozen (p := ⟨b, 1, none⟩) hs).trans f1, (hb.frozen (p := ⟨b, 2, none⟩) hs).trans f2, Nat.lt_of_lt_of_le hlt hb.size⟩
theorem p2_le (k n : Nat) (h : k ≤ n) : p2 k ≤ p2 n := Nat.pow_le_pow_right (by omega) h
attribute [local go_sem ↓] Go.wp_at_zero Go.wp_at_succ
end Go.Proofs.YtgpghapnmalipaaGreatDoor