/- Two cells of a block of the call's own; worlds that are kept but for one block. -/
import Derived.Test.YtjldafkcolmfeaaDoorBase
import Derived.Deep.QuietTactic
import Derived.BigQuiet
import Derived.BigRegion
import Derived.WalkSmall
import Derived.Deep.RegionWith
namespace Go.Proofs.YtjldafkcolmfeaaDoor
open Go.RowKit

/-- Two cells of a block of the call's own. -/
def Two (w : World) (b : Nat) (v0 v1 : Value) : Prop :=
  w.cell? ⟨b, 0, none⟩ = some v0 ∧ w.cell? ⟨b, 1, none⟩ = some v1 ∧ w.frozen? ⟨b, 0, none⟩ = false ∧ w.frozen? ⟨b, 1, none⟩ = false ∧ b < w.heap.size

theorem below_set {B : Nat} {a w : World} (h : Below B a w) {b o : Nat} (hb : B ≤ b) (u : Value) : Below B a (w.setCell ⟨b, o, none⟩ u) := h.setCell (p := ⟨b, o, none⟩) hb u
theorem Two.set0 {w : World} {b : Nat} {v0 v1 : Value} (h : Two w b v0 v1) (u : Value) : Two (w.setCell ⟨b, 0, none⟩ u) b u v1 := by
  obtain ⟨c0, c1, f0, f1, hb⟩ := h
  refine ⟨World.cell?_setCell_same _ _ _ c0, ?_, by simpa using f0, by simpa using f1, by simpa using hb⟩
  rw [World.cell?_setCell_other _ _ _ _ (by simp)]; exact c1
theorem Two.set1 {w : World} {b : Nat} {v0 v1 : Value} (h : Two w b v0 v1) (u : Value) : Two (w.setCell ⟨b, 1, none⟩ u) b v0 u := by
  obtain ⟨c0, c1, f0, f1, hb⟩ := h
  refine ⟨?_, World.cell?_setCell_same _ _ _ c1, by simpa using f0, by simpa using f1, by simpa using hb⟩
  rw [World.cell?_setCell_other _ _ _ _ (by simp)]; exact c0
theorem Two.drew {w : World} {b : Nat} {v0 v1 : Value} (h : Two w b v0 v1) : Two w.drew b v0 v1 := h

end Go.Proofs.YtjldafkcolmfeaaDoor
