/- Contracts of the program's Adler state, over this seat's program. -/
import Derived.Test.YticegedgmbpphaaCrc3
import Derived.Deep.QuietTactic
import Derived.BigQuiet
import Derived.BigRegion
import Derived.WalkSmall
import Derived.Deep.RegionWith
namespace Go.Proofs.Yticegedgmbpphaa
open Go.RowKit Corb

/-- Two cells of a block of the call's own. -/
def Two (w : World) (b : Nat) (v0 v1 : Value) : Prop :=
  w.cell? ⟨b, 0, none⟩ = some v0 ∧ w.cell? ⟨b, 1, none⟩ = some v1 ∧ w.frozen? ⟨b, 0, none⟩ = false ∧ w.frozen? ⟨b, 1, none⟩ = false ∧ b < w.heap.size

theorem below_set {B : Nat} {a w : World} (h : Below B a w) {b o : Nat} (hb : B ≤ b) (u : Value) : Below B a (w.setCell ⟨b, o, none⟩ u) := h.setCell (p := ⟨b, o, none⟩) hb u
theorem Two.set0 {w : World} {b : Nat} {v0 v1 : Value} (h : Two w b v0 v1) (u : Value) : Two (w.setCell ⟨b, 0, none⟩ u) b u v1 := by
  obtain ⟨c0, c1, f0, f1, hb⟩ := h
  refine ⟨World.cell?_setCell_same _ _ _ c0, ?_, by simpa using f0, by simpa using f1, by simpa using hb⟩
  rw [World.cell?_setCell_other _ _ _ _ (by simp)]; exact c1
theorem Two.set1 {w : World} {b : Nat} {v0 v1 : Value} (h : Two w b v0 v1) (u : Value) : Two (w.setCell ⟨b, 1, none⟩ u) b v0 u := by
  obtain ⟨c0, c1, f0, f1, hb⟩ := h
  refine ⟨?_, World.cell?_setCell_same _ _ _ c1, by simpa using f0, by simpa using f1, by simpa using hb⟩
  rw [World.cell?_setCell_other _ _ _ _ (by simp)]; exact c0
theorem Two.drew {w : World} {b : Nat} {v0 v1 : Value} (h : Two w b v0 v1) : Two w.drew b v0 v1 := h

set_option maxHeartbeats 400000 in
theorem adlerAdd_any (b : Nat) (lo hi x : Int) (w : World) (h : Two w b (.int .i64 lo) (.int .i64 hi)) (l0 : 0 ≤ lo) (l1 : lo < 65521) (g0 : 0 ≤ hi) (g1 : hi < 65521) (x0 : 0 ≤ x) (x1 : x < 256) :
    Calls Try.prog 70 #[.pointer (some ⟨b, 0, none⟩), .int .u8 x] w fun e w' => e = .returned (.tuple #[]) ∧
      Two w' b (.int .i64 ((lo + x) % 65521)) (.int .i64 ((hi + (lo + x) % 65521) % 65521)) ∧ Below b w w' := by
  have h' := hide h
  obtain ⟨c0, c1, f0, f1, hb⟩ := h
  go_enter Try.func70, Try.ntmps70
  go_wp2
  go_region
  all_goals go_end0
  refine ⟨rfl, ?_, ?_⟩
  · have e : (hi + (lo + x)) % 65521 = (hi + (lo + x) % 65521) % 65521 := by omega
    rw [e]
    exact (((unhide h').set0 _).set1 _).drew
  · exact (below_set (below_set (Below.refl _ _) (Nat.le_refl _) _) (Nat.le_refl _) _).drew

set_option maxHeartbeats 400000 in
theorem adlerTold_any (b : Nat) (lo hi : Int) (w : World) (h : Two w b (.int .i64 lo) (.int .i64 hi)) (l0 : 0 ≤ lo) (l1 : lo < 65521) (g0 : 0 ≤ hi) (g1 : hi < 65521) :
    Calls Try.prog 71 #[.pointer (some ⟨b, 0, none⟩)] w fun e w' => e = .returned (.int .i64 (hi * 65536 + lo)) ∧ Below w.heap.size w w' := by
  obtain ⟨c0, c1, f0, f1, hb⟩ := h
  have ho := i64_or_half hi lo g0 (by omega) l0 (by omega)
  go_enter Try.func71, Try.ntmps71
  go_wp2
  go_quiet (fail)
  go_wp2
  go_ret
  exact ⟨rfl, below_drewN (Below.refl _ _) _⟩

end Go.Proofs.Yticegedgmbpphaa
