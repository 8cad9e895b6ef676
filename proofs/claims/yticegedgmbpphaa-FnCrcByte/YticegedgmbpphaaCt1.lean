/- Contracts of the program's table of half bytes, over this seat's program. -/
import Derived.Test.YticegedgmbpphaaAd1
namespace Go.Proofs.Yticegedgmbpphaa
open Go.RowKit Corb

/-- The table of half bytes, up to a place. -/
def TabTo (w : World) (b k : Nat) : Prop :=
  (∀ j, j < 16 → w.cell? ⟨b, j, none⟩ = some (.int .u32 ((if j < k then shN 4 j else 0 : Nat) : Int)) ∧ w.frozen? ⟨b, j, none⟩ = false) ∧ b < w.heap.size

theorem TabTo.set {w : World} {b k : Nat} (h : TabTo w b k) (hk : k < 16) : TabTo (w.setCell ⟨b, k, none⟩ (.int .u32 (shN 4 k : Nat))) b (k + 1) := by
  refine ⟨fun j hj => ⟨?_, by simpa using (h.1 j hj).2⟩, by simpa using h.2⟩
  by_cases e : j = k
  · subst e
    rw [World.cell?_setCell_same _ _ _ (h.1 j hj).1]; simp
  · rw [World.cell?_setCell_other _ _ _ _ (by simp only [ne_eq, Addr.mk.injEq]; omega), (h.1 j hj).1]
    by_cases l : j < k
    · rw [if_pos l, if_pos (by omega)]
    · rw [if_neg l, if_neg (by omega)]

theorem tab_zero (w : World) (t : TypeId) : TabTo (w.alloc (.cells (Array.replicate 16 (.int .u32 0)) t)) w.heap.size 0 := by
  refine ⟨fun j hj => ⟨?_, by simp⟩, by simp⟩
  simp [hj]

set_option maxHeartbeats 800000 in
theorem crcTable_any (w : World) :
    Calls Try.prog 41 #[] w fun e w' => e = .returned (.func (.func 52) #[] #[.pointer (some ⟨w.heap.size, 0, none⟩)]) ∧ TabTo w' w.heap.size 16 ∧ Below w.heap.size w w' := by
  have hz := tab_zero w 66
  go_enter Try.func41, Try.ntmps41
  go_wp2_with fail
  go_loopw [3] (fun i wr => ∃ k : Nat, k ≤ 16 ∧ i = .int .i64 k ∧ TabTo wr w.heap.size k ∧ Below w.heap.size w wr) (fun i _ => 16 - (intOf i).toNat)
  case atStart => exact ⟨0, by omega, rfl, hz, (Below.refl _ _).alloc (Nat.le_refl _) _⟩
  case round =>
    obtain ⟨k, hk, rfl, htab, hbel⟩ := hrel
    have hk' : (k : Int) ≤ 16 := by omega
    clear hk hz
    by_cases hlt : (k : Int) < 16
    · obtain ⟨hc, hf⟩ := htab.1 k (by omega)
      have hset := htab.set (by omega)
      go_wp2_with (go_at_call 44; refine (crcShift_any _ _ _ (by omega) (by omega) (by omega) (by omega)).mono ?_; rintro e w' ⟨rfl, rfl⟩)
      go_roundw
      case rel => exact ⟨k + 1, by omega, by go_num, hset, below_set hbel (Nat.le_refl _) _⟩
      case measure => simp [intOf]; omega
    · have hke : k = 16 := by omega
      subst hke
      go_wp2
      go_ret
      exact ⟨rfl, htab, hbel⟩

theorem crcHalf_any (b : Nat) (i : Int) (w : World) (h : TabTo w b 16) (i0 : 0 ≤ i) (i1 : i < 16) :
    Calls Try.prog 52 #[.int .u32 i, .pointer (some ⟨b, 0, none⟩)] w fun e w' => e = .returned (.int .u32 (shN 4 i.toNat : Nat)) ∧ w' = w := by
  obtain ⟨k, rfl⟩ := Int.eq_ofNat_of_zero_le i0
  rw [Int.toNat_natCast]
  obtain ⟨hc, _⟩ := h.1 k (by omega)
  rw [if_pos (by omega)] at hc
  go_enter Try.func52, Try.ntmps52
  go_wp2
  go_ret
  exact ⟨rfl, rfl⟩

end Go.Proofs.Yticegedgmbpphaa
