/- The program's zipCode and ZipOk. -/
import Derived.Test.YthlmoakigdlboaaDoorAs4
import Derived.Test.YthlmoakigdlboaaDoorZm1
namespace Go.Proofs.YthlmoakigdlboaaDoor
open Go.RowKit

/-- The library's variable that holds the type of errors. -/
def ErrT (w : World) : Prop := w.cell? ⟨0, 0, none⟩ = some (.iface 74 (.agg #[.pointer (some ⟨4, 43, none⟩)]))

set_option maxHeartbeats 1600000 in
theorem zipCode_any (c : Int) (w : World) (hg : ErrT w) :
    Calls Tryd.prog 14 #[faultV c] w fun e w' => e = .returned (.int .i64 c) ∧ Below w.heap.size w w' := by
  by_cases h : c = 0
  · subst h
    have hv : faultV 0 = .nilIface := rfl
    rw [hv]
    go_enter Tryd.func14, Tryd.ntmps14
    go_wp2_with fail
    refine (as_nil _ _).mono ?_
    rintro e w1 ⟨rfl, hw⟩
    rw [hw]
    clear hw
    go_wp2
    go_ret
    exact ⟨rfl, (Below.refl _ _).alloc (Nat.le_refl _) _⟩
  · have hv : faultV c = .iface 50 (.agg #[.int .i64 c]) := by unfold faultV; rw [if_neg h]
    rw [hv]
    have hlt : 0 < w.heap.size := World.block_lt_of_cell? _ _ hg
    have hgA : (w.alloc (.cells #[.int .i64 0] 50)).cell? ⟨0, 0, none⟩ = some (.iface 74 (.agg #[.pointer (some ⟨4, 43, none⟩)])) := by
      rw [World.cell?_alloc_past _ _ _ hlt]; exact hg
    have HA := hide (as_hit c w.heap.size (.int .i64 0) (w.alloc (.cells #[.int .i64 0] 50)) hgA (by simp) (by simp))
    clear hv hgA hg h
    go_enter Tryd.func14, Tryd.ntmps14
    go_wp2_with fail
    refine (unhide HA).mono ?_
    rintro e w1 ⟨rfl, hw⟩
    have hc : w1.cell? ⟨w.heap.size, 0, none⟩ = some (.int .i64 c) := by
      rw [hw]
      refine World.cell?_setCell_same _ _ _ (u := .int .i64 0) ?_
      rw [World.cell?_alloc_past _ _ _ (by first | (simp; done) | (simp; omega)), World.cell?_alloc_past _ _ _ (by first | (simp; done) | (simp; omega)), World.cell?_alloc_past _ _ _ (by first | (simp; done) | (simp; omega)), World.cell?_alloc_past _ _ _ (by first | (simp; done) | (simp; omega))]
      simp
    have HB : Hid (Below w.heap.size w w1) := by
      rw [hw]
      refine below_set ?_ (Nat.le_refl _) _
      exact (((((Below.refl _ _).alloc (Nat.le_refl _) _).alloc (by simp) _).alloc (by simp; omega) _).alloc (by simp; omega) _).alloc (by simp; omega) _
    clear hw HA
    go_wp2
    go_ret
    exact ⟨rfl, unhide HB⟩

set_option maxHeartbeats 800000 in
theorem implZipOk_any (a : Option Addr) (cap : Nat) (l : List En) (n : Nat) (hn : l.length = n) (m : Int) (w : World) (h : ERow w a l) (hl : (n : Int) ≤ 1048576) (hcap : (n : Int) ≤ (cap : Int))
    (hs : ∀ i, i < n → (l.getD i default).n.size ≤ 1048576 ∧ ((l.getD i default).t.size : Int) ≤ 9223372036854775807) (hm : w.cell? ⟨1, 0, none⟩ = some (.int .i64 m)) (hg : ErrT w) :
    Calls Tryd.prog 7 #[.slice a n cap] w fun e w' => e = .returned (.bool (zipB l)) ∧ Below w.heap.size w w' := by
  have HW := hide (zipWrong_any a cap l n hn m w h hl hcap hs hm)
  have HG := hide hg
  have HZ : Hid (∀ c : Int, (c = 0 ↔ ∀ i, i < n → codeC l i = 0) → zipB l = decide (c = 0)) := by
    intro c hc
    rw [← hn] at hc
    rw [← zip_codes] at hc
    cases hz : zipB l
    · rw [hz] at hc; simp at hc; simp [hc]
    · rw [hz] at hc; simp at hc; simp [hc]
  clear h hs hm hg hn
  go_enter Tryd.func7, Tryd.ntmps7
  go_wp2_with fail
  refine (unhide HW).mono ?_
  rintro e w1 ⟨⟨c, rfl, hc, hin⟩, hb1⟩
  have HC := hide (unhide HZ c hc)
  have HB1 := hide hb1
  have HG1 : Hid (ErrT w1) := (hb1.cell (p := ⟨0, 0, none⟩) (World.block_lt_of_cell? _ _ (unhide HG))).trans (unhide HG)
  have c0 : -1 ≤ c := by rcases hin with h | h | h | h <;> omega
  have c1 : c ≤ 5 := by rcases hin with h | h | h | h <;> omega
  clear hc hin hb1 HW HZ
  go_wp2_with fail
  refine (zipCode_any c _ (unhide HG1)).mono ?_
  rintro e w2 ⟨rfl, hb2⟩
  have HB2 := hide (bnext (unhide HB1) hb2)
  clear hb2
  go_wp2
  go_ret
  exact ⟨ret_bool (by rw [unhide HC]; rfl), unhide HB2⟩

end Go.Proofs.YthlmoakigdlboaaDoor
