/- The program's heap of groups: its size, and which of two comes first. -/
import Derived.Test.YtkkhaleiehnihaaHu6
namespace Go.Proofs.Ytkkhaleiehnihaa
open Go.RowKit Corb

/-- The heap lies at a block, and its groups are a row of the call's own. -/
def Heap (w : World) (b base : Nat) (v : Value) (L : List Grp) : Prop := w.heap[b]? = some (Obj.cells #[v] 57) ∧ Trow 44 w base v L
theorem Heap.cell {w : World} {b base : Nat} {v : Value} {L : List Grp} (h : Heap w b base v L) : w.cell? ⟨b, 0, none⟩ = some v := by simp [World.cell?, h.1]
theorem Heap.frz {w : World} {b base : Nat} {v : Value} {L : List Grp} (h : Heap w b base v L) : w.frozen? ⟨b, 0, none⟩ = false := by simp [World.frozen?, h.1]
theorem Heap.lt {w : World} {b base : Nat} {v : Value} {L : List Grp} (h : Heap w b base v L) : b < w.heap.size := (Array.getElem?_eq_some_iff.1 h.1).1

theorem heapSize_any (b base n cap : Nat) (a : Option Addr) (L : List Grp) (w : World) (h : Heap w b base (.slice a n cap) L) :
    Calls Try.prog 38 #[.pointer (some ⟨b, 0, none⟩)] w fun e w' => e = .returned (.int .i64 (n : Nat)) ∧ w' = w := by
  have c0 := h.cell
  clear h
  go_enter Try.func38, Try.ntmps38
  go_wp2
  go_ret
  exact ⟨rfl, rfl⟩

set_option maxHeartbeats 1600000 in
theorem before_any (b base ob g n cap i j : Nat) (L : List Grp) (w : World) (hS : Syms w ob L) (hn : L.length = n) (hm : n ≤ 300) (h : Heap w b base (.slice (some ⟨g, 0, none⟩) n cap) L) (hi : i < n) (hj : j < n) :
    Calls Try.prog 63 #[.pointer (some ⟨b, 0, none⟩), .int .i64 (i : Nat), .int .i64 (j : Nat)] w fun e w' => e = .returned (.bool (lessG (L.getD i g0) (L.getD j g0))) ∧ Below w.heap.size w w' := by
  have c0 := h.cell
  obtain ⟨a0, a1, a2, _, hg⟩ := h.2.at hn i hi
  obtain ⟨d0, d1, d2, _, _⟩ := h.2.at hn j hj
  have hbw : b < w.heap.size := World.block_lt_of_cell? w ⟨b, 0, none⟩ c0
  obtain ⟨xa, xq, hxv⟩ := (hS (L.getD i g0) (getD_mem L i (by omega))).form
  obtain ⟨ya, yq, hyv⟩ := (hS (L.getD j g0) (getD_mem L j (by omega))).form
  have hiI : (i : Int) < (n : Int) := by omega
  have hjI : (j : Int) < (n : Int) := by omega
  have hmI : (n : Int) ≤ 300 := by omega
  rw [hxv] at a2
  rw [hyv] at d2
  clear h hn hm hi hj hxv hyv hS
  generalize L.getD i g0 = x at *
  generalize L.getD j g0 = y at *
  obtain ⟨xc, xf, xs, xv⟩ := x
  obtain ⟨yc, yf, ys, yv⟩ := y
  simp only at a0 a1 a2 d0 d1 d2
  generalize xs.length = xn at *
  generalize ys.length = yn at *
  go_enter Try.func63, Try.ntmps63
  go_wp2_with fail
  go_region
  all_goals
    by_cases he : xc = yc
    · subst he
      go_wp2
      go_ret
      exact ⟨congrArg (fun x => Ending.returned (.bool x)) (by simp [lessG]), (((Below.refl _ _).alloc (Nat.le_refl _) _).alloc (by simp) _).drew⟩
    · have hne : (xc == yc) = false := by simpa using he
      go_wp2
      go_ret
      exact ⟨congrArg (fun x => Ending.returned (.bool x)) (by simp [lessG, he]), (((Below.refl _ _).alloc (Nat.le_refl _) _).alloc (by simp) _).drew⟩

end Go.Proofs.Ytkkhaleiehnihaa
