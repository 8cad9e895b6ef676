/- The program's book of codes, over this seat's program. -/
import Derived.Test.YtbhmnmdffkgliaaCk1
namespace Go.Proofs.Ytbhmnmdffkgliaa
open Go.RowKit Corb

/-- How many of the first k symbols have that length, and those of the first lengths in their order. -/
def many (l : List Int) (n : Int) : Nat → Nat
  | 0 => 0
  | k + 1 => if l.getD k 0 = n then many l n k + 1 else many l n k
def syms (l : List Int) (n : Int) (s : List Int) : Nat → List Int
  | 0 => s
  | k + 1 => if l.getD k 0 = n then syms l n s k ++ [(k : Int)] else syms l n s k
def symsN (l : List Int) : Nat → List Int
  | 0 => []
  | N + 1 => syms l ((N : Int) + 1) (symsN l N) l.length
def manyN (l : List Int) (N j : Nat) : Nat := if 1 ≤ j ∧ j ≤ N then many l (j : Int) l.length else 0

/-- A book in memory. -/
def Book (w : World) (b : Nat) (vl vc vs : Value) (m : Nat → Nat) : Prop :=
  w.cell? ⟨b, 0, none⟩ = some vl ∧ w.cell? ⟨b, 1, none⟩ = some vc ∧ (∀ j, j < 16 → w.cell? ⟨b, 2 + j, none⟩ = some (.int .i64 (m j : Nat))) ∧ w.cell? ⟨b, 18, none⟩ = some vs ∧ (∀ o, w.frozen? ⟨b, o, none⟩ = false) ∧ b < w.heap.size
theorem Book.kept {w w' : World} {b : Nat} {vl vc vs : Value} {m : Nat → Nat} (h : Book w b vl vc vs m) (hb : Below (b + 1) w w') : Book w' b vl vc vs m := by
  obtain ⟨c0, c1, c2, c3, f, hlt⟩ := h
  have hs := Nat.lt_succ_self b
  exact ⟨(hb.cell (p := ⟨b, 0, none⟩) hs).trans c0, (hb.cell (p := ⟨b, 1, none⟩) hs).trans c1, fun j hj => (hb.cell (p := ⟨b, 2 + j, none⟩) hs).trans (c2 j hj), (hb.cell (p := ⟨b, 18, none⟩) hs).trans c3, fun o => (hb.frozen (p := ⟨b, o, none⟩) hs).trans (f o), Nat.lt_of_lt_of_le hlt hb.size⟩
theorem Book.other {w : World} {b g o : Nat} {vl vc vs : Value} {m : Nat → Nat} (h : Book w b vl vc vs m) (hg : g ≠ b) (u : Value) : Book (w.setCell ⟨g, o, none⟩ u) b vl vc vs m := by
  obtain ⟨c0, c1, c2, c3, f, hlt⟩ := h
  refine ⟨?_, ?_, fun j hj => ?_, ?_, fun o => by simpa using f o, by simpa using hlt⟩
  · rw [World.cell?_setCell_other _ _ _ _ (by simp only [ne_eq, Addr.mk.injEq]; omega)]; exact c0
  · rw [World.cell?_setCell_other _ _ _ _ (by simp only [ne_eq, Addr.mk.injEq]; omega)]; exact c1
  · rw [World.cell?_setCell_other _ _ _ _ (by simp only [ne_eq, Addr.mk.injEq]; omega)]; exact c2 j hj
  · rw [World.cell?_setCell_other _ _ _ _ (by simp only [ne_eq, Addr.mk.injEq]; omega)]; exact c3
theorem Book.many {w : World} {b i x : Nat} {vl vc vs : Value} {m : Nat → Nat} (h : Book w b vl vc vs m) (hi : i < 16) : Book (w.setCell ⟨b, 2 + i, none⟩ (.int .i64 (x : Nat))) b vl vc vs (fun j => if j = i then x else m j) := by
  obtain ⟨c0, c1, c2, c3, f, hlt⟩ := h
  refine ⟨?_, ?_, fun j hj => ?_, ?_, fun o => by simpa using f o, by simpa using hlt⟩
  · rw [World.cell?_setCell_other _ _ _ _ (by simp only [ne_eq, Addr.mk.injEq]; omega)]; exact c0
  · rw [World.cell?_setCell_other _ _ _ _ (by simp only [ne_eq, Addr.mk.injEq]; omega)]; exact c1
  · by_cases e : j = i
    · subst e
      rw [World.cell?_setCell_same _ _ _ (c2 j hj)]; simp
    · rw [World.cell?_setCell_other _ _ _ _ (by simp only [ne_eq, Addr.mk.injEq]; omega)]; simp only [if_neg e]; exact c2 j hj
  · rw [World.cell?_setCell_other _ _ _ _ (by simp only [ne_eq, Addr.mk.injEq]; omega)]; exact c3
theorem Book.sorted {w : World} {b : Nat} {vl vc vs : Value} {m : Nat → Nat} (h : Book w b vl vc vs m) (u : Value) : Book (w.setCell ⟨b, 18, none⟩ u) b vl vc u m := by
  obtain ⟨c0, c1, c2, c3, f, hlt⟩ := h
  refine ⟨?_, ?_, fun j hj => ?_, World.cell?_setCell_same _ _ _ c3, fun o => by simpa using f o, by simpa using hlt⟩
  · rw [World.cell?_setCell_other _ _ _ _ (by simp only [ne_eq, Addr.mk.injEq]; omega)]; exact c0
  · rw [World.cell?_setCell_other _ _ _ _ (by simp only [ne_eq, Addr.mk.injEq]; omega)]; exact c1
  · rw [World.cell?_setCell_other _ _ _ _ (by simp only [ne_eq, Addr.mk.injEq]; omega)]; exact c2 j hj

theorem manyS_le (l : List Int) (n : Int) (k : Nat) : many l n k ≤ k := by
  induction k with
  | zero => exact Nat.le_refl _
  | succ k ih => simp only [many]; split <;> omega

theorem manyN_step (l : List Int) (N : Nat) : (fun j => if j = N + 1 then many l ((N : Int) + 1) l.length else manyN l N j) = manyN l (N + 1) := by
  funext j
  unfold manyN
  by_cases e : j = N + 1
  · subst e
    rw [if_pos rfl, if_pos ⟨by omega, by omega⟩]
    congr 1
  · rw [if_neg e]
    by_cases h : 1 ≤ j ∧ j ≤ N
    · rw [if_pos h, if_pos ⟨h.1, by omega⟩]
    · rw [if_neg h, if_neg (by omega)]
theorem many_start (l : List Int) (N : Nat) : (fun j => if j = N + 1 then many l ((N : Int) + 1) 0 else manyN l N j) = manyN l N := by
  funext j
  by_cases e : j = N + 1
  · subst e
    rw [if_pos rfl]
    unfold manyN
    rw [if_neg (by omega)]
    rfl
  · rw [if_neg e]
theorem symsN_len (l : List Int) (n : Int) (s : List Int) (k : Nat) : (syms l n s k).length ≤ s.length + k := by
  induction k with
  | zero => exact Nat.le_refl _
  | succ k ih =>
    simp only [syms]
    split
    · simp; omega
    · omega
theorem symsN_le (l : List Int) (N : Nat) : (symsN l N).length ≤ N * l.length := by
  induction N with
  | zero => simp [symsN]
  | succ N ih =>
    have := symsN_len l ((N : Int) + 1) (symsN l N) l.length
    simp only [symsN]
    rw [Nat.add_mul, Nat.one_mul]
    omega

end Go.Proofs.Ytbhmnmdffkgliaa
