/- A book of codes as a row of cells: how it is stored and loaded whole. -/
import Derived.Test.YtbhmnmdffkgliaaCk2
import Derived.Deep.MidRow
namespace Go.Proofs.Ytbhmnmdffkgliaa
open Go.RowKit Corb

theorem frozen_new (w : World) (vs : Array Value) (t : TypeId) (j : Nat) : (w.alloc (.cells vs t)).frozen? ⟨w.heap.size, j, none⟩ = false := by simp
theorem there_new (w : World) (vs : Array Value) (t : TypeId) (n : Nat) (hn : n = vs.size) : (w.alloc (.cells vs t)).there w.heap.size 0 n := by
  intro j hj
  subst hn
  refine ⟨?_, frozen_new w vs t _⟩
  rw [cell_of_row _ _ _ vs t (0, 0) (heap_alloc_new w _)]
  simp [hj]
theorem Try.infoBook : (Try.prog.info? 37).map (·.size) = some 19 := by kernel_rfl
def bookCells (vl vc vs : Value) (m : Nat → Nat) : List Value := vl :: vc :: ((List.range 16).map (fun j => Value.int .i64 (m j : Nat)) ++ [vs])
theorem bookCells_len (vl vc vs : Value) (m : Nat → Nat) : (bookCells vl vc vs m).length = 19 := by simp [bookCells]
theorem bookCells_mid (vl vc vs : Value) (m : Nat → Nat) (i : Nat) (h : i < 16) : (bookCells vl vc vs m)[i + 2]? = some (.int .i64 (m i : Nat)) := by
  show ((List.range 16).map (fun j => Value.int .i64 (m j : Nat)) ++ [vs])[i]? = _
  rw [List.getElem?_append_left (by simpa using h)]
  simp [h]
theorem bookCells_last (vl vc vs : Value) (m : Nat → Nat) : (bookCells vl vc vs m)[18]? = some vs := by
  show ((List.range 16).map (fun j => Value.int .i64 (m j : Nat)) ++ [vs])[16]? = _
  rw [List.getElem?_append_right (by simp)]
  simp
theorem Book.range {w : World} {b : Nat} {vl vc vs : Value} {m : Nat → Nat} (h : Book w b vl vc vs m) : w.rangeAt b 0 (bookCells vl vc vs m) := by
  intro j v hv
  have hj : j < 19 := by
    have := (List.getElem?_eq_some_iff.1 hv).1
    rwa [bookCells_len] at this
  obtain ⟨c0, c1, c2, c3, _, _⟩ := h
  rw [Nat.zero_add]
  rcases Nat.lt_or_ge j 2 with h2 | h2
  · rcases (show j = 0 ∨ j = 1 by omega) with rfl | rfl
    · simp only [bookCells, List.getElem?_cons_zero, Option.some.injEq] at hv
      rw [← hv]; exact c0
    · simp only [bookCells, List.getElem?_cons_succ, List.getElem?_cons_zero, Option.some.injEq] at hv
      rw [← hv]; exact c1
  · rcases Nat.lt_or_ge j 18 with h3 | h3
    · obtain ⟨i, rfl⟩ : ∃ i, j = i + 2 := ⟨j - 2, by omega⟩
      rw [bookCells_mid _ _ _ _ i (by omega)] at hv
      rw [← hv, Nat.add_comm]
      exact c2 i (by omega)
    · obtain rfl : j = 18 := by omega
      rw [bookCells_last] at hv
      rw [← hv]; exact c3
theorem Book.of_range {w : World} {b : Nat} {vl vc vs : Value} {m : Nat → Nat} (h : w.rangeAt b 0 (bookCells vl vc vs m)) (hf : ∀ o, w.frozen? ⟨b, o, none⟩ = false) (hb : b < w.heap.size) : Book w b vl vc vs m := by
  refine ⟨?_, ?_, fun j hj => ?_, ?_, hf, hb⟩
  · have := h 0 vl rfl
    rwa [Nat.zero_add] at this
  · have := h 1 vc rfl
    rwa [Nat.zero_add] at this
  · have := h (j + 2) _ (bookCells_mid _ _ _ _ j hj)
    rwa [Nat.zero_add, Nat.add_comm] at this
  · have := h 18 vs (bookCells_last _ _ _ _)
    rwa [Nat.zero_add] at this
theorem Book.there {w : World} {b : Nat} {vl vc vs : Value} {m : Nat → Nat} (h : Book w b vl vc vs m) : w.there b 0 19 := by
  intro j hj
  refine ⟨?_, ?_⟩
  · exact h.range.isSome j (by rw [bookCells_len]; exact hj)
  · exact h.2.2.2.2.1 _
theorem bookCells_one {vl vc vs : Value} {m : Nat → Nat} (hl : vl.oneCell' = true) (hc : vc.oneCell' = true) (hs : vs.oneCell' = true) : (bookCells vl vc vs m).toArray.all (·.oneCell') = true := by
  apply all_oneCell_toArray
  intro v hv
  simp only [bookCells, List.mem_cons, List.mem_append, List.mem_map, List.mem_range] at hv
  rcases hv with rfl | rfl | ⟨_, _, rfl⟩ | rfl | h
  · exact hl
  · exact hc
  · rfl
  · exact hs
  · cases h
theorem below_setCells {B : Nat} {a : World} {b : Nat} (hb : B ≤ b) : ∀ (vs : List Value) (o : Nat) (w : World), Below B a w → Below B a (w.setCells b o vs)
  | [], _, _, h => h
  | v :: r, o, w, h => by
    rw [World.setCells]
    exact below_setCells (a := a) hb r (o + 1) _ (below_set h hb v)
theorem size_setCells (b : Nat) : ∀ (vs : List Value) (o : Nat) (w : World), (w.setCells b o vs).heap.size = w.heap.size
  | [], _, _ => rfl
  | v :: r, o, w => by
    rw [World.setCells, size_setCells b r]
    simp
/-- A book, stored whole into a block that is there. -/
theorem wpList_store_book {P : Program} {ops : Array Oper} {rest : List Oper} {op : Oper} {a : Act} {w : World} {Q : Exit → Act → World → Prop} (hgd : op.guard = none) (ty : TypeId) (x y : Operand) (ho : op.op = .store ty x y)
    (b : Nat) (C : Array Value) (vl vc vs : Value) (m : Nat → Nat) (hx : a.eval x = .pointer (some ⟨b, 0, none⟩)) (hy : a.eval y = .agg C) (hC : C = (bookCells vl vc vs m).toArray)
    (ht : w.there b 0 19) (hf : ∀ o, w.frozen? ⟨b, o, none⟩ = false) (hi : (P.info? ty).map (·.size) = some 19) (h1 : vl.oneCell' = true ∧ vc.oneCell' = true ∧ vs.oneCell' = true)
    (h : ∀ w', Book w' b vl vc vs m → Below b w w' → w'.heap.size = w.heap.size → (∀ j, j ≠ b → w'.heap[j]? = w.heap[j]?) → wpList P ops Q rest (a.put op.dst undef) w') : wpList P ops Q (op :: rest) a w := by
  have hlt : b < w.heap.size := by
    obtain ⟨v, hv⟩ := Option.isSome_iff_exists.1 (ht 0 (by omega)).1
    exact World.block_lt_of_cell? _ _ hv
  subst hC
  have hsz : (bookCells vl vc vs m).toArray.size = 19 := by simp [bookCells_len]
  refine wpList_store_mid hgd ty x y ho b 0 _ hx hy (by rw [hsz]; exact ht) (by rw [hsz]; exact hi) (bookCells_one h1.1 h1.2.1 h1.2.2) ?_
  have ht' : w.there b 0 (bookCells vl vc vs m).length := by rw [bookCells_len]; exact ht
  refine h _ (Book.of_range (World.rangeAt_setCells_same w b 0 _ ht') (fun o => by rw [World.frozen?_setCells]; exact hf o) (by rw [size_setCells]; exact hlt)) (below_setCells (Nat.le_refl _) _ _ _ (Below.refl _ _)) (size_setCells _ _ _ _) ?_
  have heap : ∀ (vs : List Value) (o : Nat) (w : World) (j : Nat), j ≠ b → (w.setCells b o vs).heap[j]? = w.heap[j]? := by
    intro vs
    induction vs with
    | nil => intro o w j _; rfl
    | cons v r ih =>
      intro o w j hj
      rw [World.setCells, ih _ _ _ hj]
      exact Below.heap_setCell w ⟨b, o, none⟩ v j hj
  exact fun j hj => heap _ _ _ j hj
/-- A result that lies in a block. -/
theorem results_cell_mid {P : Program} {fn : Func} {p : Tmp} {ty : TypeId} (h : fn.results = #[.cell p ty]) (tmps : Array Value) (w : World) (b : Nat) (cs : List Value) (d : TypeDesc)
    (hp : tmps.getD p undef = .pointer (some ⟨b, 0, none⟩)) (hc : w.rangeAt b 0 cs) (hu : P.underlying ty = some d) (hd : d.isRow = true) (hi : (P.info? ty).map (·.size) = some cs.length) :
    (results fn tmps).run P w = .ok (.agg cs.toArray) w := by
  have hp' : tmps[p]?.getD undef = .pointer (some ⟨b, 0, none⟩) := by simpa using hp
  simp [results, h, hp', asAddr, run_loadVar_mid w b 0 ty cs d hc hu hd hi]

end Go.Proofs.Ytbhmnmdffkgliaa
