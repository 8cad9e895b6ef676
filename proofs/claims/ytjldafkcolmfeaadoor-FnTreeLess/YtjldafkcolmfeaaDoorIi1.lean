/- Rows of ints: what a law copies, holds against each other, marks and holds, over this seat's program. -/
import Derived.Test.YtjldafkcolmfeaaDoorRd2
import Derived.Test.YtjldafkcolmfeaaDoorMem
import Derived.Laws.IdiomStrings
import Derived.Laws.OwnMore
namespace Go.Proofs.YtjldafkcolmfeaaDoor
open Go.RowKit

theorem Tryd.infoInt : (Tryd.prog.info? 3).map (fun i => (i.zero, i.size, i.bytes)) = some (some (.int .i64 0), 1, 8) := by kernel_rfl
theorem take_snocI (l : List Int) (k : Nat) (h : k < l.length) : l.take (k + 1) = l.take k ++ [l.getD k 0] := by
  rw [List.take_succ_eq_append_getElem h]
  congr 1
  simp [List.getD, h]
/-- A row of ints. -/
def IRow (w : World) (a : Option Addr) (l : List Int) : Prop :=
  0 < l.length → ∃ g o, a = some ⟨g, o, none⟩ ∧ g < w.heap.size ∧ ∀ i, i < l.length → w.cell? ⟨g, o + i, none⟩ = some (.int .i64 (l.getD i 0))
theorem IRow.below {w w' : World} {a : Option Addr} {l : List Int} {B : Nat} (h : IRow w a l) (hB : w.heap.size ≤ B) (hb : Below B w w') : IRow w' a l := by
  intro h0
  obtain ⟨g, o, e, hg, hc⟩ := h h0
  exact ⟨g, o, e, Nat.lt_of_lt_of_le hg hb.size, fun i hi => by rw [← hc i hi]; exact hb.cell (p := ⟨g, o + i, none⟩) (by show g < B; omega)⟩
theorem IRow.later {w w' : World} {a : Option Addr} {l : List Int} (h : IRow w a l) (hb : Below w.heap.size w w') : IRow w' a l := h.below (Nat.le_refl _) hb

/-- A row of ints of the call's own. -/
def IOwn (w : World) (base : Nat) (v : Value) (l : List Int) : Prop := w.ownsRow base 3 1 v l.length (l.map (Value.int .i64))
theorem IOwn.form {w : World} {base : Nat} {v : Value} {l : List Int} (h : IOwn w base v l) : ∃ a cap, v = .slice a l.length cap := by
  rcases h.2 with ⟨e, h0⟩ | ⟨g, cap, _, e, _⟩
  · exact ⟨none, 0, by rw [e, h0]⟩
  · exact ⟨_, cap, e⟩
theorem IOwn.row {w : World} {base : Nat} {a : Option Addr} {cap : Nat} {l : List Int} (h : IOwn w base (.slice a l.length cap) l) : IRow w a l := by
  intro h0
  rcases h.2 with ⟨e, hn⟩ | ⟨g, cap', cur, e, hb, hg, _⟩
  · omega
  · simp only [Value.slice.injEq] at e
    obtain ⟨rfl, _, rfl⟩ := e
    refine ⟨g, 0, rfl, (Array.getElem?_eq_some_iff.1 hg).1, fun i hi => ?_⟩
    have := World.ownsRow.cells h (g := g) rfl i (.int .i64 (l.getD i 0)) (by simp [List.getD, hi])
    have hadd : (⟨g, 0, none⟩ : Addr).add i = ⟨g, i, none⟩ := by unfold Addr.add; split <;> simp_all
    rw [hadd] at this
    rw [Nat.zero_add]
    exact this
theorem IOwn.later {w w' : World} {base B : Nat} {v : Value} {l : List Int} (h : IOwn w base v l) (hb : Below B w w') (hB : w.heap.size ≤ B) : IOwn w' base v l := by
  refine ⟨h.1, ?_⟩
  rcases h.2 with hn | ⟨g, cap, cur, rfl, hbg, hgg, rest⟩
  · exact .inl hn
  · refine .inr ⟨g, cap, cur, rfl, hbg, ?_, rest⟩
    have hg := (Array.getElem?_eq_some_iff.1 hgg).1
    rw [hb.block g (by omega)]
    exact hgg
theorem IOwn.lit (w : World) (base : Nat) (hb : base ≤ w.heap.size) : IOwn (w.alloc (.cells #[] 3)) base (.slice (some ⟨w.heap.size, 0, none⟩) 0 0) [] :=
  World.ownsRow_lit w #[] 0 hb (by unfold maxLen; omega) rfl
theorem IOwn.nil (w : World) (base : Nat) : IOwn w base (.slice none 0 0) [] := World.ownsRow_nil _ _ _ _
theorem iown_snoc {x : World} {base : Nat} {v : Value} {l : List Int} {a : Int} (h : x.ownsRow base 3 1 v (l.length + 1) (l.map (Value.int .i64) ++ [.int .i64 a])) : IOwn x base v (l ++ [a]) := by
  unfold IOwn
  simpa using h
theorem IOwn.mono {w : World} {base base' : Nat} {v : Value} {l : List Int} (h : IOwn w base v l) (hb : base' ≤ base) : IOwn w base' v l := by
  refine ⟨h.1, ?_⟩
  rcases h.2 with hn | ⟨g, cap, cur, rfl, hbg, rest⟩
  · exact .inl hn
  · exact .inr ⟨g, cap, cur, rfl, by omega, rest⟩

theorem grown_step {x y y' : World} {o : Obj} {v : Value} {e : TypeId} {size n B base : Nat} {xs : List Value} (hg : (y.alloc o).grownBy y' v.ownBlock) (ho : y.ownsRow base e size v n xs) (hbb : B ≤ base) (hy : B ≤ y.heap.size) (hb : Below B x y) : Below B x y' :=
  (hb.alloc hy _).grown hg (by simp; omega) (fun j hj => Nat.le_trans hbb (World.ownsRow.lt (ho.alloc o) j hj).1)

theorem IOwn.rowN {w : World} {base n : Nat} {a : Option Addr} {cap : Nat} {l : List Int} (hn : l.length = n) (h : IOwn w base (.slice a n cap) l) : IRow w a l := by
  subst hn
  exact h.row
theorem IOwn.formN {w : World} {base n : Nat} {v : Value} {l : List Int} (hn : l.length = n) (h : IOwn w base v l) : ∃ a cap, v = .slice a n cap := by
  subst hn
  exact h.form
theorem IOwn.own {w : World} {base n : Nat} {v : Value} {l : List Int} (hn : l.length = n) (h : IOwn w base v l) : w.ownsRow base 3 1 v n (l.map (Value.int .i64)) := by
  subst hn
  exact h
theorem iown_snocN {x : World} {base n : Nat} {v : Value} {l : List Int} {a : Int} (hn : l.length = n) (h : x.ownsRow base 3 1 v (n + 1) (l.map (Value.int .i64) ++ [.int .i64 a])) : IOwn x base v (l ++ [a]) := by
  subst hn
  exact iown_snoc h

theorem irow_of {w : World} {a : Option Addr} {len cap : Nat} {zs : List Int} (h : IsRow .i64 w a len cap zs) : ∃ l : List Int, IRow w a l ∧ l.length = len ∧ len ≤ maxLen := by
  rcases h with ⟨rfl, rfl, rfl, rfl⟩ | ⟨x, rfl, hl, hm, hz, hc, _⟩
  · exact ⟨[], fun h => absurd h (by simp), rfl, by unfold maxLen; omega⟩
  · refine ⟨zs.take len, fun h0 => ?_, by simp; omega, by omega⟩
    have hlen : (zs.take len).length = len := by simp; omega
    rw [hlen] at h0 ⊢
    obtain ⟨b, off, spot⟩ := x
    have hc0 := hc 0 (by omega)
    have hspot : spot = none := by simpa [Addr.add] using World.cell?_spot hc0
    subst hspot
    refine ⟨b, off, rfl, ?_, fun i hi => ?_⟩
    · have := World.block_lt_of_cell? _ _ hc0
      simpa [Addr.add] using this
    · have h1 := hc i (by omega)
      have h2 : (zs.take len).getD i 0 = zs.getD i 0 := by simp [List.getD, hi]
      rw [h2]
      by_cases e : i = 0
      · subst e; simpa [Addr.add] using h1
      · simpa [Addr.add, e] using h1

theorem IOwn.put {w : World} {base g cap n j : Nat} {l : List Int} (hn : l.length = n) (h : IOwn w base (.slice (some ⟨g, 0, none⟩) n cap) l) (x : Int) :
    IOwn (w.setCell ⟨g, j, none⟩ (.int .i64 x)) base (.slice (some ⟨g, 0, none⟩) n cap) (l.set j x) := by
  subst hn
  have := World.ownsRow.stored h j (.int .i64 x)
  show World.ownsRow _ _ _ _ _ (l.set j x).length ((l.set j x).map (Value.int .i64))
  rw [List.length_set]
  have e : (l.set j x).map (Value.int .i64) = (l.map (Value.int .i64)).set j (.int .i64 x) := by simp [List.map_set]
  rw [e]
  exact this.1
theorem IOwn.at {w : World} {base g cap n j : Nat} {l : List Int} (hn : l.length = n) (h : IOwn w base (.slice (some ⟨g, 0, none⟩) n cap) l) (hj : j < n) :
    w.cell? ⟨g, j, none⟩ = some (.int .i64 (l.getD j 0)) ∧ w.frozen? ⟨g, j, none⟩ = false ∧ base ≤ g ∧ g < w.heap.size := by
  subst hn
  refine ⟨?_, World.ownsRow.frozenAt h j, World.ownsRow.lt h g rfl⟩
  rw [World.ownsRow.cellAt h j (by omega)]
  simp [hj, List.getD]
theorem IOwn.somes {w : World} {base cap n : Nat} {a : Option Addr} {l : List Int} (h : IOwn w base (.slice a n cap) l) (hl : 0 < l.length) : ∃ g, a = some ⟨g, 0, none⟩ := by
  rcases h.2 with ⟨_, e⟩ | ⟨g, cap', cur, e, _⟩
  · omega
  · simp only [Value.slice.injEq] at e
    exact ⟨g, e.1⟩
theorem IOwn.below {w : World} {base cap n g : Nat} {l : List Int} (h : IOwn w base (.slice (some ⟨g, 0, none⟩) n cap) l) : base ≤ g ∧ g < w.heap.size := World.ownsRow.lt h g rfl

/-- What changes only where a row lies. -/
def Touch (a : Option Addr) (w w' : World) : Prop := w'.heap.size = w.heap.size ∧ ∀ j, (∀ g, a = some ⟨g, 0, none⟩ → j ≠ g) → w'.heap[j]? = w.heap[j]?
theorem Touch.refl (a : Option Addr) (w : World) : Touch a w w := ⟨rfl, fun _ _ => rfl⟩
theorem Touch.set {a : Option Addr} {w w' : World} {g o : Nat} (h : Touch a w w') (ha : a = some ⟨g, 0, none⟩) (u : Value) : Touch a w (w'.setCell ⟨g, o, none⟩ u) :=
  ⟨by simpa using h.1, fun j hj => (Below.heap_setCell w' ⟨g, o, none⟩ u j (hj g ha)).trans (h.2 j hj)⟩
theorem IOwn.touch {w w' : World} {a : Option Addr} {base : Nat} {v : Value} {l : List Int} (h : IOwn w base v l) (ht : Touch a w w') (hne : ∀ g, a = some ⟨g, 0, none⟩ → g < base) : IOwn w' base v l := by
  refine ⟨h.1, ?_⟩
  rcases h.2 with hn | ⟨g, cap, cur, rfl, hbg, hgg, rest⟩
  · exact .inl hn
  · refine .inr ⟨g, cap, cur, rfl, hbg, ?_, rest⟩
    rw [ht.2 g (fun g' e => by have := hne g' e; omega)]
    exact hgg

def ups (k : Int) (n : Nat) : List Int := (List.range n).map fun i => k + (i : Nat)
theorem ups_len (k : Int) (n : Nat) : (ups k n).length = n := by simp [ups]
theorem ups_get (k : Int) (n i : Nat) (h : i < n) : (ups k n).getD i 0 = k + (i : Nat) := by simp [ups, List.getD, h]
theorem ups_step (k : Int) (l : List Int) (j : Nat) (h : j < l.length) : (ups k j ++ l.drop j).set j (k + (j : Nat)) = ups k (j + 1) ++ l.drop (j + 1) := by
  rw [List.set_append_right _ _ (by rw [ups_len]; exact Nat.le_refl _), ups_len, Nat.sub_self]
  have h1 : l.drop j = l[j] :: l.drop (j + 1) := List.drop_eq_getElem_cons h
  rw [h1, List.set_cons_zero]
  simp [ups, List.range_succ]
theorem copy_step (l : List Int) (j : Nat) (h : j < l.length) : (l.take j ++ List.replicate (l.length - j) 0).set j (l.getD j 0) = l.take (j + 1) ++ List.replicate (l.length - (j + 1)) 0 := by
  have hl : (l.take j).length = j := by simp; omega
  rw [List.set_append_right _ _ (by omega), hl, Nat.sub_self, take_snocI l j h]
  rw [show l.length - j = (l.length - (j + 1)) + 1 by omega, List.replicate_succ, List.set_cons_zero]
  simp





/-- Rows of other elements lie apart. -/
theorem type_apart {w : World} {b1 b2 e1 e2 s1 s2 n1 n2 : Nat} {v1 v2 : Value} {x1 x2 : List Value} (h1 : w.ownsRow b1 e1 s1 v1 n1 x1) (h2 : w.ownsRow b2 e2 s2 v2 n2 x2) (he : e1 ≠ e2) : v1.ownBlock = none ∨ v1.ownBlock ≠ v2.ownBlock := by
  rcases h1.2 with ⟨rfl, _⟩ | ⟨g, cap, cur, rfl, _, hg, _⟩
  · exact .inl rfl
  · refine .inr ?_
    rcases h2.2 with ⟨rfl, _⟩ | ⟨g', cap', cur', rfl, _, hg', _⟩
    · simp [Value.ownBlock]
    · simp only [Value.ownBlock, ne_eq, Option.some.injEq]
      rintro rfl
      rw [hg] at hg'
      simp only [Option.some.injEq, Obj.cells.injEq] at hg'
      exact he hg'.2.1
theorem snoc_len {α : Type} {l : List α} {x : α} {n : Nat} (h : l.length = n) : (l ++ [x]).length = n + 1 := by simp [h]
theorem size_alloc_le {B : Nat} {w : World} (h : B ≤ w.heap.size) (o : Obj) : B ≤ (w.alloc o).heap.size := by simp; omega
theorem copy_below {x x' : World} {t : TypeId} {c : Nat} (hg : (x.alloc (.cells #[] t)).grownBy x' (Value.slice (some ⟨x.heap.size, 0, none⟩) 0 c).ownBlock) : Below x.heap.size x x' :=
  ((Below.refl _ _).alloc (Nat.le_refl _) _).grown hg (by simp) (fun k h => by simp [Value.ownBlock] at h; omega)
theorem own_below {x y y' : World} {o : Obj} {v : Value} {e : TypeId} {size n : Nat} {xs : List Value} (hg : (y.alloc o).grownBy y' v.ownBlock) (ho : (y.alloc o).ownsRow x.heap.size e size v n xs) (hb : Below x.heap.size x y) : Below x.heap.size x y' :=
  (hb.alloc hb.size _).grown hg (by have := hb.size; simp; omega) (fun k h => (ho.lt k h).1)
theorem one_new (W : World) (g : Nat) (hg : W.heap.size = g) (x : Value) (t : TypeId) : ∀ (j : Nat) (u : Value), [x][j]? = some u → (W.alloc (.cells #[x] t)).cell? ((⟨g, 0, none⟩ : Addr).add j) = some u := by
  subst hg
  intro j u hj
  match j, hj with
  | 0, hj => simp at hj; subst hj; simp [Addr.add]
theorem one_int (x : Int) : ∀ u ∈ [Value.int .i64 x], u.oneCell' = true := by
  intro u hu
  simp at hu
  subst hu
  rfl
theorem made_ints {w1 : World} {base g n : Nat} (h : w1.ownsRow base 3 1 (.slice (some ⟨g, 0, none⟩) n n) n (madeCells (Value.int .i64 0).cells (n * 1)).toList) : IOwn w1 base (.slice (some ⟨g, 0, none⟩) n n) (List.replicate n 0) := by
  have e : (madeCells (Value.int .i64 0).cells (n * 1)).toList = (List.replicate n (0 : Int)).map (Value.int .i64) := by
    apply List.ext_getElem
    · simp [madeCells]
    · intro i h1 h2
      simp [madeCells, Value.cells, Nat.mod_one]
  show World.ownsRow _ _ _ _ _ (List.replicate n (0 : Int)).length _
  rw [List.length_replicate, ← e]
  exact h
theorem IOwn.setOther {w : World} {base g g' o n c : Nat} {l : List Int} (h : IOwn w base (.slice (some ⟨g, 0, none⟩) n c) l) (hg : g' ≠ g) (u : Value) : IOwn (w.setCell ⟨g', o, none⟩ u) base (.slice (some ⟨g, 0, none⟩) n c) l := by
  refine ⟨h.1, ?_⟩
  rcases h.2 with hn | ⟨g1, cap, cur, e, hbg, hgg, rest⟩
  · exact .inl hn
  · refine .inr ⟨g1, cap, cur, e, hbg, ?_, rest⟩
    simp only [Value.slice.injEq, Option.some.injEq, Addr.mk.injEq, and_true] at e
    rw [Below.heap_setCell w ⟨g', o, none⟩ u g1 (by show g1 ≠ g'; omega)]
    exact hgg
theorem IOwn.under {w w' : World} {base B g n c : Nat} {l : List Int} (h : IOwn w base (.slice (some ⟨g, 0, none⟩) n c) l) (hb : Below B w w') (hg : g < B) : IOwn w' base (.slice (some ⟨g, 0, none⟩) n c) l := by
  refine ⟨h.1, ?_⟩
  rcases h.2 with hn | ⟨g1, cap, cur, e, hbg, hgg, rest⟩
  · exact .inl hn
  · refine .inr ⟨g1, cap, cur, e, hbg, ?_, rest⟩
    simp only [Value.slice.injEq, Option.some.injEq, Addr.mk.injEq, and_true] at e
    rw [hb.block g1 (by omega)]
    exact hgg
theorem IOwn.setUnder {w : World} {base b o : Nat} {v : Value} {l : List Int} (h : IOwn w base v l) (hb : b < base) (u : Value) : IOwn (w.setCell ⟨b, o, none⟩ u) base v l :=
  ownsRow_setCell_below h (a := ⟨b, o, none⟩) hb u

end Go.Proofs.YtjldafkcolmfeaaDoor
