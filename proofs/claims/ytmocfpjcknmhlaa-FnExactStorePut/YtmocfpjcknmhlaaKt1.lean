/- Blocks of one type of elements that are kept, over this seat's program. -/
import Derived.Test.YtmocfpjcknmhlaaIi1
namespace Go.Proofs.Ytmocfpjcknmhlaa
open Go.RowKit

/-- Every block of elements of a type is as it was. -/
def KeepT (t : TypeId) (w w' : World) : Prop := ∀ (k : Nat) (c : Array Value) (f : Nat × Nat), w.heap[k]? = some (Obj.cells c t f) → w'.heap[k]? = some (Obj.cells c t f)
theorem KeepT.refl (t : TypeId) (w : World) : KeepT t w w := fun _ _ _ h => h
theorem KeepT.trans {t : TypeId} {w w1 w2 : World} (h : KeepT t w w1) (k : KeepT t w1 w2) : KeepT t w w2 := fun j c f hj => k j c f (h j c f hj)
theorem heap_lt {w : World} {k : Nat} {o : Obj} (h : w.heap[k]? = some o) : k < w.heap.size := (Array.getElem?_eq_some_iff.1 h).1
theorem KeepT.below {t : TypeId} {w w' : World} (h : Below w.heap.size w w') : KeepT t w w' := fun j _ _ hj => (h.block j (heap_lt hj)).trans hj
theorem KeepT.alloc {t : TypeId} {w w' : World} (h : KeepT t w w') (o : Obj) : KeepT t w (w'.alloc o) := fun j c f hj => (Below.heap_alloc w' o j (heap_lt (h j c f hj))).trans (h j c f hj)
theorem KeepT.drew {t : TypeId} {w w' : World} (h : KeepT t w w') : KeepT t w w'.drew := h
theorem KeepT.set {t t' : TypeId} {w w' : World} {g o : Nat} {c : Array Value} {f : Nat × Nat} (h : KeepT t w w') (hg : w'.heap[g]? = some (.cells c t' f)) (hne : t ≠ t') (u : Value) : KeepT t w (w'.setCell ⟨g, o, none⟩ u) := by
  intro j c' f' hj
  have h1 := h j c' f' hj
  rw [Below.heap_setCell w' ⟨g, o, none⟩ u j (by
    show j ≠ g
    rintro rfl
    rw [hg] at h1
    simp only [Option.some.injEq, Obj.cells.injEq] at h1
    exact hne h1.2.1.symm)]
  exact h1
theorem KeepT.own {t : TypeId} {w w' : World} {base size n : Nat} {v : Value} {xs : List Value} (h : KeepT t w w') (ho : w.ownsRow base t size v n xs) : w'.ownsRow base t size v n xs := by
  refine ⟨ho.1, ?_⟩
  rcases ho.2 with hn | ⟨g, cap, cur, rfl, hbg, hgg, rest⟩
  · exact .inl hn
  · exact .inr ⟨g, cap, cur, rfl, hbg, h g _ _ hgg, rest⟩
theorem own_block {w : World} {base size n g cap : Nat} {e : TypeId} {a : Addr} {xs : List Value} (h : w.ownsRow base e size (.slice (some a) n cap) n xs) (ha : a = ⟨g, 0, none⟩) : ∃ c, w.heap[g]? = some (.cells c e) := by
  subst ha
  rcases h.2 with ⟨hn, _⟩ | ⟨g', cap', cur, e', _, hgg, _⟩
  · cases hn
  · simp only [Value.slice.injEq, Option.some.injEq, Addr.mk.injEq, and_true] at e'
    obtain ⟨rfl, _, _⟩ := e'
    exact ⟨_, hgg⟩
theorem KeepT.touch {t t' : TypeId} {w w' : World} {g : Nat} {c : Array Value} {f : Nat × Nat} (hg : w.heap[g]? = some (.cells c t' f)) (hne : t ≠ t') (ht : Touch (some ⟨g, 0, none⟩) w w') : KeepT t w w' := by
  intro j c' f' hj
  rw [ht.2 j (fun g' e => by
    simp only [Option.some.injEq, Addr.mk.injEq, and_true] at e
    subst e
    rintro rfl
    rw [hg] at hj
    simp only [Option.some.injEq, Obj.cells.injEq] at hj
    exact hne hj.2.1.symm)]
  exact hj
theorem KeepT.grown {t t' : TypeId} {w w1 w2 : World} {base size n : Nat} {v : Value} {xs : List Value} (h : KeepT t w w1) (ho : w1.ownsRow base t' size v n xs) (hne : t ≠ t') (hg : w1.grownBy w2 v.ownBlock) : KeepT t w w2 := by
  intro j c f hj
  have h1 := h j c f hj
  rw [hg.block j (heap_lt h1) (by
    intro e
    rcases ho.2 with ⟨rfl, _⟩ | ⟨g, cap, cur, rfl, _, hgg, _⟩
    · cases e
    · simp only [Value.ownBlock, Option.some.injEq] at e
      subst e
      rw [hgg] at h1
      simp only [Option.some.injEq, Obj.cells.injEq] at h1
      exact hne h1.2.1.symm)]
  exact h1
theorem k3_cells {w : World} {b : Nat} {x y z : Value} {t : TypeId} (h : w.heap[b]? = some (Obj.cells #[x, y, z] t)) : w.cell? ⟨b, 0, none⟩ = some x ∧ w.cell? ⟨b, 1, none⟩ = some y ∧ w.cell? ⟨b, 2, none⟩ = some z ∧ b < w.heap.size :=
  ⟨by simp [World.cell?, h], by simp [World.cell?, h], by simp [World.cell?, h], (Array.getElem?_eq_some_iff.1 h).1⟩
theorem k2_cells {w : World} {b : Nat} {x y : Value} {t : TypeId} (h : w.heap[b]? = some (Obj.cells #[x, y] t)) : w.cell? ⟨b, 0, none⟩ = some x ∧ w.cell? ⟨b, 1, none⟩ = some y ∧ b < w.heap.size :=
  ⟨by simp [World.cell?, h], by simp [World.cell?, h], (Array.getElem?_eq_some_iff.1 h).1⟩
theorem alloc_at (w : World) (o : Obj) : (w.alloc o).heap[w.heap.size]? = some o := Array.getElem?_push_size

end Go.Proofs.Ytmocfpjcknmhlaa
