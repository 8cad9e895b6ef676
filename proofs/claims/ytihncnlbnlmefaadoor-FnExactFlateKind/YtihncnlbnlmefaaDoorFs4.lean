/- Contracts of the program's spots: a token that leads back by its symbols, over this seat's program. -/
import Derived.Test.YtihncnlbnlmefaaDoorM5
import Derived.Deep.DeepCutAuto
namespace Go.Proofs.YtihncnlbnlmefaaDoor
open Go.RowKit

theorem kept_new {x1 x2 : World} {o : Obj} (h : Below (x1.alloc o).heap.size (x1.alloc o) x2) : x2.heap[x1.heap.size]? = some o := (h.block _ (by simp)).trans (alloc_at x1 o)
theorem kept_drew {x1 x2 : World} {o : Obj} (h : Below (x1.alloc o).drew.heap.size (x1.alloc o).drew x2) : x2.heap[x1.heap.size]? = some o := (h.block _ (by simp)).trans (alloc_at x1 o)

theorem set_blk {w : World} {b : Nat} {cs : Array Value} {t : TypeId} (h : w.heap[b]? = some (Obj.cells cs t)) (i : Nat) (u : Value) : (w.setCell ⟨b, i, none⟩ u).heap[b]? = some (Obj.cells (cs.setIfInBounds i u) t) := by
  show (w.heap.modify b _)[b]? = _
  rw [Array.getElem?_modify, if_pos rfl, h]
  simp
theorem blk_cell {w : World} {b : Nat} {cs : Array Value} {t : TypeId} (h : w.heap[b]? = some (Obj.cells cs t)) (i : Nat) : w.cell? ⟨b, i, none⟩ = cs[i]? := by simp [World.cell?, h]
theorem blk_free {w : World} {b : Nat} {cs : Array Value} {t : TypeId} (h : w.heap[b]? = some (Obj.cells cs t)) (i : Nat) : w.frozen? ⟨b, i, none⟩ = false := by simp [World.frozen?, h]


end Go.Proofs.YtihncnlbnlmefaaDoor
