/- Of what the proof is made: 3 texts, one behind the other. -/
import Derived.Test.YtihncnlbnlmefaaDoorM5
import Derived.Test.YtihncnlbnlmefaaDoorM6
import Derived.Test.YtihncnlbnlmefaaDoorM3
import Derived.Deep.RegionHeld3
/- Symbols by a book: whether one has a code, and its piece, over this seat's program. -/
namespace Go.Proofs.YtihncnlbnlmefaaDoor
open Go.RowKit Corb

def hasS (l : List Int) (s : Int) : Bool := decide (0 ≤ s) && decide (s < (l.length : Int)) && decide (0 < l.getD s.toNat 0)
theorem book_new (w : World) (vl vc vs : Value) (m : Nat → Nat) (t : TypeId) : Book (w.alloc (.cells (bookCells vl vc vs m).toArray t)) w.heap.size vl vc vs m := by
  refine Book.of_range ?_ (fun o => frozen_new w _ _ o) (by simp)
  intro j v hv
  rw [Nat.zero_add, cell_of_row _ _ _ _ t (0, 0) (heap_alloc_new w _)]
  simpa using hv

end Go.Proofs.YtihncnlbnlmefaaDoor
/- Symbols by a book: whether one has a code, and its piece, over this seat's program. -/
namespace Go.Proofs.YtihncnlbnlmefaaDoor.Lit
open Go.Proofs.YtihncnlbnlmefaaDoor
open Go.RowKit Corb

def hasS (l : List Int) (s : Int) : Bool := decide (0 ≤ s) && decide (s < (l.length : Int)) && decide (0 < l.getD s.toNat 0)
theorem book_new (w : World) (vl vc vs : Value) (m : Nat → Nat) (t : TypeId) : Book (w.alloc (.cells (bookCells vl vc vs m).toArray t)) w.heap.size vl vc vs m := by
  refine Book.of_range ?_ (fun o => frozen_new w _ _ o) (by simp)
  intro j v hv
  rw [Nat.zero_add, cell_of_row _ _ _ _ t (0, 0) (heap_alloc_new w _)]
  simpa using hv

end Go.Proofs.YtihncnlbnlmefaaDoor.Lit
/- Symbols by a book: whether one has a code, and its piece, over this seat's program. -/
namespace Go.Proofs.YtihncnlbnlmefaaDoor.Dist
open Go.Proofs.YtihncnlbnlmefaaDoor
open Go.RowKit Corb

def hasS (l : List Int) (s : Int) : Bool := decide (0 ≤ s) && decide (s < (l.length : Int)) && decide (0 < l.getD s.toNat 0)
theorem book_new (w : World) (vl vc vs : Value) (m : Nat → Nat) (t : TypeId) : Book (w.alloc (.cells (bookCells vl vc vs m).toArray t)) w.heap.size vl vc vs m := by
  refine Book.of_range ?_ (fun o => frozen_new w _ _ o) (by simp)
  intro j v hv
  rw [Nat.zero_add, cell_of_row _ _ _ _ t (0, 0) (heap_alloc_new w _)]
  simpa using hv

end Go.Proofs.YtihncnlbnlmefaaDoor.Dist
