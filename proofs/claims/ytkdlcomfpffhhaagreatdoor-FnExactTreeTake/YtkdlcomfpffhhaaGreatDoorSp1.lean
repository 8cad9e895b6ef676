/- Symbols by a book: whether one has a code, and its piece, over this seat's program. -/
import Derived.Test.YtkdlcomfpffhhaaGreatDoorM8
import Derived.Test.YtkdlcomfpffhhaaGreatDoorM9
import Derived.Test.YtkdlcomfpffhhaaGreatDoorM5
import Derived.Deep.RegionHeld3
namespace Go.Proofs.YtkdlcomfpffhhaaGreatDoor
open Go.RowKit Corb
theorem book_new (w:World) (vl vc vs:Value) (m:Nat→Nat) (t:TypeId):Book (w.alloc (.cells (bookCells vl vc vs m).toArray t)) w.heap.size vl vc vs m:=by
 refine Book.of_range ?_ (fun o=>frozen_new w _ _ o) (by simp)
 intro j v hv
 rw [Nat.zero_add,cell_of_row _ _ _ _ t (0,0) (heap_alloc_new w _)]
 simpa using hv
end Go.Proofs.YtkdlcomfpffhhaaGreatDoor
