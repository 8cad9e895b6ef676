/- Of what the proof is made: 4 texts, one behind the other. -/
import Derived.Test.YtbacpebljannfaaGreatDoorM6
import Derived.Test.YtbacpebljannfaaGreatDoorM7
import Derived.Test.YtbacpebljannfaaGreatDoorM3
import Derived.Deep.RegionHeld3
namespace Go.Proofs.YtbacpebljannfaaGreatDoor
open Go.RowKit Corb
theorem book_new (w : World) (vl vc vs : Value) (m : Nat → Nat) (t : TypeId) : Book (w.alloc (.cells (bookCells vl vc vs m).toArray t)) w.heap.size vl vc vs m := by
  refine Book.of_range ?_ (fun o => frozen_new w _ _ o) (by simp)
  intro j v hv
  rw [Nat.zero_add, cell_of_row _ _ _ _ t (0, 0) (heap_alloc_new w _)]
  simpa using hv
end Go.Proofs.YtbacpebljannfaaGreatDoor
namespace Go.Proofs.YtbacpebljannfaaGreatDoor.Lit
open Go.Proofs.YtbacpebljannfaaGreatDoor
open Go.RowKit Corb
theorem book_new (w : World) (vl vc vs : Value) (m : Nat → Nat) (t : TypeId) : Book (w.alloc (.cells (bookCells vl vc vs m).toArray t)) w.heap.size vl vc vs m := by
  refine Book.of_range ?_ (fun o => frozen_new w _ _ o) (by simp)
  intro j v hv
  rw [Nat.zero_add, cell_of_row _ _ _ _ t (0, 0) (heap_alloc_new w _)]
  simpa using hv
end Go.Proofs.YtbacpebljannfaaGreatDoor.Lit
namespace Go.Proofs.YtbacpebljannfaaGreatDoor.Dist
open Go.Proofs.YtbacpebljannfaaGreatDoor
open Go.RowKit Corb
theorem book_new (w : World) (vl vc vs : Value) (m : Nat → Nat) (t : TypeId) : Book (w.alloc (.cells (bookCells vl vc vs m).toArray t)) w.heap.size vl vc vs m := by
  refine Book.of_range ?_ (fun o => frozen_new w _ _ o) (by simp)
  intro j v hv
  rw [Nat.zero_add, cell_of_row _ _ _ _ t (0, 0) (heap_alloc_new w _)]
  simpa using hv
end Go.Proofs.YtbacpebljannfaaGreatDoor.Dist
namespace Go.Proofs.YtbacpebljannfaaGreatDoor.Len
open Go.Proofs.YtbacpebljannfaaGreatDoor
open Go.RowKit Corb
theorem book_new (w : World) (vl vc vs : Value) (m : Nat → Nat) (t : TypeId) : Book (w.alloc (.cells (bookCells vl vc vs m).toArray t)) w.heap.size vl vc vs m := by
  refine Book.of_range ?_ (fun o => frozen_new w _ _ o) (by simp)
  intro j v hv
  rw [Nat.zero_add, cell_of_row _ _ _ _ t (0, 0) (heap_alloc_new w _)]
  simpa using hv
end Go.Proofs.YtbacpebljannfaaGreatDoor.Len
