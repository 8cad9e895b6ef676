/- Contracts of the program's spots: a token that leads back by its symbols, over this seat's program. -/
import Derived.Test.YtbacpebljannfaaGreatDoorM6
import Derived.Deep.DeepCutAuto
namespace Go.Proofs.YtbacpebljannfaaGreatDoor
open Go.RowKit
theorem blk_cell {w : World} {b : Nat} {cs : Array Value} {t : TypeId} (h : w.heap[b]? = some (Obj.cells cs t)) (i : Nat) : w.cell? ⟨b, i, none⟩ = cs[i]? := by simp [World.cell?, h]
end Go.Proofs.YtbacpebljannfaaGreatDoor