/- Of what the proof is made: 3 texts, one behind the other. -/
import Derived.RangeFuncNested
import Derived.RangeFuncBound
import Derived.RangeFuncCalls
import Derived.RangeFuncLeaves
import Derived.RangeFuncBox
import Derived.Shelf.Abstract
import Derived.Shelf.RegionOpen
import Derived.WalkKit
import Derived.OwnWalkIn
import Derived.TacticsInMore
import Derived.LoopNIn
import Derived.LoopIn
import Derived.Maps.AppendAt
import Derived.Test.YtpmidjddjdejmaaGreatDoorTo3
namespace Go.Proofs.YtpmidjddjdejmaaGreatDoor
open Go.RowKit Go.Shelf
attribute [local go_sem] Oper.semAt_some
theorem grown_none {w w' : World} (h : Below w.heap.size w w') : w.grownBy w' none := ⟨h.os, h.tape, h.output, h.size, fun k hk _ => h.block k hk⟩
end Go.Proofs.YtpmidjddjdejmaaGreatDoor
namespace Go.Proofs.YtpmidjddjdejmaaGreatDoor
open Go.RowKit Go.Shelf
attribute [local go_sem] Oper.semAt_some
theorem row_later {W x1 : World} {n₀ : Nat} {e : TypeId} {size k : Nat} {v : Value} {xs : List Value} (hrow : W.ownsRow n₀ e size v k xs) (hW : Below W.heap.size W x1) : x1.ownsRow n₀ e size v k xs :=
  hrow.kept (grown_none hW) (by cases v.ownBlock with
    | none => exact .inl rfl
    | some _ => exact .inr (by simp))
end Go.Proofs.YtpmidjddjdejmaaGreatDoor
namespace Go.Proofs.YtpmidjddjdejmaaGreatDoor
open Go.RowKit Go.Shelf
attribute [local go_sem] Oper.semAt_some
end Go.Proofs.YtpmidjddjdejmaaGreatDoor
