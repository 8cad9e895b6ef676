/- Of what the proof is made: 3 texts, one behind the other. -/
import Derived.RangeFuncNested
import Derived.RangeFuncBound
import Derived.RangeFuncCalls
import Derived.RangeFuncLeaves
import Derived.RangeFuncBox
import Derived.Shelf.Abstract
import Derived.Shelf.RegionOpen
import Derived.WalkKit
import Derived.OwnWalkIn
import Derived.TacticsInMore
import Derived.LoopNIn
import Derived.LoopIn
import Derived.Maps.AppendAt
import Derived.Test.YtemjckkocljgnaaGreatDoorM11
import Derived.Test.YtemjckkocljgnaaGreatDoorM6
import Derived.Test.YtemjckkocljgnaaGreatDoorBits
import Derived.Test.YtemjckkocljgnaaGreatDoorM7
import Derived.Test.YtemjckkocljgnaaGreatDoorTi1
namespace Go.Proofs.YtemjckkocljgnaaGreatDoor
open Go.RowKit Go.Shelf
attribute [local go_sem] Oper.semAt_some
end Go.Proofs.YtemjckkocljgnaaGreatDoor
namespace Go.Proofs.YtemjckkocljgnaaGreatDoor
open Go.RowKit Go.Shelf
attribute [local go_sem] Oper.semAt_some
end Go.Proofs.YtemjckkocljgnaaGreatDoor
namespace Go.Proofs.YtemjckkocljgnaaGreatDoor
open Go.RowKit Go.Shelf
attribute [local go_sem] Oper.semAt_some
end Go.Proofs.YtemjckkocljgnaaGreatDoor
