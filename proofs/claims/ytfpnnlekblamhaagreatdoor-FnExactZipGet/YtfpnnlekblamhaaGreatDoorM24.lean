/- Of what the proof is made: 3 texts, one behind the other. -/
import Derived.RangeFuncNested
import Derived.RangeFuncBound
import Derived.RangeFuncCalls
import Derived.RangeFuncLeaves
import Derived.RangeFuncBox
import Derived.Shelf.Abstract
import Derived.Shelf.RegionOpen
import Derived.WalkKit
import Derived.OwnWalkIn
import Derived.TacticsInMore
import Derived.LoopNIn
import Derived.LoopIn
import Derived.Maps.AppendAt
import Derived.Test.YtfpnnlekblamhaaGreatDoorM10
import Derived.Test.YtfpnnlekblamhaaGreatDoorM5
import Derived.Test.YtfpnnlekblamhaaGreatDoorBits
import Derived.Test.YtfpnnlekblamhaaGreatDoorM6
import Derived.Test.YtfpnnlekblamhaaGreatDoorTi1
namespace Go.Proofs.YtfpnnlekblamhaaGreatDoor
open Go.RowKit Go.Shelf
attribute [local go_sem] Oper.semAt_some
end Go.Proofs.YtfpnnlekblamhaaGreatDoor
namespace Go.Proofs.YtfpnnlekblamhaaGreatDoor
open Go.RowKit Go.Shelf
attribute [local go_sem] Oper.semAt_some
end Go.Proofs.YtfpnnlekblamhaaGreatDoor
namespace Go.Proofs.YtfpnnlekblamhaaGreatDoor
open Go.RowKit Go.Shelf
attribute [local go_sem] Oper.semAt_some
end Go.Proofs.YtfpnnlekblamhaaGreatDoor
