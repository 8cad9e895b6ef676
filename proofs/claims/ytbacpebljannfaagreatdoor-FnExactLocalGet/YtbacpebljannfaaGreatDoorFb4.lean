/- Both books write all tokens of a text: the program's putAll. -/
import Derived.Test.YtbacpebljannfaaGreatDoorM18
import Derived.Test.YtbacpebljannfaaGreatDoorM21
namespace Go.Proofs.YtbacpebljannfaaGreatDoor
open Go.RowKit Go.Shelf Corb
attribute [local go_sem] Oper.semAt_some
end Go.Proofs.YtbacpebljannfaaGreatDoor