/- Texts. -/
import Derived.Test.YtckocaibjciplaaGreatDoorM46
import Derived.Test.YtckocaibjciplaaGreatDoorM44
set_option linter.all false
set_option maxRecDepth 100000
set_option maxHeartbeats 6400000
namespace Go.Proofs.YtckocaibjciplaaGreatDoor
open Corb
variable {k:Nat}{x:ByteArray}
def L2{l:List En}(h:bF l=true){i:Nat}(a:i<l.length):atN l (l.getD i default).n=(i:Int):=by
 simp only[bF,a0l,a0t,a08]at h;exact((lI l i).mp (h.1 i (List.mem_range.mpr a))).2.1
open Go.RowKit
