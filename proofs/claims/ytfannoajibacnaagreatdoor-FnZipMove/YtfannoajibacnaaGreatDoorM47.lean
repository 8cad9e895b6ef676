/- Texts. -/
import Derived.Test.YtfannoajibacnaaGreatDoorM46
set_option linter.all false
set_option maxRecDepth 100000
set_option maxHeartbeats 6400000
namespace Go.Proofs.YtfannoajibacnaaGreatDoor
open Go.Proofs.Tryz
open Corb
variable {k:Nat}{x:ByteArray}
def I0{l:List En}(h:bi l=true){i:Nat}(a:i<l.length):atN l (l.getD i default).n=(i:Int):=by
 simp only[bi,a0k,a0v,a1c]at h;exact((mn l i).mp (h.1 i (List.mem_range.mpr a))).2.1
open Go.RowKit
