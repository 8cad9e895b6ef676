/- Of what the proof is made: 2 texts, one behind the other. -/
import Derived.Test.YtkdlcomfpffhhaaGreatDoorM12
import Derived.Test.YtkdlcomfpffhhaaGreatDoorM8
namespace Go.Proofs.YtkdlcomfpffhhaaGreatDoor
open Go.RowKit
def fitL (m:Int) (l:List Int):List Int:=fitF m (sumP l) l
def HP (L:List Grp):Prop:=∀ i,0<i→i<L.length→lessG (L.getD i g0) (L.getD ((i-1)/2) g0)=false
end Go.Proofs.YtkdlcomfpffhhaaGreatDoor
