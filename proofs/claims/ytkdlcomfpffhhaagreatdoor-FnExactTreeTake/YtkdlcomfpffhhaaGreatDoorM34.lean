/- Of what the proof is made: 2 texts, one behind the other. -/
import Derived.Test.YtkdlcomfpffhhaaGreatDoorM33
import Derived.Test.YtkdlcomfpffhhaaGreatDoorM4
import Derived.Test.YtkdlcomfpffhhaaGreatDoorM17
namespace Go.Proofs.YtkdlcomfpffhhaaGreatDoor
open Go.RowKit Corb
def shortB (a b:ByteArray):ByteArray:=if b.size<a.size then b else a
def byO (s:ByteArray):ByteArray:=⟨(ownedL s).toArray⟩
def flateB (s:ByteArray):ByteArray:=shortB (shortB (byS s) (byF s)) (byO s)
set_option maxRecDepth 100000
def howN (s:ByteArray):Nat:=if (flateB s).size<s.size then 8 else 0
def bodyB (s:ByteArray):ByteArray:=if (flateB s).size<s.size then flateB s else s
end Go.Proofs.YtkdlcomfpffhhaaGreatDoor
