/- The walk of the law that a file takes no more than its head, its name and its text. -/
import Derived.Test.YtggknepmhjfohaaGreatDoorM3
import Derived.Test.YtggknepmhjfohaaGreatDoorM33
import Derived.Test.YtggknepmhjfohaaGreatDoorM20
import Derived.Test.YtggknepmhjfohaaGreatDoorM26
import Derived.Test.YtggknepmhjfohaaGreatDoorM8
import Derived.Lib.QuietBelow
set_option maxRecDepth 100000
set_option linter.unusedSimpArgs false
set_option linter.unusedVariables false
namespace Go.Proofs.YtggknepmhjfohaaGreatDoor
open Go.RowKit Corb
theorem sZ(n t:ByteArray)(N:Nat):(bV n t N).data.toList=(cG (eq t) N (aI 0 t.data.toList) (bn t).size t.size n).data.toList++(bn t).data.toList:=by
 unfold bV;simp
theorem m8(t:ByteArray):(bn t).size<=t.size:=by unfold bn;split<;>omega
theorem uH(t:ByteArray):eq t<=8:=by unfold eq;split<;>omega
theorem lM{n t:ByteArray}{N:Nat}(d:N<4294967296)(e:n.size<65536)(f:t.size<4294967296) :
  (bV n t N).size=30+n.size+(bn t).size/\wd (bV n t N).data.toList 14 4=aI 0 t.data.toList/\wd (bV n t N).data.toList 22 4=t.size/\(bV n t N).extract 30 (30+n.size)=n:=by
 have hb:=m8 t;have g:=uH t;obtain⟨_,_,_,a,_,b,_,c,_⟩:=sd (how:=eq t) (st:=N) (crc:=aI 0 t.data.toList) (pk:=(bn t).size) (lg:=t.size) (nm:=n) (bn t).data.toList (by omega) d (gu _ _ (by omega)) (by omega) f e;rw[←sZ]at a b c;refine⟨?_,a,b,ko ?_⟩
 . unfold bV cG;rw[a0U,a0U,a0U,jb];show 4+26+_+_=_;omega
 . rw[ext_list,a19,c]
end Go.Proofs.YtggknepmhjfohaaGreatDoor
