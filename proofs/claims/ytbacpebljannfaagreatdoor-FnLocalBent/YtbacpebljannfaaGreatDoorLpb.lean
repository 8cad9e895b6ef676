/- The walk of the law that a file takes no more than its head, its name and its text. -/
import Derived.Test.YtbacpebljannfaaGreatDoorM3
import Derived.Test.YtbacpebljannfaaGreatDoorM29
import Derived.Test.YtbacpebljannfaaGreatDoorM18
import Derived.Test.YtbacpebljannfaaGreatDoorM24
import Derived.Test.YtbacpebljannfaaGreatDoorM7
import Derived.Lib.QuietBelow
set_option linter.unusedSimpArgs false
namespace Go.Proofs.YtbacpebljannfaaGreatDoor
open Go.RowKit Corb
set_option maxRecDepth 100000
theorem ri(n t:ByteArray)(N:Nat):(dE n t N).data.toList=(cx (eo t) N (aK 0 t.data.toList) (bB t).size t.size n).data.toList++(bB t).data.toList:=by
 unfold dE;simp
theorem qo(t:ByteArray):(bB t).size<=t.size:=by unfold bB;split<;>omega
theorem AX(t:ByteArray):eo t<=8:=by unfold eo;split<;>omega
theorem kU{n t:ByteArray}{N:Nat}(hN:N<4294967296)(hn:n.size<65536)(ht:t.size<4294967296) :
  (dE n t N).size=30+n.size+(bB t).size/\wd (dE n t N).data.toList 14 4=aK 0 t.data.toList/\wd (dE n t N).data.toList 22 4=t.size/\(dE n t N).extract 30 (30+n.size)=n:=by
 have hb:=qo t;have hh:=AX t;obtain⟨_,_,_,r3,_,r5,_,r7,_⟩:=qA (how:=eo t) (st:=N) (crc:=aK 0 t.data.toList) (pk:=(bB t).size) (lg:=t.size) (nm:=n) (bB t).data.toList (by omega) hN (fG _ _ (by omega)) (by omega) ht hn;rw[←ri]at r3 r5 r7;refine⟨?_,r3,r5,mu ?_⟩
 · unfold dE cx;rw[a0V,a0V,a0V,ir];show 4+26+_+_=_;omega
 · rw[ext_list,a1X,r7]
end Go.Proofs.YtbacpebljannfaaGreatDoor
