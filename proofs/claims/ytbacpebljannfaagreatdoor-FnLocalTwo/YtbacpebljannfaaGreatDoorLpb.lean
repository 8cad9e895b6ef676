/- The walk of the law that a file takes no more than its head, its name and its text. -/
import Derived.Test.YtbacpebljannfaaGreatDoorM3
import Derived.Test.YtbacpebljannfaaGreatDoorM31
import Derived.Test.YtbacpebljannfaaGreatDoorM19
import Derived.Test.YtbacpebljannfaaGreatDoorM25
import Derived.Test.YtbacpebljannfaaGreatDoorM7
import Derived.Lib.QuietBelow
set_option linter.unusedSimpArgs false
namespace Go.Proofs.YtbacpebljannfaaGreatDoor
open Go.RowKit Corb
set_option maxRecDepth 100000
theorem rJ(n t:ByteArray)(N:Nat):(bX n t N).data.toList=(cK (ep t) N (aM 0 t.data.toList) (bw t).size t.size n).data.toList++(bw t).data.toList:=by
 unfold bX;simp
theorem mL(t:ByteArray):(bw t).size<=t.size:=by unfold bw;split<;>omega
theorem tr(t:ByteArray):ep t<=8:=by unfold ep;split<;>omega
theorem lx{n t:ByteArray}{N:Nat}(hN:N<4294967296)(hn:n.size<65536)(ht:t.size<4294967296) :
  (bX n t N).size=30+n.size+(bw t).size/\wd (bX n t N).data.toList 14 4=aM 0 t.data.toList/\wd (bX n t N).data.toList 22 4=t.size/\(bX n t N).extract 30 (30+n.size)=n:=by
 have hb:=mL t;have hh:=tr t;obtain⟨_,_,_,r3,_,r5,_,r7,_⟩:=qU (how:=ep t) (st:=N) (crc:=aM 0 t.data.toList) (pk:=(bw t).size) (lg:=t.size) (nm:=n) (bw t).data.toList (by omega) hN (f9 _ _ (by omega)) (by omega) ht hn;rw[←rJ]at r3 r5 r7;refine⟨?_,r3,r5,iz ?_⟩
 · unfold bX cK;rw[a0U,a0U,a0U,iK];show 4+26+_+_=_;omega
 · rw[ext_list,a14,r7]
end Go.Proofs.YtbacpebljannfaaGreatDoor
