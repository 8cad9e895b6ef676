/- The walk of the law that a file takes no more than its head, its name and its text. -/
import Derived.Test.YtbacpebljannfaaGreatDoorM3
import Derived.Test.YtbacpebljannfaaGreatDoorM31
import Derived.Test.YtbacpebljannfaaGreatDoorM19
import Derived.Test.YtbacpebljannfaaGreatDoorM25
import Derived.Test.YtbacpebljannfaaGreatDoorM7
import Derived.Lib.QuietBelow
set_option linter.unusedSimpArgs false
namespace Go.Proofs.YtbacpebljannfaaGreatDoor
open Go.RowKit Corb
set_option maxRecDepth 100000
theorem m8(n t:ByteArray)(N:Nat):(bB n t N).data.toList=(cM (eu t) N (aM 0 t.data.toList) (bv t).size t.size n).data.toList++(bv t).data.toList:=by
 unfold bB;simp
theorem j8(t:ByteArray):(bv t).size<=t.size:=by unfold bv;split<;>omega
theorem tD(t:ByteArray):eu t<=8:=by unfold eu;split<;>omega
theorem gW{n t:ByteArray}{N:Nat}(hN:N<4294967296)(hn:n.size<65536)(ht:t.size<4294967296) :
  (bB n t N).size=30+n.size+(bv t).size/\wd (bB n t N).data.toList 14 4=aM 0 t.data.toList/\wd (bB n t N).data.toList 22 4=t.size/\(bB n t N).extract 30 (30+n.size)=n:=by
 have hb:=j8 t;have hh:=tD t;obtain⟨_,_,_,r3,_,r5,_,r7,_⟩:=rh (how:=eu t) (st:=N) (crc:=aM 0 t.data.toList) (pk:=(bv t).size) (lg:=t.size) (nm:=n) (bv t).data.toList (by omega) hN (gh _ _ (by omega)) (by omega) ht hn;rw[←m8]at r3 r5 r7;refine⟨?_,r3,r5,iF ?_⟩
 · unfold bB cM;rw[a0U,a0U,a0U,iQ];show 4+26+_+_=_;omega
 · rw[ext_list,a16,r7]
end Go.Proofs.YtbacpebljannfaaGreatDoor
