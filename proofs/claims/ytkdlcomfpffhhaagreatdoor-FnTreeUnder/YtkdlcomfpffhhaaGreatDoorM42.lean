/- Of what the proof is made: 3 texts, one behind the other. -/
import Derived.Test.YtkdlcomfpffhhaaGreatDoorM3
import Derived.Test.YtkdlcomfpffhhaaGreatDoorM41
import Derived.Test.YtkdlcomfpffhhaaGreatDoorM19
import Derived.Test.YtkdlcomfpffhhaaGreatDoorM27
import Derived.Test.YtkdlcomfpffhhaaGreatDoorM8
import Derived.Lib.QuietBelow
import Derived.Test.YtkdlcomfpffhhaaGreatDoorM31
import Derived.Test.YtkdlcomfpffhhaaGreatDoorM5
import Derived.Deep.RegionHeld3
import Derived.Deep.RegionLawGrows
import Derived.Test.YtkdlcomfpffhhaaGreatDoorM25
import Derived.Test.YtkdlcomfpffhhaaGreatDoorM10
import Derived.Test.YtkdlcomfpffhhaaGreatDoorM2
import Derived.Test.YtkdlcomfpffhhaaGreatDoorM18
import Derived.Test.YtkdlcomfpffhhaaGreatDoorM22
set_option linter.unusedSimpArgs false
set_option linter.unusedVariables false
namespace Go.Proofs.YtkdlcomfpffhhaaGreatDoor
open Go.RowKit Corb
set_option maxRecDepth 100000
theorem qV(n t:ByteArray)(N:Nat):(cH n t N).data.toList=(bJ (eW t) N (aP 0 t.data.toList) (bj t).size t.size n).data.toList++(bj t).data.toList:=by
 unfold cH;simp
theorem qb(t:ByteArray):(bj t).size<=t.size:=by unfold bj;split<;>omega
theorem sX(t:ByteArray):eW t<=8:=by unfold eW;split<;>omega
theorem oW{n t:ByteArray}{N:Nat}(hN:N<4294967296)(hn:n.size<65536)(ht:t.size<4294967296) :
  (cH n t N).size=30+n.size+(bj t).size/\wd (cH n t N).data.toList 14 4=aP 0 t.data.toList/\wd (cH n t N).data.toList 22 4=t.size/\(cH n t N).extract 30 (30+n.size)=n:=by
 have hb:=qb t;have hh:=sX t;obtain⟨_,_,_,r3,_,r5,_,r7,_⟩:=qw (how:=eW t) (st:=N) (crc:=aP 0 t.data.toList) (pk:=(bj t).size) (lg:=t.size) (nm:=n) (bj t).data.toList (by omega) hN (jb _ _ (by omega)) (by omega) ht hn;rw[←qV]at r3 r5 r7;refine⟨?_,r3,r5,eg ?_⟩
 · unfold cH bJ;rw[a0D,a0D,a0D,fK];show 4+26+_+_=_;omega
 · rw[ext_list,a1T,r7]
end Go.Proofs.YtkdlcomfpffhhaaGreatDoor
namespace Go.Proofs.YtkdlcomfpffhhaaGreatDoor
open Corb
def pG(how:Nat)(b:ByteArray):Option ByteArray:=
 if how=0 then some b else if how=8 then(match cG b with
  | some (T,q)=>if q/8=b.size then some ⟨T.toArray⟩else none
  | none=>none)else none
def nmB(s:ByteArray):ByteArray:=s.extract 30 (30+wd s.data.toList 26 2)
def bdB(s:ByteArray):ByteArray:=s.extract (30+wd s.data.toList 26 2) (30+wd s.data.toList 26 2+wd s.data.toList 18 4)
def hdB(s:ByteArray):Bool:=decide (30<=s.size)&&(px s.data.toList&&decide (30+wd s.data.toList 26 2+wd s.data.toList 18 4<=s.size))
def Cz(s T:ByteArray):Bool:=jW (nmB s) (gY (wd s.data.toList 10 4:Nat)) (gM (wd s.data.toList 10 4:Nat)) (gD (wd s.data.toList 10 4:Nat)) (gH (wd s.data.toList 10 4:Nat)) (gI (wd s.data.toList 10 4:Nat)) (gS (wd s.data.toList 10 4:Nat)) T
def Gv(s T:ByteArray):Value:=.agg #[.string (nmB s),.int .i64 (gY (wd s.data.toList 10 4:Nat)),.int .i64 (gM (wd s.data.toList 10 4:Nat)),.int .i64 (gD (wd s.data.toList 10 4:Nat)),.int .i64 (gH (wd s.data.toList 10 4:Nat)),.int .i64 (gI (wd s.data.toList 10 4:Nat)),.int .i64 (gS (wd s.data.toList 10 4:Nat)),.string T]
def noE:Value:=.agg #[.string ⟨#[]⟩,.int .i64 0,.int .i64 0,.int .i64 0,.int .i64 0,.int .i64 0,.int .i64 0,.string ⟨#[]⟩]
def JJ(s T:ByteArray):Bool:=decide (wd s.data.toList 14 4=aP 0 T.data.toList)&&(decide (wd s.data.toList 22 4=T.size)&&Cz s T)
def f9(s:ByteArray):Option ByteArray:=if hdB s then(match pG (wd s.data.toList 8 2) (bdB s)with
 | some T=>if JJ s T then some T else none
 | none=>none)else none
def zM(s:ByteArray):Value:=match f9 s with
 | some T=>.tuple #[Gv s T,.int .i64 ((30+wd s.data.toList 26 2+wd s.data.toList 18 4:Nat):Int),.bool true]
 | none=>.tuple #[noE,.int .i64 0,.bool false]
theorem xi(s:ByteArray):(nmB s).data.toList=(s.data.toList.drop 30).take (wd s.data.toList 26 2):=by
 unfold nmB;rw[ext_list,a1T]
theorem Fg(s:ByteArray):(bdB s).data.toList=(s.data.toList.drop (30+wd s.data.toList 26 2)).take (wd s.data.toList 18 4):=by
 unfold bdB;rw[ext_list,a1T]
theorem uA{s:ByteArray} : hdB s=true<->30<=s.size/\px s.data.toList=true/\30+wd s.data.toList 26 2+wd s.data.toList 18 4<=s.size:=by
 simp[hdB]
theorem xj{s:ByteArray}(h:30+wd s.data.toList 26 2<=s.size):(nmB s).size=wd s.data.toList 26 2:=by
 unfold nmB;rw[a2Y];omega
theorem Fh{s:ByteArray}(h:30+wd s.data.toList 26 2+wd s.data.toList 18 4<=s.size):(bdB s).size=wd s.data.toList 18 4:=by
 unfold bdB;rw[a2Y];omega
end Go.Proofs.YtkdlcomfpffhhaaGreatDoor
namespace Go.Proofs.YtkdlcomfpffhhaaGreatDoor
open Go.RowKit Corb
set_option maxRecDepth 100000
def txT(how:Nat)(b:ByteArray):ByteArray:=if how=0 then b else match cG b with
 | some (T,_)=>⟨T.toArray⟩
 | none=>⟨#[]⟩
def txO(how:Nat)(b:ByteArray):Bool:=(pG how b).isSome
theorem Mb(how:Nat)(b:ByteArray):pG how b=if txO how b=true then some (txT how b)else none:=by
 unfold txO txT pG;by_cases h0:how=0
 · simp[h0]
 ·
  simp only[a0e h0];by_cases h8:how=8
  ·
   simp only[a0d h8];rcases cG b with _|⟨T,q⟩
   · simp
   · by_cases hq:q/8=b.size<;>simp[hq]
  · simp[h8]
theorem sU{b:ByteArray}{T:List UInt8}{q:Nat}(hf:cG b=some (T,q)):T.length<=300/\q<=5600:=by
 unfold cG at hf
 split at hf
 · have:=tX hf (by omega);exact⟨this.2.2.2 (by simp),by omega⟩
 · cases hf
theorem I1{how:Nat}{b:ByteArray}(hb:b.size<=1048576):(txT how b).size<=1048576:=by
 unfold txT
 split
 · exact hb
 ·
  rcases hf:cG b with _|⟨T,q⟩
  · exact a0h _
  · have:=(sU hf).1;show T.toArray.size<=_;simp;omega
end Go.Proofs.YtkdlcomfpffhhaaGreatDoor
