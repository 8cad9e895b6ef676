/- Of what the proof is made: 3 texts, one behind the other. -/
import Derived.Test.YtfhdadkcophoaaaGreatDoorM3
import Derived.Test.YtfhdadkcophoaaaGreatDoorM37
import Derived.Test.YtfhdadkcophoaaaGreatDoorM20
import Derived.Test.YtfhdadkcophoaaaGreatDoorM29
import Derived.Test.YtfhdadkcophoaaaGreatDoorM9
import Derived.Lib.QuietBelow
import Derived.Test.YtfhdadkcophoaaaGreatDoorM32
import Derived.Test.YtfhdadkcophoaaaGreatDoorM6
import Derived.Deep.RegionHeld3
import Derived.Deep.RegionLawGrows
import Derived.Test.YtfhdadkcophoaaaGreatDoorM26
import Derived.Test.YtfhdadkcophoaaaGreatDoorM11
import Derived.Test.YtfhdadkcophoaaaGreatDoorM2
import Derived.Test.YtfhdadkcophoaaaGreatDoorM16
import Derived.Test.YtfhdadkcophoaaaGreatDoorM22
import Derived.Test.YtfhdadkcophoaaaGreatDoorRb1
import Derived.Test.YtfhdadkcophoaaaGreatDoorM4
set_option linter.unusedSimpArgs false
set_option linter.unusedVariables false
namespace Go.Proofs.YtfhdadkcophoaaaGreatDoor
open Go.RowKit Corb
set_option maxRecDepth 100000
theorem qW(n t:ByteArray)(N:Nat):(cK n t N).data.toList=(bQ (fi t) N (aR 0 t.data.toList) (bm t).size t.size n).data.toList++(bm t).data.toList:=by
 unfold cK;simp
theorem p6(t:ByteArray):(bm t).size<=t.size:=by unfold bm;split<;>omega
theorem sV(t:ByteArray):fi t<=8:=by unfold fi;split<;>omega
theorem oV{n t:ByteArray}{N:Nat}(hN:N<4294967296)(hn:n.size<65536)(ht:t.size<4294967296) :
  (cK n t N).size=30+n.size+(bm t).size/\wd (cK n t N).data.toList 14 4=aR 0 t.data.toList/\wd (cK n t N).data.toList 22 4=t.size/\(cK n t N).extract 30 (30+n.size)=n:=by
 have hb:=p6 t;have hh:=sV t;obtain⟨_,_,_,r3,_,r5,_,r7,_⟩:=qw (how:=fi t) (st:=N) (crc:=aR 0 t.data.toList) (pk:=(bm t).size) (lg:=t.size) (nm:=n) (bm t).data.toList (by omega) hN (jq _ _ (by omega)) (by omega) ht hn;rw[←qW]at r3 r5 r7;refine⟨?_,r3,r5,dD ?_⟩
 · unfold cK bQ;rw[a0z,a0z,a0z,fQ];show 4+26+_+_=_;omega
 · rw[ext_list,a1y,r7]
end Go.Proofs.YtfhdadkcophoaaaGreatDoor
namespace Go.Proofs.YtfhdadkcophoaaaGreatDoor
open Corb
def pC(how:Nat)(b:ByteArray):Option ByteArray:=
 if how=0 then some b else if how=8 then(match cJ b with
  | some (T,q)=>if q/8=b.size then some ⟨T.toArray⟩else none
  | none=>none)else none
def nmB(s:ByteArray):ByteArray:=s.extract 30 (30+wd s.data.toList 26 2)
def bdB(s:ByteArray):ByteArray:=s.extract (30+wd s.data.toList 26 2) (30+wd s.data.toList 26 2+wd s.data.toList 18 4)
def hdB(s:ByteArray):Bool:=decide (30<=s.size)&&(pn s.data.toList&&decide (30+wd s.data.toList 26 2+wd s.data.toList 18 4<=s.size))
def Cw(s T:ByteArray):Bool:=eZ (nmB s) (gY (wd s.data.toList 10 4:Nat)) (gM (wd s.data.toList 10 4:Nat)) (gD (wd s.data.toList 10 4:Nat)) (gH (wd s.data.toList 10 4:Nat)) (gI (wd s.data.toList 10 4:Nat)) (gS (wd s.data.toList 10 4:Nat)) T
def Gu(s T:ByteArray):Value:=.agg #[.string (nmB s),.int .i64 (gY (wd s.data.toList 10 4:Nat)),.int .i64 (gM (wd s.data.toList 10 4:Nat)),.int .i64 (gD (wd s.data.toList 10 4:Nat)),.int .i64 (gH (wd s.data.toList 10 4:Nat)),.int .i64 (gI (wd s.data.toList 10 4:Nat)),.int .i64 (gS (wd s.data.toList 10 4:Nat)),.string T]
def noE:Value:=.agg #[.string ⟨#[]⟩,.int .i64 0,.int .i64 0,.int .i64 0,.int .i64 0,.int .i64 0,.int .i64 0,.string ⟨#[]⟩]
def JD(s T:ByteArray):Bool:=decide (wd s.data.toList 14 4=aR 0 T.data.toList)&&(decide (wd s.data.toList 22 4=T.size)&&Cw s T)
def gp(s:ByteArray):Option ByteArray:=if hdB s then(match pC (wd s.data.toList 8 2) (bdB s)with
 | some T=>if JD s T then some T else none
 | none=>none)else none
def zI(s:ByteArray):Value:=match gp s with
 | some T=>.tuple #[Gu s T,.int .i64 ((30+wd s.data.toList 26 2+wd s.data.toList 18 4:Nat):Int),.bool true]
 | none=>.tuple #[noE,.int .i64 0,.bool false]
theorem xr(s:ByteArray):(nmB s).data.toList=(s.data.toList.drop 30).take (wd s.data.toList 26 2):=by
 unfold nmB;rw[ext_list,a1y]
theorem Fb(s:ByteArray):(bdB s).data.toList=(s.data.toList.drop (30+wd s.data.toList 26 2)).take (wd s.data.toList 18 4):=by
 unfold bdB;rw[ext_list,a1y]
theorem uA{s:ByteArray} : hdB s=true<->30<=s.size/\pn s.data.toList=true/\30+wd s.data.toList 26 2+wd s.data.toList 18 4<=s.size:=by
 simp[hdB]
theorem xt{s:ByteArray}(h:30+wd s.data.toList 26 2<=s.size):(nmB s).size=wd s.data.toList 26 2:=by
 unfold nmB;rw[a2I];omega
theorem Fc{s:ByteArray}(h:30+wd s.data.toList 26 2+wd s.data.toList 18 4<=s.size):(bdB s).size=wd s.data.toList 18 4:=by
 unfold bdB;rw[a2I];omega
end Go.Proofs.YtfhdadkcophoaaaGreatDoor
namespace Go.Proofs.YtfhdadkcophoaaaGreatDoor
open Go.RowKit Corb
set_option maxRecDepth 100000
def txT(how:Nat)(b:ByteArray):ByteArray:=if how=0 then b else match cJ b with
 | some (T,_)=>⟨T.toArray⟩
 | none=>⟨#[]⟩
def txO(how:Nat)(b:ByteArray):Bool:=(pC how b).isSome
theorem L4(how:Nat)(b:ByteArray):pC how b=if txO how b=true then some (txT how b)else none:=by
 unfold txO txT pC;by_cases h0:how=0
 · simp[h0]
 ·
  simp only[a0e h0];by_cases h8:how=8
  ·
   simp only[a0d h8];rcases cJ b with _|⟨T,q⟩
   · simp
   · by_cases hq:q/8=b.size<;>simp[hq]
  · simp[h8]
theorem sT{b:ByteArray}{T:List UInt8}{q:Nat}(hf:cJ b=some (T,q)):T.length<=300/\q<=5600:=by
 unfold cJ at hf
 split at hf
 · have:=tR hf (by omega);exact⟨this.2.2.2 (by simp),by omega⟩
 · cases hf
theorem IQ{how:Nat}{b:ByteArray}(hb:b.size<=1048576):(txT how b).size<=1048576:=by
 unfold txT
 split
 · exact hb
 ·
  rcases hf:cJ b with _|⟨T,q⟩
  · exact a0h _
  · have:=(sT hf).1;show T.toArray.size<=_;simp;omega
end Go.Proofs.YtfhdadkcophoaaaGreatDoor
