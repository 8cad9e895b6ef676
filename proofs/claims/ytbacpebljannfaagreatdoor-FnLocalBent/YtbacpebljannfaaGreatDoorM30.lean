/- Of what the proof is made: 2 texts, one behind the other. -/
import Derived.Test.YtbacpebljannfaaGreatDoorM18
import Derived.Test.YtbacpebljannfaaGreatDoorM25
import Derived.Test.YtbacpebljannfaaGreatDoorM24
import Derived.Test.YtbacpebljannfaaGreatDoorM4
import Derived.Test.YtbacpebljannfaaGreatDoorM7
import Derived.Test.YtbacpebljannfaaGreatDoorM29
import Derived.Deep.RegionHeld3
import Derived.Deep.RegionLawGrows
import Derived.Test.YtbacpebljannfaaGreatDoorM14
import Derived.Test.YtbacpebljannfaaGreatDoorM20
import Derived.Test.YtbacpebljannfaaGreatDoorM22
import Derived.Test.YtbacpebljannfaaGreatDoorM9
import Derived.Test.YtbacpebljannfaaGreatDoorM3
import Derived.Test.YtbacpebljannfaaGreatDoorM2
import Derived.Test.YtbacpebljannfaaGreatDoorM12
import Derived.Test.YtbacpebljannfaaGreatDoorWk1
set_option linter.unusedSimpArgs false
namespace Go.Proofs.YtbacpebljannfaaGreatDoor
open Corb
def rU(how:Nat)(b:ByteArray):Option ByteArray:=
 if how=0 then some b else if how=8 then(match fK b with
  | some (T,q)=>if q/8=b.size then some ⟨T.toArray⟩else none
  | none=>none)else none
def nmB(s:ByteArray):ByteArray:=s.extract 30 (30+wd s.data.toList 26 2)
def bdB(s:ByteArray):ByteArray:=s.extract (30+wd s.data.toList 26 2) (30+wd s.data.toList 26 2+wd s.data.toList 18 4)
def hdB(s:ByteArray):Bool:=decide (30<=s.size)&&(qx s.data.toList&&decide (30+wd s.data.toList 26 2+wd s.data.toList 18 4<=s.size))
def Dh(s T:ByteArray):Bool:=fI (nmB s) (gY (wd s.data.toList 10 4:Nat)) (gM (wd s.data.toList 10 4:Nat)) (gD (wd s.data.toList 10 4:Nat)) (gH (wd s.data.toList 10 4:Nat)) (gI (wd s.data.toList 10 4:Nat)) (gS (wd s.data.toList 10 4:Nat)) T
def F8(s T:ByteArray):Value:=.agg #[.string (nmB s),.int .i64 (gY (wd s.data.toList 10 4:Nat)),.int .i64 (gM (wd s.data.toList 10 4:Nat)),.int .i64 (gD (wd s.data.toList 10 4:Nat)),.int .i64 (gH (wd s.data.toList 10 4:Nat)),.int .i64 (gI (wd s.data.toList 10 4:Nat)),.int .i64 (gS (wd s.data.toList 10 4:Nat)),.string T]
def noE:Value:=.agg #[.string ⟨#[]⟩,.int .i64 0,.int .i64 0,.int .i64 0,.int .i64 0,.int .i64 0,.int .i64 0,.string ⟨#[]⟩]
def GT(s T:ByteArray):Bool:=decide (wd s.data.toList 14 4=aK 0 T.data.toList)&&(decide (wd s.data.toList 22 4=T.size)&&Dh s T)
def DX(s:ByteArray):Option ByteArray:=if hdB s then(match rU (wd s.data.toList 8 2) (bdB s)with
 | some T=>if GT s T then some T else none
 | none=>none)else none
def rh(s:ByteArray):Value:=match DX s with
 | some T=>.tuple #[F8 s T,.int .i64 ((30+wd s.data.toList 26 2+wd s.data.toList 18 4:Nat):Int),.bool true]
 | none=>.tuple #[noE,.int .i64 0,.bool false]
theorem Ee(s:ByteArray):(nmB s).data.toList=(s.data.toList.drop 30).take (wd s.data.toList 26 2):=by
 unfold nmB;rw[ext_list,a1X]
theorem CW(s:ByteArray):(bdB s).data.toList=(s.data.toList.drop (30+wd s.data.toList 26 2)).take (wd s.data.toList 18 4):=by
 unfold bdB;rw[ext_list,a1X]
theorem Dt{s:ByteArray} : hdB s=true<->30<=s.size/\qx s.data.toList=true/\30+wd s.data.toList 26 2+wd s.data.toList 18 4<=s.size:=by
 simp[hdB]
theorem wv{s:ByteArray}(h:30+wd s.data.toList 26 2<=s.size):(nmB s).size=wd s.data.toList 26 2:=by
 unfold nmB;rw[a3t];omega
theorem CX{s:ByteArray}(h:30+wd s.data.toList 26 2+wd s.data.toList 18 4<=s.size):(bdB s).size=wd s.data.toList 18 4:=by
 unfold bdB;rw[a3t];omega
end Go.Proofs.YtbacpebljannfaaGreatDoor
namespace Go.Proofs.YtbacpebljannfaaGreatDoor
open Go.RowKit Corb
set_option maxRecDepth 100000
def txT(how:Nat)(b:ByteArray):ByteArray:=if how=0 then b else match fK b with
 | some (T,_)=>⟨T.toArray⟩
 | none=>⟨#[]⟩
def txO(how:Nat)(b:ByteArray):Bool:=(rU how b).isSome
theorem Hz(how:Nat)(b:ByteArray):rU how b=if txO how b=true then some (txT how b)else none:=by
 unfold txO txT rU;by_cases h0:how=0
 · simp[h0]
 ·
  simp only[a0e h0];by_cases h8:how=8
  ·
   simp only[a0d h8];rcases fK b with _|⟨T,q⟩
   · simp
   · by_cases hq:q/8=b.size<;>simp[hq]
  · simp[h8]
theorem sG{b:ByteArray}{T:List UInt8}{q:Nat}(hf:fK b=some (T,q)):T.length<=300/\q<=5600:=by
 unfold fK at hf
 split at hf
 · have:=tH hf (by omega);exact⟨this.2.2.2 (by simp),by omega⟩
 · cases hf
theorem Ft{how:Nat}{b:ByteArray}(hb:b.size<=1048576):(txT how b).size<=1048576:=by
 unfold txT
 split
 · exact hb
 ·
  rcases hf:fK b with _|⟨T,q⟩
  · exact a0m _
  · have:=(sG hf).1;show T.toArray.size<=_;simp;omega
end Go.Proofs.YtbacpebljannfaaGreatDoor
