/- Of what the proof is made: 2 texts, one behind the other. -/
import Derived.Test.YtbacpebljannfaaGreatDoorM19
import Derived.Test.YtbacpebljannfaaGreatDoorM26
import Derived.Test.YtbacpebljannfaaGreatDoorM25
import Derived.Test.YtbacpebljannfaaGreatDoorM4
import Derived.Test.YtbacpebljannfaaGreatDoorM7
import Derived.Test.YtbacpebljannfaaGreatDoorM31
import Derived.Deep.RegionHeld3
import Derived.Deep.RegionLawGrows
import Derived.Test.YtbacpebljannfaaGreatDoorM23
import Derived.Test.YtbacpebljannfaaGreatDoorM9
import Derived.Test.YtbacpebljannfaaGreatDoorM3
import Derived.Test.YtbacpebljannfaaGreatDoorM2
import Derived.Test.YtbacpebljannfaaGreatDoorM15
import Derived.Test.YtbacpebljannfaaGreatDoorM21
import Derived.Test.YtbacpebljannfaaGreatDoorM13
set_option linter.unusedSimpArgs false
namespace Go.Proofs.YtbacpebljannfaaGreatDoor
open Corb
def qw(how:Nat)(b:ByteArray):Option ByteArray:=
 if how=0 then some b else if how=8 then(match dx b with
  | some (T,q)=>if q/8=b.size then some ⟨T.toArray⟩else none
  | none=>none)else none
def nmB(s:ByteArray):ByteArray:=s.extract 30 (30+wd s.data.toList 26 2)
def bdB(s:ByteArray):ByteArray:=s.extract (30+wd s.data.toList 26 2) (30+wd s.data.toList 26 2+wd s.data.toList 18 4)
def hdB(s:ByteArray):Bool:=decide (30<=s.size)&&(qX s.data.toList&&decide (30+wd s.data.toList 26 2+wd s.data.toList 18 4<=s.size))
def Ch(s T:ByteArray):Bool:=fg (nmB s) (gY (wd s.data.toList 10 4:Nat)) (gM (wd s.data.toList 10 4:Nat)) (gD (wd s.data.toList 10 4:Nat)) (gH (wd s.data.toList 10 4:Nat)) (gI (wd s.data.toList 10 4:Nat)) (gS (wd s.data.toList 10 4:Nat)) T
def Fh(s T:ByteArray):Value:=.agg #[.string (nmB s),.int .i64 (gY (wd s.data.toList 10 4:Nat)),.int .i64 (gM (wd s.data.toList 10 4:Nat)),.int .i64 (gD (wd s.data.toList 10 4:Nat)),.int .i64 (gH (wd s.data.toList 10 4:Nat)),.int .i64 (gI (wd s.data.toList 10 4:Nat)),.int .i64 (gS (wd s.data.toList 10 4:Nat)),.string T]
def noE:Value:=.agg #[.string ⟨#[]⟩,.int .i64 0,.int .i64 0,.int .i64 0,.int .i64 0,.int .i64 0,.int .i64 0,.string ⟨#[]⟩]
def Jk(s T:ByteArray):Bool:=decide (wd s.data.toList 14 4=aM 0 T.data.toList)&&(decide (wd s.data.toList 22 4=T.size)&&Ch s T)
def Fi(s:ByteArray):Option ByteArray:=if hdB s then(match qw (wd s.data.toList 8 2) (bdB s)with
 | some T=>if Jk s T then some T else none
 | none=>none)else none
def qq(s:ByteArray):Value:=match Fi s with
 | some T=>.tuple #[Fh s T,.int .i64 ((30+wd s.data.toList 26 2+wd s.data.toList 18 4:Nat):Int),.bool true]
 | none=>.tuple #[noE,.int .i64 0,.bool false]
theorem xG(s:ByteArray):(nmB s).data.toList=(s.data.toList.drop 30).take (wd s.data.toList 26 2):=by
 unfold nmB;rw[ext_list,a16]
theorem Ek(s:ByteArray):(bdB s).data.toList=(s.data.toList.drop (30+wd s.data.toList 26 2)).take (wd s.data.toList 18 4):=by
 unfold bdB;rw[ext_list,a16]
theorem EN{s:ByteArray} : hdB s=true<->30<=s.size/\qX s.data.toList=true/\30+wd s.data.toList 26 2+wd s.data.toList 18 4<=s.size:=by
 simp[hdB]
theorem xH{s:ByteArray}(h:30+wd s.data.toList 26 2<=s.size):(nmB s).size=wd s.data.toList 26 2:=by
 unfold nmB;rw[a18];omega
theorem El{s:ByteArray}(h:30+wd s.data.toList 26 2+wd s.data.toList 18 4<=s.size):(bdB s).size=wd s.data.toList 18 4:=by
 unfold bdB;rw[a18];omega
end Go.Proofs.YtbacpebljannfaaGreatDoor
namespace Go.Proofs.YtbacpebljannfaaGreatDoor
open Go.RowKit Corb
set_option maxRecDepth 100000
def txT(how:Nat)(b:ByteArray):ByteArray:=if how=0 then b else match dx b with
 | some (T,_)=>⟨T.toArray⟩
 | none=>⟨#[]⟩
def txO(how:Nat)(b:ByteArray):Bool:=(qw how b).isSome
theorem JH(how:Nat)(b:ByteArray):qw how b=if txO how b=true then some (txT how b)else none:=by
 unfold txO txT qw;by_cases h0:how=0
 · simp[h0]
 ·
  simp only[a0e h0];by_cases h8:how=8
  ·
   simp only[a0d h8];rcases dx b with _|⟨T,q⟩
   · simp
   · by_cases hq:q/8=b.size<;>simp[hq]
  · simp[h8]
theorem tw{b:ByteArray}{T:List UInt8}{q:Nat}(hf:dx b=some (T,q)):T.length<=300/\q<=5600:=by
 unfold dx at hf
 split at hf
 · have:=uA hf (by omega);exact⟨this.2.2.2 (by simp),by omega⟩
 · cases hf
theorem GI{how:Nat}{b:ByteArray}(hb:b.size<=1048576):(txT how b).size<=1048576:=by
 unfold txT
 split
 · exact hb
 ·
  rcases hf:dx b with _|⟨T,q⟩
  · exact a0l _
  · have:=(tw hf).1;show T.toArray.size<=_;simp;omega
end Go.Proofs.YtbacpebljannfaaGreatDoor
