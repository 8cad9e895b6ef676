/- Of what the proof is made: 3 texts, one behind the other. -/
import Derived.Test.YtgmfehnnebkaoaaGreatDoorM3
import Derived.Test.YtgmfehnnebkaoaaGreatDoorM37
import Derived.Test.YtgmfehnnebkaoaaGreatDoorM21
import Derived.Test.YtgmfehnnebkaoaaGreatDoorM30
import Derived.Test.YtgmfehnnebkaoaaGreatDoorM9
import Derived.Lib.QuietBelow
import Derived.Test.YtgmfehnnebkaoaaGreatDoorM29
import Derived.Test.YtgmfehnnebkaoaaGreatDoorM6
import Derived.Deep.RegionHeld3
import Derived.Deep.RegionLawGrows
import Derived.Test.YtgmfehnnebkaoaaGreatDoorM27
import Derived.Test.YtgmfehnnebkaoaaGreatDoorM11
import Derived.Test.YtgmfehnnebkaoaaGreatDoorM2
import Derived.Test.YtgmfehnnebkaoaaGreatDoorM17
import Derived.Test.YtgmfehnnebkaoaaGreatDoorM23
import Derived.Test.YtgmfehnnebkaoaaGreatDoorM15
import Derived.Test.YtgmfehnnebkaoaaGreatDoorM4
set_option maxRecDepth 100000
set_option linter.unusedSimpArgs false
set_option linter.unusedVariables false
namespace Go.Proofs.YtgmfehnnebkaoaaGreatDoor
open Go.RowKit Corb
variable {s:ByteArray}
theorem uj(n t:ByteArray)(N:Nat):(bF n t N).data.toList=(cb (cn t) N (ay 0 t.data.toList) (aK t).size t.size n).data.toList++(aK t).data.toList:=by
 unfold bF;simp
theorem sR(t:ByteArray):(aK t).size<=t.size:=by unfold aK;split<;>omega
theorem vY(t:ByteArray):cn t<=8:=by unfold cn;split<;>omega
theorem mz{n t:ByteArray}{N:Nat}(d:N<4294967296)(e:n.size<65536)(f:t.size<4294967296) :
  (bF n t N).size=30+n.size+(aK t).size/\wd (bF n t N).data.toList 14 4=ay 0 t.data.toList/\wd (bF n t N).data.toList 22 4=t.size/\(bF n t N).extract 30 (30+n.size)=n:=by
 have hb:=sR t;have g:=vY t;obtain⟨_,_,_,a,_,b,_,c,_⟩:=tt (how:=cn t) (st:=N) (crc:=ay 0 t.data.toList) (pk:=(aK t).size) (lg:=t.size) (nm:=n) (aK t).data.toList (by omega) d (fL _ _ (by omega)) (by omega) f e;rw[←uj]at a b c;refine⟨?_,a,b,bV ?_⟩
 . unfold bF cb;rw[a0t,a0t,a0t,dW];show 4+26+_+_=_;omega
 . rw[ext_list,a1M,c]
def sf(how:Nat)(b:ByteArray):Option ByteArray:=
 if how=0 then some b else if how=8 then(match du b with
  | some (T,q)=>if q/8=b.size then some ⟨T.toArray⟩else none
  | none=>none)else none
def nmB(s:ByteArray):ByteArray:=s.extract 30 (30+wd s.data.toList 26 2)
def bdB(s:ByteArray):ByteArray:=s.extract (30+wd s.data.toList 26 2) (30+wd s.data.toList 26 2+wd s.data.toList 18 4)
def hdB(s:ByteArray):Bool:=decide (30<=s.size)&&(rS s.data.toList&&decide (30+wd s.data.toList 26 2+wd s.data.toList 18 4<=s.size))
def Da(s T:ByteArray):Bool:=fy (nmB s) (gY (wd s.data.toList 10 4:Nat)) (gM (wd s.data.toList 10 4:Nat)) (gD (wd s.data.toList 10 4:Nat)) (gH (wd s.data.toList 10 4:Nat)) (gI (wd s.data.toList 10 4:Nat)) (gS (wd s.data.toList 10 4:Nat)) T
def GN(s T:ByteArray):Value:=.agg #[.string (nmB s),.int .i64 (gY (wd s.data.toList 10 4:Nat)),.int .i64 (gM (wd s.data.toList 10 4:Nat)),.int .i64 (gD (wd s.data.toList 10 4:Nat)),.int .i64 (gH (wd s.data.toList 10 4:Nat)),.int .i64 (gI (wd s.data.toList 10 4:Nat)),.int .i64 (gS (wd s.data.toList 10 4:Nat)),.string T]
def noE:Value:=.agg #[.string ⟨#[]⟩,.int .i64 0,.int .i64 0,.int .i64 0,.int .i64 0,.int .i64 0,.int .i64 0,.string ⟨#[]⟩]
def JE(s T:ByteArray):Bool:=decide (wd s.data.toList 14 4=ay 0 T.data.toList)&&(decide (wd s.data.toList 22 4=T.size)&&Da s T)
def gp(s:ByteArray):Option ByteArray:=if hdB s then(match sf (wd s.data.toList 8 2) (bdB s)with
 | some T=>if JE s T then some T else none
 | none=>none)else none
def my(s:ByteArray):Value:=match gp s with
 | some T=>.tuple #[GN s T,.int .i64 ((30+wd s.data.toList 26 2+wd s.data.toList 18 4:Nat):Int),.bool true]
 | none=>.tuple #[noE,.int .i64 0,.bool false]
theorem AO(s:ByteArray):(nmB s).data.toList=(s.data.toList.drop 30).take (wd s.data.toList 26 2):=by
 unfold nmB;rw[ext_list,a1M]
theorem Jf(s:ByteArray):(bdB s).data.toList=(s.data.toList.drop (30+wd s.data.toList 26 2)).take (wd s.data.toList 18 4):=by
 unfold bdB;rw[ext_list,a1M]
theorem tq: hdB s=true<->30<=s.size/\rS s.data.toList=true/\30+wd s.data.toList 26 2+wd s.data.toList 18 4<=s.size:=by
 simp[hdB]
theorem uv(h:30+wd s.data.toList 26 2<=s.size):(nmB s).size=wd s.data.toList 26 2:=by
 unfold nmB;rw[a1c];omega
theorem yS(h:30+wd s.data.toList 26 2+wd s.data.toList 18 4<=s.size):(bdB s).size=wd s.data.toList 18 4:=by
 unfold bdB;rw[a1c];omega
def txT(how:Nat)(b:ByteArray):ByteArray:=if how=0 then b else match du b with
 | some (T,_)=>⟨T.toArray⟩
 | none=>⟨#[]⟩
def txO(how:Nat)(b:ByteArray):Bool:=(sf how b).isSome
theorem Pp(how:Nat)(b:ByteArray):sf how b=if txO how b=true then some (txT how b)else none:=by
 unfold txO txT sf;by_cases a:how=0
 . simp[a]
 .
  simp only[a0e a];by_cases c:how=8
  .
   simp only[a0d c];rcases du b with _|⟨T,q⟩
   . simp
   . by_cases hq:q/8=b.size<;>simp[hq]
  . simp[c]
theorem vV{b:ByteArray}{T:List UInt8}{q:Nat}(a:du b=some (T,q)):T.length<=300/\q<=5600:=by
 unfold du at a
 split at a
 . have:=xd a (by omega);exact⟨this.2.2.2 (by simp),by omega⟩
 . cases a
theorem Mi{how:Nat}{b:ByteArray}(hb:b.size<=1048576):(txT how b).size<=1048576:=by
 unfold txT
 split
 . exact hb
 .
  rcases a:du b with _|⟨T,q⟩
  . exact a0g _
  . have:=(vV a).1;show T.toArray.size<=_;simp;omega
end Go.Proofs.YtgmfehnnebkaoaaGreatDoor
