/- Of what the proof is made: 3 texts, one behind the other. -/
import Derived.Test.YtlpmnnjlmjffpaaGreatDoorM3
import Derived.Test.YtlpmnnjlmjffpaaGreatDoorM37
import Derived.Test.YtlpmnnjlmjffpaaGreatDoorM20
import Derived.Test.YtlpmnnjlmjffpaaGreatDoorM29
import Derived.Test.YtlpmnnjlmjffpaaGreatDoorM9
import Derived.Lib.QuietBelow
import Derived.Test.YtlpmnnjlmjffpaaGreatDoorM31
import Derived.Test.YtlpmnnjlmjffpaaGreatDoorM6
set_option maxRecDepth 100000
set_option linter.unusedSimpArgs false
set_option linter.unusedVariables false
set_option maxHeartbeats 1600000
namespace Go.Proofs.YtlpmnnjlmjffpaaGreatDoor
open Go.RowKit Corb
variable {s:ByteArray}
theorem ti(n t:ByteArray)(N:Nat):(ca n t N).data.toList=(cj (ef t) N (aH 0 t.data.toList) (bg t).size t.size n).data.toList++(bg t).data.toList:=by
 unfold ca;simp
theorem rT(t:ByteArray):(bg t).size<=t.size:=by unfold bg;split<;>omega
theorem uU(t:ByteArray):ef t<=8:=by unfold ef;split<;>omega
theorem qE{n t:ByteArray}{N:Nat}(d:N<4294967296)(e:n.size<65536)(f:t.size<4294967296) :
  (ca n t N).size=30+n.size+(bg t).size/\wd (ca n t N).data.toList 14 4=aH 0 t.data.toList/\wd (ca n t N).data.toList 22 4=t.size/\(ca n t N).extract 30 (30+n.size)=n:=by
 have hb:=rT t;have g:=uU t;obtain⟨_,_,_,a,_,b,_,c,_⟩:=sx (how:=ef t) (st:=N) (crc:=aH 0 t.data.toList) (pk:=(bg t).size) (lg:=t.size) (nm:=n) (bg t).data.toList (by omega) d (iJ _ _ (by omega)) (by omega) f e;rw[←ti]at a b c;refine⟨?_,a,b,aO ?_⟩
 . unfold ca cj;rw[a0u,a0u,a0u,dM];show 4+26+_+_=_;omega
 . rw[ext_list,a1C,c]
def nW(how:Nat)(b:ByteArray):Option ByteArray:=
 if how=0 then some b else if how=8 then(match bZ b with
  | some (T,q)=>if q/8=b.size then some ⟨T.toArray⟩else none
  | none=>none)else none
def nmB(s:ByteArray):ByteArray:=s.extract 30 (30+wd s.data.toList 26 2)
def bdB(s:ByteArray):ByteArray:=s.extract (30+wd s.data.toList 26 2) (30+wd s.data.toList 26 2+wd s.data.toList 18 4)
def hdB(s:ByteArray):Bool:=decide (30<=s.size)&&(lk s.data.toList&&decide (30+wd s.data.toList 26 2+wd s.data.toList 18 4<=s.size))
def yg(s T:ByteArray):Bool:=gn (nmB s) (gY (wd s.data.toList 10 4:Nat)) (gM (wd s.data.toList 10 4:Nat)) (gD (wd s.data.toList 10 4:Nat)) (gH (wd s.data.toList 10 4:Nat)) (gI (wd s.data.toList 10 4:Nat)) (gS (wd s.data.toList 10 4:Nat)) T
def Gb(s T:ByteArray):Value:=.agg #[.string (nmB s),.int .i64 (gY (wd s.data.toList 10 4:Nat)),.int .i64 (gM (wd s.data.toList 10 4:Nat)),.int .i64 (gD (wd s.data.toList 10 4:Nat)),.int .i64 (gH (wd s.data.toList 10 4:Nat)),.int .i64 (gI (wd s.data.toList 10 4:Nat)),.int .i64 (gS (wd s.data.toList 10 4:Nat)),.string T]
def noE:Value:=.agg #[.string ⟨#[]⟩,.int .i64 0,.int .i64 0,.int .i64 0,.int .i64 0,.int .i64 0,.int .i64 0,.string ⟨#[]⟩]
def BG(s T:ByteArray):Bool:=decide (wd s.data.toList 14 4=aH 0 T.data.toList)&&(decide (wd s.data.toList 22 4=T.size)&&yg s T)
def ep(s:ByteArray):Option ByteArray:=if hdB s then(match nW (wd s.data.toList 8 2) (bdB s)with
 | some T=>if BG s T then some T else none
 | none=>none)else none
def oH(s:ByteArray):Value:=match ep s with
 | some T=>.tuple #[Gb s T,.int .i64 ((30+wd s.data.toList 26 2+wd s.data.toList 18 4:Nat):Int),.bool true]
 | none=>.tuple #[noE,.int .i64 0,.bool false]
theorem tp(s:ByteArray):(nmB s).data.toList=(s.data.toList.drop 30).take (wd s.data.toList 26 2):=by
 unfold nmB;rw[ext_list,a1C]
theorem It(s:ByteArray):(bdB s).data.toList=(s.data.toList.drop (30+wd s.data.toList 26 2)).take (wd s.data.toList 18 4):=by
 unfold bdB;rw[ext_list,a1C]
theorem gx: hdB s=true<->30<=s.size/\lk s.data.toList=true/\30+wd s.data.toList 26 2+wd s.data.toList 18 4<=s.size:=by
 simp[hdB]
theorem iU(h:30+wd s.data.toList 26 2<=s.size):(nmB s).size=wd s.data.toList 26 2:=by
 unfold nmB;rw[a1p];omega
theorem rS(h:30+wd s.data.toList 26 2+wd s.data.toList 18 4<=s.size):(bdB s).size=wd s.data.toList 18 4:=by
 unfold bdB;rw[a1p];omega
def txT(how:Nat)(b:ByteArray):ByteArray:=if how=0 then b else match bZ b with
 | some (T,_)=>⟨T.toArray⟩
 | none=>⟨#[]⟩
def txO(how:Nat)(b:ByteArray):Bool:=(nW how b).isSome
theorem OS(how:Nat)(b:ByteArray):nW how b=if txO how b=true then some (txT how b)else none:=by
 unfold txO txT nW;by_cases a:how=0
 . simp[a]
 .
  simp only[a0d a];by_cases c:how=8
  .
   simp only[a0e c];rcases bZ b with _|⟨T,q⟩
   . simp
   . by_cases hq:q/8=b.size<;>simp[hq]
  . simp[c]
theorem pz{b:ByteArray}{T:List UInt8}{q:Nat}(a:bZ b=some (T,q)):T.length<=300/\q<=5600:=by
 unfold bZ at a
 split at a
 . have:=vV a (by omega);exact⟨this.2.2.2 (by simp),by omega⟩
 . cases a
theorem Ay{how:Nat}{b:ByteArray}(hb:b.size<=1048576):(txT how b).size<=1048576:=by
 unfold txT
 split
 . exact hb
 .
  rcases a:bZ b with _|⟨T,q⟩
  . exact a0g _
  . have:=(pz a).1;show T.toArray.size<=_;simp;omega
theorem Cf(how:Nat)(b:ByteArray)(w:World)(hb:b.size<=1048576)(j:how<65536) :
  CD 81 #[.int .i64 (how:Int),.string b] w (.tuple #[.string (txT how b),.bool (txO how b)]):=by
 by_cases g:how=0
 .
  subst g;have e1:txT 0 b=b:=by simp[txT]
  have e2:txO 0 b=true:=by simp[txO,nW]
  rw[e1,e2];go_enter a3k,a3l;go_wp2
  go_ret2
  exact⟨rfl,a0c _ _⟩
 .
  have n:(how:Int)<65536:=by omega
  have k:((how:Int) == 0)=false:=by simp[g]
  have d:=af (fun W=>pZ b W (by omega));rcases f:bZ b with _|⟨T,q⟩
  .
   have e1:txT how b=⟨#[]⟩:=by simp[txT,g,f]
   have e2:txO how b=false:=by unfold txO nW;rw[a0d g,f];by_cases h:how=8<;>simp[h]
   rw[f]at d;rw[e1,e2];simp only[pB]at d;clear hb j f e1 e2 g;go_enter a3k,a3l;go_wp2_with fail;refine(ae d _).mono ?_;rintro e x1 ⟨rfl,a⟩;have c:=af a;clear a;go_wp2
   go_ret2
   exact⟨rfl,ae c⟩
  .
   obtain⟨o,hq⟩:=pz f;have e1:txT how b=⟨T.toArray⟩:=by simp[txT,g,f]
   have e2:txO how b=(decide (how=8)&&decide (q/8=b.size)):=by
    unfold txO nW;rw[a0d g,f];by_cases h:how=8
    . by_cases i:q/8=b.size<;>simp[h,i]
    . simp[h]
   rw[f]at d;rw[e1,e2];simp only[pB]at d;clear hb j f e1 e2 hq g;generalize (⟨T.toArray⟩:ByteArray)=X at *
   by_cases h:how=8
   .
    subst h;by_cases i:q/8=b.size
    .
     rw[show(decide (8=8)&&decide (q/8=b.size))=true by simp[i]];rw[i]at d;clear i;go_enter a3k,a3l;go_wp2_with fail;refine(ae d _).mono ?_;rintro e x1 ⟨rfl,a⟩;have c:=af a;clear a;go_wp2
     go_ret2
     exact⟨rfl,ae c⟩
    .
     have m:(((q/8:Nat):Int) == (b.size:Int))=false:=by simp;omega
     rw[show(decide (8=8)&&decide (q/8=b.size))=false by simp[i]];clear i;generalize q/8=q8 at *
     go_enter a3k,a3l;go_wp2_with fail;refine(ae d _).mono ?_;rintro e x1 ⟨rfl,a⟩;have c:=af a;clear a;go_wp2
     go_ret2
     exact⟨rfl,ae c⟩
   .
    have l:((how:Int) == 8)=false:=by simp;omega
    rw[show(decide (how=8)&&decide (q/8=b.size))=false by simp[h]];clear h;generalize q/8=q8 at *
    go_enter a3k,a3l;go_wp2_with fail;refine(ae d _).mono ?_;rintro e x1 ⟨rfl,a⟩;have c:=af a;clear a;go_wp2
    go_ret2
    exact⟨rfl,ae c⟩
end Go.Proofs.YtlpmnnjlmjffpaaGreatDoor
