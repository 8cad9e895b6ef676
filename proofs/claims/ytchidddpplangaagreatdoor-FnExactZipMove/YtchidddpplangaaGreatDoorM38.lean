/- Of what the proof is made: 2 texts, one behind the other. -/
import Derived.Test.YtchidddpplangaaGreatDoorM20
import Derived.Test.YtchidddpplangaaGreatDoorM33
import Derived.Test.YtchidddpplangaaGreatDoorM28
import Derived.Test.YtchidddpplangaaGreatDoorM6
import Derived.Test.YtchidddpplangaaGreatDoorM9
import Derived.Test.YtchidddpplangaaGreatDoorM37
set_option maxRecDepth 100000
set_option linter.unusedSimpArgs false
set_option linter.unusedVariables false
set_option maxHeartbeats 1600000
namespace Go.Proofs.YtchidddpplangaaGreatDoor
open Corb
variable {s:ByteArray}
def qV(how:Nat)(b:ByteArray):Option ByteArray:=
 if how=0 then some b else if how=8 then(match eJ b with
  | some (T,q)=>if q/8=b.size then some ⟨T.toArray⟩else none
  | none=>none)else none
def nmB(s:ByteArray):ByteArray:=s.extract 30 (30+wd s.data.toList 26 2)
def bdB(s:ByteArray):ByteArray:=s.extract (30+wd s.data.toList 26 2) (30+wd s.data.toList 26 2+wd s.data.toList 18 4)
def hdB(s:ByteArray):Bool:=decide (30<=s.size)&&(oa s.data.toList&&decide (30+wd s.data.toList 26 2+wd s.data.toList 18 4<=s.size))
def F5(s T:ByteArray):Bool:=iB (nmB s) (gY (wd s.data.toList 10 4:Nat)) (gM (wd s.data.toList 10 4:Nat)) (gD (wd s.data.toList 10 4:Nat)) (gH (wd s.data.toList 10 4:Nat)) (gI (wd s.data.toList 10 4:Nat)) (gS (wd s.data.toList 10 4:Nat)) T
def GH(s T:ByteArray):Value:=.agg #[.string (nmB s),.int .i64 (gY (wd s.data.toList 10 4:Nat)),.int .i64 (gM (wd s.data.toList 10 4:Nat)),.int .i64 (gD (wd s.data.toList 10 4:Nat)),.int .i64 (gH (wd s.data.toList 10 4:Nat)),.int .i64 (gI (wd s.data.toList 10 4:Nat)),.int .i64 (gS (wd s.data.toList 10 4:Nat)),.string T]
def noE:Value:=.agg #[.string ⟨#[]⟩,.int .i64 0,.int .i64 0,.int .i64 0,.int .i64 0,.int .i64 0,.int .i64 0,.string ⟨#[]⟩]
def NU(s T:ByteArray):Bool:=decide (wd s.data.toList 14 4=aE 0 T.data.toList)&&(decide (wd s.data.toList 22 4=T.size)&&F5 s T)
def iI(s:ByteArray):Option ByteArray:=if hdB s then(match qV (wd s.data.toList 8 2) (bdB s)with
 | some T=>if NU s T then some T else none
 | none=>none)else none
def po(s:ByteArray):Value:=match iI s with
 | some T=>.tuple #[GH s T,.int .i64 ((30+wd s.data.toList 26 2+wd s.data.toList 18 4:Nat):Int),.bool true]
 | none=>.tuple #[noE,.int .i64 0,.bool false]
theorem AE(s:ByteArray):(nmB s).data.toList=(s.data.toList.drop 30).take (wd s.data.toList 26 2):=by
 unfold nmB;rw[ext_list,a10]
theorem li: hdB s=true<->30<=s.size/\oa s.data.toList=true/\30+wd s.data.toList 26 2+wd s.data.toList 18 4<=s.size:=by
 simp[hdB]
theorem kG(h:30+wd s.data.toList 26 2<=s.size):(nmB s).size=wd s.data.toList 26 2:=by
 unfold nmB;rw[a2Q];omega
theorem yR(h:30+wd s.data.toList 26 2+wd s.data.toList 18 4<=s.size):(bdB s).size=wd s.data.toList 18 4:=by
 unfold bdB;rw[a2Q];omega
open Go.RowKit
def txT(how:Nat)(b:ByteArray):ByteArray:=if how=0 then b else match eJ b with
 | some (T,_)=>⟨T.toArray⟩
 | none=>⟨#[]⟩
def txO(how:Nat)(b:ByteArray):Bool:=(qV how b).isSome
theorem Ol(how:Nat)(b:ByteArray):qV how b=if txO how b=true then some (txT how b)else none:=by
 unfold txO txT qV;by_cases a:how=0
 . simp[a]
 .
  simp only[a0d a];by_cases c:how=8
  .
   simp only[a0e c];rcases eJ b with _|⟨T,q⟩
   . simp
   . by_cases hq:q/8=b.size<;>simp[hq]
  . simp[c]
theorem qh{b:ByteArray}{T:List UInt8}{q:Nat}(a:eJ b=some (T,q)):T.length<=300/\q<=5600:=by
 unfold eJ at a
 split at a
 . have:=wO a (by omega);exact⟨this.2.2.2 (by simp),by omega⟩
 . cases a
theorem BN{how:Nat}{b:ByteArray}(hb:b.size<=1048576):(txT how b).size<=1048576:=by
 unfold txT
 split
 . exact hb
 .
  rcases a:eJ b with _|⟨T,q⟩
  . exact a0g _
  . have:=(qh a).1;show T.toArray.size<=_;simp;omega
theorem Du(how:Nat)(b:ByteArray)(w:World)(hb:b.size<=1048576)(j:how<65536) :
  Ds 47 #[.int .i64 (how:Int),.string b] w (.tuple #[.string (txT how b),.bool (txO how b)]):=by
 by_cases g:how=0
 .
  subst g;have e1:txT 0 b=b:=by simp[txT]
  have e2:txO 0 b=true:=by simp[txO,qV]
  rw[e1,e2];go_enter a3i,a3j;go_wp2
  go_ret2
  exact⟨rfl,a0c _ _⟩
 .
  have n:(how:Int)<65536:=by omega
  have k:((how:Int) == 0)=false:=by simp[g]
  have d:=ae (fun W=>qL b W (by omega));rcases f:eJ b with _|⟨T,q⟩
  .
   have e1:txT how b=⟨#[]⟩:=by simp[txT,g,f]
   have e2:txO how b=false:=by unfold txO qV;rw[a0d g,f];by_cases h:how=8<;>simp[h]
   rw[f]at d;rw[e1,e2];simp only[qi]at d;clear hb j f e1 e2 g;go_enter a3i,a3j;go_wp2_with fail;refine(ab d _).mono ?_;rintro e x1 ⟨rfl,a⟩;have c:=ae a;clear a;go_wp2
   go_ret2
   exact⟨rfl,ab c⟩
  .
   obtain⟨o,hq⟩:=qh f;have e1:txT how b=⟨T.toArray⟩:=by simp[txT,g,f]
   have e2:txO how b=(decide (how=8)&&decide (q/8=b.size)):=by
    unfold txO qV;rw[a0d g,f];by_cases h:how=8
    . by_cases i:q/8=b.size<;>simp[h,i]
    . simp[h]
   rw[f]at d;rw[e1,e2];simp only[qi]at d;clear hb j f e1 e2 hq g;generalize (⟨T.toArray⟩:ByteArray)=X at *
   by_cases h:how=8
   .
    subst h;by_cases i:q/8=b.size
    .
     rw[show(decide (8=8)&&decide (q/8=b.size))=true by simp[i]];rw[i]at d;clear i;go_enter a3i,a3j;go_wp2_with fail;refine(ab d _).mono ?_;rintro e x1 ⟨rfl,a⟩;have c:=ae a;clear a;go_wp2
     go_ret2
     exact⟨rfl,ab c⟩
    .
     have m:(((q/8:Nat):Int) == (b.size:Int))=false:=by simp;omega
     rw[show(decide (8=8)&&decide (q/8=b.size))=false by simp[i]];clear i;generalize q/8=q8 at *
     go_enter a3i,a3j;go_wp2_with fail;refine(ab d _).mono ?_;rintro e x1 ⟨rfl,a⟩;have c:=ae a;clear a;go_wp2
     go_ret2
     exact⟨rfl,ab c⟩
   .
    have l:((how:Int) == 8)=false:=by simp;omega
    rw[show(decide (how=8)&&decide (q/8=b.size))=false by simp[h]];clear h;generalize q/8=q8 at *
    go_enter a3i,a3j;go_wp2_with fail;refine(ab d _).mono ?_;rintro e x1 ⟨rfl,a⟩;have c:=ae a;clear a;go_wp2
    go_ret2
    exact⟨rfl,ab c⟩
end Go.Proofs.YtchidddpplangaaGreatDoor
