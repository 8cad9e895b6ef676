/- Texts. -/
import Derived.Test.YtckocaibjciplaaGreatDoorM38
import Derived.Test.YtckocaibjciplaaGreatDoorM33
set_option linter.all false
set_option maxRecDepth 100000
set_option maxHeartbeats 1600000
namespace Go.Proofs.YtckocaibjciplaaGreatDoor
open Go.RowKit Corb
variable {s:ByteArray}
def we(n t:ByteArray)(N:Nat):(cJ n t N).data.toList=(cO (cP t) N (aC 0 t.data.toList) (aN t).size t.size n).data.toList++(aN t).data.toList:=by
 unfold cJ;simp
def uO(t:ByteArray):(aN t).size<=t.size:=by unfold aN;split<;>omega
def yr(t:ByteArray):cP t<=8:=by unfold cP;split<;>omega
def tB{n t:ByteArray}{N:Nat}(d:N<4294967296)(e:n.size<65536)(f:t.size<4294967296) :
  (cJ n t N).size=30+n.size+(aN t).size/\wd (cJ n t N).data.toList 14 4=aC 0 t.data.toList/\wd (cJ n t N).data.toList 22 4=t.size/\(cJ n t N).extract 30 (30+n.size)=n:=by
 have hb:=uO t;have g:=yr t;obtain⟨_,_,_,a,_,b,_,c,_⟩:=vm (how:=cP t) (st:=N) (crc:=aC 0 t.data.toList) (pk:=(aN t).size) (lg:=t.size) (nm:=n) (aN t).data.toList (by omega) d (gK _ _ (by omega)) (by omega) f e;rw[←we]at a b c;refine⟨?_,a,b,ck ?_⟩
 . unfold cJ cO;rw[a0G,a0G,a0G,fE];show 4+26+_+_=_;omega
 . rw[ext_list,a1q,c]
def pW(how:Nat)(b:ByteArray):Option ByteArray:=
 if how=0 then some b else if how=8 then(match cH b with
  | some (T,q)=>if q/8=b.size then some ⟨T.toArray⟩else none
  | none=>none)else none
def nmB(s:ByteArray):ByteArray:=s.extract 30 (30+wd s.data.toList 26 2)
def bdB(s:ByteArray):ByteArray:=s.extract (30+wd s.data.toList 26 2) (30+wd s.data.toList 26 2+wd s.data.toList 18 4)
def hdB(s:ByteArray):Bool:=decide (30<=s.size)&&(nh s.data.toList&&decide (30+wd s.data.toList 26 2+wd s.data.toList 18 4<=s.size))
def FK(s T:ByteArray):Bool:=iv (nmB s) (gY (wd s.data.toList 10 4:Nat)) (gM (wd s.data.toList 10 4:Nat)) (gD (wd s.data.toList 10 4:Nat)) (gH (wd s.data.toList 10 4:Nat)) (gI (wd s.data.toList 10 4:Nat)) (gS (wd s.data.toList 10 4:Nat)) T
def Kq(s T:ByteArray):Value:=.agg #[.string (nmB s),.int .i64 (gY (wd s.data.toList 10 4:Nat)),.int .i64 (gM (wd s.data.toList 10 4:Nat)),.int .i64 (gD (wd s.data.toList 10 4:Nat)),.int .i64 (gH (wd s.data.toList 10 4:Nat)),.int .i64 (gI (wd s.data.toList 10 4:Nat)),.int .i64 (gS (wd s.data.toList 10 4:Nat)),T]
def noE:Value:=.agg ()
def Qn(s T:ByteArray):Bool:=decide (wd s.data.toList 14 4=aC 0 T.data.toList)&&(decide (wd s.data.toList 22 4=T.size)&&FK s T)
def im(s:ByteArray):Option ByteArray:=if hdB s then(match pW (wd s.data.toList 8 2) (bdB s)with
 | some T=>if Qn s T then some T else none
 | none=>none)else none
def qN(s:ByteArray):Value:=match im s with
 | some T=>.tuple #[Kq s T,.int .i64 ((30+wd s.data.toList 26 2+wd s.data.toList 18 4:Nat):Int),.bool true]
 | none=>.tuple #[noE,.int .i64 0,.bool false]
def wm(s:ByteArray):(nmB s).data.toList=(s.data.toList.drop 30).take (wd s.data.toList 26 2):=by
 unfold nmB;rw[ext_list,a1q]
def Me(s:ByteArray):(bdB s).data.toList=(s.data.toList.drop (30+wd s.data.toList 26 2)).take (wd s.data.toList 18 4):=by
 unfold bdB;rw[ext_list,a1q]
def li: hdB s=true<->30<=s.size/\nh s.data.toList=true/\30+wd s.data.toList 26 2+wd s.data.toList 18 4<=s.size:=by
 simp[hdB]
def lH(h:30+wd s.data.toList 26 2<=s.size):(nmB s).size=wd s.data.toList 26 2:=by
 unfold nmB;rw[a2d];omega
def Bs(h:30+wd s.data.toList 26 2+wd s.data.toList 18 4<=s.size):(bdB s).size=wd s.data.toList 18 4:=by
 unfold bdB;rw[a2d];omega
def txT(how:Nat)(b:ByteArray):ByteArray:=if how=0 then b else match cH b with
 | some (T,_)=>⟨T.toArray⟩
 | none=>⟨#[]⟩
def txO(how:Nat)(b:ByteArray):Bool:=(pW how b).isSome
def SV(how:Nat)(b:ByteArray):pW how b=if txO how b=true then some (txT how b)else none:=by
 unfold txO txT pW;by_cases a:how=0
 . simp[a]
 .
  simp only[a0e a];by_cases c:how=8
  .
   simp only[a0d c];rcases cH b with _|⟨T,q⟩
   . simp
   . by_cases hq:q/8=b.size<;>simp[hq]
  . simp[c]
def rQ{b:ByteArray}{T:List UInt8}{q:Nat}(a:cH b=some (T,q)):T.length<=300/\q<=5600:=by
 unfold cH at a
 split at a
 . have:=zh a (by omega);exact⟨this.2.2.2 (by simp),by omega⟩
 . cases a
def EJ{how:Nat}{b:ByteArray}(hb:b.size<=1048576):(txT how b).size<=1048576:=by
 unfold txT
 split
 . exact hb
 .
  rcases a:cH b with _|⟨T,q⟩
  . exact a0g _
  . have:=(rQ a).1;show T.toArray.size<=_;simp;omega
def Ge(how:Nat)(b:ByteArray)(w:World)(hb:b.size<=1048576)(j:how<65536) :
  Ds 84 #[.int .i64 (how:Int),b] w (.tuple #[.string (txT how b),.bool (txO how b)]):=by
 by_cases g:how=0
 .
  subst g;have e1:txT 0 b=b:=by simp[txT]
  have e2:txO 0 b=true:=by simp[txO,pW]
  rw[e1,e2];go_enter a3p,a3q;go_wp2
  go_ret2
  exact⟨rfl,a0c _ _⟩
 .
  have n:(how:Int)<65536:=by omega
  have k:((how:Int) == 0)=false:=by simp[g]
  have d:=af (fun W=>sK b W (by omega));rcases f:cH b with _|⟨T,q⟩
  .
   have e1:txT how b=⟨#[]⟩:=by simp[txT,g,f]
   have e2:txO how b=false:=by unfold txO pW;rw[a0e g,f];by_cases h:how=8<;>simp[h]
   rw[f]at d;rw[e1,e2];simp only[rR]at d;clear hb j f e1 e2 g;go_enter a3p,a3q;go_wp2_with fail;refine(d _).mono ?_;rintro e x1⟨rfl,a⟩;have c:=af a;clear a;go_wp2
   go_ret2
   exact⟨rfl,c⟩
  .
   obtain⟨o,hq⟩:=rQ f;have e1:txT how b=⟨T.toArray⟩:=by simp[txT,g,f]
   have e2:txO how b=(decide (how=8)&&decide (q/8=b.size)):=by
    unfold txO pW;rw[a0e g,f];by_cases h:how=8
    . by_cases i:q/8=b.size<;>simp[h,i]
    . simp[h]
   rw[f]at d;rw[e1,e2];simp only[rR]at d;clear hb j f e1 e2 hq g;generalize (⟨T.toArray⟩:ByteArray)=X at *
   by_cases h:how=8
   .
    subst h;by_cases i:q/8=b.size
    .
     rw[show(decide (8=8)&&decide (q/8=b.size))=true by simp[i]];rw[i]at d;clear i;go_enter a3p,a3q;go_wp2_with fail;refine(d _).mono ?_;rintro e x1⟨rfl,a⟩;have c:=af a;clear a;go_wp2
     go_ret2
     exact⟨rfl,c⟩
    .
     have m:(((q/8:Nat):Int) == (b.size:Int))=false:=by simp;omega
     rw[show(decide (8=8)&&decide (q/8=b.size))=false by simp[i]];clear i;generalize q/8=q8 at *
     go_enter a3p,a3q;go_wp2_with fail;refine(d _).mono ?_;rintro e x1⟨rfl,a⟩;have c:=af a;clear a;go_wp2
     go_ret2
     exact⟨rfl,c⟩
   .
    have l:((how:Int) == 8)=false:=by simp;omega
    rw[show(decide (how=8)&&decide (q/8=b.size))=false by simp[h]];clear h;generalize q/8=q8 at *
    go_enter a3p,a3q;go_wp2_with fail;refine(d _).mono ?_;rintro e x1⟨rfl,a⟩;have c:=af a;clear a;go_wp2
    go_ret2
    exact⟨rfl,c⟩
