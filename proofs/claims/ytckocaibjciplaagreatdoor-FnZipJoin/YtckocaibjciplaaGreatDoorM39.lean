/- Texts. -/
import Derived.Test.YtckocaibjciplaaGreatDoorM38
import Derived.Test.YtckocaibjciplaaGreatDoorM33
set_option linter.all false
set_option maxRecDepth 100000
set_option maxHeartbeats 1600000
namespace Go.Proofs.YtckocaibjciplaaGreatDoor
open Go.RowKit Corb
variable {s:ByteArray}
def vm(n t:ByteArray)(N:Nat):(cG n t N).data.toList=(cM (cN t) N (aC 0 t.data.toList) (aL t).size t.size n).data.toList++(aL t).data.toList:=by
 unfold cG;simp
def tU(t:ByteArray):(aL t).size<=t.size:=by unfold aL;split<;>omega
def xg(t:ByteArray):cN t<=8:=by unfold cN;split<;>omega
def sD{n t:ByteArray}{N:Nat}(d:N<4294967296)(e:n.size<65536)(f:t.size<4294967296) :
  (cG n t N).size=30+n.size+(aL t).size/\wd (cG n t N).data.toList 14 4=aC 0 t.data.toList/\wd (cG n t N).data.toList 22 4=t.size/\(cG n t N).extract 30 (30+n.size)=n:=by
 have hb:=tU t;have g:=xg t;obtain⟨_,_,_,a,_,b,_,c,_⟩:=uo (how:=cN t) (st:=N) (crc:=aC 0 t.data.toList) (pk:=(aL t).size) (lg:=t.size) (nm:=n) (aL t).data.toList (by omega) d (gt _ _ (by omega)) (by omega) f e;rw[←vm]at a b c;refine⟨?_,a,b,dm ?_⟩
 . unfold cG cM;rw[a0G,a0G,a0G,ft];show 4+26+_+_=_;omega
 . rw[ext_list,a1v,c]
def pq(how:Nat)(b:ByteArray):Option ByteArray:=
 if how=0 then some b else if how=8 then(match cF b with
  | some (T,q)=>if q/8=b.size then some ⟨T.toArray⟩else none
  | none=>none)else none
def nmB(s:ByteArray):ByteArray:=s.extract 30 (30+wd s.data.toList 26 2)
def bdB(s:ByteArray):ByteArray:=s.extract (30+wd s.data.toList 26 2) (30+wd s.data.toList 26 2+wd s.data.toList 18 4)
def hdB(s:ByteArray):Bool:=decide (30<=s.size)&&(mF s.data.toList&&decide (30+wd s.data.toList 26 2+wd s.data.toList 18 4<=s.size))
def Er(s T:ByteArray):Bool:=ib (nmB s) (gY (wd s.data.toList 10 4:Nat)) (gM (wd s.data.toList 10 4:Nat)) (gD (wd s.data.toList 10 4:Nat)) (gH (wd s.data.toList 10 4:Nat)) (gI (wd s.data.toList 10 4:Nat)) (gS (wd s.data.toList 10 4:Nat)) T
def I7(s T:ByteArray):Value:=.agg #[.string (nmB s),.int .i64 (gY (wd s.data.toList 10 4:Nat)),.int .i64 (gM (wd s.data.toList 10 4:Nat)),.int .i64 (gD (wd s.data.toList 10 4:Nat)),.int .i64 (gH (wd s.data.toList 10 4:Nat)),.int .i64 (gI (wd s.data.toList 10 4:Nat)),.int .i64 (gS (wd s.data.toList 10 4:Nat)),T]
def noE:Value:=.agg ()
def OP(s T:ByteArray):Bool:=decide (wd s.data.toList 14 4=aC 0 T.data.toList)&&(decide (wd s.data.toList 22 4=T.size)&&Er s T)
def gW(s:ByteArray):Option ByteArray:=if hdB s then(match pq (wd s.data.toList 8 2) (bdB s)with
 | some T=>if OP s T then some T else none
 | none=>none)else none
def pY(s:ByteArray):Value:=match gW s with
 | some T=>.tuple #[I7 s T,.int .i64 ((30+wd s.data.toList 26 2+wd s.data.toList 18 4:Nat):Int),.bool true]
 | none=>.tuple #[noE,.int .i64 0,.bool false]
def vu(s:ByteArray):(nmB s).data.toList=(s.data.toList.drop 30).take (wd s.data.toList 26 2):=by
 unfold nmB;rw[ext_list,a1v]
def KJ(s:ByteArray):(bdB s).data.toList=(s.data.toList.drop (30+wd s.data.toList 26 2)).take (wd s.data.toList 18 4):=by
 unfold bdB;rw[ext_list,a1v]
def kP: hdB s=true<->30<=s.size/\mF s.data.toList=true/\30+wd s.data.toList 26 2+wd s.data.toList 18 4<=s.size:=by
 simp[hdB]
def lp(h:30+wd s.data.toList 26 2<=s.size):(nmB s).size=wd s.data.toList 26 2:=by
 unfold nmB;rw[a2c];omega
def zW(h:30+wd s.data.toList 26 2+wd s.data.toList 18 4<=s.size):(bdB s).size=wd s.data.toList 18 4:=by
 unfold bdB;rw[a2c];omega
def txT(how:Nat)(b:ByteArray):ByteArray:=if how=0 then b else match cF b with
 | some (T,_)=>⟨T.toArray⟩
 | none=>⟨#[]⟩
def txO(how:Nat)(b:ByteArray):Bool:=(pq how b).isSome
def Rk(how:Nat)(b:ByteArray):pq how b=if txO how b=true then some (txT how b)else none:=by
 unfold txO txT pq;by_cases a:how=0
 . simp[a]
 .
  simp only[a0e a];by_cases c:how=8
  .
   simp only[a0d c];rcases cF b with _|⟨T,q⟩
   . simp
   . by_cases hq:q/8=b.size<;>simp[hq]
  . simp[c]
def qV{b:ByteArray}{T:List UInt8}{q:Nat}(a:cF b=some (T,q)):T.length<=300/\q<=5600:=by
 unfold cF at a
 split at a
 . have:=yi a (by omega);exact⟨this.2.2.2 (by simp),by omega⟩
 . cases a
def Dw{how:Nat}{b:ByteArray}(hb:b.size<=1048576):(txT how b).size<=1048576:=by
 unfold txT
 split
 . exact hb
 .
  rcases a:cF b with _|⟨T,q⟩
  . exact a0g _
  . have:=(qV a).1;show T.toArray.size<=_;simp;omega
def EU(how:Nat)(b:ByteArray)(w:World)(hb:b.size<=1048576)(j:how<65536) :
  Ds 84 #[.int .i64 (how:Int),b] w (.tuple #[.string (txT how b),.bool (txO how b)]):=by
 by_cases g:how=0
 .
  subst g;have e1:txT 0 b=b:=by simp[txT]
  have e2:txO 0 b=true:=by simp[txO,pq]
  rw[e1,e2];go_enter a3l,a3m;go_wp2
  go_ret2
  exact⟨rfl,a0c _ _⟩
 .
  have n:(how:Int)<65536:=by omega
  have k:((how:Int) == 0)=false:=by simp[g]
  have d:=af (fun W=>rH b W (by omega));rcases f:cF b with _|⟨T,q⟩
  .
   have e1:txT how b=⟨#[]⟩:=by simp[txT,g,f]
   have e2:txO how b=false:=by unfold txO pq;rw[a0e g,f];by_cases h:how=8<;>simp[h]
   rw[f]at d;rw[e1,e2];simp only[qW]at d;clear hb j f e1 e2 g;go_enter a3l,a3m;go_wp2_with fail;refine(d _).mono ?_;rintro e x1⟨rfl,a⟩;have c:=af a;clear a;go_wp2
   go_ret2
   exact⟨rfl,c⟩
  .
   obtain⟨o,hq⟩:=qV f;have e1:txT how b=⟨T.toArray⟩:=by simp[txT,g,f]
   have e2:txO how b=(decide (how=8)&&decide (q/8=b.size)):=by
    unfold txO pq;rw[a0e g,f];by_cases h:how=8
    . by_cases i:q/8=b.size<;>simp[h,i]
    . simp[h]
   rw[f]at d;rw[e1,e2];simp only[qW]at d;clear hb j f e1 e2 hq g;generalize (⟨T.toArray⟩:ByteArray)=X at *
   by_cases h:how=8
   .
    subst h;by_cases i:q/8=b.size
    .
     rw[show(decide (8=8)&&decide (q/8=b.size))=true by simp[i]];rw[i]at d;clear i;go_enter a3l,a3m;go_wp2_with fail;refine(d _).mono ?_;rintro e x1⟨rfl,a⟩;have c:=af a;clear a;go_wp2
     go_ret2
     exact⟨rfl,c⟩
    .
     have m:(((q/8:Nat):Int) == (b.size:Int))=false:=by simp;omega
     rw[show(decide (8=8)&&decide (q/8=b.size))=false by simp[i]];clear i;generalize q/8=q8 at *
     go_enter a3l,a3m;go_wp2_with fail;refine(d _).mono ?_;rintro e x1⟨rfl,a⟩;have c:=af a;clear a;go_wp2
     go_ret2
     exact⟨rfl,c⟩
   .
    have l:((how:Int) == 8)=false:=by simp;omega
    rw[show(decide (how=8)&&decide (q/8=b.size))=false by simp[h]];clear h;generalize q/8=q8 at *
    go_enter a3l,a3m;go_wp2_with fail;refine(d _).mono ?_;rintro e x1⟨rfl,a⟩;have c:=af a;clear a;go_wp2
    go_ret2
    exact⟨rfl,c⟩
