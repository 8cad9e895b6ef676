/- Texts. -/
import Derived.Test.YtfannoajibacnaaGreatDoorM38
import Derived.Test.YtfannoajibacnaaGreatDoorM32
set_option linter.all false
set_option maxRecDepth 100000
set_option maxHeartbeats 1600000
namespace Go.Proofs.YtfannoajibacnaaGreatDoor
open Go.RowKit Corb
variable {s:ByteArray}
def xd(n t:ByteArray)(N:Nat):(da n t N).data.toList=(df (dh t) N (aE 0 t.data.toList) (aO t).size t.size n).data.toList++(aO t).data.toList:=by
 unfold da;simp
def vH(t:ByteArray):(aO t).size<=t.size:=by unfold aO;split<;>omega
def zi(t:ByteArray):dh t<=8:=by unfold dh;split<;>omega
def uk{n t:ByteArray}{N:Nat}(d:N<4294967296)(e:n.size<65536)(f:t.size<4294967296) :
  (da n t N).size=30+n.size+(aO t).size/\wd (da n t N).data.toList 14 4=aE 0 t.data.toList/\wd (da n t N).data.toList 22 4=t.size/\(da n t N).extract 30 (30+n.size)=n:=by
 have hb:=vH t;have g:=zi t;obtain⟨_,_,_,a,_,b,_,c,_⟩:=we (how:=dh t) (st:=N) (crc:=aE 0 t.data.toList) (pk:=(aO t).size) (lg:=t.size) (nm:=n) (aO t).data.toList (by omega) d (ig _ _ (by omega)) (by omega) f e;rw[←xd]at a b c;refine⟨?_,a,b,ck ?_⟩
 . unfold da df;rw[a0H,a0H,a0H,fV];show 4+26+_+_=_;omega
 . rw[ext_list,a1t,c]
def qE(how:Nat)(b:ByteArray):Option ByteArray:=
 if how=0 then some b else if how=8 then(match cY b with
  | some (T,q)=>if q/8=b.size then some ⟨T.toArray⟩else none
  | none=>none)else none
def nmB(s:ByteArray):ByteArray:=s.extract 30 (30+wd s.data.toList 26 2)
def bdB(s:ByteArray):ByteArray:=s.extract (30+wd s.data.toList 26 2) (30+wd s.data.toList 26 2+wd s.data.toList 18 4)
def hdB(s:ByteArray):Bool:=decide (30<=s.size)&&(nN s.data.toList&&decide (30+wd s.data.toList 26 2+wd s.data.toList 18 4<=s.size))
def GB(s T:ByteArray):Bool:=gQ (nmB s) (gY (wd s.data.toList 10 4:Nat)) (gM (wd s.data.toList 10 4:Nat)) (gD (wd s.data.toList 10 4:Nat)) (gH (wd s.data.toList 10 4:Nat)) (gI (wd s.data.toList 10 4:Nat)) (gS (wd s.data.toList 10 4:Nat)) T
def Lr(s T:ByteArray):Value:=.agg #[.string (nmB s),.int .i64 (gY (wd s.data.toList 10 4:Nat)),.int .i64 (gM (wd s.data.toList 10 4:Nat)),.int .i64 (gD (wd s.data.toList 10 4:Nat)),.int .i64 (gH (wd s.data.toList 10 4:Nat)),.int .i64 (gI (wd s.data.toList 10 4:Nat)),.int .i64 (gS (wd s.data.toList 10 4:Nat)),T]
def noE:Value:=.agg ()
def Ry(s T:ByteArray):Bool:=decide (wd s.data.toList 14 4=aE 0 T.data.toList)&&(decide (wd s.data.toList 22 4=T.size)&&GB s T)
def iJ(s:ByteArray):Option ByteArray:=if hdB s then(match qE (wd s.data.toList 8 2) (bdB s)with
 | some T=>if Ry s T then some T else none
 | none=>none)else none
def rC(s:ByteArray):Value:=match iJ s with
 | some T=>.tuple #[Lr s T,.int .i64 ((30+wd s.data.toList 26 2+wd s.data.toList 18 4:Nat):Int),.bool true]
 | none=>.tuple #[noE,.int .i64 0,.bool false]
def xr(s:ByteArray):(nmB s).data.toList=(s.data.toList.drop 30).take (wd s.data.toList 26 2):=by
 unfold nmB;rw[ext_list,a1t]
def Nc(s:ByteArray):(bdB s).data.toList=(s.data.toList.drop (30+wd s.data.toList 26 2)).take (wd s.data.toList 18 4):=by
 unfold bdB;rw[ext_list,a1t]
def lM: hdB s=true<->30<=s.size/\nN s.data.toList=true/\30+wd s.data.toList 26 2+wd s.data.toList 18 4<=s.size:=by
 simp[hdB]
def ml(h:30+wd s.data.toList 26 2<=s.size):(nmB s).size=wd s.data.toList 26 2:=by
 unfold nmB;rw[a2e];omega
def Cr(h:30+wd s.data.toList 26 2+wd s.data.toList 18 4<=s.size):(bdB s).size=wd s.data.toList 18 4:=by
 unfold bdB;rw[a2e];omega
def txT(how:Nat)(b:ByteArray):ByteArray:=if how=0 then b else match cY b with
 | some (T,_)=>⟨T.toArray⟩
 | none=>⟨#[]⟩
def txO(how:Nat)(b:ByteArray):Bool:=(qE how b).isSome
def Uw(how:Nat)(b:ByteArray):qE how b=if txO how b=true then some (txT how b)else none:=by
 unfold txO txT qE;by_cases a:how=0
 . simp[a]
 .
  simp only[a0e a];by_cases c:how=8
  .
   simp only[a0d c];rcases cY b with _|⟨T,q⟩
   . simp
   . by_cases hq:q/8=b.size<;>simp[hq]
  . simp[c]
def sL{b:ByteArray}{T:List UInt8}{q:Nat}(a:cY b=some (T,q)):T.length<=300/\q<=5600:=by
 unfold cY at a
 split at a
 . have:=Ad a (by omega);exact⟨this.2.2.2 (by simp),by omega⟩
 . cases a
def FI{how:Nat}{b:ByteArray}(hb:b.size<=1048576):(txT how b).size<=1048576:=by
 unfold txT
 split
 . exact hb
 .
  rcases a:cY b with _|⟨T,q⟩
  . exact a0g _
  . have:=(sL a).1;show T.toArray.size<=_;simp;omega
def G4(how:Nat)(b:ByteArray)(w:World)(hb:b.size<=1048576)(j:how<65536) :
  Ds 94 #[.int .i64 (how:Int),b] w (.tuple #[.string (txT how b),.bool (txO how b)]):=by
 by_cases g:how=0
 .
  subst g;have e1:txT 0 b=b:=by simp[txT]
  have e2:txO 0 b=true:=by simp[txO,qE]
  rw[e1,e2];go_enter a3s,a3t;go_wp2
  go_ret2
  exact⟨rfl,a0c _ _⟩
 .
  have n:(how:Int)<65536:=by omega
  have k:((how:Int) == 0)=false:=by simp[g]
  have d:=af (fun W=>tC b W (by omega));rcases f:cY b with _|⟨T,q⟩
  .
   have e1:txT how b=⟨#[]⟩:=by simp[txT,g,f]
   have e2:txO how b=false:=by unfold txO qE;rw[a0e g,f];by_cases h:how=8<;>simp[h]
   rw[f]at d;rw[e1,e2];simp only[sM]at d;clear hb j f e1 e2 g;go_enter a3s,a3t;go_wp2_with fail;refine(d _).mono ?_;rintro e x1⟨rfl,a⟩;have c:=af a;clear a;go_wp2
   go_ret2
   exact⟨rfl,c⟩
  .
   obtain⟨o,hq⟩:=sL f;have e1:txT how b=⟨T.toArray⟩:=by simp[txT,g,f]
   have e2:txO how b=(decide (how=8)&&decide (q/8=b.size)):=by
    unfold txO qE;rw[a0e g,f];by_cases h:how=8
    . by_cases i:q/8=b.size<;>simp[h,i]
    . simp[h]
   rw[f]at d;rw[e1,e2];simp only[sM]at d;clear hb j f e1 e2 hq g;generalize (⟨T.toArray⟩:ByteArray)=X at *
   by_cases h:how=8
   .
    subst h;by_cases i:q/8=b.size
    .
     rw[show(decide (8=8)&&decide (q/8=b.size))=true by simp[i]];rw[i]at d;clear i;go_enter a3s,a3t;go_wp2_with fail;refine(d _).mono ?_;rintro e x1⟨rfl,a⟩;have c:=af a;clear a;go_wp2
     go_ret2
     exact⟨rfl,c⟩
    .
     have m:(((q/8:Nat):Int) == (b.size:Int))=false:=by simp;omega
     rw[show(decide (8=8)&&decide (q/8=b.size))=false by simp[i]];clear i;generalize q/8=q8 at *
     go_enter a3s,a3t;go_wp2_with fail;refine(d _).mono ?_;rintro e x1⟨rfl,a⟩;have c:=af a;clear a;go_wp2
     go_ret2
     exact⟨rfl,c⟩
   .
    have l:((how:Int) == 8)=false:=by simp;omega
    rw[show(decide (how=8)&&decide (q/8=b.size))=false by simp[h]];clear h;generalize q/8=q8 at *
    go_enter a3s,a3t;go_wp2_with fail;refine(d _).mono ?_;rintro e x1⟨rfl,a⟩;have c:=af a;clear a;go_wp2
    go_ret2
    exact⟨rfl,c⟩
