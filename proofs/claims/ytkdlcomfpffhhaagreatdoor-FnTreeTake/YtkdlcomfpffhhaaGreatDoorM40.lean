/- Of what the proof is made. -/
import Derived.Test.YtkdlcomfpffhhaaGreatDoorM37
import Derived.Test.YtkdlcomfpffhhaaGreatDoorM26
import Derived.Test.YtkdlcomfpffhhaaGreatDoorM6
import Derived.Test.YtkdlcomfpffhhaaGreatDoorM18
import Derived.Test.YtkdlcomfpffhhaaGreatDoorM30
import Derived.Test.YtkdlcomfpffhhaaGreatDoorM5
import Derived.Test.YtkdlcomfpffhhaaGreatDoorM8
set_option maxRecDepth 100000
set_option linter.unusedSimpArgs false
set_option linter.unusedVariables false
namespace Go.Proofs.YtkdlcomfpffhhaaGreatDoor
open Go.RowKit Corb
variable {d h mi mo s y:Int}{n t:ByteArray}
theorem mn.drew{w W:World}(k:mn w n y mo d h mi s t W):mn w n y mo d h mi s t W.drew:=⟨k.1.drew,k.2.1,k.2.2⟩
theorem mn.set{w W:World}(k:mn w n y mo d h mi s t W){A:Nat}(a:w.heap.size<A)(o:Nat)(v:Value):mn w n y mo d h mi s t (W.setCell ⟨A,o,none⟩ v):=by
 have e:(W.setCell ⟨A,o,none⟩ v).heap[w.heap.size]?=W.heap[w.heap.size]?:=a0T W ⟨A,o,none⟩ v w.heap.size (a1N a);obtain⟨b,c,e0,e1,e2,e3,e4,e5,e6,e7⟩:=k;exact⟨ap b (a0y a) _,by simpa using c,(World.cell?_of_block (w:=W) e).trans e0,(World.cell?_of_block (w:=W) e).trans e1,(World.cell?_of_block (w:=W) e).trans e2,(World.cell?_of_block (w:=W) e).trans e3,(World.cell?_of_block (w:=W) e).trans e4,(World.cell?_of_block (w:=W) e).trans e5,(World.cell?_of_block (w:=W) e).trans e6,(World.cell?_of_block (w:=W) e).trans e7⟩
theorem mw:∀(l cur:List UInt8),(∀p∈cM cur l,p.length<=10)->cur.length+l.length+1<=11*(cM cur l).length
 | [],cur,h=>by
  have:=h cur (by simp[cM]);simp[cM];omega
 | b :: l,cur,h=>by
  by_cases e:b=47
  . simp only[cM,a0e e]at h ⊢;have c:=h cur (by simp);have h2:=mw l [] (fun p a=>h p (by simp[a]));simp at h2 ⊢;omega
  . simp only[cM,a0d e]at h ⊢;have h2:=mw l (cur++[b]) h;simp at h2 ⊢;omega
theorem sr{l:List UInt8}(h:fG l=true):l.length<=43:=by
 simp only[fG,a0n,a06,a0E]at h;have:=mw l [] (fun p a=>by
  have:=h.1 p a;simp only[eF,a0n,a0E]at this;omega)
 have h2:=h.2;unfold lV at h2;simp at this;omega
theorem ee(k:fV n y mo d h mi s t=true):n.size<=43/\t.size<=300/\cb y mo d h mi s=true:=by
 simp only[fV,a0n,a0E]at k;have:=sr k.1;exact⟨by simpa using this,k.2.2,k.2.1⟩
theorem JM(k:cb y mo d h mi s=true):((0<=y/\y<=100000)/\(0<=mo/\mo<=100)/\(0<=d/\d<=100)/\(0<=h/\h<=100)/\(0<=mi/\mi<=100) /\ -100<=s/\s<=100)/\(((((y-1980)*16+mo)*32+d)*32+h)*64+mi)*32+Int.tdiv s 2=((stN y mo d h mi s).toNat:Int)/\(stN y mo d h mi s).toNat<4294967296/\stI y mo d h mi s=((stN y mo d h mi s).toNat:Int):=by
 have e1:stI y mo d h mi s=stN y mo d h mi s:=by simp[stI,k]
 obtain⟨f,b,hd,e,a,c,h2⟩:=N9 k;have e2:Int.tdiv s 2=s/2:=Int.tdiv_eq_ediv_of_nonneg c.1;have e3:0<=stN y mo d h mi s/\stN y mo d h mi s<4294967296:=by unfold stN;omega
 rw[e1,e2];have e4:(((((y-1980)*16+mo)*32+d)*32+h)*64+mi)*32+s/2=stN y mo d h mi s:=rfl;rw[e4];refine⟨by omega,by omega,by omega,by omega⟩
end Go.Proofs.YtkdlcomfpffhhaaGreatDoor
set_option maxRecDepth 100000
set_option linter.unusedSimpArgs false
set_option linter.unusedVariables false
set_option maxHeartbeats 1600000
namespace Go.Proofs.YtkdlcomfpffhhaaGreatDoor
open Corb
variable {s:ByteArray}
def pB(how:Nat)(b:ByteArray):Option ByteArray:=
 if how=0 then some b else if how=8 then(match dN b with
  | some (T,q)=>if q/8=b.size then some ⟨T.toArray⟩else none
  | none=>none)else none
def nmB(s:ByteArray):ByteArray:=s.extract 30 (30+wd s.data.toList 26 2)
def bdB(s:ByteArray):ByteArray:=s.extract (30+wd s.data.toList 26 2) (30+wd s.data.toList 26 2+wd s.data.toList 18 4)
def hdB(s:ByteArray):Bool:=decide (30<=s.size)&&(mB s.data.toList&&decide (30+wd s.data.toList 26 2+wd s.data.toList 18 4<=s.size))
def Ef(s T:ByteArray):Bool:=fV (nmB s) (gY (wd s.data.toList 10 4:Nat)) (gM (wd s.data.toList 10 4:Nat)) (gD (wd s.data.toList 10 4:Nat)) (gH (wd s.data.toList 10 4:Nat)) (gI (wd s.data.toList 10 4:Nat)) (gS (wd s.data.toList 10 4:Nat)) T
def E8(s T:ByteArray):Value:=.agg #[.string (nmB s),.int .i64 (gY (wd s.data.toList 10 4:Nat)),.int .i64 (gM (wd s.data.toList 10 4:Nat)),.int .i64 (gD (wd s.data.toList 10 4:Nat)),.int .i64 (gH (wd s.data.toList 10 4:Nat)),.int .i64 (gI (wd s.data.toList 10 4:Nat)),.int .i64 (gS (wd s.data.toList 10 4:Nat)),.string T]
def noE:Value:=.agg #[.string ⟨#[]⟩,.int .i64 0,.int .i64 0,.int .i64 0,.int .i64 0,.int .i64 0,.int .i64 0,.string ⟨#[]⟩]
def M5(s T:ByteArray):Bool:=decide (wd s.data.toList 14 4=aL 0 T.data.toList)&&(decide (wd s.data.toList 22 4=T.size)&&Ef s T)
def gt(s:ByteArray):Option ByteArray:=if hdB s then(match pB (wd s.data.toList 8 2) (bdB s)with
 | some T=>if M5 s T then some T else none
 | none=>none)else none
def nR(s:ByteArray):Value:=match gt s with
 | some T=>.tuple #[E8 s T,.int .i64 ((30+wd s.data.toList 26 2+wd s.data.toList 18 4:Nat):Int),.bool true]
 | none=>.tuple #[noE,.int .i64 0,.bool false]
theorem yE(s:ByteArray):(nmB s).data.toList=(s.data.toList.drop 30).take (wd s.data.toList 26 2):=by
 unfold nmB;rw[ext_list,a2o]
theorem jM: hdB s=true<->30<=s.size/\mB s.data.toList=true/\30+wd s.data.toList 26 2+wd s.data.toList 18 4<=s.size:=by
 simp[hdB]
theorem js(h:30+wd s.data.toList 26 2<=s.size):(nmB s).size=wd s.data.toList 26 2:=by
 unfold nmB;rw[a2f];omega
theorem wR(h:30+wd s.data.toList 26 2+wd s.data.toList 18 4<=s.size):(bdB s).size=wd s.data.toList 18 4:=by
 unfold bdB;rw[a2f];omega
open Go.RowKit
def txT(how:Nat)(b:ByteArray):ByteArray:=if how=0 then b else match dN b with
 | some (T,_)=>⟨T.toArray⟩
 | none=>⟨#[]⟩
def txO(how:Nat)(b:ByteArray):Bool:=(pB how b).isSome
theorem Nt(how:Nat)(b:ByteArray):pB how b=if txO how b=true then some (txT how b)else none:=by
 unfold txO txT pB;by_cases a:how=0
 . simp[a]
 .
  simp only[a0d a];by_cases c:how=8
  .
   simp only[a0e c];rcases dN b with _|⟨T,q⟩
   . simp
   . by_cases hq:q/8=b.size<;>simp[hq]
  . simp[c]
theorem oI{b:ByteArray}{T:List UInt8}{q:Nat}(a:dN b=some (T,q)):T.length<=300/\q<=5600:=by
 unfold dN at a
 split at a
 . have:=vn a (by omega);exact⟨this.2.2.2 (by simp),by omega⟩
 . cases a
theorem zI{how:Nat}{b:ByteArray}(hb:b.size<=1048576):(txT how b).size<=1048576:=by
 unfold txT
 split
 . exact hb
 .
  rcases a:dN b with _|⟨T,q⟩
  . exact a0h _
  . have:=(oI a).1;show T.toArray.size<=_;simp;omega
theorem Bf(how:Nat)(b:ByteArray)(w:World)(hb:b.size<=1048576)(j:how<65536) :
  CD 105 #[.int .i64 (how:Int),.string b] w (.tuple #[.string (txT how b),.bool (txO how b)]):=by
 by_cases g:how=0
 .
  subst g;have e1:txT 0 b=b:=by simp[txT]
  have e2:txO 0 b=true:=by simp[txO,pB]
  rw[e1,e2];go_enter a3l,a3m;go_wp2
  go_ret2
  exact⟨rfl,a0c _ _⟩
 .
  have n:(how:Int)<65536:=by omega
  have k:((how:Int) == 0)=false:=by simp[g]
  have d:=af (fun W=>pp b W (by omega));rcases f:dN b with _|⟨T,q⟩
  .
   have e1:txT how b=⟨#[]⟩:=by simp[txT,g,f]
   have e2:txO how b=false:=by unfold txO pB;rw[a0d g,f];by_cases h:how=8<;>simp[h]
   rw[f]at d;rw[e1,e2];simp only[oJ]at d;clear hb j f e1 e2 g;go_enter a3l,a3m;go_wp2_with fail;refine(ae d _).mono ?_;rintro e x1 ⟨rfl,a⟩;have c:=af a;clear a;go_wp2
   go_ret2
   exact⟨rfl,ae c⟩
  .
   obtain⟨o,hq⟩:=oI f;have e1:txT how b=⟨T.toArray⟩:=by simp[txT,g,f]
   have e2:txO how b=(decide (how=8)&&decide (q/8=b.size)):=by
    unfold txO pB;rw[a0d g,f];by_cases h:how=8
    . by_cases i:q/8=b.size<;>simp[h,i]
    . simp[h]
   rw[f]at d;rw[e1,e2];simp only[oJ]at d;clear hb j f e1 e2 hq g;generalize (⟨T.toArray⟩:ByteArray)=X at *
   by_cases h:how=8
   .
    subst h;by_cases i:q/8=b.size
    .
     rw[show(decide (8=8)&&decide (q/8=b.size))=true by simp[i]];rw[i]at d;clear i;go_enter a3l,a3m;go_wp2_with fail;refine(ae d _).mono ?_;rintro e x1 ⟨rfl,a⟩;have c:=af a;clear a;go_wp2
     go_ret2
     exact⟨rfl,ae c⟩
    .
     have m:(((q/8:Nat):Int) == (b.size:Int))=false:=by simp;omega
     rw[show(decide (8=8)&&decide (q/8=b.size))=false by simp[i]];clear i;generalize q/8=q8 at *
     go_enter a3l,a3m;go_wp2_with fail;refine(ae d _).mono ?_;rintro e x1 ⟨rfl,a⟩;have c:=af a;clear a;go_wp2
     go_ret2
     exact⟨rfl,ae c⟩
   .
    have l:((how:Int) == 8)=false:=by simp;omega
    rw[show(decide (how=8)&&decide (q/8=b.size))=false by simp[h]];clear h;generalize q/8=q8 at *
    go_enter a3l,a3m;go_wp2_with fail;refine(ae d _).mono ?_;rintro e x1 ⟨rfl,a⟩;have c:=af a;clear a;go_wp2
    go_ret2
    exact⟨rfl,ae c⟩
end Go.Proofs.YtkdlcomfpffhhaaGreatDoor
