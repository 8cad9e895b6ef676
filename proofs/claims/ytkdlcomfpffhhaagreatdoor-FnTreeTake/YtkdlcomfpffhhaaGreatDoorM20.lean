/- Of what the proof is made: 2 texts, one behind the other. -/
import Derived.Test.YtkdlcomfpffhhaaGreatDoorM4
import Derived.Test.YtkdlcomfpffhhaaGreatDoorShelf
set_option linter.unusedSimpArgs false
set_option linter.unusedVariables false
set_option maxHeartbeats 800000
namespace Go.Proofs.YtkdlcomfpffhhaaGreatDoor
open Go.Proofs.Tryz
open Go.RowKit
def aZ(a b:List UInt8):Bool:=a == b || (ce b a || ce a b)
theorem kQ(a b:ByteArray)(w:World)(hb:(b.size:Int)<=1048576) :
  Calls prog 56 #[.string a,.string b] w fun e w'=>e = .returned (.bool (ce b.data.toList a.data.toList))/\w'=w:=by
 have d:Hid (∀W,Calls prog 77 #[.string a,.string (b++(⟨#[47]⟩:ByteArray))] W fun e w'=>e = .returned (.bool (ce b.data.toList a.data.toList))/\w'=W):=by
  intro W;have h:=Tryz.strings_HasPrefix a (b++(⟨#[47]⟩:ByteArray)) W;have e:Lib.hasPrefix a.data.toList (b++(⟨#[47]⟩:ByteArray)).data.toList=ce b.data.toList a.data.toList:=by
   unfold Lib.hasPrefix ce
   congr 1
  rw[e]at h;exact h
 go_enter func56,ntmps56;go_wp2_with fail;refine(ae d _).mono ?_;rintro e w1 ⟨rfl,c⟩;rw[c];clear c;go_wp2;go_ret;exact⟨rfl,rfl⟩
theorem bY{a b:ByteArray} : a.toList=b.toList<->a.data.toList=b.data.toList:=by rw[a08,a08]
theorem kR(a b:ByteArray)(w:World)(j:(a.size:Int)<=1048576)(hb:(b.size:Int)<=1048576) :
  Calls prog 26 #[.string a,.string b] w fun e w'=>e = .returned (.bool (aZ a.data.toList b.data.toList))/\w'=w:=by
 have f:=af (fun W=>kQ a b W hb);have i:=af (fun W=>kQ b a W j);by_cases h:a.toList=b.toList
 .
  have d:Hid (aZ a.data.toList b.data.toList=true):=by show _=_;simp[aZ,bY.1 h]
  go_enter func26,ntmps26;go_wp2;go_ret;exact⟨aj (ae d).symm,rfl⟩
 .
  have g:(a.data.toList == b.data.toList)=false:=by simp only[a03,ne_eq];exact fun e=>h (bY.2 e)
  have k:(a.toList == b.toList)=false:=by simp only[a03,ne_eq];exact h
  have d:Hid (aZ a.data.toList b.data.toList=(ce b.data.toList a.data.toList || ce a.data.toList b.data.toList)):=by show _=_;simp[aZ,g]
  clear g;generalize ce b.data.toList a.data.toList=u1 at *
  generalize ce a.data.toList b.data.toList=u2 at *
  cases u1
  . go_enter func26,ntmps26;go_wp2_with fail;refine(ae f _).mono ?_;rintro e w1 ⟨rfl,c⟩;rw[c];clear c;go_wp2_with fail;refine(ae i _).mono ?_;rintro e w2 ⟨rfl,c⟩;rw[c];clear c;go_wp2;go_ret;exact⟨aj (by rw[ae d];rfl),rfl⟩
  . go_enter func26,ntmps26;go_wp2_with fail;refine(ae f _).mono ?_;rintro e w1 ⟨rfl,c⟩;rw[c];clear c;go_wp2;go_ret;exact⟨aj (by rw[ae d];rfl),rfl⟩
structure En where
 n:ByteArray
 y:Int
 mo:Int
 d:Int
 h:Int
 mi:Int
 s:Int
 t:ByteArray
instance:Inhabited En:=⟨⟨ByteArray.empty,0,0,0,0,0,0,ByteArray.empty⟩⟩
def MJ(w:World)(g o:Nat)(e:En):Prop:=
 w.cell? ⟨g,o,none⟩=some (.string e.n)/\w.cell? ⟨g,o+1,none⟩=some (.int .i64 e.y)/\w.cell? ⟨g,o+2,none⟩=some (.int .i64 e.mo)/\w.cell? ⟨g,o+3,none⟩=some (.int .i64 e.d) /\
 w.cell? ⟨g,o+4,none⟩=some (.int .i64 e.h)/\w.cell? ⟨g,o+5,none⟩=some (.int .i64 e.mi)/\w.cell? ⟨g,o+6,none⟩=some (.int .i64 e.s)/\w.cell? ⟨g,o+7,none⟩=some (.string e.t)
def lT(w:World)(a:Option Addr)(l:List En):Prop:=0<l.length->∃g o,a=some ⟨g,o,none⟩/\g<w.heap.size/\∀i,i<l.length->MJ w g (o+i*8) (l.getD i default)
theorem lT.later{w w':World}{a:Option Addr}{l:List En}(h:lT w a l)(hb:Below w.heap.size w w'):lT w' a l:=by
 intro j;obtain⟨g,o,e,b,k⟩:=h j;refine⟨g,o,e,a0i b hb.size,fun i m=>?_⟩;obtain⟨c0,c1,c2,c3,c4,c,d,f⟩:=k i m;exact⟨(hb.cell (p:=⟨g,o+i*8,none⟩) b).trans c0,(hb.cell (p:=⟨g,o+i*8+1,none⟩) b).trans c1,(hb.cell (p:=⟨g,o+i*8+2,none⟩) b).trans c2,(hb.cell (p:=⟨g,o+i*8+3,none⟩) b).trans c3,
  (hb.cell (p:=⟨g,o+i*8+4,none⟩) b).trans c4,(hb.cell (p:=⟨g,o+i*8+5,none⟩) b).trans c,(hb.cell (p:=⟨g,o+i*8+6,none⟩) b).trans d,(hb.cell (p:=⟨g,o+i*8+7,none⟩) b).trans f⟩
def atN(l:List En)(x:ByteArray):Int:=match l.findIdx? (fun e=>e.n.data.toList == x.data.toList)with
 | some i=>(i:Int)
 | none=>-1
theorem Co{l:List En}{x:ByteArray}{k:Nat}(b:k<l.length)(h:∀j,j<k->¬ (l.getD j default).n.toList=x.toList)(e:(l.getD k default).n.toList=x.toList):atN l x=(k:Int):=by
 have:l.findIdx? (fun e=>e.n.data.toList == x.data.toList)=some k:=by
  rw[List.findIdx?_eq_some_iff_getElem];refine⟨b,?_,fun j c=>?_⟩
  . have:=bY.1 e;simp only[List.getD,List.getElem?_eq_getElem b,a1q]at this;simpa using this
  .
   have a:j<l.length:=by omega
   have:=h j c;simp only[List.getD,List.getElem?_eq_getElem a,a1q]at this;simp only[a2U];exact fun e=>this (bY.2 e)
 unfold atN;rw[this]
theorem GF{l:List En}{x:ByteArray}(h:∀j,j<l.length->¬ (l.getD j default).n.toList=x.toList):atN l x = -1:=by
 have:l.findIdx? (fun e=>e.n.data.toList == x.data.toList)=none:=by
  rw[List.findIdx?_eq_none_iff];intro e b;obtain⟨j,a,rfl⟩:=a2b b;have:=h j a;simp only[List.getD,List.getElem?_eq_getElem a,a1q]at this;simp only[a03,ne_eq];exact fun e=>this (bY.2 e)
 unfold atN;rw[this]
theorem Iz(a:Option Addr)(cap:Nat)(l:List En)(n:Nat)(u:l.length=n)(x:ByteArray)(w:World)(h:lT w a l)(F:(n:Int)<=1048576) :
  Calls prog 102 #[.slice a n cap,.string x] w fun e w'=>e = .returned (.int .i64 (atN l x))/\w'=w:=by
 have v:=af (fun k (t:k<l.length)=>@Co l x k t);have y:=af (@GF l x);have A:=af h;rw[u]at v y;have z:=af u;clear h u;go_enter func102,ntmps102;go_wp2_with fail
 go_loop [5] (fun i=>∃k:Nat,k<=n/\i = .int .i64 k/\∀j,j<k->¬ (l.getD j default).n.toList=x.toList) (fun i=>n-(intOf i).toNat)
 case atStart=>exact⟨0,a0h _,rfl,fun j C=>absurd C (by omega)⟩
 case round=>
  obtain⟨k,t,rfl,c⟩:=hrel;have b:=af c;clear c;by_cases m:k<n
  .
   have D:(k:Int)<(n:Int):=by omega
   obtain⟨g,o,rfl,E,B⟩:=ae A (by have:=ae z;omega);obtain⟨c0,_,_,_,_,_,_,_⟩:=B k (by have:=ae z;omega);have q:=af (ae v k m (ae b));have r:Hid (¬ (l.getD k default).n.toList=x.toList->∀j,j<k+1->¬ (l.getD j default).n.toList=x.toList):=by
    intro e j C;by_cases s:j=k
    . rw[s];exact e
    . exact ae b j (by omega)
   have f:=af m;clear B t b A;generalize (l.getD k default).n=p at *
   by_cases e:p.toList=x.toList
   . have d:=af (ae q e);go_wp2;go_ret;exact⟨aO (ae d).symm,rfl⟩
   .
    have d:=af (ae r e);have eB:(p.toList == x.toList)=false:=by simp only[a03,ne_eq];exact e
    go_wp2
    go_round
    case rel=>exact⟨k+1,by have:=ae f;omega,by go_num,ae d⟩
    case measure=>have:=ae f;simp[intOf];omega
  .
   obtain rfl:k=n:=by omega
   have d:=af (ae y (ae b));go_wp2;go_ret;exact⟨aO (ae d).symm,rfl⟩
end Go.Proofs.YtkdlcomfpffhhaaGreatDoor
