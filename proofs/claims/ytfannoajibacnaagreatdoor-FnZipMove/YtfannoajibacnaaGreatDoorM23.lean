/- Texts. -/
import Derived.Test.YtfannoajibacnaaGreatDoorM5
import Derived.Test.YtfannoajibacnaaGreatDoorShelf
set_option linter.all false
set_option maxHeartbeats 800000
namespace Go.Proofs.YtfannoajibacnaaGreatDoor
open Go.Proofs.Tryz
open Go.RowKit
def cb(a b:List UInt8):Bool:=a == b || (gr b a || gr a b)
def og(a b:ByteArray)(w:World)(hb:(b.size:Int)<=1048576) :
  Calls prog 141 #[a,b] w fun e w'=>e = .returned (.bool (gr b.data.toList a.data.toList))/\w'=w:=by
 have d:Hid (∀W,Calls prog 63 #[a,.string (b++(⟨#[47]⟩:ByteArray))] W fun e w'=>e = .returned (.bool (gr b.data.toList a.data.toList))/\w'=W):=by
  intro W;have h:=Tryz.strings_HasPrefix a (b++(⟨#[47]⟩:ByteArray)) W;have e:Lib.hasPrefix a.data.toList (b++(⟨#[47]⟩:ByteArray)).data.toList=gr b.data.toList a.data.toList:=by
   unfold Lib.hasPrefix gr
   congr 1
  rw[e]at h;exact h
 go_enter func141,ntmps141;go_wp2_with fail;apply(d _).mono;rintro e w1⟨rfl,c⟩;rw[c];clear c;go_wp2;go_ret;exact⟨rfl,rfl⟩
def dt{a b:ByteArray} : a.toList=b.toList<->a.data.toList=b.data.toList:=by rw[a1S,a1S]
def xo(a b:ByteArray)(w:World)(j:(a.size:Int)<=1048576)(hb:(b.size:Int)<=1048576) :
  Calls prog 108 #[a,b] w fun e w'=>e = .returned (.bool (cb a.data.toList b.data.toList))/\w'=w:=by
 have f:=af (fun W=>og a b W hb);have i:=af (fun W=>og b a W j);by_cases h:a.toList=b.toList
 .
  have d:Hid (cb a.data.toList b.data.toList=true):=by show _=_;simp[cb,dt.1 h]
  go_enter func108,ntmps108;go_wp2;go_ret;exact⟨am d.symm,rfl⟩
 .
  have g:(a.data.toList == b.data.toList)=false:=by simp only[a0X,ne_eq];exact fun e=>h (dt.2 e)
  have k:(a.toList == b.toList)=false:=by simp only[a0X,ne_eq];exact h
  have d:Hid (cb a.data.toList b.data.toList=(gr b.data.toList a.data.toList || gr a.data.toList b.data.toList)):=by show _=_;simp[cb,g]
  clear g;generalize gr b.data.toList a.data.toList=u1,gr a.data.toList b.data.toList=u2 at *;cases u1
  . go_enter func108,ntmps108;go_wp2_with fail;apply(f _).mono;rintro e w1⟨rfl,c⟩;rw[c];clear c;go_wp2_with fail;apply(i _).mono;rintro e w2⟨rfl,c⟩;rw[c];clear c;go_wp2;go_ret;exact⟨am (by rw[ae d];rfl),rfl⟩
  . go_enter func108,ntmps108;go_wp2_with fail;apply(f _).mono;rintro e w1⟨rfl,c⟩;rw[c];clear c;go_wp2;go_ret;exact⟨am (by rw[ae d];rfl),rfl⟩
structure En where
 n:ByteArray
 y:Int
 mo:Int
 d:Int
 h:Int
 mi:Int
 s:Int
 t:ByteArray
instance:Coe En (Array Value):=⟨fun e=>#[.string e.n,.int .i64 e.y,.int .i64 e.mo,.int .i64 e.d,.int .i64 e.h,.int .i64 e.mi,.int .i64 e.s,.string e.t]⟩
instance:Inhabited En:=⟨⟨ByteArray.empty,0,0,0,0,0,0,ByteArray.empty⟩⟩
def Tt(w:World)(g o:Nat)(e:En):Prop:=
 w.cell? ⟨g,o,none⟩=some (.string e.n)/\w.cell? ⟨g,o+1,none⟩=some (.int .i64 e.y)/\w.cell? ⟨g,o+2,none⟩=some (.int .i64 e.mo)/\w.cell? ⟨g,o+3,none⟩=some (.int .i64 e.d) /\
 w.cell? ⟨g,o+4,none⟩=some (.int .i64 e.h)/\w.cell? ⟨g,o+5,none⟩=some (.int .i64 e.mi)/\w.cell? ⟨g,o+6,none⟩=some (.int .i64 e.s)/\w.cell? ⟨g,o+7,none⟩=some (.string e.t)
def iA(w:World)(a:Option Addr)(l:List En):Prop:=0<l.length->∃g o,a=some ⟨g,o,none⟩/\g<w.heap.size/\∀i,i<l.length->Tt w g (o+i*8) (l.getD i default)
def iA.later{w w':World}{a:Option Addr}{l:List En}(h:iA w a l)(hb:Below w.heap.size w w'):iA w' a l:=by
 intro j;obtain⟨g,o,e,b,k⟩:=h j;refine⟨g,o,e,a0h b hb.size,fun i m=>?_⟩;obtain⟨c0,c1,c2,c3,c4,c,d,f⟩:=k i m;exact⟨(hb.cell (p:=⟨g,o+i*8,none⟩) b).trans c0,(hb.cell (p:=⟨g,o+i*8+1,none⟩) b).trans c1,(hb.cell (p:=⟨g,o+i*8+2,none⟩) b).trans c2,(hb.cell (p:=⟨g,o+i*8+3,none⟩) b).trans c3,
  (hb.cell (p:=⟨g,o+i*8+4,none⟩) b).trans c4,(hb.cell (p:=⟨g,o+i*8+5,none⟩) b).trans c,(hb.cell (p:=⟨g,o+i*8+6,none⟩) b).trans d,(hb.cell (p:=⟨g,o+i*8+7,none⟩) b).trans f⟩
def atN(l:List En)(x:ByteArray):Int:=match l.findIdx? (fun e=>e.n.data.toList == x.data.toList)with
 | some i=>(i:Int)
 | none=>-1
def uZ{l:List En}{x:ByteArray}{k:Nat}(b:k<l.length)(h:∀j,j<k->¬ (l.getD j default).n.toList=x.toList)(e:(l.getD k default).n.toList=x.toList):atN l x=(k:Int):=by
 have:l.findIdx? (fun e=>e.n.data.toList == x.data.toList)=some k:=by
  rw[List.findIdx?_eq_some_iff_getElem];refine⟨b,?_,fun j c=>?_⟩
  . have:=dt.1 e;simp only[List.getD,List.getElem?_eq_getElem b,a1K]at this;simpa using this
  .
   have a:j<l.length:=(by omega);have:=h j c;simp only[List.getD,List.getElem?_eq_getElem a,a1K]at this;simp only[a2A];exact fun e=>this (dt.2 e)
 unfold atN;rw[this]
def qM{l:List En}{x:ByteArray}(h:∀j,j<l.length->¬ (l.getD j default).n.toList=x.toList):atN l x = -1:=by
 have:l.findIdx? (fun e=>e.n.data.toList == x.data.toList)=none:=by
  rw[List.findIdx?_eq_none_iff];intro e b;obtain⟨j,a,rfl⟩:=a1M b;have:=h j a;simp only[List.getD,List.getElem?_eq_getElem a,a1K]at this;simp only[a0X,ne_eq];exact fun e=>this (dt.2 e)
 unfold atN;rw[this]
def wL(a:Option Addr)(cap:Nat)(l:List En)(n:Nat)(u:l.length=n)(x:ByteArray)(w:World)(h:iA w a l)(F:(n:Int)<=1048576) :
  Calls prog 24 #[.slice a n cap,x] w fun e w'=>e = .returned (.int .i64 (atN l x))/\w'=w:=by
 have v:=af (fun k (t:k<l.length)=>@uZ l x k t);have y:=af (@qM l x);have A:=af h;rw[u]at v y;have z:=af u;clear h u;go_enter func24,ntmps24;go_wp2_with fail
 go_loop [5] (fun i=>∃k:Nat,k<=n/\i = .int .i64 k/\∀j,j<k->¬ (l.getD j default).n.toList=x.toList) (fun i=>n-(intOf i).toNat)
 case atStart=>exact⟨0,a0g _,rfl,fun j C=>absurd C (by omega)⟩
 case round=>
  obtain⟨k,t,rfl,c⟩:=hrel;have b:=af c;clear c;by_cases m:k<n
  .
   have D:(k:Int)<(n:Int):=(by omega);obtain⟨g,o,rfl,E,B⟩:=ae A (by have:=ae z;omega);obtain⟨c0,_,_,_,_,_,_,_⟩:=B k (by have:=ae z;omega);have q:=af (ae v k m (ae b));have r:Hid (¬ (l.getD k default).n.toList=x.toList->∀j,j<k+1->¬ (l.getD j default).n.toList=x.toList):=by
    intro e j C;by_cases s:j=k
    . rw[s];exact e
    . exact b j (by omega)
   have f:=af m;clear B t b A;generalize (l.getD k default).n=p at *;by_cases e:p.toList=x.toList
   . have d:=af (ae q e);go_wp2;go_ret;exact⟨aJ d.symm,rfl⟩
   .
    have d:=af (ae r e);have eB:(p.toList == x.toList)=false:=by simp only[a0X,ne_eq];exact e
    go_wp2
    go_round
    case rel=>exact⟨k+1,by have:=ae f;omega,by go_num,d⟩
    case measure=>have:=ae f;simp[intOf];omega
  .
   obtain rfl:k=n:=by omega
   have d:=af (ae y (ae b));go_wp2;go_ret;exact⟨aJ d.symm,rfl⟩
