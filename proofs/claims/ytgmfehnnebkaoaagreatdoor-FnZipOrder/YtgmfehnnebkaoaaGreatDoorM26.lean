/- Of what the proof is made: 3 texts, one behind the other. -/
import Derived.Test.YtgmfehnnebkaoaaGreatDoorM21
import Derived.Test.YtgmfehnnebkaoaaGreatDoorM13
import Derived.Test.YtgmfehnnebkaoaaGreatDoorM15
import Derived.Test.YtgmfehnnebkaoaaGreatDoorM25
import Derived.Test.YtgmfehnnebkaoaaGreatDoorM4
import Derived.Test.YtgmfehnnebkaoaaGreatDoorShelf
set_option linter.unusedSimpArgs false
set_option linter.unusedVariables false
set_option maxHeartbeats 1600000
namespace Go.Proofs.YtgmfehnnebkaoaaGreatDoor
open Go.Proofs.Tryz
open Go.RowKit Corb
variable {a:Option Addr}{b:Nat}{l:List Int}{w w':World}
def iA(w:World)(b:Nat)(a:Option Addr)(l:List Int):Prop:=bo w a l/\(0<l.length->∀x,a=some x->x.block≠b/\∀cur fr,w.heap[x.block]?≠some (.cells cur 5 fr))
theorem iA.keep(h:iA w b a l)(k:bT b w w'):iA w' b a l:=by
 by_cases c:0<l.length
 .
  obtain⟨g,o,e,j,m⟩:=h.1 c;obtain⟨f,h2⟩:=h.2 c _ e;have hb:=k.2 g j f h2;refine⟨fun _=>⟨g,o,e,a0h j k.1,fun i n=>?_⟩,fun _ x ex=>?_⟩
  . rw[←m i n];exact World.cell?_of_block (w:=w) hb
  .
   have:x=⟨g,o,none⟩:=by rw[ex]at e;exact a1h e
   subst this;exact⟨f,fun d fr=>by rw[hb];exact h2 d fr⟩
 . exact⟨fun h=>absurd h c,fun h=>absurd h c⟩
theorem iA.below(h:iA w b a l)(hb:Below w.heap.size w w'):iA w' b a l:=h.keep ⟨hb.size,fun k c _ _=>hb.block k c⟩
theorem Li{base n cap:Nat}(k:l.length=n)(h:w.ownsRow base 3 1 (.slice a n cap) n (l.map (Value.int .i64)))(hb:b<base):iA w b a l:=by
 refine⟨A9 k h,fun m x ex=>?_⟩;subst ex;rcases h.2 with⟨e,_⟩|⟨g,c,f,e,i,j,_⟩
 . cases e
 . simp only[a0J,a0k]at e;obtain⟨rfl,_⟩:=e;refine⟨by show g≠b;omega,fun d fr=>?_⟩;show w.heap[g]?≠_;rw[j];intro e;cases e
theorem eV{base n cap:Nat}(c:l.length=n)(h:al w base (.slice a n cap) l)(hb:b<base):iA w b a l:=Li c (h.own c) hb
def aU(p:Nat×Nat)(l:List (Int×Int)):Nat×Nat:=iu p (nE l)
theorem bm(p:Nat×Nat)(l m:List (Int×Int)):aU p (l++m)=aU (aU p l) m:=by
 unfold aU nE;rw[a0I,mG]
def pcM(l:List Int)(k:Nat):Int×Int:=((rv (l.getD k 0).toNat ((bj l 15).2.getD k 0).toNat:Nat),l.getD k 0)
theorem Out.kept{V m:Nat}(h:Out w b V m)(hb:Below w.heap.size w w'):Out w' b V m:=by
 obtain⟨c,v,a,e⟩:=h;refine⟨c,v,Three.kept a (hb.mono a.2.2.2.2.2.2),?_⟩;exact a1J e (row:=none) ⟨hb.os,hb.tape,hb.output,hb.size,fun k d _=>hb.block k d⟩ (by
  cases f:v.ownBlock with
  | none=>exact .inl rfl
  | some k=>exact .inr (by simp))
theorem Out.lt{V m:Nat}(h:Out w b V m):b<w.heap.size:=by
 obtain⟨_,_,a,_⟩:=h;exact a.2.2.2.2.2.2
def jq(w:World)(b:Nat)(p:Nat×Nat):Prop:=Out w b p.1 p.2
theorem eJ(b:Nat)(p:Nat×Nat)(num bits:Int)(w:World)(h:jq w b p)(c:pOk num bits=true)(k:p.2<=100000) :
  Calls prog 194 #[.pointer (some ⟨b,0,none⟩),.int .i64 num,.int .i64 bits] w fun e w'=>e = .returned (.tuple #[])/\jq w' b (aU p [(num,bits)])/\KB b w w':=by
 obtain⟨⟨f,g⟩,n0,n1⟩:=aP.1 c;have a:num.toNat<p2 bits.toNat:=by
  have:(num.toNat:Int)<((p2 bits.toNat:Nat):Int):=by rw[a28 n0];exact n1
  omega
 have i:p2 bits.toNat<=p2 16:=a0T (by omega) (by omega);have e16:p2 16=65536:=by decide
 refine(Ls b p.1 p.2 num bits w h n0 (by omega) f g k).mono ?_;rintro e w' ⟨rfl,d,j⟩;refine⟨rfl,?_,j⟩;rw[a08 a]at d;exact d
theorem oq{k:Nat}(h:0<=l.getD k 0/\l.getD k 0<=15):pOk (pcM l k).1 (pcM l k).2=true:=by
 refine aP.2 ⟨⟨h.1,by show l.getD k 0<=16;omega⟩,by show(0:Int)<=((_:Nat):Int);omega,?_⟩;show((rv (l.getD k 0).toNat ((bj l 15).2.getD k 0).toNat:Nat):Int)<((p2 (l.getD k 0).toNat:Nat):Int);have:=LB (l.getD k 0).toNat ((bj l 15).2.getD k 0).toNat
 unfold p2;omega
theorem pH(b:Nat)(p:Nat×Nat)(a ac:Option Addr)(cap n u k:Nat)(l:List Int)(w:World)(v:jq w b p)(q:l.length=n)(h:bo w a l)(g:bo w ac (bj l 15).2)(y:k<n)(z:n<=300)(r:0<=l.getD k 0/\l.getD k 0<=15)(x:0<=(bj l 15).2.getD k 0/\(bj l 15).2.getD k 0<65536)(A:p.2<=100000) :
  Calls prog 229 #[.pointer (some ⟨b,0,none⟩),.slice a n cap,.slice ac n u,.int .i64 (k:Int)] w fun e w'=>e = .returned (.tuple #[])/\jq w' b (aU p [pcM l k])/\KB b w w':=by
 have HP:=af (Bkx.l3Piece_any a ac cap n u k l (bj l 15).2 w q ((cq l 15).trans q) h g y z r x);have j:=af (oq r);have f:Hid (pcM l k=(((rv (l.getD k 0).toNat ((bj l 15).2.getD k 0).toNat:Nat):Int),l.getD k 0)):=rfl;rw[ae f]at j;generalize pcM l k=PC at *
 generalize rv (l.getD k 0).toNat ((bj l 15).2.getD k 0).toNat=R at *
 generalize l.getD k 0=Y at *
 have s:=af v;clear v h g r x q;go_enter func229,ntmps229;go_wp2_with fail;refine(ae HP).mono ?_;rintro e x1 ⟨rfl,c⟩;have d:Below w.heap.size w (x1.alloc (.cells #[.int .i64 (R:Nat),.int .i64 Y] 139)):=c.alloc c.size _;have o:=af (Out.kept (ae s) d);have m:=af ((KB.refl b w).below d (a0w (Out.lt (ae s))));clear c d HP;go_wp2_with fail;refine(eJ b p (R:Nat) Y _ (ae o) (ae j) A).mono ?_;rintro e x2 ⟨rfl,h2,i⟩;have t:=af (a0b h2 ((ae m).trans i));clear h2 i;go_wp2
 go_end0
 exact⟨rfl,by rw[ae f];exact(ae t).1,(ae t).2⟩
def ce(a b:List UInt8):Bool:=a == b || (fu b a || fu a b)
theorem mB(a b:ByteArray)(w:World)(hb:(b.size:Int)<=1048576) :
  Calls prog 138 #[.string a,.string b] w fun e w'=>e = .returned (.bool (fu b.data.toList a.data.toList))/\w'=w:=by
 have d:Hid (∀W,Calls prog 57 #[.string a,.string (b++(⟨#[47]⟩:ByteArray))] W fun e w'=>e = .returned (.bool (fu b.data.toList a.data.toList))/\w'=W):=by
  intro W;have h:=Tryz.strings_HasPrefix a (b++(⟨#[47]⟩:ByteArray)) W;have e:Lib.hasPrefix a.data.toList (b++(⟨#[47]⟩:ByteArray)).data.toList=fu b.data.toList a.data.toList:=by
   unfold Lib.hasPrefix fu
   congr 1
  rw[e]at h;exact h
 go_enter func138,ntmps138;go_wp2_with fail;refine(ae d _).mono ?_;rintro e w1 ⟨rfl,c⟩;rw[c];clear c;go_wp2;go_ret;exact⟨rfl,rfl⟩
theorem eE{a b:ByteArray} : a.toList=b.toList<->a.data.toList=b.data.toList:=by rw[Lib.toList_data,Lib.toList_data]
theorem uu(a b:ByteArray)(w:World)(j:(a.size:Int)<=1048576)(hb:(b.size:Int)<=1048576) :
  Calls prog 92 #[.string a,.string b] w fun e w'=>e = .returned (.bool (ce a.data.toList b.data.toList))/\w'=w:=by
 have f:=af (fun W=>mB a b W hb);have i:=af (fun W=>mB b a W j);by_cases h:a.toList=b.toList
 .
  have d:Hid (ce a.data.toList b.data.toList=true):=by show _=_;simp[ce,eE.1 h]
  go_enter func92,ntmps92;go_wp2;go_ret;exact⟨ak (ae d).symm,rfl⟩
 .
  have g:(a.data.toList == b.data.toList)=false:=by simp only[a04,ne_eq];exact fun e=>h (eE.2 e)
  have k:(a.toList == b.toList)=false:=by simp only[a04,ne_eq];exact h
  have d:Hid (ce a.data.toList b.data.toList=(fu b.data.toList a.data.toList || fu a.data.toList b.data.toList)):=by show _=_;simp[ce,g]
  clear g;generalize fu b.data.toList a.data.toList=u1 at *
  generalize fu a.data.toList b.data.toList=u2 at *
  cases u1
  . go_enter func92,ntmps92;go_wp2_with fail;refine(ae f _).mono ?_;rintro e w1 ⟨rfl,c⟩;rw[c];clear c;go_wp2_with fail;refine(ae i _).mono ?_;rintro e w2 ⟨rfl,c⟩;rw[c];clear c;go_wp2;go_ret;exact⟨ak (by rw[ae d];rfl),rfl⟩
  . go_enter func92,ntmps92;go_wp2_with fail;refine(ae f _).mono ?_;rintro e w1 ⟨rfl,c⟩;rw[c];clear c;go_wp2;go_ret;exact⟨ak (by rw[ae d];rfl),rfl⟩
structure En where
 n:ByteArray
 y:Int
 mo:Int
 d:Int
 h:Int
 mi:Int
 s:Int
 t:ByteArray
instance:Inhabited En:=⟨⟨ByteArray.empty,0,0,0,0,0,0,ByteArray.empty⟩⟩
def Ow(w:World)(g o:Nat)(e:En):Prop:=
 w.cell? ⟨g,o,none⟩=some (.string e.n)/\w.cell? ⟨g,o+1,none⟩=some (.int .i64 e.y)/\w.cell? ⟨g,o+2,none⟩=some (.int .i64 e.mo)/\w.cell? ⟨g,o+3,none⟩=some (.int .i64 e.d) /\
 w.cell? ⟨g,o+4,none⟩=some (.int .i64 e.h)/\w.cell? ⟨g,o+5,none⟩=some (.int .i64 e.mi)/\w.cell? ⟨g,o+6,none⟩=some (.int .i64 e.s)/\w.cell? ⟨g,o+7,none⟩=some (.string e.t)
def iV(w:World)(a:Option Addr)(l:List En):Prop:=0<l.length->∃g o,a=some ⟨g,o,none⟩/\g<w.heap.size/\∀i,i<l.length->Ow w g (o+i*8) (l.getD i default)
theorem iV.later{l:List En}(h:iV w a l)(hb:Below w.heap.size w w'):iV w' a l:=by
 intro j;obtain⟨g,o,e,b,k⟩:=h j;refine⟨g,o,e,a0h b hb.size,fun i m=>?_⟩;obtain⟨c0,c1,c2,c3,c4,c,d,f⟩:=k i m;exact⟨(hb.cell (p:=⟨g,o+i*8,none⟩) b).trans c0,(hb.cell (p:=⟨g,o+i*8+1,none⟩) b).trans c1,(hb.cell (p:=⟨g,o+i*8+2,none⟩) b).trans c2,(hb.cell (p:=⟨g,o+i*8+3,none⟩) b).trans c3,
  (hb.cell (p:=⟨g,o+i*8+4,none⟩) b).trans c4,(hb.cell (p:=⟨g,o+i*8+5,none⟩) b).trans c,(hb.cell (p:=⟨g,o+i*8+6,none⟩) b).trans d,(hb.cell (p:=⟨g,o+i*8+7,none⟩) b).trans f⟩
def atN(l:List En)(x:ByteArray):Int:=match l.findIdx? (fun e=>e.n.data.toList == x.data.toList)with
 | some i=>(i:Int)
 | none=>-1
theorem EC{l:List En}{x:ByteArray}{k:Nat}(b:k<l.length)(h:∀j,j<k->¬ (l.getD j default).n.toList=x.toList)(e:(l.getD k default).n.toList=x.toList):atN l x=(k:Int):=by
 have:l.findIdx? (fun e=>e.n.data.toList == x.data.toList)=some k:=by
  rw[List.findIdx?_eq_some_iff_getElem];refine⟨b,?_,fun j c=>?_⟩
  . have:=eE.1 e;simp only[List.getD,List.getElem?_eq_getElem b,a1L]at this;simpa using this
  .
   have a:j<l.length:=by omega
   have:=h j c;simp only[List.getD,List.getElem?_eq_getElem a,a1L]at this;simp only[beq_iff_eq];exact fun e=>this (eE.2 e)
 unfold atN;rw[this]
theorem I4{l:List En}{x:ByteArray}(h:∀j,j<l.length->¬ (l.getD j default).n.toList=x.toList):atN l x = -1:=by
 have:l.findIdx? (fun e=>e.n.data.toList == x.data.toList)=none:=by
  rw[List.findIdx?_eq_none_iff];intro e b;obtain⟨j,a,rfl⟩:=a1N b;have:=h j a;simp only[List.getD,List.getElem?_eq_getElem a,a1L]at this;simp only[a04,ne_eq];exact fun e=>this (eE.2 e)
 unfold atN;rw[this]
theorem Ki(a:Option Addr)(cap:Nat)(l:List En)(n:Nat)(u:l.length=n)(x:ByteArray)(w:World)(h:iV w a l)(F:(n:Int)<=1048576) :
  Calls prog 32 #[.slice a n cap,.string x] w fun e w'=>e = .returned (.int .i64 (atN l x))/\w'=w:=by
 have v:=af (fun k (t:k<l.length)=>@EC l x k t);have y:=af (@I4 l x);have A:=af h;rw[u]at v y;have z:=af u;clear h u;go_enter func32,ntmps32;go_wp2_with fail
 go_loop [5] (fun i=>∃k:Nat,k<=n/\i = .int .i64 k/\∀j,j<k->¬ (l.getD j default).n.toList=x.toList) (fun i=>n-(intOf i).toNat)
 case atStart=>exact⟨0,a0g _,rfl,fun j C=>absurd C (by omega)⟩
 case round=>
  obtain⟨k,t,rfl,c⟩:=hrel;have b:=af c;clear c;by_cases m:k<n
  .
   have D:(k:Int)<(n:Int):=by omega
   obtain⟨g,o,rfl,E,B⟩:=ae A (by have:=ae z;omega);obtain⟨c0,_,_,_,_,_,_,_⟩:=B k (by have:=ae z;omega);have q:=af (ae v k m (ae b));have r:Hid (¬ (l.getD k default).n.toList=x.toList->∀j,j<k+1->¬ (l.getD j default).n.toList=x.toList):=by
    intro e j C;by_cases s:j=k
    . rw[s];exact e
    . exact ae b j (by omega)
   have f:=af m;clear B t b A;generalize (l.getD k default).n=p at *
   by_cases e:p.toList=x.toList
   . have d:=af (ae q e);go_wp2;go_ret;exact⟨aJ (ae d).symm,rfl⟩
   .
    have d:=af (ae r e);have eB:(p.toList == x.toList)=false:=by simp only[a04,ne_eq];exact e
    go_wp2
    go_round
    case rel=>exact⟨k+1,by have:=ae f;omega,by go_num,ae d⟩
    case measure=>have:=ae f;simp[intOf];omega
  .
   obtain rfl:k=n:=by omega
   have d:=af (ae y (ae b));go_wp2;go_ret;exact⟨aJ (ae d).symm,rfl⟩
end Go.Proofs.YtgmfehnnebkaoaaGreatDoor
