/- Texts. -/
import Derived.Test.YtckocaibjciplaaGreatDoorM17
import Derived.Test.YtckocaibjciplaaGreatDoorM11
import Derived.Test.YtckocaibjciplaaGreatDoorM5
import Derived.Test.YtckocaibjciplaaGreatDoorShelf
set_option linter.all false
set_option maxHeartbeats 800000
namespace Go.Proofs.YtckocaibjciplaaGreatDoor
open Go.Proofs.Tryz
open Go.RowKit Corb
variable {D L:List Int}{T:List UInt8}{V k p q r sz:Nat}{i:Int}
def Qf{l:List Int}{f n:Nat}(b:n+f=15)(d:nx l n<=cd V p n)(h:oP l V sz p f n=some (i,q)):q<=sz/\p<q/\0<=i/\i<(l.length:Int):=by
 induction f generalizing n with
 | zero=>simp[oP]at h
 | succ f ih=>
  by_cases a:sz<p+n+1
  . rw[pu a]at h;cases h
  .
   by_cases h2:cd V p (n+1)<nx l (n+1)
   . rw[ql a h2]at h;simp only[a0k,a0R]at h;obtain⟨rfl,rfl⟩:=h;obtain⟨k,g,_,_,e⟩:=sO (l:=l) (n:=n) (c:=cd V p (n+1)) (by omega) (by simp only[cd];omega) h2;rw[e];omega
   . rw[om a h2]at h;exact ih (by omega) (by omega) h
def gg{l:List Int}(h:dec l V sz p=some (i,q)):q<=sz/\p<q/\0<=i/\i<(l.length:Int):=Qf rfl (a0g _) h
def rdN(V sz p k:Nat):Option (Nat×Nat):=if p+k<=sz then some (V/2 ^ p%2 ^ k,p+k)else none
def cV(h:p+k<=sz):rdN V sz p k=some (V/2 ^ p%2 ^ k,p+k):=a0d h
def fB(h:¬ p+k<=sz):rdN V sz p k=none:=a0e h
def bK{x:Nat}(h:rdN V sz p k=some (x,q)):q<=sz/\q=p+k/\x=V/2 ^ p%2 ^ k/\x<2 ^ k:=by
 unfold rdN at h
 split at h
 . simp only[a0k,a0R]at h;obtain⟨rfl,rfl⟩:=h;exact⟨by assumption,rfl,rfl,a00 _ (a1n k)⟩
 . cases h
def scG(V sz least group many k q:Nat):Option (Nat×Nat):=if k<many then(rdN V sz q (stF least group k).2).bind fun x=>some ((stF least group k).1+x.1,x.2)else none
def gn(V sz:Nat)(D:List Int)(k q:Nat):Option (Tk×Nat):=
 (scG V sz 3 4 28 k q).bind fun a=>(dec D V sz a.2).bind fun j=>(scG V sz 1 2 30 j.1.toNat j.2).bind fun c=>some ((0,((a.1:Nat):Int),((c.1:Nat):Int)),c.2)
def oneG(V sz:Nat)(D:List Int)(k:Int)(q:Nat):Option (Tk×Nat):=if k<256 then some ((k,0,0),q)else gn V sz D (k.toNat-257) q
def GJ{least group many x:Nat}(h:scG V sz least group many k q=some (x,r)):r<=sz/\q<=r:=by
 unfold scG at h
 split at h
 .
  rcases a:rdN V sz q (stF least group k).2 with _|⟨y,t⟩
  . rw[a]at h;cases h
  . rw[a]at h;simp only[a0f,a0k,a0R]at h;have:=bK a;omega
 . cases h
def Bo{t:Tk}(h:gn V sz D k q=some (t,r)):r<=sz/\q<=r:=by
 unfold gn at h;rcases b:scG V sz 3 4 28 k q with _|⟨a,a2⟩
 . rw[b]at h;cases h
 rw[b]at h;simp only[a0f]at h;rcases h2:dec D V sz a2 with _|⟨j,j2⟩
 . rw[h2]at h;cases h
 rw[h2]at h;simp only[a0f]at h;rcases d:scG V sz 1 2 30 j.toNat j2 with _|⟨c,c2⟩
 . rw[d]at h;cases h
 rw[d]at h;simp only[a0f,a0k,a0R]at h;have e:=GJ b;have f:=gg h2;have g:=GJ d;omega
def uz{k:Int}{t:Tk}(h:oneG V sz D k q=some (t,r))(hq:q<=sz):r<=sz/\q<=r:=by
 unfold oneG at h
 split at h
 . simp only[a0k,a0R]at h;omega
 . exact Bo h
def pT(V sz:Nat)(L D:List Int):Nat->Nat->List UInt8->Option (List UInt8×Nat)
 | 0,_,_=>none
 | f+1,p,T=>(dec L V sz p).bind fun k=>if k.1=256 then some (T,k.2)else(oneG V sz D k.1 k.2).bind fun t=>(fH T t.1).bind fun T'=>pT V sz L D f t.2 T'
def iy(V sz:Nat)(L D:List Int)(p:Nat)(T:List UInt8):Option (List UInt8×Nat):=pT V sz L D (sz+1-p) p T
def Lk: ∀(n f p:Nat) (T:List UInt8),sz+1-p<=n->sz+1-p<=f->pT V sz L D f p T=pT V sz L D (sz+1-p) p T:=by
 intro n;induction n with
 | zero=>
  intro f p T b h2;have e:sz+1-p=0:=by omega
  rw[e];cases f with
  | zero=>rfl
  | succ f=>
   have hd:dec L V sz p=none:=by
    rcases h:dec L V sz p with _|⟨i,q⟩
    . rfl
    . have:=gg h;omega
   simp only[pT,hd,a2c]
 | succ n ih=>
  intro f p T b h2;rcases hd:dec L V sz p with _|⟨i,q⟩
  .
   cases f with
   | zero=>rw[show sz+1-p=0 by omega]
   | succ f=>
    rcases a:sz+1-p with _|m
    . simp only[pT,hd,a2c]
    . simp only[pT,hd,a2c]
  .
   have hb:=gg hd;obtain⟨f',rfl⟩:∃g,f=g+1:=⟨f-1,by omega⟩;obtain⟨m,a⟩:∃g,sz+1-p=g+1:=⟨sz-p,by omega⟩;rw[a];simp only[pT,hd,a0f]
   split
   . rfl
   .
    rcases c:oneG V sz D i q with _|⟨t,r⟩
    . rfl
    .
     simp only[a0f];have d:=uz c hb.1;rcases fH T t with _|T'
     . rfl
     . simp only[a0f];rw[ih f' r T' (by omega) (by omega),ih m r T' (by omega) (by omega)]
def y9(h:dec L V sz p=none):iy V sz L D p T=none:=by
 unfold iy;rcases a:sz+1-p with _|m
 . rfl
 . simp only[pT,h,a2c]
def wZ(h:dec L V sz p=some (256,q)):iy V sz L D p T=some (T,q):=by
 have hb:=gg h;unfold iy;obtain⟨m,hm⟩:∃g,sz+1-p=g+1:=⟨sz-p,by omega⟩;rw[hm];simp only[pT,h,a0f,a0V]
def sS(h:dec L V sz p=some (i,q))(a:i≠256):iy V sz L D p T=(oneG V sz D i q).bind fun t=>(fH T t.1).bind fun T'=>iy V sz L D t.2 T':=by
 have hb:=gg h;unfold iy;obtain⟨m,hm⟩:∃g,sz+1-p=g+1:=⟨sz-p,by omega⟩;rw[hm];simp only[pT,h,a0f,a0e a];rcases b:oneG V sz D i q with _|⟨t,r⟩
 . rfl
 .
  simp only[a0f];have c:=uz b hb.1;rcases fH T t with _|T'
  . rfl
  . simp only[a0f];exact Lk m m r T' (by omega) (by omega)
def Rs: ∀(f p:Nat) (T T':List UInt8) (q:Nat),pT V sz L D f p T=some (T',q)->q<=sz/\p<q/\(T.length<=300->T'.length<=300):=by
 intro f;induction f with
 | zero=>intro p T T' q h;simp[pT]at h
 | succ f ih=>
  intro p T T' q h;rcases hd:dec L V sz p with _|⟨i,r⟩
  . simp[pT,hd]at h
  .
   have hb:=gg hd;simp only[pT,hd,a0f]at h
   split at h
   . simp only[a0k,a0R]at h;obtain⟨rfl,rfl⟩:=h;exact⟨hb.1,hb.2.1,id⟩
   .
    rcases b:oneG V sz D i r with _|⟨t,u⟩
    . rw[b]at h;simp at h
    .
     rw[b]at h;simp only[a0f]at h;have e:=uz b hb.1;rcases a:fH T t with _|T2
     . rw[a]at h;simp at h
     . rw[a]at h;simp only[a0f]at h;obtain⟨c,h2,d⟩:=ih u T2 T' q h;exact⟨c,by omega,fun _=>d (pY a)⟩
def AV{T':List UInt8}(h:iy V sz L D p T=some (T',q)):q<=sz/\p<q/\(T.length<=300->T'.length<=300):=Rs _ _ _ _ _ h
def bW(a b:List UInt8):Bool:=a == b || (fW b a || fW a b)
def nE(a b:ByteArray)(w:World)(hb:(b.size:Int)<=1048576) :
  Calls prog 115 #[a,b] w fun e w'=>e = .returned (.bool (fW b.data.toList a.data.toList))/\w'=w:=by
 have d:Hid (∀W,Calls prog 56 #[a,.string (b++(⟨#[47]⟩:ByteArray))] W fun e w'=>e = .returned (.bool (fW b.data.toList a.data.toList))/\w'=W):=by
  intro W;have h:=Tryz.strings_HasPrefix a (b++(⟨#[47]⟩:ByteArray)) W;have e:Lib.hasPrefix a.data.toList (b++(⟨#[47]⟩:ByteArray)).data.toList=fW b.data.toList a.data.toList:=by
   unfold Lib.hasPrefix fW
   congr 1
  rw[e]at h;exact h
 go_enter func115,ntmps115;go_wp2_with fail;apply(d _).mono;rintro e w1⟨rfl,c⟩;rw[c];clear c;go_wp2;go_ret;exact⟨rfl,rfl⟩
def dw{a b:ByteArray} : a.toList=b.toList<->a.data.toList=b.data.toList:=by rw[a1Q,a1Q]
def wl(a b:ByteArray)(w:World)(j:(a.size:Int)<=1048576)(hb:(b.size:Int)<=1048576) :
  Calls prog 80 #[a,b] w fun e w'=>e = .returned (.bool (bW a.data.toList b.data.toList))/\w'=w:=by
 have f:=af (fun W=>nE a b W hb);have i:=af (fun W=>nE b a W j);by_cases h:a.toList=b.toList
 .
  have d:Hid (bW a.data.toList b.data.toList=true):=by show _=_;simp[bW,dw.1 h]
  go_enter func80,ntmps80;go_wp2;go_ret;exact⟨am d.symm,rfl⟩
 .
  have g:(a.data.toList == b.data.toList)=false:=by simp only[a0Z,ne_eq];exact fun e=>h (dw.2 e)
  have k:(a.toList == b.toList)=false:=by simp only[a0Z,ne_eq];exact h
  have d:Hid (bW a.data.toList b.data.toList=(fW b.data.toList a.data.toList || fW a.data.toList b.data.toList)):=by show _=_;simp[bW,g]
  clear g;generalize fW b.data.toList a.data.toList=u1,fW a.data.toList b.data.toList=u2 at *;cases u1
  . go_enter func80,ntmps80;go_wp2_with fail;apply(f _).mono;rintro e w1⟨rfl,c⟩;rw[c];clear c;go_wp2_with fail;apply(i _).mono;rintro e w2⟨rfl,c⟩;rw[c];clear c;go_wp2;go_ret;exact⟨am (by rw[ae d];rfl),rfl⟩
  . go_enter func80,ntmps80;go_wp2_with fail;apply(f _).mono;rintro e w1⟨rfl,c⟩;rw[c];clear c;go_wp2;go_ret;exact⟨am (by rw[ae d];rfl),rfl⟩
structure En where
 n:ByteArray
 y:Int
 mo:Int
 d:Int
 h:Int
 mi:Int
 s:Int
 t:ByteArray
instance:Coe En (Array Value):=⟨fun e=>#[.string e.n,.int .i64 e.y,.int .i64 e.mo,.int .i64 e.d,.int .i64 e.h,.int .i64 e.mi,.int .i64 e.s,.string e.t]⟩
instance:Inhabited En:=⟨⟨ByteArray.empty,0,0,0,0,0,0,ByteArray.empty⟩⟩
def RU(w:World)(g o:Nat)(e:En):Prop:=
 w.cell? ⟨g,o,none⟩=some (.string e.n)/\w.cell? ⟨g,o+1,none⟩=some (.int .i64 e.y)/\w.cell? ⟨g,o+2,none⟩=some (.int .i64 e.mo)/\w.cell? ⟨g,o+3,none⟩=some (.int .i64 e.d) /\
 w.cell? ⟨g,o+4,none⟩=some (.int .i64 e.h)/\w.cell? ⟨g,o+5,none⟩=some (.int .i64 e.mi)/\w.cell? ⟨g,o+6,none⟩=some (.int .i64 e.s)/\w.cell? ⟨g,o+7,none⟩=some (.string e.t)
def jI(w:World)(a:Option Addr)(l:List En):Prop:=0<l.length->∃g o,a=some ⟨g,o,none⟩/\g<w.heap.size/\∀i,i<l.length->RU w g (o+i*8) (l.getD i default)
def jI.later{w w':World}{a:Option Addr}{l:List En}(h:jI w a l)(hb:Below w.heap.size w w'):jI w' a l:=by
 intro j;obtain⟨g,o,e,b,k⟩:=h j;refine⟨g,o,e,a0h b hb.size,fun i m=>?_⟩;obtain⟨c0,c1,c2,c3,c4,c,d,f⟩:=k i m;exact⟨(hb.cell (p:=⟨g,o+i*8,none⟩) b).trans c0,(hb.cell (p:=⟨g,o+i*8+1,none⟩) b).trans c1,(hb.cell (p:=⟨g,o+i*8+2,none⟩) b).trans c2,(hb.cell (p:=⟨g,o+i*8+3,none⟩) b).trans c3,
  (hb.cell (p:=⟨g,o+i*8+4,none⟩) b).trans c4,(hb.cell (p:=⟨g,o+i*8+5,none⟩) b).trans c,(hb.cell (p:=⟨g,o+i*8+6,none⟩) b).trans d,(hb.cell (p:=⟨g,o+i*8+7,none⟩) b).trans f⟩
def atN(l:List En)(x:ByteArray):Int:=match l.findIdx? (fun e=>e.n.data.toList == x.data.toList)with
 | some i=>(i:Int)
 | none=>-1
def uq{l:List En}{x:ByteArray}{k:Nat}(b:k<l.length)(h:∀j,j<k->¬ (l.getD j default).n.toList=x.toList)(e:(l.getD k default).n.toList=x.toList):atN l x=(k:Int):=by
 have:l.findIdx? (fun e=>e.n.data.toList == x.data.toList)=some k:=by
  rw[List.findIdx?_eq_some_iff_getElem];refine⟨b,?_,fun j c=>?_⟩
  . have:=dw.1 e;simp only[List.getD,List.getElem?_eq_getElem b,a1G]at this;simpa using this
  .
   have a:j<l.length:=(by omega);have:=h j c;simp only[List.getD,List.getElem?_eq_getElem a,a1G]at this;simp only[a2z];exact fun e=>this (dw.2 e)
 unfold atN;rw[this]
def qe{l:List En}{x:ByteArray}(h:∀j,j<l.length->¬ (l.getD j default).n.toList=x.toList):atN l x = -1:=by
 have:l.findIdx? (fun e=>e.n.data.toList == x.data.toList)=none:=by
  rw[List.findIdx?_eq_none_iff];intro e b;obtain⟨j,a,rfl⟩:=a1I b;have:=h j a;simp only[List.getD,List.getElem?_eq_getElem a,a1G]at this;simp only[a0Z,ne_eq];exact fun e=>this (dw.2 e)
 unfold atN;rw[this]
def Di(a:Option Addr)(cap:Nat)(l:List En)(n:Nat)(u:l.length=n)(x:ByteArray)(w:World)(h:jI w a l)(F:(n:Int)<=1048576) :
  Calls prog 36 #[.slice a n cap,x] w fun e w'=>e = .returned (.int .i64 (atN l x))/\w'=w:=by
 have v:=af (fun k (t:k<l.length)=>@uq l x k t);have y:=af (@qe l x);have A:=af h;rw[u]at v y;have z:=af u;clear h u;go_enter func36,ntmps36;go_wp2_with fail
 go_loop [5] (fun i=>∃k:Nat,k<=n/\i = .int .i64 k/\∀j,j<k->¬ (l.getD j default).n.toList=x.toList) (fun i=>n-(intOf i).toNat)
 case atStart=>exact⟨0,a0g _,rfl,fun j C=>absurd C (by omega)⟩
 case round=>
  obtain⟨k,t,rfl,c⟩:=hrel;have b:=af c;clear c;by_cases m:k<n
  .
   have D:(k:Int)<(n:Int):=(by omega);obtain⟨g,o,rfl,E,B⟩:=ae A (by have:=ae z;omega);obtain⟨c0,_,_,_,_,_,_,_⟩:=B k (by have:=ae z;omega);have q:=af (ae v k m (ae b));have r:Hid (¬ (l.getD k default).n.toList=x.toList->∀j,j<k+1->¬ (l.getD j default).n.toList=x.toList):=by
    intro e j C;by_cases s:j=k
    . rw[s];exact e
    . exact b j (by omega)
   have f:=af m;clear B t b A;generalize (l.getD k default).n=p at *;by_cases e:p.toList=x.toList
   . have d:=af (ae q e);go_wp2;go_ret;exact⟨aK d.symm,rfl⟩
   .
    have d:=af (ae r e);have eB:(p.toList == x.toList)=false:=by simp only[a0Z,ne_eq];exact e
    go_wp2
    go_round
    case rel=>exact⟨k+1,by have:=ae f;omega,by go_num,d⟩
    case measure=>have:=ae f;simp[intOf];omega
  .
   obtain rfl:k=n:=by omega
   have d:=af (ae y (ae b));go_wp2;go_ret;exact⟨aK d.symm,rfl⟩
