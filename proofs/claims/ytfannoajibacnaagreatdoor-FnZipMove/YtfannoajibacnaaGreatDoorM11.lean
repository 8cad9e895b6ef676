/- Texts. -/
import Derived.Test.YtfannoajibacnaaGreatDoorM9
set_option linter.all false
namespace Go.Proofs.YtfannoajibacnaaGreatDoor
open Go.RowKit
variable {L s:List UInt8}{b n p:Nat}{v:Value}{w:World}
abbrev Tk:=Int×Int×Int
def k0:Tk:=(0,0,0)
def QV(w:World)(a:Option Addr)(l:List Tk):Prop:=
 0<l.length->∃g o,a=some ⟨g,o,none⟩/\g<w.heap.size/\∀i,i<l.length->w.cell? ⟨g,o+i*3,none⟩=some (.int .i64 (l.getD i k0).1)/\w.cell? ⟨g,o+i*3+1,none⟩=some (.int .i64 (l.getD i k0).2.1)/\w.cell? ⟨g,o+i*3+2,none⟩=some (.int .i64 (l.getD i k0).2.2)
def jc:List Tk->List Value
 | []=>[]
 | p :: l=>.int .i64 p.1 :: .int .i64 p.2.1 :: .int .i64 p.2.2 :: jc l
def yC(l m:List Tk):jc (l++m)=jc l++jc m:=by
 induction l with
 | nil=>rfl
 | cons p l ih=>simp[jc,ih]
def GR(l:List Tk)(i:Nat)(h:i<l.length):(jc l)[i*3]?=some (.int .i64 (l.getD i k0).1)/\(jc l)[i*3+1]?=some (.int .i64 (l.getD i k0).2.1)/\(jc l)[i*3+2]?=some (.int .i64 (l.getD i k0).2.2):=by
 induction l generalizing i with
 | nil=>simp at h
 | cons p l ih=>
  cases i with
  | zero=>simp[jc]
  | succ i=>
   have:=ih i (by simpa using h);rw[show(i+1)*3=i*3+1+1+1 by omega];simpa[jc]using this
def lU(w:World)(base:Nat)(v:Value)(l:List Tk):Prop:=w.ownsRow base 309 3 v l.length (jc l)
def lU.form{base:Nat}{l:List Tk}(h:lU w base v l):∃a cap,v = .slice a l.length cap:=by
 rcases h.2 with⟨e,b⟩|⟨g,cap,_,e,_⟩
 . exact⟨none,0,by rw[e,b]⟩
 . exact⟨_,cap,e⟩
def lU.formN{base:Nat}{l:List Tk}(b:l.length=n)(h:lU w base v l):∃a cap,v = .slice a n cap:=by
 subst b;exact h.form
def lU.row{base:Nat}{a:Option Addr}{cap:Nat}{l:List Tk}(h:lU w base (.slice a l.length cap) l):QV w a l:=by
 intro k;rcases h.2 with⟨_,m⟩|⟨g,c,d,e,hb,f,n⟩
 . omega
 . simp only[a0L]at e;obtain⟨rfl,_,rfl⟩:=e;refine⟨g,0,rfl,(Array.getElem?_eq_some_iff.1 f).1,fun i j=>?_⟩;have b:=GR l i j;have c1:=a1f h (i*3) (by omega);have c2:=a1f h (i*3+1) (by omega);have c3:=a1f h (i*3+2) (by omega);rw[a0G];exact⟨c1.trans b.1,c2.trans b.2.1,c3.trans b.2.2⟩
def lU.rowN{base:Nat}{a:Option Addr}{cap:Nat}{l:List Tk}(b:l.length=n)(h:lU w base (.slice a n cap) l):QV w a l:=by
 subst b;exact h.row
def lU.later{w':World}{base B:Nat}{l:List Tk}(h:lU w base v l)(hb:Below B w w')(a:w.heap.size<=B):lU w' base v l:=
 a1V h (row:=none) ⟨hb.os,hb.tape,hb.output,hb.size,fun k b _=>hb.block k (by omega)⟩ (by
  cases c:v.ownBlock with
  | none=>exact .inl rfl
  | some k=>exact .inr (by simp))
def Tryz.infoTok:(Tryz.prog.info? 309).map (fun i=>(i.zero,i.size,i.bytes))=some (some (.agg #[.int .i64 0,.int .i64 0,.int .i64 0]),3,24):=by kernel_rfl
def zo{x:World}{base:Nat}{l:List Tk}{a b c:Int}(d:l.length=n)(h:x.ownsRow base 309 3 v (n+1) (jc l++[.int .i64 a,.int .i64 b,.int .i64 c])):lU x base v (l++[(a,b,c)]):=by
 subst d;show World.ownsRow _ _ _ _ _ (l++[(a,b,c)]).length _;rw[yC];simpa[jc]using h
def lU.lit(w:World)(base:Nat)(hb:base<=w.heap.size):lU (w.alloc (.cells #[] 309)) base (.slice w.heap.size 0 0) []:=a0S w #[] 0 hb (by unfold maxLen;omega) rfl
def OC(w:World)(x y z:Value)(t:TypeId)(g:Nat)(b:w.heap.size=g):∀(j:Nat) (u:Value),[x,y,z][j]?=some u->(w.alloc (.cells #[x,y,z] t)).cell? ((⟨g,0,none⟩:Addr).add j)=some u:=by
 subst b;intro j u a
 match j,a with
 | 0,a=>simp at a;subst a;simp[Addr.add]
 | 1,a=>simp at a;subst a;simp[Addr.add]
 | 2,a=>simp at a;subst a;simp[Addr.add]
def OD(x y z:Int):∀u∈[Value.int .i64 x,Value.int .i64 y,Value.int .i64 z],u.oneCell'=true:=by
 intro u a;simp at a;rcases a with rfl|rfl|rfl<;>rfl
def IG(l:List Tk)(k:Nat)(h:k<l.length):l.take (k+1)=l.take k++[l.getD k k0]:=by
 rw[a1e h]
 congr 2
 simp[List.getD,h]
def rep(s:List UInt8)(back:Nat):Nat->List UInt8
 | 0=>s
 | n+1=>rep s back n++[(rep s back n).getD ((rep s back n).length-back) 0]
def rL(s:List UInt8)(back n:Nat):(rep s back n).length=s.length+n:=by
 induction n with
 | zero=>rfl
 | succ n ih=>simp only[rep,a0i,a1l,ih];omega
def gt(x:Int):UInt8:=UInt8.ofNat x.toNat
def kw{x:Int}(a:0<=x)(b:x<=255):((gt x).toNat:Int)=x:=by
 unfold gt;rw[a3h];omega
def isB(t:Tk):Bool:=decide (t.2.1=0)&&(inB t.1 0 255&&decide (t.2.2=0))
def isK(t:Tk):Bool:=decide (t.1=0)&&inB t.2.1 3 60&&inB t.2.2 1 250
def lC(s:List UInt8)(t:Tk):Option (List UInt8):=
 if isB t then some (s++[gt t.1])else if isK t&&decide (t.2.2<=(s.length:Int))then some (rep s t.2.2.toNat t.2.1.toNat)else none
def fX(s:List UInt8)(t:Tk):Option (List UInt8):=(lC s t).bind fun x=>if x.length<=300 then some x else none
def qJ{x:List UInt8}{t:Tk}(h:fX s t=some x):x.length<=300:=by
 unfold fX at h;cases a:lC s t with
 | none=>rw[a]at h;cases h
 | some y=>
  rw[a]at h;simp only[a0f]at h
  split at h
  . simp only[a0l]at h;subst h;assumption
  . cases h
def D2{t:Tk}(h:isB t=true):isK t=false:=by
 simp only[isB,a0k,a0v]at h;have:inB t.2.1 3 60=false:=fs.2 (by omega);simp[isK,this]
def yK(t:Tk):Nat:=if isB t then 1 else t.2.1.toNat
def okT(t:Tk):Bool:=isB t || isK t
def qK{t:Tk}(d:okT t=true)(hb:isK t=true->t.2.2<=(s.length:Int))(a:s.length+yK t<=300):fX s t=some (if isB t then s++[gt t.1]else rep s t.2.2.toNat t.2.1.toNat):=by
 unfold fX lC;unfold yK at a;cases b:isB t
 .
  have c:isK t=true:=by simpa[okT,b]using d
  rw[b]at a;simp only[a07,a08]at a ⊢;rw[c,a0B (hb c)];simp only[a26,a0Y,a0f];rw[a0d (by rw[rL];exact a)]
 . rw[b]at a;simp only[a0Y,a0f]at a ⊢;rw[a0d (by simp;omega)]
def MK{t:Tk}(b:okT t=false):fX s t=none:=by
 have a:isB t=false:=by cases h:isB t<;>simp[okT,h]at b ⊢
 have c:isK t=false:=by simpa[okT,a]using b
 unfold fX lC;rw[a,c];rfl
def ML{t:Tk}(a:isK t=true)(hb:(s.length:Int)<t.2.2):fX s t=none:=by
 have b:isB t=false:=by
  cases h:isB t
  . rfl
  . rw[D2 h]at a;cases a
 unfold fX lC;rw[b,a,a0m (by omega)];rfl
def yR{t:Tk}(a:300<s.length+yK t):fX s t=none:=by
 unfold fX lC;unfold yK at a;cases b:isB t
 .
  rw[b]at a;simp only[a07,a08]at a ⊢
  split
  . simp only[a0f];rw[a0e (by rw[rL];omega)]
  . rfl
 . rw[b]at a;simp only[a0Y,a0f]at a ⊢;rw[a0e (by simp;omega)]
def agF(L:List UInt8)(p b:Nat):Nat->Nat->Nat
 | 0,n=>n
 | f+1,n=>if p+n<L.length/\L.getD (p+n) 0=L.getD (p+n-b) 0 then agF L p b f (n+1)else n
def agN(L:List UInt8)(p b:Nat):Nat:=agF L p b 60 0
def MU{k:Nat}(c:k<60)(h:p+k<L.length)(a:L.getD (p+k) 0=L.getD (p+k-b) 0):agF L p b (60-k) k=agF L p b (60-(k+1)) (k+1):=by
 obtain⟨f,hf⟩:∃f,60-k=f+1:=⟨60-k-1,by omega⟩;rw[hf,show 60-(k+1)=f by omega];simp only[agF];rw[a0d ⟨h,a⟩]
def vB{k:Nat}(h:k=60∨¬ (p+k<L.length)∨L.getD (p+k) 0≠L.getD (p+k-b) 0)(c:k<=60):agF L p b (60-k) k=k:=by
 by_cases e:k=60
 . subst e;rfl
 .
  obtain⟨f,hf⟩:∃f,60-k=f+1:=⟨60-k-1,by omega⟩;rw[hf];simp only[agF];rw[a0e];rintro⟨a,h2⟩;rcases h with h|h|h
  . exact e h
  . exact h a
  . exact h h2
def F9(L:List UInt8)(p b f n:Nat):n<=agF L p b f n/\agF L p b f n<=n+f/\(p+n<=L.length->p+agF L p b f n<=L.length)/\(∀i,n<=i->i<agF L p b f n->L.getD (p+i) 0=L.getD (p+i-b) 0):=by
 induction f generalizing n with
 | zero=>exact⟨a0a _,a0a _,fun h=>h,fun i a h2=>by simp only[agF]at h2;omega⟩
 | succ f ih=>
  simp only[agF]
  split
  .
   rename_i h;obtain⟨a,h2,c,d⟩:=ih (n+1);refine⟨by omega,by omega,fun _=>c (by omega),fun i j g=>?_⟩;by_cases e:i=n
   . subst e;exact h.2
   . exact d i (by omega) g
  . exact⟨a0a _,by omega,fun h=>h,fun i a h2=>by omega⟩
def Tz(L:List UInt8)(p b:Nat):agN L p b<=60:=by have:=(F9 L p b 60 0).2.1;unfold agN;omega
def Ty(h:p<=L.length):p+agN L p b<=L.length:=(F9 L p b 60 0).2.2.1 (by omega)
def Tw(L:List UInt8)(p b i:Nat)(h:i<agN L p b):L.getD (p+i) 0=L.getD (p+i-b) 0:=(F9 L p b 60 0).2.2.2 i (a0g _) h
def bm(L:List UInt8)(p:Nat):Nat->Nat×Nat
 | 0=>(0,0)
 | k+1=>if (bm L p k).1<agN L p (k+1)then(agN L p (k+1),k+1)else bm L p k
def lZ(L:List UInt8)(p k:Nat):(bm L p k).1<=60/\(bm L p k).2<=k/\((bm L p k).1≠0->1<=(bm L p k).2/\(bm L p k).1=agN L p (bm L p k).2)/\(∀b,1<=b->b<=k->agN L p b<=(bm L p k).1/\(agN L p b=(bm L p k).1->(bm L p k).1≠0->(bm L p k).2<=b)):=by
 induction k with
 | zero=>exact⟨by simp[bm],by simp[bm],fun h=>by simp[bm]at h,fun b d h2=>by omega⟩
 | succ k ih=>
  obtain⟨d,h2,g,f⟩:=ih;simp only[bm]
  split
  .
   rename_i h;refine⟨Tz L p (k+1),a0a _,fun _=>⟨by simp,rfl⟩,fun b a c=>?_⟩;by_cases e:b=k+1
   . subst e;exact⟨a0a _,fun _ _=>a0a _⟩
   . have:=(f b a (by omega)).1;simp only;exact⟨by omega,fun j=>by omega⟩
  .
   rename_i h;refine⟨d,by omega,g,fun b a c=>?_⟩;by_cases e:b=k+1
   . subst e;exact⟨by omega,fun _ i=>by omega⟩
   . exact f b a (by omega)
def gq(L:List UInt8)(p:Nat):Tk:=
 if (bm L p (min p 250)).1<3 then(((L.getD p 0).toNat:Int),0,0)else(0,((bm L p (min p 250)).1:Int),((bm L p (min p 250)).2:Int))
def jH(L:List UInt8)(p:Nat):Nat:=if (bm L p (min p 250)).1<3 then 1 else(bm L p (min p 250)).1
def iM(L:List UInt8)(p:Nat):1<=jH L p/\jH L p<=60:=by
 unfold jH;have:=(lZ L p (min p 250)).1
 split<;>omega
def rR(h:p<L.length):p+jH L p<=L.length:=by
 unfold jH;obtain⟨c,h2,a,d⟩:=lZ L p (min p 250)
 split
 . omega
 . rename_i hn;obtain⟨e,b⟩:=a (by omega);rw[b];exact Ty (by omega)
def iT(L:List UInt8):Nat->Nat->List Tk
 | 0,_=>[]
 | f+1,p=>if p<L.length then gq L p :: iT L f (p+jH L p)else []
def IL{f:Nat}(h:L.length-p<=f):iT L f p=iT L (L.length-p) p:=by
 induction f generalizing p with
 | zero=>rw[show L.length-p=0 by omega]
 | succ f ih=>
  by_cases e:p<L.length
  .
   obtain⟨g,hg⟩:∃g,L.length-p=g+1:=⟨L.length-p-1,by omega⟩;have l:=iM L p;rw[hg];simp only[iT];rw[a0d e,a0d e,ih (by omega)]
   congr 1
   -- both are the tokens from there on
   have:∀g',L.length-(p+jH L p)<=g'->g'<=f->iT L g' (p+jH L p)=iT L (L.length-(p+jH L p)) (p+jH L p):=by
    intro g' c h2;clear ih;have key:∀n q,L.length-q<=n->iT L n q=iT L (L.length-q) q:=by
     intro n;induction n with
     | zero=>intro q hq;rw[show L.length-q=0 by omega]
     | succ n ihn=>
      intro q hq;by_cases a:q<L.length
      .
       obtain⟨m,hm⟩:∃m,L.length-q=m+1:=⟨L.length-q-1,by omega⟩;have j:=iM L q;rw[hm];simp only[iT];rw[a0d a,a0d a,ihn _ (by omega)]
       congr 1
       by_cases d:m=n
       . subst d;rw[ihn _ (by omega)]
       .
        have i:m<n:=(by omega);clear hq;have:∀n m r,m<=n->L.length-r<=m->iT L n r=iT L m r:=by
         intro n;induction n with
         | zero=>intro m r c _;rw[show m=0 by omega]
         | succ n ih3=>
          intro m r c h2;by_cases b:r<L.length
          . obtain⟨m',rfl⟩:∃m',m=m'+1:=⟨m-1,by omega⟩;have k:=iM L r;simp only[iT];rw[a0d b,a0d b,ih3 m' _ (by omega) (by omega)]
          .
           cases m with
           | zero=>simp only[iT];rw[a0e b]
           | succ m=>simp only[iT];rw[a0e b,a0e b]
        exact(this m _ _ (by omega) (a0a _)).symm
      . rw[show L.length-q=0 by omega];simp only[iT];rw[a0e a]
    exact key g' _ c
   exact(this g (by omega) (by omega)).symm
  . rw[show L.length-p=0 by omega];simp only[iT];rw[a0e e]
def bq(L:List UInt8)(p:Nat):List Tk:=iT L (L.length-p) p
def jp(h:p<L.length):bq L p=gq L p :: bq L (p+jH L p):=by
 unfold bq;obtain⟨g,hg⟩:∃g,L.length-p=g+1:=⟨L.length-p-1,by omega⟩;have a:=iM L p;rw[hg];simp only[iT];rw[a0d h,IL (by omega)]
def fu(h:¬ p<L.length):bq L p=[]:=by
 unfold bq;rw[show L.length-p=0 by omega];rfl
def zX(L:List UInt8):∀n p,L.length-p<=n->(bq L p).length<=L.length-p:=by
 intro n;induction n with
 | zero=>intro p h;rw[fu (by omega)];simp
 | succ n ih=>
  intro p h;by_cases a:p<L.length
  . have b:=iM L p;rw[jp a];have:=ih (p+jH L p) (by omega);simp only[a0C];omega
  . rw[fu a];simp
