/- Texts. -/
import Derived.Test.YtckocaibjciplaaGreatDoorM9
set_option linter.all false
namespace Go.Proofs.YtckocaibjciplaaGreatDoor
open Go.RowKit
variable {L s:List UInt8}{b n p:Nat}{v:Value}{w:World}
abbrev Tk:=Int×Int×Int
def k0:Tk:=(0,0,0)
def PO(w:World)(a:Option Addr)(l:List Tk):Prop:=
 0<l.length->∃g o,a=some ⟨g,o,none⟩/\g<w.heap.size/\∀i,i<l.length->w.cell? ⟨g,o+i*3,none⟩=some (.int .i64 (l.getD i k0).1)/\w.cell? ⟨g,o+i*3+1,none⟩=some (.int .i64 (l.getD i k0).2.1)/\w.cell? ⟨g,o+i*3+2,none⟩=some (.int .i64 (l.getD i k0).2.2)
def iN:List Tk->List Value
 | []=>[]
 | p :: l=>.int .i64 p.1 :: .int .i64 p.2.1 :: .int .i64 p.2.2 :: iN l
def xE(l m:List Tk):iN (l++m)=iN l++iN m:=by
 induction l with
 | nil=>rfl
 | cons p l ih=>simp[iN,ih]
def F5(l:List Tk)(i:Nat)(h:i<l.length):(iN l)[i*3]?=some (.int .i64 (l.getD i k0).1)/\(iN l)[i*3+1]?=some (.int .i64 (l.getD i k0).2.1)/\(iN l)[i*3+2]?=some (.int .i64 (l.getD i k0).2.2):=by
 induction l generalizing i with
 | nil=>simp at h
 | cons p l ih=>
  cases i with
  | zero=>simp[iN]
  | succ i=>
   have:=ih i (by simpa using h);rw[show(i+1)*3=i*3+1+1+1 by omega];simpa[iN]using this
def lr(w:World)(base:Nat)(v:Value)(l:List Tk):Prop:=w.ownsRow base 300 3 v l.length (iN l)
def lr.form{base:Nat}{l:List Tk}(h:lr w base v l):∃a cap,v = .slice a l.length cap:=by
 rcases h.2 with⟨e,b⟩|⟨g,cap,_,e,_⟩
 . exact⟨none,0,by rw[e,b]⟩
 . exact⟨_,cap,e⟩
def lr.formN{base:Nat}{l:List Tk}(b:l.length=n)(h:lr w base v l):∃a cap,v = .slice a n cap:=by
 subst b;exact h.form
def lr.row{base:Nat}{a:Option Addr}{cap:Nat}{l:List Tk}(h:lr w base (.slice a l.length cap) l):PO w a l:=by
 intro k;rcases h.2 with⟨_,m⟩|⟨g,c,d,e,hb,f,n⟩
 . omega
 . simp only[a0L]at e;obtain⟨rfl,_,rfl⟩:=e;refine⟨g,0,rfl,(Array.getElem?_eq_some_iff.1 f).1,fun i j=>?_⟩;have b:=F5 l i j;have c1:=a1d h (i*3) (by omega);have c2:=a1d h (i*3+1) (by omega);have c3:=a1d h (i*3+2) (by omega);rw[a0H];exact⟨c1.trans b.1,c2.trans b.2.1,c3.trans b.2.2⟩
def lr.rowN{base:Nat}{a:Option Addr}{cap:Nat}{l:List Tk}(b:l.length=n)(h:lr w base (.slice a n cap) l):PO w a l:=by
 subst b;exact h.row
def lr.later{w':World}{base B:Nat}{l:List Tk}(h:lr w base v l)(hb:Below B w w')(a:w.heap.size<=B):lr w' base v l:=
 a1U h (row:=none) ⟨hb.os,hb.tape,hb.output,hb.size,fun k b _=>hb.block k (by omega)⟩ (by
  cases c:v.ownBlock with
  | none=>exact .inl rfl
  | some k=>exact .inr (by simp))
def Tryz.infoTok:(Tryz.prog.info? 300).map (fun i=>(i.zero,i.size,i.bytes))=some (some (.agg #[.int .i64 0,.int .i64 0,.int .i64 0]),3,24):=by kernel_rfl
def yz{x:World}{base:Nat}{l:List Tk}{a b c:Int}(d:l.length=n)(h:x.ownsRow base 300 3 v (n+1) (iN l++[.int .i64 a,.int .i64 b,.int .i64 c])):lr x base v (l++[(a,b,c)]):=by
 subst d;show World.ownsRow _ _ _ _ _ (l++[(a,b,c)]).length _;rw[xE];simpa[iN]using h
def lr.lit(w:World)(base:Nat)(hb:base<=w.heap.size):lr (w.alloc (.cells #[] 300)) base (.slice w.heap.size 0 0) []:=a0S w #[] 0 hb (by unfold maxLen;omega) rfl
def Ns(w:World)(x y z:Value)(t:TypeId)(g:Nat)(b:w.heap.size=g):∀(j:Nat) (u:Value),[x,y,z][j]?=some u->(w.alloc (.cells #[x,y,z] t)).cell? ((⟨g,0,none⟩:Addr).add j)=some u:=by
 subst b;intro j u a
 match j,a with
 | 0,a=>simp at a;subst a;simp[Addr.add]
 | 1,a=>simp at a;subst a;simp[Addr.add]
 | 2,a=>simp at a;subst a;simp[Addr.add]
def Nt(x y z:Int):∀u∈[Value.int .i64 x,Value.int .i64 y,Value.int .i64 z],u.oneCell'=true:=by
 intro u a;simp at a;rcases a with rfl|rfl|rfl<;>rfl
def GX(l:List Tk)(k:Nat)(h:k<l.length):l.take (k+1)=l.take k++[l.getD k k0]:=by
 rw[a1f h]
 congr 2
 simp[List.getD,h]
def rep(s:List UInt8)(back:Nat):Nat->List UInt8
 | 0=>s
 | n+1=>rep s back n++[(rep s back n).getD ((rep s back n).length-back) 0]
def qW(s:List UInt8)(back n:Nat):(rep s back n).length=s.length+n:=by
 induction n with
 | zero=>rfl
 | succ n ih=>simp only[rep,a0j,a1j,ih];omega
def fX(x:Int):UInt8:=UInt8.ofNat x.toNat
def jS{x:Int}(a:0<=x)(b:x<=255):((fX x).toNat:Int)=x:=by
 unfold fX;rw[a3d];omega
def isB(t:Tk):Bool:=decide (t.2.1=0)&&(inB t.1 0 255&&decide (t.2.2=0))
def isK(t:Tk):Bool:=decide (t.1=0)&&inB t.2.1 3 60&&inB t.2.2 1 250
def kV(s:List UInt8)(t:Tk):Option (List UInt8):=
 if isB t then some (s++[fX t.1])else if isK t&&decide (t.2.2<=(s.length:Int))then some (rep s t.2.2.toNat t.2.1.toNat)else none
def fH(s:List UInt8)(t:Tk):Option (List UInt8):=(kV s t).bind fun x=>if x.length<=300 then some x else none
def pY{x:List UInt8}{t:Tk}(h:fH s t=some x):x.length<=300:=by
 unfold fH at h;cases a:kV s t with
 | none=>rw[a]at h;cases h
 | some y=>
  rw[a]at h;simp only[a0f]at h
  split at h
  . simp only[a0k]at h;subst h;assumption
  . cases h
def CO{t:Tk}(h:isB t=true):isK t=false:=by
 simp only[isB,a0l,a0t]at h;have:inB t.2.1 3 60=false:=eW.2 (by omega);simp[isK,this]
def xL(t:Tk):Nat:=if isB t then 1 else t.2.1.toNat
def okT(t:Tk):Bool:=isB t || isK t
def pZ{t:Tk}(d:okT t=true)(hb:isK t=true->t.2.2<=(s.length:Int))(a:s.length+xL t<=300):fH s t=some (if isB t then s++[fX t.1]else rep s t.2.2.toNat t.2.1.toNat):=by
 unfold fH kV;unfold xL at a;cases b:isB t
 .
  have c:isK t=true:=by simpa[okT,b]using d
  rw[b]at a;simp only[a06,a07]at a ⊢;rw[c,a0B (hb c)];simp only[a20,a0V,a0f];rw[a0d (by rw[qW];exact a)]
 . rw[b]at a;simp only[a0V,a0f]at a ⊢;rw[a0d (by simp;omega)]
def LJ{t:Tk}(b:okT t=false):fH s t=none:=by
 have a:isB t=false:=by cases h:isB t<;>simp[okT,h]at b ⊢
 have c:isK t=false:=by simpa[okT,a]using b
 unfold fH kV;rw[a,c];rfl
def LK{t:Tk}(a:isK t=true)(hb:(s.length:Int)<t.2.2):fH s t=none:=by
 have b:isB t=false:=by
  cases h:isB t
  . rfl
  . rw[CO h]at a;cases a
 unfold fH kV;rw[b,a,a0m (by omega)];rfl
def xT{t:Tk}(a:300<s.length+xL t):fH s t=none:=by
 unfold fH kV;unfold xL at a;cases b:isB t
 .
  rw[b]at a;simp only[a06,a07]at a ⊢
  split
  . simp only[a0f];rw[a0e (by rw[qW];omega)]
  . rfl
 . rw[b]at a;simp only[a0V,a0f]at a ⊢;rw[a0e (by simp;omega)]
def agF(L:List UInt8)(p b:Nat):Nat->Nat->Nat
 | 0,n=>n
 | f+1,n=>if p+n<L.length/\L.getD (p+n) 0=L.getD (p+n-b) 0 then agF L p b f (n+1)else n
def agN(L:List UInt8)(p b:Nat):Nat:=agF L p b 60 0
def LM{k:Nat}(c:k<60)(h:p+k<L.length)(a:L.getD (p+k) 0=L.getD (p+k-b) 0):agF L p b (60-k) k=agF L p b (60-(k+1)) (k+1):=by
 obtain⟨f,hf⟩:∃f,60-k=f+1:=⟨60-k-1,by omega⟩;rw[hf,show 60-(k+1)=f by omega];simp only[agF];rw[a0d ⟨h,a⟩]
def uI{k:Nat}(h:k=60∨¬ (p+k<L.length)∨L.getD (p+k) 0≠L.getD (p+k-b) 0)(c:k<=60):agF L p b (60-k) k=k:=by
 by_cases e:k=60
 . subst e;rfl
 .
  obtain⟨f,hf⟩:∃f,60-k=f+1:=⟨60-k-1,by omega⟩;rw[hf];simp only[agF];rw[a0e];rintro⟨a,h2⟩;rcases h with h|h|h
  . exact e h
  . exact h a
  . exact h h2
def Fg(L:List UInt8)(p b f n:Nat):n<=agF L p b f n/\agF L p b f n<=n+f/\(p+n<=L.length->p+agF L p b f n<=L.length)/\(∀i,n<=i->i<agF L p b f n->L.getD (p+i) 0=L.getD (p+i-b) 0):=by
 induction f generalizing n with
 | zero=>exact⟨a0a _,a0a _,fun h=>h,fun i a h2=>by simp only[agF]at h2;omega⟩
 | succ f ih=>
  simp only[agF]
  split
  .
   rename_i h;obtain⟨a,h2,c,d⟩:=ih (n+1);refine⟨by omega,by omega,fun _=>c (by omega),fun i j g=>?_⟩;by_cases e:i=n
   . subst e;exact h.2
   . exact d i (by omega) g
  . exact⟨a0a _,by omega,fun h=>h,fun i a h2=>by omega⟩
def Sc(L:List UInt8)(p b:Nat):agN L p b<=60:=by have:=(Fg L p b 60 0).2.1;unfold agN;omega
def Sb(h:p<=L.length):p+agN L p b<=L.length:=(Fg L p b 60 0).2.2.1 (by omega)
def Sa(L:List UInt8)(p b i:Nat)(h:i<agN L p b):L.getD (p+i) 0=L.getD (p+i-b) 0:=(Fg L p b 60 0).2.2.2 i (a0g _) h
def bg(L:List UInt8)(p:Nat):Nat->Nat×Nat
 | 0=>(0,0)
 | k+1=>if (bg L p k).1<agN L p (k+1)then(agN L p (k+1),k+1)else bg L p k
def ly(L:List UInt8)(p k:Nat):(bg L p k).1<=60/\(bg L p k).2<=k/\((bg L p k).1≠0->1<=(bg L p k).2/\(bg L p k).1=agN L p (bg L p k).2)/\(∀b,1<=b->b<=k->agN L p b<=(bg L p k).1/\(agN L p b=(bg L p k).1->(bg L p k).1≠0->(bg L p k).2<=b)):=by
 induction k with
 | zero=>exact⟨by simp[bg],by simp[bg],fun h=>by simp[bg]at h,fun b d h2=>by omega⟩
 | succ k ih=>
  obtain⟨d,h2,g,f⟩:=ih;simp only[bg]
  split
  .
   rename_i h;refine⟨Sc L p (k+1),a0a _,fun _=>⟨by simp,rfl⟩,fun b a c=>?_⟩;by_cases e:b=k+1
   . subst e;exact⟨a0a _,fun _ _=>a0a _⟩
   . have:=(f b a (by omega)).1;simp only;exact⟨by omega,fun j=>by omega⟩
  .
   rename_i h;refine⟨d,by omega,g,fun b a c=>?_⟩;by_cases e:b=k+1
   . subst e;exact⟨by omega,fun _ i=>by omega⟩
   . exact f b a (by omega)
def fV(L:List UInt8)(p:Nat):Tk:=
 if (bg L p (min p 250)).1<3 then(((L.getD p 0).toNat:Int),0,0)else(0,((bg L p (min p 250)).1:Int),((bg L p (min p 250)).2:Int))
def jm(L:List UInt8)(p:Nat):Nat:=if (bg L p (min p 250)).1<3 then 1 else(bg L p (min p 250)).1
def iq(L:List UInt8)(p:Nat):1<=jm L p/\jm L p<=60:=by
 unfold jm;have:=(ly L p (min p 250)).1
 split<;>omega
def rf(h:p<L.length):p+jm L p<=L.length:=by
 unfold jm;obtain⟨c,h2,a,d⟩:=ly L p (min p 250)
 split
 . omega
 . rename_i hn;obtain⟨e,b⟩:=a (by omega);rw[b];exact Sb (by omega)
def iC(L:List UInt8):Nat->Nat->List Tk
 | 0,_=>[]
 | f+1,p=>if p<L.length then fV L p :: iC L f (p+jm L p)else []
def G6{f:Nat}(h:L.length-p<=f):iC L f p=iC L (L.length-p) p:=by
 induction f generalizing p with
 | zero=>rw[show L.length-p=0 by omega]
 | succ f ih=>
  by_cases e:p<L.length
  .
   obtain⟨g,hg⟩:∃g,L.length-p=g+1:=⟨L.length-p-1,by omega⟩;have l:=iq L p;rw[hg];simp only[iC];rw[a0d e,a0d e,ih (by omega)]
   congr 1
   -- both are the tokens from there on
   have:∀g',L.length-(p+jm L p)<=g'->g'<=f->iC L g' (p+jm L p)=iC L (L.length-(p+jm L p)) (p+jm L p):=by
    intro g' c h2;clear ih;have key:∀n q,L.length-q<=n->iC L n q=iC L (L.length-q) q:=by
     intro n;induction n with
     | zero=>intro q hq;rw[show L.length-q=0 by omega]
     | succ n ihn=>
      intro q hq;by_cases a:q<L.length
      .
       obtain⟨m,hm⟩:∃m,L.length-q=m+1:=⟨L.length-q-1,by omega⟩;have j:=iq L q;rw[hm];simp only[iC];rw[a0d a,a0d a,ihn _ (by omega)]
       congr 1
       by_cases d:m=n
       . subst d;rw[ihn _ (by omega)]
       .
        have i:m<n:=(by omega);clear hq;have:∀n m r,m<=n->L.length-r<=m->iC L n r=iC L m r:=by
         intro n;induction n with
         | zero=>intro m r c _;rw[show m=0 by omega]
         | succ n ih3=>
          intro m r c h2;by_cases b:r<L.length
          . obtain⟨m',rfl⟩:∃m',m=m'+1:=⟨m-1,by omega⟩;have k:=iq L r;simp only[iC];rw[a0d b,a0d b,ih3 m' _ (by omega) (by omega)]
          .
           cases m with
           | zero=>simp only[iC];rw[a0e b]
           | succ m=>simp only[iC];rw[a0e b,a0e b]
        exact(this m _ _ (by omega) (a0a _)).symm
      . rw[show L.length-q=0 by omega];simp only[iC];rw[a0e a]
    exact key g' _ c
   exact(this g (by omega) (by omega)).symm
  . rw[show L.length-p=0 by omega];simp only[iC];rw[a0e e]
def bj(L:List UInt8)(p:Nat):List Tk:=iC L (L.length-p) p
def iW(h:p<L.length):bj L p=fV L p :: bj L (p+jm L p):=by
 unfold bj;obtain⟨g,hg⟩:∃g,L.length-p=g+1:=⟨L.length-p-1,by omega⟩;have a:=iq L p;rw[hg];simp only[iC];rw[a0d h,G6 (by omega)]
def fe(h:¬ p<L.length):bj L p=[]:=by
 unfold bj;rw[show L.length-p=0 by omega];rfl
def zb(L:List UInt8):∀n p,L.length-p<=n->(bj L p).length<=L.length-p:=by
 intro n;induction n with
 | zero=>intro p h;rw[fe (by omega)];simp
 | succ n ih=>
  intro p h;by_cases a:p<L.length
  . have b:=iq L p;rw[iW a];have:=ih (p+jm L p) (by omega);simp only[a0C];omega
  . rw[fe a];simp
