/- Of what the proof is made: 3 texts, one behind the other. -/
import Derived.Test.YtggknepmhjfohaaGreatDoorM8
import Derived.Test.YtggknepmhjfohaaGreatDoorM6
import Derived.Deep.RegionWith
set_option linter.unusedSimpArgs false
set_option linter.unusedVariables false
namespace Go.Proofs.YtggknepmhjfohaaGreatDoor
open Go.RowKit
variable {L s:List UInt8}{a:Option Addr}{b g n p:Nat}{v:Value}{w w':World}
abbrev Tk:=Int×Int×Int
def k0:Tk:=(0,0,0)
def Aj(w:World)(a:Option Addr)(l:List Tk):Prop:=
 0<l.length->∃g o,a=some ⟨g,o,none⟩/\g<w.heap.size/\∀i,i<l.length->w.cell? ⟨g,o+i*3,none⟩=some (.int .i64 (l.getD i k0).1)/\w.cell? ⟨g,o+i*3+1,none⟩=some (.int .i64 (l.getD i k0).2.1)/\w.cell? ⟨g,o+i*3+2,none⟩=some (.int .i64 (l.getD i k0).2.2)
theorem Aj.later{l:List Tk}(h:Aj w a l)(hb:Below w.heap.size w w'):Aj w' a l:=by
 intro f;obtain⟨g,o,e,b,c⟩:=h f;refine⟨g,o,e,a0k b hb.size,fun i d=>⟨?_,?_,?_⟩⟩
 . exact(hb.cell (p:=⟨g,o+i*3,none⟩) b).trans (c i d).1
 . exact(hb.cell (p:=⟨g,o+i*3+1,none⟩) b).trans (c i d).2.1
 . exact(hb.cell (p:=⟨g,o+i*3+2,none⟩) b).trans (c i d).2.2
def dP:List Tk->List Value
 | []=>[]
 | p :: l=>.int .i64 p.1 :: .int .i64 p.2.1 :: .int .i64 p.2.2 :: dP l
theorem ug(l m:List Tk):dP (l++m)=dP l++dP m:=by
 induction l with
 | nil=>rfl
 | cons p l ih=>simp[dP,ih]
theorem sC(l:List Tk)(i:Nat)(h:i<l.length):(dP l)[i*3]?=some (.int .i64 (l.getD i k0).1)/\(dP l)[i*3+1]?=some (.int .i64 (l.getD i k0).2.1)/\(dP l)[i*3+2]?=some (.int .i64 (l.getD i k0).2.2):=by
 induction l generalizing i with
 | nil=>simp at h
 | cons p l ih=>
  cases i with
  | zero=>simp[dP]
  | succ i=>
   have:=ih i (by simpa using h);rw[show(i+1)*3=i*3+1+1+1 by omega];simpa[dP]using this
theorem Bf(l:List Tk)(j:Nat)(x:Tk):(((dP l).set (j*3) (.int .i64 x.1)).set (j*3+1) (.int .i64 x.2.1)).set (j*3+2) (.int .i64 x.2.2)=dP (l.set j x):=by
 induction l generalizing j with
 | nil=>simp[dP]
 | cons p l ih=>
  cases j with
  | zero=>simp[dP]
  | succ j=>
   rw[show(j+1)*3=j*3+1+1+1 by omega];simp only[dP,List.set_cons_succ];rw[ih j]
def dN(w:World)(base:Nat)(v:Value)(l:List Tk):Prop:=w.ownsRow base 226 3 v l.length (dP l)
theorem dN.form{base:Nat}{l:List Tk}(h:dN w base v l):∃a cap,v = .slice a l.length cap:=by
 rcases h.2 with⟨e,b⟩|⟨g,cap,_,e,_⟩
 . exact⟨none,0,by rw[e,b]⟩
 . exact⟨_,cap,e⟩
theorem dN.formN{base:Nat}{l:List Tk}(b:l.length=n)(h:dN w base v l):∃a cap,v = .slice a n cap:=by
 subst b;exact h.form
theorem dN.row{base:Nat}{cap:Nat}{l:List Tk}(h:dN w base (.slice a l.length cap) l):Aj w a l:=by
 intro k;rcases h.2 with⟨_,m⟩|⟨g,c,d,e,hb,f,n⟩
 . omega
 . simp only[a0K]at e;obtain⟨rfl,_,rfl⟩:=e;refine⟨g,0,rfl,(Array.getElem?_eq_some_iff.1 f).1,fun i j=>?_⟩;have b:=sC l i j;have c1:=a07 h (i*3) (by omega);have c2:=a07 h (i*3+1) (by omega);have c3:=a07 h (i*3+2) (by omega);rw[a0J];exact⟨c1.trans b.1,c2.trans b.2.1,c3.trans b.2.2⟩
theorem dN.rowN{base:Nat}{cap:Nat}{l:List Tk}(b:l.length=n)(h:dN w base (.slice a n cap) l):Aj w a l:=by
 subst b;exact h.row
theorem dN.later{base B:Nat}{l:List Tk}(h:dN w base v l)(hb:Below B w w')(a:w.heap.size<=B):dN w' base v l:=
 a12 h (row:=none) ⟨hb.os,hb.tape,hb.output,hb.size,fun k b _=>hb.block k (by omega)⟩ (by
  cases c:v.ownBlock with
  | none=>exact .inl rfl
  | some k=>exact .inr (by simp))
theorem dN.mono{base base':Nat}{l:List Tk}(h:dN w base v l)(hb:base'<=base):dN w base' v l:=by
 refine⟨h.1,?_⟩;rcases h.2 with c|⟨g,cap,a,e,b,rest⟩
 . exact .inl c
 . exact .inr ⟨g,cap,a,e,a0z hb b,rest⟩
theorem dN.own{base:Nat}{l:List Tk}(a:l.length=n)(h:dN w base v l):w.ownsRow base 226 3 v n (dP l):=by
 subst a;exact h
theorem dN.somes{base cap:Nat}{l:List Tk}(h:dN w base (.slice a n cap) l)(d:0<l.length):∃g,a=some ⟨g,0,none⟩:=by
 rcases h.2 with⟨_,e⟩|⟨g,b,c,e,_⟩
 . omega
 . simp only[a0K]at e;exact⟨g,e.1⟩
theorem dN.below{base cap:Nat}{l:List Tk}(h:dN w base (.slice (some ⟨g,0,none⟩) n cap) l):base<=g/\g<w.heap.size:=a0C h g rfl
theorem dN.at{base cap:Nat}{l:List Tk}(c:l.length=n)(h:dN w base (.slice (some ⟨g,0,none⟩) n cap) l)(j:Nat)(b:j<n) :
  w.cell? ⟨g,j*3,none⟩=some (.int .i64 (l.getD j k0).1)/\w.cell? ⟨g,j*3+1,none⟩=some (.int .i64 (l.getD j k0).2.1)/\w.cell? ⟨g,j*3+2,none⟩=some (.int .i64 (l.getD j k0).2.2)/\w.frozen? ⟨g,j*3,none⟩=false/\w.frozen? ⟨g,j*3+1,none⟩=false/\w.frozen? ⟨g,j*3+2,none⟩=false:=by
 subst c;have a:=sC l j b;exact⟨(a07 h (j*3) (by omega)).trans a.1,(a07 h (j*3+1) (by omega)).trans a.2.1,(a07 h (j*3+2) (by omega)).trans a.2.2,a2A h _,a2A h _,a2A h _⟩
theorem dN.put{base cap:Nat}{l:List Tk}(c:l.length=n)(h:dN w base (.slice (some ⟨g,0,none⟩) n cap) l)(j:Nat)(x:Tk) :
  dN (((w.setCell ⟨g,j*3,none⟩ (.int .i64 x.1)).setCell ⟨g,j*3+1,none⟩ (.int .i64 x.2.1)).setCell ⟨g,j*3+2,none⟩ (.int .i64 x.2.2)) base (.slice (some ⟨g,0,none⟩) n cap) (l.set j x):=by
 subst c;have b:=(a10 h (j*3) (.int .i64 x.1)).1;have h2:=(a10 b (j*3+1) (.int .i64 x.2.1)).1;have a:=(a10 h2 (j*3+2) (.int .i64 x.2.2)).1;rw[Bf]at a;show World.ownsRow _ _ _ _ _ (l.set j x).length _;rw[a1E];exact a
theorem dN.touch{base:Nat}{l:List Tk}(h:dN w base v l)(j:Touch a w w')(f:∀g,a=some ⟨g,0,none⟩->g<base):dN w' base v l:=by
 refine⟨h.1,?_⟩;rcases h.2 with i|⟨g,cap,b,rfl,c,d,rest⟩
 . exact .inl i
 . refine .inr ⟨g,cap,b,rfl,c,?_,rest⟩;rw[j.2 g (fun g' e=>by have:=f g' e;omega)];exact d
theorem Tryz.infoTok:(Tryz.prog.info? 226).map (fun i=>(i.zero,i.size,i.bytes))=some (some (.agg #[.int .i64 0,.int .i64 0,.int .i64 0]),3,24):=by kernel_rfl
theorem uN{x:World}{base:Nat}{l:List Tk}{a b c:Int}(d:l.length=n)(h:x.ownsRow base 226 3 v (n+1) (dP l++[.int .i64 a,.int .i64 b,.int .i64 c])):dN x base v (l++[(a,b,c)]):=by
 subst d;show World.ownsRow _ _ _ _ _ (l++[(a,b,c)]).length _;rw[ug];simpa[dP]using h
theorem dN.nil(w:World)(base:Nat):dN w base (.slice none 0 0) []:=a05 _ _ _ _
theorem dN.lit(w:World)(base:Nat)(hb:base<=w.heap.size):dN (w.alloc (.cells #[] 226)) base (.slice (some ⟨w.heap.size,0,none⟩) 0 0) []:=a04 w #[] 0 hb (by unfold maxLen;omega) rfl
theorem GM(w:World)(x y z:Value)(t:TypeId)(g:Nat)(b:w.heap.size=g):∀(j:Nat) (u:Value),[x,y,z][j]?=some u->(w.alloc (.cells #[x,y,z] t)).cell? ((⟨g,0,none⟩:Addr).add j)=some u:=by
 subst b;intro j u a
 match j,a with
 | 0,a=>simp at a;subst a;simp[Addr.add]
 | 1,a=>simp at a;subst a;simp[Addr.add]
 | 2,a=>simp at a;subst a;simp[Addr.add]
theorem GN(x y z:Int):∀u∈[Value.int .i64 x,Value.int .i64 y,Value.int .i64 z],u.oneCell'=true:=by
 intro u a;simp at a;rcases a with rfl|rfl|rfl<;>rfl
theorem Cm(l:List Tk)(k:Nat)(h:k<l.length):l.take (k+1)=l.take k++[l.getD k k0]:=by
 rw[a1e h]
 congr 2
 simp[List.getD,h]
def rep(s:List UInt8)(back:Nat):Nat->List UInt8
 | 0=>s
 | n+1=>rep s back n++[(rep s back n).getD ((rep s back n).length-back) 0]
theorem kQ(s:List UInt8)(back n:Nat):(rep s back n).length=s.length+n:=by
 induction n with
 | zero=>rfl
 | succ n ih=>simp only[rep,a0m,a1g,ih];omega
def db(x:Int):UInt8:=UInt8.ofNat x.toNat
theorem dX{x:Int}(a:0<=x)(b:x<=255):((db x).toNat:Int)=x:=by
 unfold db;rw[UInt8.toNat_ofNat'];omega
def isB(t:Tk):Bool:=decide (t.2.1=0)&&(inB t.1 0 255&&decide (t.2.2=0))
def isK(t:Tk):Bool:=decide (t.1=0)&&inB t.2.1 3 60&&inB t.2.2 1 250
def gj(s:List UInt8)(t:Tk):Option (List UInt8):=
 if isB t then some (s++[db t.1])else if isK t&&decide (t.2.2<=(s.length:Int))then some (rep s t.2.2.toNat t.2.1.toNat)else none
def dR(s:List UInt8)(t:Tk):Option (List UInt8):=(gj s t).bind fun x=>if x.length<=300 then some x else none
theorem nQ{x:List UInt8}{t:Tk}(h:dR s t=some x):x.length<=300:=by
 unfold dR at h;cases a:gj s t with
 | none=>rw[a]at h;cases h
 | some y=>
  rw[a]at h;simp only[a0f]at h
  split at h
  . simp only[a0i]at h;subst h;assumption
  . cases h
theorem uL{t:Tk}(h:isB t=true):isK t=false:=by
 simp only[isB,a0l,a0u]at h;have:inB t.2.1 3 60=false:=dZ.2 (by omega);simp[isK,this]
def oN(t:Tk):Nat:=if isB t then 1 else t.2.1.toNat
def okT(t:Tk):Bool:=isB t || isK t
theorem jO{t:Tk}(d:okT t=true)(hb:isK t=true->t.2.2<=(s.length:Int))(a:s.length+oN t<=300):dR s t=some (if isB t then s++[db t.1]else rep s t.2.2.toNat t.2.1.toNat):=by
 unfold dR gj;unfold oN at a;cases b:isB t
 .
  have c:isK t=true:=by simpa[okT,b]using d
  rw[b]at a;simp only[a0Y,a0Z]at a ⊢;rw[c,a0v (hb c)];simp only[a2R,a0T,a0f];rw[a0d (by rw[kQ];exact a)]
 . rw[b]at a;simp only[a0T,a0f]at a ⊢;rw[a0d (by simp;omega)]
theorem FT{t:Tk}(b:okT t=false):dR s t=none:=by
 have a:isB t=false:=by cases h:isB t<;>simp[okT,h]at b ⊢
 have c:isK t=false:=by simpa[okT,a]using b
 unfold dR gj;rw[a,c];rfl
theorem wW{t:Tk}(a:isK t=true)(hb:(s.length:Int)<t.2.2):dR s t=none:=by
 have b:isB t=false:=by
  cases h:isB t
  . rfl
  . rw[uL h]at a;cases a
 unfold dR gj;rw[b,a,a0j (by omega)];rfl
theorem me{t:Tk}(a:300<s.length+oN t):dR s t=none:=by
 unfold dR gj;unfold oN at a;cases b:isB t
 .
  rw[b]at a;simp only[a0Y,a0Z]at a ⊢
  split
  . simp only[a0f];rw[a0e (by rw[kQ];omega)]
  . rfl
 . rw[b]at a;simp only[a0T,a0f]at a ⊢;rw[a0e (by simp;omega)]
def agF(L:List UInt8)(p b:Nat):Nat->Nat->Nat
 | 0,n=>n
 | f+1,n=>if p+n<L.length/\L.getD (p+n) 0=L.getD (p+n-b) 0 then agF L p b f (n+1)else n
def agN(L:List UInt8)(p b:Nat):Nat:=agF L p b 60 0
theorem FU{k:Nat}(c:k<60)(h:p+k<L.length)(a:L.getD (p+k) 0=L.getD (p+k-b) 0):agF L p b (60-k) k=agF L p b (60-(k+1)) (k+1):=by
 obtain⟨f,hf⟩:∃f,60-k=f+1:=⟨60-k-1,by omega⟩;rw[hf,show 60-(k+1)=f by omega];simp only[agF];rw[a0d ⟨h,a⟩]
theorem rF{k:Nat}(h:k=60∨¬ (p+k<L.length)∨L.getD (p+k) 0≠L.getD (p+k-b) 0)(c:k<=60):agF L p b (60-k) k=k:=by
 by_cases e:k=60
 . subst e;rfl
 .
  obtain⟨f,hf⟩:∃f,60-k=f+1:=⟨60-k-1,by omega⟩;rw[hf];simp only[agF];rw[a0e];rintro⟨a,h2⟩;rcases h with h|h|h
  . exact e h
  . exact h a
  . exact h h2
theorem Al(L:List UInt8)(p b f n:Nat):n<=agF L p b f n/\agF L p b f n<=n+f/\(p+n<=L.length->p+agF L p b f n<=L.length)/\(∀i,n<=i->i<agF L p b f n->L.getD (p+i) 0=L.getD (p+i-b) 0):=by
 induction f generalizing n with
 | zero=>exact⟨a0a _,a0a _,fun h=>h,fun i a h2=>by simp only[agF]at h2;omega⟩
 | succ f ih=>
  simp only[agF]
  split
  .
   rename_i h;obtain⟨a,h2,c,d⟩:=ih (n+1);refine⟨by omega,by omega,fun _=>c (by omega),fun i j g=>?_⟩;by_cases e:i=n
   . subst e;exact h.2
   . exact d i (by omega) g
  . exact⟨a0a _,by omega,fun h=>h,fun i a h2=>by omega⟩
theorem Lf(L:List UInt8)(p b:Nat):agN L p b<=60:=by have:=(Al L p b 60 0).2.1;unfold agN;omega
theorem Le(h:p<=L.length):p+agN L p b<=L.length:=(Al L p b 60 0).2.2.1 (by omega)
theorem Ld(L:List UInt8)(p b i:Nat)(h:i<agN L p b):L.getD (p+i) 0=L.getD (p+i-b) 0:=(Al L p b 60 0).2.2.2 i (a0g _) h
def aY(L:List UInt8)(p:Nat):Nat->Nat×Nat
 | 0=>(0,0)
 | k+1=>if (aY L p k).1<agN L p (k+1)then(agN L p (k+1),k+1)else aY L p k
theorem jS(L:List UInt8)(p k:Nat):(aY L p k).1<=60/\(aY L p k).2<=k/\((aY L p k).1≠0->1<=(aY L p k).2/\(aY L p k).1=agN L p (aY L p k).2)/\(∀b,1<=b->b<=k->agN L p b<=(aY L p k).1/\(agN L p b=(aY L p k).1->(aY L p k).1≠0->(aY L p k).2<=b)):=by
 induction k with
 | zero=>exact⟨by simp[aY],by simp[aY],fun h=>by simp[aY]at h,fun b d h2=>by omega⟩
 | succ k ih=>
  obtain⟨d,h2,g,f⟩:=ih;simp only[aY]
  split
  .
   rename_i h;refine⟨Lf L p (k+1),a0a _,fun _=>⟨by simp,rfl⟩,fun b a c=>?_⟩;by_cases e:b=k+1
   . subst e;exact⟨a0a _,fun _ _=>a0a _⟩
   . have:=(f b a (by omega)).1;simp only;exact⟨by omega,fun j=>by omega⟩
  .
   rename_i h;refine⟨d,by omega,g,fun b a c=>?_⟩;by_cases e:b=k+1
   . subst e;exact⟨by omega,fun _ i=>by omega⟩
   . exact f b a (by omega)
def fe(L:List UInt8)(p:Nat):Tk:=
 if (aY L p (min p 250)).1<3 then(((L.getD p 0).toNat:Int),0,0)else(0,((aY L p (min p 250)).1:Int),((aY L p (min p 250)).2:Int))
def ii(L:List UInt8)(p:Nat):Nat:=if (aY L p (min p 250)).1<3 then 1 else(aY L p (min p 250)).1
theorem gi(L:List UInt8)(p:Nat):1<=ii L p/\ii L p<=60:=by
 unfold ii;have:=(jS L p (min p 250)).1
 split<;>omega
theorem oM(h:p<L.length):p+ii L p<=L.length:=by
 unfold ii;obtain⟨c,h2,a,d⟩:=jS L p (min p 250)
 split
 . omega
 . rename_i hn;obtain⟨e,b⟩:=a (by omega);rw[b];exact Le (by omega)
def gr(L:List UInt8):Nat->Nat->List Tk
 | 0,_=>[]
 | f+1,p=>if p<L.length then fe L p :: gr L f (p+ii L p)else []
theorem Cr{f:Nat}(h:L.length-p<=f):gr L f p=gr L (L.length-p) p:=by
 induction f generalizing p with
 | zero=>rw[show L.length-p=0 by omega]
 | succ f ih=>
  by_cases e:p<L.length
  .
   obtain⟨g,hg⟩:∃g,L.length-p=g+1:=⟨L.length-p-1,by omega⟩;have l:=gi L p;rw[hg];simp only[gr];rw[a0d e,a0d e,ih (by omega)]
   congr 1
   -- both are the tokens from there on
   have:∀g',L.length-(p+ii L p)<=g'->g'<=f->gr L g' (p+ii L p)=gr L (L.length-(p+ii L p)) (p+ii L p):=by
    intro g' c h2;clear ih;have key:∀n q,L.length-q<=n->gr L n q=gr L (L.length-q) q:=by
     intro n;induction n with
     | zero=>intro q hq;rw[show L.length-q=0 by omega]
     | succ n ihn=>
      intro q hq;by_cases a:q<L.length
      .
       obtain⟨m,hm⟩:∃m,L.length-q=m+1:=⟨L.length-q-1,by omega⟩;have j:=gi L q;rw[hm];simp only[gr];rw[a0d a,a0d a,ihn _ (by omega)]
       congr 1
       by_cases d:m=n
       . subst d;rw[ihn _ (by omega)]
       .
        have i:m<n:=by omega
        clear hq;have:∀n m r,m<=n->L.length-r<=m->gr L n r=gr L m r:=by
         intro n;induction n with
         | zero=>intro m r c _;rw[show m=0 by omega]
         | succ n ih3=>
          intro m r c h2;by_cases b:r<L.length
          . obtain⟨m',rfl⟩:∃m',m=m'+1:=⟨m-1,by omega⟩;have k:=gi L r;simp only[gr];rw[a0d b,a0d b,ih3 m' _ (by omega) (by omega)]
          .
           cases m with
           | zero=>simp only[gr];rw[a0e b]
           | succ m=>simp only[gr];rw[a0e b,a0e b]
        exact(this m _ _ (by omega) (a0a _)).symm
      . rw[show L.length-q=0 by omega];simp only[gr];rw[a0e a]
    exact key g' _ c
   exact(this g (by omega) (by omega)).symm
  . rw[show L.length-p=0 by omega];simp only[gr];rw[a0e e]
def bg(L:List UInt8)(p:Nat):List Tk:=gr L (L.length-p) p
theorem gO(h:p<L.length):bg L p=fe L p :: bg L (p+ii L p):=by
 unfold bg;obtain⟨g,hg⟩:∃g,L.length-p=g+1:=⟨L.length-p-1,by omega⟩;have a:=gi L p;rw[hg];simp only[gr];rw[a0d h,Cr (by omega)]
theorem ea(h:¬ p<L.length):bg L p=[]:=by
 unfold bg;rw[show L.length-p=0 by omega];rfl
theorem vv(L:List UInt8):∀n p,L.length-p<=n->(bg L p).length<=L.length-p:=by
 intro n;induction n with
 | zero=>intro p h;rw[ea (by omega)];simp
 | succ n ih=>
  intro p h;by_cases a:p<L.length
  . have b:=gi L p;rw[gO a];have:=ih (p+ii L p) (by omega);simp only[a0E];omega
  . rw[ea a];simp
end Go.Proofs.YtggknepmhjfohaaGreatDoor
