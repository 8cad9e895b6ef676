/- Of what the proof is made: 4 texts, one behind the other. -/
import Derived.Test.YtkdlcomfpffhhaaGreatDoorM8
import Derived.Deep.DeepCutAuto
import Derived.Test.YtkdlcomfpffhhaaGreatDoorM6
import Derived.Deep.RegionWith
set_option linter.unusedSimpArgs false
set_option linter.unusedVariables false
namespace Go.Proofs.YtkdlcomfpffhhaaGreatDoor
open Go.RowKit
variable {L s:List UInt8}{a:Option Addr}{b g n p:Nat}{v:Value}{w w':World}
theorem kz{a:Array Value}{t:TypeId}(h:w.heap[b]?=some (Obj.cells a t))(i:Nat):w.cell? ⟨b,i,none⟩=a[i]?:=by simp[World.cell?,h]
abbrev Tk:=Int×Int×Int
def k0:Tk:=(0,0,0)
def Af(w:World)(a:Option Addr)(l:List Tk):Prop:=
 0<l.length->∃g o,a=some ⟨g,o,none⟩/\g<w.heap.size/\∀i,i<l.length->w.cell? ⟨g,o+i*3,none⟩=some (.int .i64 (l.getD i k0).1)/\w.cell? ⟨g,o+i*3+1,none⟩=some (.int .i64 (l.getD i k0).2.1)/\w.cell? ⟨g,o+i*3+2,none⟩=some (.int .i64 (l.getD i k0).2.2)
theorem Af.later{l:List Tk}(h:Af w a l)(hb:Below w.heap.size w w'):Af w' a l:=by
 intro f;obtain⟨g,o,e,b,c⟩:=h f;refine⟨g,o,e,a0i b hb.size,fun i d=>⟨?_,?_,?_⟩⟩
 . exact(hb.cell (p:=⟨g,o+i*3,none⟩) b).trans (c i d).1
 . exact(hb.cell (p:=⟨g,o+i*3+1,none⟩) b).trans (c i d).2.1
 . exact(hb.cell (p:=⟨g,o+i*3+2,none⟩) b).trans (c i d).2.2
def dw:List Tk->List Value
 | []=>[]
 | p :: l=>.int .i64 p.1 :: .int .i64 p.2.1 :: .int .i64 p.2.2 :: dw l
theorem tF(l m:List Tk):dw (l++m)=dw l++dw m:=by
 induction l with
 | nil=>rfl
 | cons p l ih=>simp[dw,ih]
theorem rI(l:List Tk)(i:Nat)(h:i<l.length):(dw l)[i*3]?=some (.int .i64 (l.getD i k0).1)/\(dw l)[i*3+1]?=some (.int .i64 (l.getD i k0).2.1)/\(dw l)[i*3+2]?=some (.int .i64 (l.getD i k0).2.2):=by
 induction l generalizing i with
 | nil=>simp at h
 | cons p l ih=>
  cases i with
  | zero=>simp[dw]
  | succ i=>
   have:=ih i (by simpa using h);rw[show(i+1)*3=i*3+1+1+1 by omega];simpa[dw]using this
theorem AX(l:List Tk)(j:Nat)(x:Tk):(((dw l).set (j*3) (.int .i64 x.1)).set (j*3+1) (.int .i64 x.2.1)).set (j*3+2) (.int .i64 x.2.2)=dw (l.set j x):=by
 induction l generalizing j with
 | nil=>simp[dw]
 | cons p l ih=>
  cases j with
  | zero=>simp[dw]
  | succ j=>
   rw[show(j+1)*3=j*3+1+1+1 by omega];simp only[dw,List.set_cons_succ];rw[ih j]
def dr(w:World)(base:Nat)(v:Value)(l:List Tk):Prop:=w.ownsRow base 343 3 v l.length (dw l)
theorem dr.form{base:Nat}{l:List Tk}(h:dr w base v l):∃a cap,v = .slice a l.length cap:=by
 rcases h.2 with⟨e,b⟩|⟨g,cap,_,e,_⟩
 . exact⟨none,0,by rw[e,b]⟩
 . exact⟨_,cap,e⟩
theorem dr.formN{base:Nat}{l:List Tk}(b:l.length=n)(h:dr w base v l):∃a cap,v = .slice a n cap:=by
 subst b;exact h.form
theorem dr.row{base:Nat}{cap:Nat}{l:List Tk}(h:dr w base (.slice a l.length cap) l):Af w a l:=by
 intro k;rcases h.2 with⟨_,m⟩|⟨g,c,d,e,hb,f,n⟩
 . omega
 . simp only[a0O]at e;obtain⟨rfl,_,rfl⟩:=e;refine⟨g,0,rfl,(Array.getElem?_eq_some_iff.1 f).1,fun i j=>?_⟩;have b:=rI l i j;have c1:=a02 h (i*3) (by omega);have c2:=a02 h (i*3+1) (by omega);have c3:=a02 h (i*3+2) (by omega);rw[a0B];exact⟨c1.trans b.1,c2.trans b.2.1,c3.trans b.2.2⟩
theorem dr.rowN{base:Nat}{cap:Nat}{l:List Tk}(b:l.length=n)(h:dr w base (.slice a n cap) l):Af w a l:=by
 subst b;exact h.row
theorem dr.later{base B:Nat}{l:List Tk}(h:dr w base v l)(hb:Below B w w')(a:w.heap.size<=B):dr w' base v l:=
 a1y h (row:=none) ⟨hb.os,hb.tape,hb.output,hb.size,fun k b _=>hb.block k (by omega)⟩ (by
  cases c:v.ownBlock with
  | none=>exact .inl rfl
  | some k=>exact .inr (by simp))
theorem dr.mono{base base':Nat}{l:List Tk}(h:dr w base v l)(hb:base'<=base):dr w base' v l:=by
 refine⟨h.1,?_⟩;rcases h.2 with c|⟨g,cap,a,e,b,rest⟩
 . exact .inl c
 . exact .inr ⟨g,cap,a,e,a0G hb b,rest⟩
theorem dr.own{base:Nat}{l:List Tk}(a:l.length=n)(h:dr w base v l):w.ownsRow base 343 3 v n (dw l):=by
 subst a;exact h
theorem dr.somes{base cap:Nat}{l:List Tk}(h:dr w base (.slice a n cap) l)(d:0<l.length):∃g,a=some ⟨g,0,none⟩:=by
 rcases h.2 with⟨_,e⟩|⟨g,b,c,e,_⟩
 . omega
 . simp only[a0O]at e;exact⟨g,e.1⟩
theorem dr.below{base cap:Nat}{l:List Tk}(h:dr w base (.slice (some ⟨g,0,none⟩) n cap) l):base<=g/\g<w.heap.size:=a0p h g rfl
theorem dr.at{base cap:Nat}{l:List Tk}(c:l.length=n)(h:dr w base (.slice (some ⟨g,0,none⟩) n cap) l)(j:Nat)(b:j<n) :
  w.cell? ⟨g,j*3,none⟩=some (.int .i64 (l.getD j k0).1)/\w.cell? ⟨g,j*3+1,none⟩=some (.int .i64 (l.getD j k0).2.1)/\w.cell? ⟨g,j*3+2,none⟩=some (.int .i64 (l.getD j k0).2.2)/\w.frozen? ⟨g,j*3,none⟩=false/\w.frozen? ⟨g,j*3+1,none⟩=false/\w.frozen? ⟨g,j*3+2,none⟩=false:=by
 subst c;have a:=rI l j b;exact⟨(a02 h (j*3) (by omega)).trans a.1,(a02 h (j*3+1) (by omega)).trans a.2.1,(a02 h (j*3+2) (by omega)).trans a.2.2,a2B h _,a2B h _,a2B h _⟩
theorem dr.put{base cap:Nat}{l:List Tk}(c:l.length=n)(h:dr w base (.slice (some ⟨g,0,none⟩) n cap) l)(j:Nat)(x:Tk) :
  dr (((w.setCell ⟨g,j*3,none⟩ (.int .i64 x.1)).setCell ⟨g,j*3+1,none⟩ (.int .i64 x.2.1)).setCell ⟨g,j*3+2,none⟩ (.int .i64 x.2.2)) base (.slice (some ⟨g,0,none⟩) n cap) (l.set j x):=by
 subst c;have b:=(a1S h (j*3) (.int .i64 x.1)).1;have h2:=(a1S b (j*3+1) (.int .i64 x.2.1)).1;have a:=(a1S h2 (j*3+2) (.int .i64 x.2.2)).1;rw[AX]at a;show World.ownsRow _ _ _ _ _ (l.set j x).length _;rw[a16];exact a
theorem dr.touch{base:Nat}{l:List Tk}(h:dr w base v l)(j:Touch a w w')(f:∀g,a=some ⟨g,0,none⟩->g<base):dr w' base v l:=by
 refine⟨h.1,?_⟩;rcases h.2 with i|⟨g,cap,b,rfl,c,d,rest⟩
 . exact .inl i
 . refine .inr ⟨g,cap,b,rfl,c,?_,rest⟩;rw[j.2 g (fun g' e=>by have:=f g' e;omega)];exact d
theorem Tryz.infoTok:(Tryz.prog.info? 343).map (fun i=>(i.zero,i.size,i.bytes))=some (some (.agg #[.int .i64 0,.int .i64 0,.int .i64 0]),3,24):=by kernel_rfl
theorem ux{x:World}{base:Nat}{l:List Tk}{a b c:Int}(d:l.length=n)(h:x.ownsRow base 343 3 v (n+1) (dw l++[.int .i64 a,.int .i64 b,.int .i64 c])):dr x base v (l++[(a,b,c)]):=by
 subst d;show World.ownsRow _ _ _ _ _ (l++[(a,b,c)]).length _;rw[tF];simpa[dw]using h
theorem dr.nil(w:World)(base:Nat):dr w base (.slice none 0 0) []:=a1x _ _ _ _
theorem dr.lit(w:World)(base:Nat)(hb:base<=w.heap.size):dr (w.alloc (.cells #[] 343)) base (.slice (some ⟨w.heap.size,0,none⟩) 0 0) []:=a0P w #[] 0 hb (by unfold maxLen;omega) rfl
theorem It(w:World)(x y z:Value)(t:TypeId)(g:Nat)(b:w.heap.size=g):∀(j:Nat) (u:Value),[x,y,z][j]?=some u->(w.alloc (.cells #[x,y,z] t)).cell? ((⟨g,0,none⟩:Addr).add j)=some u:=by
 subst b;intro j u a
 match j,a with
 | 0,a=>simp at a;subst a;simp[Addr.add]
 | 1,a=>simp at a;subst a;simp[Addr.add]
 | 2,a=>simp at a;subst a;simp[Addr.add]
theorem Iu(x y z:Int):∀u∈[Value.int .i64 x,Value.int .i64 y,Value.int .i64 z],u.oneCell'=true:=by
 intro u a;simp at a;rcases a with rfl|rfl|rfl<;>rfl
theorem B9(l:List Tk)(k:Nat)(h:k<l.length):l.take (k+1)=l.take k++[l.getD k k0]:=by
 rw[a1i h]
 congr 2
 simp[List.getD,h]
def rep(s:List UInt8)(back:Nat):Nat->List UInt8
 | 0=>s
 | n+1=>rep s back n++[(rep s back n).getD ((rep s back n).length-back) 0]
theorem jW(s:List UInt8)(back n:Nat):(rep s back n).length=s.length+n:=by
 induction n with
 | zero=>rfl
 | succ n ih=>simp only[rep,a0o,a1R,ih];omega
def cU(x:Int):UInt8:=UInt8.ofNat x.toNat
theorem dJ{x:Int}(a:0<=x)(b:x<=255):((cU x).toNat:Int)=x:=by
 unfold cU;rw[a3M];omega
def isB(t:Tk):Bool:=decide (t.2.1=0)&&(inB t.1 0 255&&decide (t.2.2=0))
def isK(t:Tk):Bool:=decide (t.1=0)&&inB t.2.1 3 60&&inB t.2.2 1 250
def fQ(s:List UInt8)(t:Tk):Option (List UInt8):=
 if isB t then some (s++[cU t.1])else if isK t&&decide (t.2.2<=(s.length:Int))then some (rep s t.2.2.toNat t.2.1.toNat)else none
def dT(s:List UInt8)(t:Tk):Option (List UInt8):=(fQ s t).bind fun x=>if x.length<=300 then some x else none
theorem np{x:List UInt8}{t:Tk}(h:dT s t=some x):x.length<=300:=by
 unfold dT at h;cases a:fQ s t with
 | none=>rw[a]at h;cases h
 | some y=>
  rw[a]at h;simp only[a0g]at h
  split at h
  . simp only[a0m]at h;subst h;assumption
  . cases h
theorem Db{t:Tk}(h:isB t=true):isK t=false:=by
 simp only[isB,a0n,a0E]at h;have:inB t.2.1 3 60=false:=dK.2 (by omega);simp[isK,this]
def qE(t:Tk):Nat:=if isB t then 1 else t.2.1.toNat
def okT(t:Tk):Bool:=isB t || isK t
theorem nr{t:Tk}(d:okT t=true)(hb:isK t=true->t.2.2<=(s.length:Int))(a:s.length+qE t<=300):dT s t=some (if isB t then s++[cU t.1]else rep s t.2.2.toNat t.2.1.toNat):=by
 unfold dT fQ;unfold qE at a;cases b:isB t
 .
  have c:isK t=true:=by simpa[okT,b]using d
  rw[b]at a;simp only[a1e,a1f]at a ⊢;rw[c,a0w (hb c)];simp only[a2X,a09,a0g];rw[a0e (by rw[jW];exact a)]
 . rw[b]at a;simp only[a09,a0g]at a ⊢;rw[a0e (by simp;omega)]
theorem Gt{t:Tk}(b:okT t=false):dT s t=none:=by
 have a:isB t=false:=by cases h:isB t<;>simp[okT,h]at b ⊢
 have c:isK t=false:=by simpa[okT,a]using b
 unfold dT fQ;rw[a,c];rfl
theorem wI{t:Tk}(a:isK t=true)(hb:(s.length:Int)<t.2.2):dT s t=none:=by
 have b:isB t=false:=by
  cases h:isB t
  . rfl
  . rw[Db h]at a;cases a
 unfold dT fQ;rw[b,a,a0j (by omega)];rfl
theorem lq{t:Tk}(a:300<s.length+qE t):dT s t=none:=by
 unfold dT fQ;unfold qE at a;cases b:isB t
 .
  rw[b]at a;simp only[a1e,a1f]at a ⊢
  split
  . simp only[a0g];rw[a0d (by rw[jW];omega)]
  . rfl
 . rw[b]at a;simp only[a09,a0g]at a ⊢;rw[a0d (by simp;omega)]
def agF(L:List UInt8)(p b:Nat):Nat->Nat->Nat
 | 0,n=>n
 | f+1,n=>if p+n<L.length/\L.getD (p+n) 0=L.getD (p+n-b) 0 then agF L p b f (n+1)else n
def agN(L:List UInt8)(p b:Nat):Nat:=agF L p b 60 0
theorem Gv{k:Nat}(c:k<60)(h:p+k<L.length)(a:L.getD (p+k) 0=L.getD (p+k-b) 0):agF L p b (60-k) k=agF L p b (60-(k+1)) (k+1):=by
 obtain⟨f,hf⟩:∃f,60-k=f+1:=⟨60-k-1,by omega⟩;rw[hf,show 60-(k+1)=f by omega];simp only[agF];rw[a0e ⟨h,a⟩]
theorem qY{k:Nat}(h:k=60∨¬ (p+k<L.length)∨L.getD (p+k) 0≠L.getD (p+k-b) 0)(c:k<=60):agF L p b (60-k) k=k:=by
 by_cases e:k=60
 . subst e;rfl
 .
  obtain⟨f,hf⟩:∃f,60-k=f+1:=⟨60-k-1,by omega⟩;rw[hf];simp only[agF];rw[a0d];rintro⟨a,h2⟩;rcases h with h|h|h
  . exact e h
  . exact h a
  . exact h h2
theorem Gu(L:List UInt8)(p b f n:Nat):n<=agF L p b f n/\agF L p b f n<=n+f/\(p+n<=L.length->p+agF L p b f n<=L.length)/\(∀i,n<=i->i<agF L p b f n->L.getD (p+i) 0=L.getD (p+i-b) 0):=by
 induction f generalizing n with
 | zero=>exact⟨a0a _,a0a _,fun h=>h,fun i a h2=>by simp only[agF]at h2;omega⟩
 | succ f ih=>
  simp only[agF]
  split
  .
   rename_i h;obtain⟨a,h2,c,d⟩:=ih (n+1);refine⟨by omega,by omega,fun _=>c (by omega),fun i j g=>?_⟩;by_cases e:i=n
   . subst e;exact h.2
   . exact d i (by omega) g
  . exact⟨a0a _,by omega,fun h=>h,fun i a h2=>by omega⟩
theorem ML(L:List UInt8)(p b:Nat):agN L p b<=60:=by have:=(Gu L p b 60 0).2.1;unfold agN;omega
theorem MK(h:p<=L.length):p+agN L p b<=L.length:=(Gu L p b 60 0).2.2.1 (by omega)
def bF(L:List UInt8)(p:Nat):Nat->Nat×Nat
 | 0=>(0,0)
 | k+1=>if (bF L p k).1<agN L p (k+1)then(agN L p (k+1),k+1)else bF L p k
theorem nu(L:List UInt8)(p k:Nat):(bF L p k).1<=60/\(bF L p k).2<=k/\((bF L p k).1≠0->1<=(bF L p k).2/\(bF L p k).1=agN L p (bF L p k).2)/\(∀b,1<=b->b<=k->agN L p b<=(bF L p k).1/\(agN L p b=(bF L p k).1->(bF L p k).1≠0->(bF L p k).2<=b)):=by
 induction k with
 | zero=>exact⟨by simp[bF],by simp[bF],fun h=>by simp[bF]at h,fun b d h2=>by omega⟩
 | succ k ih=>
  obtain⟨d,h2,g,f⟩:=ih;simp only[bF]
  split
  .
   rename_i h;refine⟨ML L p (k+1),a0a _,fun _=>⟨by simp,rfl⟩,fun b a c=>?_⟩;by_cases e:b=k+1
   . subst e;exact⟨a0a _,fun _ _=>a0a _⟩
   . have:=(f b a (by omega)).1;simp only;exact⟨by omega,fun j=>by omega⟩
  .
   rename_i h;refine⟨d,by omega,g,fun b a c=>?_⟩;by_cases e:b=k+1
   . subst e;exact⟨by omega,fun _ i=>by omega⟩
   . exact f b a (by omega)
def tU(L:List UInt8)(p:Nat):Tk:=
 if (bF L p (min p 250)).1<3 then(((L.getD p 0).toNat:Int),0,0)else(0,((bF L p (min p 250)).1:Int),((bF L p (min p 250)).2:Int))
def lh(L:List UInt8)(p:Nat):Nat:=if (bF L p (min p 250)).1<3 then 1 else(bF L p (min p 250)).1
theorem ju(L:List UInt8)(p:Nat):1<=lh L p/\lh L p<=60:=by
 unfold lh;have:=(nu L p (min p 250)).1
 split<;>omega
theorem Ma(h:p<L.length):p+lh L p<=L.length:=by
 unfold lh;obtain⟨c,h2,a,d⟩:=nu L p (min p 250)
 split
 . omega
 . rename_i hn;obtain⟨e,b⟩:=a (by omega);rw[b];exact MK (by omega)
def fT(L:List UInt8):Nat->Nat->List Tk
 | 0,_=>[]
 | f+1,p=>if p<L.length then tU L p :: fT L f (p+lh L p)else []
theorem Cf{f:Nat}(h:L.length-p<=f):fT L f p=fT L (L.length-p) p:=by
 induction f generalizing p with
 | zero=>rw[show L.length-p=0 by omega]
 | succ f ih=>
  by_cases e:p<L.length
  .
   obtain⟨g,hg⟩:∃g,L.length-p=g+1:=⟨L.length-p-1,by omega⟩;have l:=ju L p;rw[hg];simp only[fT];rw[a0e e,a0e e,ih (by omega)]
   congr 1
   -- both are the tokens from there on
   have:∀g',L.length-(p+lh L p)<=g'->g'<=f->fT L g' (p+lh L p)=fT L (L.length-(p+lh L p)) (p+lh L p):=by
    intro g' c h2;clear ih;have key:∀n q,L.length-q<=n->fT L n q=fT L (L.length-q) q:=by
     intro n;induction n with
     | zero=>intro q hq;rw[show L.length-q=0 by omega]
     | succ n ihn=>
      intro q hq;by_cases a:q<L.length
      .
       obtain⟨m,hm⟩:∃m,L.length-q=m+1:=⟨L.length-q-1,by omega⟩;have j:=ju L q;rw[hm];simp only[fT];rw[a0e a,a0e a,ihn _ (by omega)]
       congr 1
       by_cases d:m=n
       . subst d;rw[ihn _ (by omega)]
       .
        have i:m<n:=by omega
        clear hq;have:∀n m r,m<=n->L.length-r<=m->fT L n r=fT L m r:=by
         intro n;induction n with
         | zero=>intro m r c _;rw[show m=0 by omega]
         | succ n ih3=>
          intro m r c h2;by_cases b:r<L.length
          . obtain⟨m',rfl⟩:∃m',m=m'+1:=⟨m-1,by omega⟩;have k:=ju L r;simp only[fT];rw[a0e b,a0e b,ih3 m' _ (by omega) (by omega)]
          .
           cases m with
           | zero=>simp only[fT];rw[a0d b]
           | succ m=>simp only[fT];rw[a0d b,a0d b]
        exact(this m _ _ (by omega) (a0a _)).symm
      . rw[show L.length-q=0 by omega];simp only[fT];rw[a0d a]
    exact key g' _ c
   exact(this g (by omega) (by omega)).symm
  . rw[show L.length-p=0 by omega];simp only[fT];rw[a0d e]
def eG(L:List UInt8)(p:Nat):List Tk:=fT L (L.length-p) p
theorem ng(h:p<L.length):eG L p=tU L p :: eG L (p+lh L p):=by
 unfold eG;obtain⟨g,hg⟩:∃g,L.length-p=g+1:=⟨L.length-p-1,by omega⟩;have a:=ju L p;rw[hg];simp only[fT];rw[a0e h,Cf (by omega)]
theorem jy(h:¬ p<L.length):eG L p=[]:=by
 unfold eG;rw[show L.length-p=0 by omega];rfl
theorem F6(L:List UInt8):∀n p,L.length-p<=n->(eG L p).length<=L.length-p:=by
 intro n;induction n with
 | zero=>intro p h;rw[jy (by omega)];simp
 | succ n ih=>
  intro p h;by_cases a:p<L.length
  . have b:=ju L p;rw[ng a];have:=ih (p+lh L p) (by omega);simp only[a0J];omega
  . rw[jy a];simp
end Go.Proofs.YtkdlcomfpffhhaaGreatDoor
