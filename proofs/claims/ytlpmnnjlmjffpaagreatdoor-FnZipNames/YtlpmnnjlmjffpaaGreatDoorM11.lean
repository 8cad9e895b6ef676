/- Of what the proof is made: 4 texts, one behind the other. -/
import Derived.Test.YtlpmnnjlmjffpaaGreatDoorM9
import Derived.Deep.DeepCutAuto
import Derived.Test.YtlpmnnjlmjffpaaGreatDoorM7
import Derived.Deep.RegionWith
set_option linter.unusedSimpArgs false
set_option linter.unusedVariables false
namespace Go.Proofs.YtlpmnnjlmjffpaaGreatDoor
open Go.RowKit
variable {L s:List UInt8}{a:Option Addr}{b g n p:Nat}{v:Value}{w w':World}
theorem lv{a:Array Value}{t:TypeId}(h:w.heap[b]?=some (Obj.cells a t))(i:Nat):w.cell? ⟨b,i,none⟩=a[i]?:=by simp[World.cell?,h]
abbrev Tk:=Int×Int×Int
def k0:Tk:=(0,0,0)
def Be(w:World)(a:Option Addr)(l:List Tk):Prop:=
 0<l.length->∃g o,a=some ⟨g,o,none⟩/\g<w.heap.size/\∀i,i<l.length->w.cell? ⟨g,o+i*3,none⟩=some (.int .i64 (l.getD i k0).1)/\w.cell? ⟨g,o+i*3+1,none⟩=some (.int .i64 (l.getD i k0).2.1)/\w.cell? ⟨g,o+i*3+2,none⟩=some (.int .i64 (l.getD i k0).2.2)
theorem Be.later{l:List Tk}(h:Be w a l)(hb:Below w.heap.size w w'):Be w' a l:=by
 intro f;obtain⟨g,o,e,b,c⟩:=h f;refine⟨g,o,e,a0j b hb.size,fun i d=>⟨?_,?_,?_⟩⟩
 . exact(hb.cell (p:=⟨g,o+i*3,none⟩) b).trans (c i d).1
 . exact(hb.cell (p:=⟨g,o+i*3+1,none⟩) b).trans (c i d).2.1
 . exact(hb.cell (p:=⟨g,o+i*3+2,none⟩) b).trans (c i d).2.2
def dK:List Tk->List Value
 | []=>[]
 | p :: l=>.int .i64 p.1 :: .int .i64 p.2.1 :: .int .i64 p.2.2 :: dK l
theorem uk(l m:List Tk):dK (l++m)=dK l++dK m:=by
 induction l with
 | nil=>rfl
 | cons p l ih=>simp[dK,ih]
theorem sK(l:List Tk)(i:Nat)(h:i<l.length):(dK l)[i*3]?=some (.int .i64 (l.getD i k0).1)/\(dK l)[i*3+1]?=some (.int .i64 (l.getD i k0).2.1)/\(dK l)[i*3+2]?=some (.int .i64 (l.getD i k0).2.2):=by
 induction l generalizing i with
 | nil=>simp at h
 | cons p l ih=>
  cases i with
  | zero=>simp[dK]
  | succ i=>
   have:=ih i (by simpa using h);rw[show(i+1)*3=i*3+1+1+1 by omega];simpa[dK]using this
theorem BX(l:List Tk)(j:Nat)(x:Tk):(((dK l).set (j*3) (.int .i64 x.1)).set (j*3+1) (.int .i64 x.2.1)).set (j*3+2) (.int .i64 x.2.2)=dK (l.set j x):=by
 induction l generalizing j with
 | nil=>simp[dK]
 | cons p l ih=>
  cases j with
  | zero=>simp[dK]
  | succ j=>
   rw[show(j+1)*3=j*3+1+1+1 by omega];simp only[dK,List.set_cons_succ];rw[ih j]
def dI(w:World)(base:Nat)(v:Value)(l:List Tk):Prop:=w.ownsRow base 330 3 v l.length (dK l)
theorem dI.form{base:Nat}{l:List Tk}(h:dI w base v l):∃a cap,v = .slice a l.length cap:=by
 rcases h.2 with⟨e,b⟩|⟨g,cap,_,e,_⟩
 . exact⟨none,0,by rw[e,b]⟩
 . exact⟨_,cap,e⟩
theorem dI.formN{base:Nat}{l:List Tk}(b:l.length=n)(h:dI w base v l):∃a cap,v = .slice a n cap:=by
 subst b;exact h.form
theorem dI.row{base:Nat}{cap:Nat}{l:List Tk}(h:dI w base (.slice a l.length cap) l):Be w a l:=by
 intro k;rcases h.2 with⟨_,m⟩|⟨g,c,d,e,hb,f,n⟩
 . omega
 . simp only[a0L]at e;obtain⟨rfl,_,rfl⟩:=e;refine⟨g,0,rfl,(Array.getElem?_eq_some_iff.1 f).1,fun i j=>?_⟩;have b:=sK l i j;have c1:=a04 h (i*3) (by omega);have c2:=a04 h (i*3+1) (by omega);have c3:=a04 h (i*3+2) (by omega);rw[a0J];exact⟨c1.trans b.1,c2.trans b.2.1,c3.trans b.2.2⟩
theorem dI.rowN{base:Nat}{cap:Nat}{l:List Tk}(b:l.length=n)(h:dI w base (.slice a n cap) l):Be w a l:=by
 subst b;exact h.row
theorem dI.later{base B:Nat}{l:List Tk}(h:dI w base v l)(hb:Below B w w')(a:w.heap.size<=B):dI w' base v l:=
 a16 h (row:=none) ⟨hb.os,hb.tape,hb.output,hb.size,fun k b _=>hb.block k (by omega)⟩ (by
  cases c:v.ownBlock with
  | none=>exact .inl rfl
  | some k=>exact .inr (by simp))
theorem dI.mono{base base':Nat}{l:List Tk}(h:dI w base v l)(hb:base'<=base):dI w base' v l:=by
 refine⟨h.1,?_⟩;rcases h.2 with c|⟨g,cap,a,e,b,rest⟩
 . exact .inl c
 . exact .inr ⟨g,cap,a,e,a0G hb b,rest⟩
theorem dI.own{base:Nat}{l:List Tk}(a:l.length=n)(h:dI w base v l):w.ownsRow base 330 3 v n (dK l):=by
 subst a;exact h
theorem dI.somes{base cap:Nat}{l:List Tk}(h:dI w base (.slice a n cap) l)(d:0<l.length):∃g,a=some ⟨g,0,none⟩:=by
 rcases h.2 with⟨_,e⟩|⟨g,b,c,e,_⟩
 . omega
 . simp only[a0L]at e;exact⟨g,e.1⟩
theorem dI.below{base cap:Nat}{l:List Tk}(h:dI w base (.slice (some ⟨g,0,none⟩) n cap) l):base<=g/\g<w.heap.size:=a0D h g rfl
theorem dI.at{base cap:Nat}{l:List Tk}(c:l.length=n)(h:dI w base (.slice (some ⟨g,0,none⟩) n cap) l)(j:Nat)(b:j<n) :
  w.cell? ⟨g,j*3,none⟩=some (.int .i64 (l.getD j k0).1)/\w.cell? ⟨g,j*3+1,none⟩=some (.int .i64 (l.getD j k0).2.1)/\w.cell? ⟨g,j*3+2,none⟩=some (.int .i64 (l.getD j k0).2.2)/\w.frozen? ⟨g,j*3,none⟩=false/\w.frozen? ⟨g,j*3+1,none⟩=false/\w.frozen? ⟨g,j*3+2,none⟩=false:=by
 subst c;have a:=sK l j b;exact⟨(a04 h (j*3) (by omega)).trans a.1,(a04 h (j*3+1) (by omega)).trans a.2.1,(a04 h (j*3+2) (by omega)).trans a.2.2,a2t h _,a2t h _,a2t h _⟩
theorem dI.put{base cap:Nat}{l:List Tk}(c:l.length=n)(h:dI w base (.slice (some ⟨g,0,none⟩) n cap) l)(j:Nat)(x:Tk) :
  dI (((w.setCell ⟨g,j*3,none⟩ (.int .i64 x.1)).setCell ⟨g,j*3+1,none⟩ (.int .i64 x.2.1)).setCell ⟨g,j*3+2,none⟩ (.int .i64 x.2.2)) base (.slice (some ⟨g,0,none⟩) n cap) (l.set j x):=by
 subst c;have b:=(a15 h (j*3) (.int .i64 x.1)).1;have h2:=(a15 b (j*3+1) (.int .i64 x.2.1)).1;have a:=(a15 h2 (j*3+2) (.int .i64 x.2.2)).1;rw[BX]at a;show World.ownsRow _ _ _ _ _ (l.set j x).length _;rw[a1I];exact a
theorem dI.touch{base:Nat}{l:List Tk}(h:dI w base v l)(j:Touch a w w')(f:∀g,a=some ⟨g,0,none⟩->g<base):dI w' base v l:=by
 refine⟨h.1,?_⟩;rcases h.2 with i|⟨g,cap,b,rfl,c,d,rest⟩
 . exact .inl i
 . refine .inr ⟨g,cap,b,rfl,c,?_,rest⟩;rw[j.2 g (fun g' e=>by have:=f g' e;omega)];exact d
theorem Tryz.infoTok:(Tryz.prog.info? 330).map (fun i=>(i.zero,i.size,i.bytes))=some (some (.agg #[.int .i64 0,.int .i64 0,.int .i64 0]),3,24):=by kernel_rfl
theorem vd{x:World}{base:Nat}{l:List Tk}{a b c:Int}(d:l.length=n)(h:x.ownsRow base 330 3 v (n+1) (dK l++[.int .i64 a,.int .i64 b,.int .i64 c])):dI x base v (l++[(a,b,c)]):=by
 subst d;show World.ownsRow _ _ _ _ _ (l++[(a,b,c)]).length _;rw[uk];simpa[dK]using h
theorem dI.nil(w:World)(base:Nat):dI w base (.slice none 0 0) []:=a1A _ _ _ _
theorem dI.lit(w:World)(base:Nat)(hb:base<=w.heap.size):dI (w.alloc (.cells #[] 330)) base (.slice (some ⟨w.heap.size,0,none⟩) 0 0) []:=a0Y w #[] 0 hb (by unfold maxLen;omega) rfl
theorem Jr(w:World)(x y z:Value)(t:TypeId)(g:Nat)(b:w.heap.size=g):∀(j:Nat) (u:Value),[x,y,z][j]?=some u->(w.alloc (.cells #[x,y,z] t)).cell? ((⟨g,0,none⟩:Addr).add j)=some u:=by
 subst b;intro j u a
 match j,a with
 | 0,a=>simp at a;subst a;simp[Addr.add]
 | 1,a=>simp at a;subst a;simp[Addr.add]
 | 2,a=>simp at a;subst a;simp[Addr.add]
theorem Js(x y z:Int):∀u∈[Value.int .i64 x,Value.int .i64 y,Value.int .i64 z],u.oneCell'=true:=by
 intro u a;simp at a;rcases a with rfl|rfl|rfl<;>rfl
theorem Dn(l:List Tk)(k:Nat)(h:k<l.length):l.take (k+1)=l.take k++[l.getD k k0]:=by
 rw[a1r h]
 congr 2
 simp[List.getD,h]
def rep(s:List UInt8)(back:Nat):Nat->List UInt8
 | 0=>s
 | n+1=>rep s back n++[(rep s back n).getD ((rep s back n).length-back) 0]
theorem kR(s:List UInt8)(back n:Nat):(rep s back n).length=s.length+n:=by
 induction n with
 | zero=>rfl
 | succ n ih=>simp only[rep,a0m,a1z,ih];omega
def cV(x:Int):UInt8:=UInt8.ofNat x.toNat
theorem dU{x:Int}(a:0<=x)(b:x<=255):((cV x).toNat:Int)=x:=by
 unfold cV;rw[a29];omega
def isB(t:Tk):Bool:=decide (t.2.1=0)&&(inB t.1 0 255&&decide (t.2.2=0))
def isK(t:Tk):Bool:=decide (t.1=0)&&inB t.2.1 3 60&&inB t.2.2 1 250
def gm(s:List UInt8)(t:Tk):Option (List UInt8):=
 if isB t then some (s++[cV t.1])else if isK t&&decide (t.2.2<=(s.length:Int))then some (rep s t.2.2.toNat t.2.1.toNat)else none
def dP(s:List UInt8)(t:Tk):Option (List UInt8):=(gm s t).bind fun x=>if x.length<=300 then some x else none
theorem oe{x:List UInt8}{t:Tk}(h:dP s t=some x):x.length<=300:=by
 unfold dP at h;cases a:gm s t with
 | none=>rw[a]at h;cases h
 | some y=>
  rw[a]at h;simp only[a0f]at h
  split at h
  . simp only[a0k]at h;subst h;assumption
  . cases h
theorem uZ{t:Tk}(h:isB t=true):isK t=false:=by
 simp only[isB,a0h,a0o]at h;have:inB t.2.1 3 60=false:=dW.2 (by omega);simp[isK,this]
def oU(t:Tk):Nat:=if isB t then 1 else t.2.1.toNat
def okT(t:Tk):Bool:=isB t || isK t
theorem jP{t:Tk}(d:okT t=true)(hb:isK t=true->t.2.2<=(s.length:Int))(a:s.length+oU t<=300):dP s t=some (if isB t then s++[cV t.1]else rep s t.2.2.toNat t.2.1.toNat):=by
 unfold dP gm;unfold oU at a;cases b:isB t
 .
  have c:isK t=true:=by simpa[okT,b]using d
  rw[b]at a;simp only[a0Z,a00]at a ⊢;rw[c,a0y (hb c)];simp only[a2S,a0R,a0f];rw[a0e (by rw[kR];exact a)]
 . rw[b]at a;simp only[a0R,a0f]at a ⊢;rw[a0e (by simp;omega)]
theorem H9{t:Tk}(b:okT t=false):dP s t=none:=by
 have a:isB t=false:=by cases h:isB t<;>simp[okT,h]at b ⊢
 have c:isK t=false:=by simpa[okT,a]using b
 unfold dP gm;rw[a,c];rfl
theorem xt{t:Tk}(a:isK t=true)(hb:(s.length:Int)<t.2.2):dP s t=none:=by
 have b:isB t=false:=by
  cases h:isB t
  . rfl
  . rw[uZ h]at a;cases a
 unfold dP gm;rw[b,a,a0i (by omega)];rfl
theorem lY{t:Tk}(a:300<s.length+oU t):dP s t=none:=by
 unfold dP gm;unfold oU at a;cases b:isB t
 .
  rw[b]at a;simp only[a0Z,a00]at a ⊢
  split
  . simp only[a0f];rw[a0d (by rw[kR];omega)]
  . rfl
 . rw[b]at a;simp only[a0R,a0f]at a ⊢;rw[a0d (by simp;omega)]
def agF(L:List UInt8)(p b:Nat):Nat->Nat->Nat
 | 0,n=>n
 | f+1,n=>if p+n<L.length/\L.getD (p+n) 0=L.getD (p+n-b) 0 then agF L p b f (n+1)else n
def agN(L:List UInt8)(p b:Nat):Nat:=agF L p b 60 0
theorem Ia{k:Nat}(c:k<60)(h:p+k<L.length)(a:L.getD (p+k) 0=L.getD (p+k-b) 0):agF L p b (60-k) k=agF L p b (60-(k+1)) (k+1):=by
 obtain⟨f,hf⟩:∃f,60-k=f+1:=⟨60-k-1,by omega⟩;rw[hf,show 60-(k+1)=f by omega];simp only[agF];rw[a0e ⟨h,a⟩]
theorem rL{k:Nat}(h:k=60∨¬ (p+k<L.length)∨L.getD (p+k) 0≠L.getD (p+k-b) 0)(c:k<=60):agF L p b (60-k) k=k:=by
 by_cases e:k=60
 . subst e;rfl
 .
  obtain⟨f,hf⟩:∃f,60-k=f+1:=⟨60-k-1,by omega⟩;rw[hf];simp only[agF];rw[a0d];rintro⟨a,h2⟩;rcases h with h|h|h
  . exact e h
  . exact h a
  . exact h h2
theorem Bf(L:List UInt8)(p b f n:Nat):n<=agF L p b f n/\agF L p b f n<=n+f/\(p+n<=L.length->p+agF L p b f n<=L.length)/\(∀i,n<=i->i<agF L p b f n->L.getD (p+i) 0=L.getD (p+i-b) 0):=by
 induction f generalizing n with
 | zero=>exact⟨a0a _,a0a _,fun h=>h,fun i a h2=>by simp only[agF]at h2;omega⟩
 | succ f ih=>
  simp only[agF]
  split
  .
   rename_i h;obtain⟨a,h2,c,d⟩:=ih (n+1);refine⟨by omega,by omega,fun _=>c (by omega),fun i j g=>?_⟩;by_cases e:i=n
   . subst e;exact h.2
   . exact d i (by omega) g
  . exact⟨a0a _,by omega,fun h=>h,fun i a h2=>by omega⟩
theorem NV(L:List UInt8)(p b:Nat):agN L p b<=60:=by have:=(Bf L p b 60 0).2.1;unfold agN;omega
theorem NU(h:p<=L.length):p+agN L p b<=L.length:=(Bf L p b 60 0).2.2.1 (by omega)
theorem NT(L:List UInt8)(p b i:Nat)(h:i<agN L p b):L.getD (p+i) 0=L.getD (p+i-b) 0:=(Bf L p b 60 0).2.2.2 i (a0g _) h
def br(L:List UInt8)(p:Nat):Nat->Nat×Nat
 | 0=>(0,0)
 | k+1=>if (br L p k).1<agN L p (k+1)then(agN L p (k+1),k+1)else br L p k
theorem lu(L:List UInt8)(p k:Nat):(br L p k).1<=60/\(br L p k).2<=k/\((br L p k).1≠0->1<=(br L p k).2/\(br L p k).1=agN L p (br L p k).2)/\(∀b,1<=b->b<=k->agN L p b<=(br L p k).1/\(agN L p b=(br L p k).1->(br L p k).1≠0->(br L p k).2<=b)):=by
 induction k with
 | zero=>exact⟨by simp[br],by simp[br],fun h=>by simp[br]at h,fun b d h2=>by omega⟩
 | succ k ih=>
  obtain⟨d,h2,g,f⟩:=ih;simp only[br]
  split
  .
   rename_i h;refine⟨NV L p (k+1),a0a _,fun _=>⟨by simp,rfl⟩,fun b a c=>?_⟩;by_cases e:b=k+1
   . subst e;exact⟨a0a _,fun _ _=>a0a _⟩
   . have:=(f b a (by omega)).1;simp only;exact⟨by omega,fun j=>by omega⟩
  .
   rename_i h;refine⟨d,by omega,g,fun b a c=>?_⟩;by_cases e:b=k+1
   . subst e;exact⟨by omega,fun _ i=>by omega⟩
   . exact f b a (by omega)
def mT(L:List UInt8)(p:Nat):Tk:=
 if (br L p (min p 250)).1<3 then(((L.getD p 0).toNat:Int),0,0)else(0,((br L p (min p 250)).1:Int),((br L p (min p 250)).2:Int))
def jl(L:List UInt8)(p:Nat):Nat:=if (br L p (min p 250)).1<3 then 1 else(br L p (min p 250)).1
theorem gW(L:List UInt8)(p:Nat):1<=jl L p/\jl L p<=60:=by
 unfold jl;have:=(lu L p (min p 250)).1
 split<;>omega
theorem rJ(h:p<L.length):p+jl L p<=L.length:=by
 unfold jl;obtain⟨c,h2,a,d⟩:=lu L p (min p 250)
 split
 . omega
 . rename_i hn;obtain⟨e,b⟩:=a (by omega);rw[b];exact NU (by omega)
def gt(L:List UInt8):Nat->Nat->List Tk
 | 0,_=>[]
 | f+1,p=>if p<L.length then mT L p :: gt L f (p+jl L p)else []
theorem Du{f:Nat}(h:L.length-p<=f):gt L f p=gt L (L.length-p) p:=by
 induction f generalizing p with
 | zero=>rw[show L.length-p=0 by omega]
 | succ f ih=>
  by_cases e:p<L.length
  .
   obtain⟨g,hg⟩:∃g,L.length-p=g+1:=⟨L.length-p-1,by omega⟩;have l:=gW L p;rw[hg];simp only[gt];rw[a0e e,a0e e,ih (by omega)]
   congr 1
   -- both are the tokens from there on
   have:∀g',L.length-(p+jl L p)<=g'->g'<=f->gt L g' (p+jl L p)=gt L (L.length-(p+jl L p)) (p+jl L p):=by
    intro g' c h2;clear ih;have key:∀n q,L.length-q<=n->gt L n q=gt L (L.length-q) q:=by
     intro n;induction n with
     | zero=>intro q hq;rw[show L.length-q=0 by omega]
     | succ n ihn=>
      intro q hq;by_cases a:q<L.length
      .
       obtain⟨m,hm⟩:∃m,L.length-q=m+1:=⟨L.length-q-1,by omega⟩;have j:=gW L q;rw[hm];simp only[gt];rw[a0e a,a0e a,ihn _ (by omega)]
       congr 1
       by_cases d:m=n
       . subst d;rw[ihn _ (by omega)]
       .
        have i:m<n:=by omega
        clear hq;have:∀n m r,m<=n->L.length-r<=m->gt L n r=gt L m r:=by
         intro n;induction n with
         | zero=>intro m r c _;rw[show m=0 by omega]
         | succ n ih3=>
          intro m r c h2;by_cases b:r<L.length
          . obtain⟨m',rfl⟩:∃m',m=m'+1:=⟨m-1,by omega⟩;have k:=gW L r;simp only[gt];rw[a0e b,a0e b,ih3 m' _ (by omega) (by omega)]
          .
           cases m with
           | zero=>simp only[gt];rw[a0d b]
           | succ m=>simp only[gt];rw[a0d b,a0d b]
        exact(this m _ _ (by omega) (a0a _)).symm
      . rw[show L.length-q=0 by omega];simp only[gt];rw[a0d a]
    exact key g' _ c
   exact(this g (by omega) (by omega)).symm
  . rw[show L.length-p=0 by omega];simp only[gt];rw[a0d e]
def cG(L:List UInt8)(p:Nat):List Tk:=gt L (L.length-p) p
theorem jb(h:p<L.length):cG L p=mT L p :: cG L (p+jl L p):=by
 unfold cG;obtain⟨g,hg⟩:∃g,L.length-p=g+1:=⟨L.length-p-1,by omega⟩;have a:=gW L p;rw[hg];simp only[gt];rw[a0e h,Du (by omega)]
theorem fe(h:¬ p<L.length):cG L p=[]:=by
 unfold cG;rw[show L.length-p=0 by omega];rfl
theorem GV(L:List UInt8):∀n p,L.length-p<=n->(cG L p).length<=L.length-p:=by
 intro n;induction n with
 | zero=>intro p h;rw[fe (by omega)];simp
 | succ n ih=>
  intro p h;by_cases a:p<L.length
  . have b:=gW L p;rw[jb a];have:=ih (p+jl L p) (by omega);simp only[a0B];omega
  . rw[fe a];simp
end Go.Proofs.YtlpmnnjlmjffpaaGreatDoor
