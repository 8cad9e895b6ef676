/- Of what the proof is made: 16 texts, one behind the other. -/
import Derived.Test.YtkdlcomfpffhhaaGreatDoorM14
import Derived.Test.YtkdlcomfpffhhaaGreatDoorM8
import Derived.BigRegion
import Derived.Test.YtkdlcomfpffhhaaGreatDoorM2
set_option linter.unusedSimpArgs false
set_option linter.unusedVariables false
set_option maxHeartbeats 3200000
namespace Go.Proofs.YtkdlcomfpffhhaaGreatDoor
open Go.RowKit
def sliceLen:Value->Nat
 | .slice _ n _=>n
 | _=>0
theorem xN{l:List Int}{k:Nat}(h:0<l.getD k 0):av l (k+1)=av l k++[⟨l.getD k 0,(k:Int),[(k:Int)],.slice none 0 0⟩]:=by simp only[av];rw[a0d h]
theorem KE{l:List Int}{k:Nat}(h:¬ 0<l.getD k 0):av l (k+1)=av l k:=by simp only[av];rw[a0e h]
theorem Em(w:World)(x y z:Value)(t:TypeId)(g:Nat)(hg:w.heap.size=g):∀(j:Nat) (u:Value),[x,y,z][j]?=some u->(w.alloc (.cells #[x,y,z] t)).cell? ((⟨g,0,none⟩:Addr).add j)=some u:=by
 subst hg;intro j u hj
 match j,hj with
 | 0,hj=>simp at hj;subst hj;simp[Addr.add]
 | 1,hj=>simp at hj;subst hj;simp[Addr.add]
 | 2,hj=>simp at hj;subst hj;simp[Addr.add]
theorem Eo(x y:Int)(a:Option Addr)(n c:Nat):∀u∈[Value.int .i64 x,Value.int .i64 y,Value.slice a n c],u.oneCell'=true:=by
 intro u hu;simp at hu;rcases hu with rfl|rfl|rfl<;>rfl
theorem Ez{t:TypeId}{x:World}{base:Nat}{v:Value}{l:List Grp}(g:Grp)(h:x.ownsRow base t 3 v (l.length+1) (aX l++[.int .i64 g.cnt,.int .i64 g.fst,g.val])):dr t x base v (l++[g]):=by
 show World.ownsRow _ _ _ _ _ (l++[g]).length _;rw[lO];simpa[aX]using h
theorem ar.one(w:World)(base:Nat)(hb:base<=w.heap.size)(x:Int):ar (w.alloc (.cells #[.int .i64 x] 3)) base (.slice (some ⟨w.heap.size,0,none⟩) 1 1) [x]:=
 a09 w #[.int .i64 x] 1 hb (by unfold maxLen;omega) rfl
theorem IK(w:World)(ob:Nat):dD w ob []:=fun g hg=>by simp at hg
theorem dD.snoc{w:World}{ob:Nat}{l:List Grp}{g:Grp}(h:dD w ob l)(hg:ar w ob g.val g.syms):dD w ob (l++[g]):=by
 intro x hx;simp only[a00,a01]at hx;rcases hx with hx|rfl
 · exact h x hx
 · exact hg
theorem dD.grown{t:TypeId}{w w':World}{ob base:Nat}{v:Value}{l m:List Grp}(h:dD w ob l)(hr:dr t w base v m)(ht:3≠t)(hg:w.grownBy w' v.ownBlock):dD w' ob l:=
 fun g hgm=>a1I (h g hgm) hg (rS (h g hgm) hr ht)
theorem ye(w:World)(x y z:Value)(t:TypeId):Three (w.alloc (.cells #[x,y,z] t)) w.heap.size x y z:=⟨by simp,by simp,by simp,by simp,by simp,by simp,by simp⟩
theorem Three.later{w w':World}{b:Nat}{v0 v1 v2:Value}(h:Three w b v0 v1 v2)(hb:Below w.heap.size w w'):Three w' b v0 v1 v2:=h.kept (hb.mono h.2.2.2.2.2.2)
theorem dr.mono{t:TypeId}{w:World}{base base':Nat}{v:Value}{l:List Grp}(h:dr t w base v l)(hb:base'<=base):dr t w base' v l:=
 ⟨h.1,h.2.imp id fun⟨g,c,u,e,hbg,r⟩=>⟨g,c,u,e,a0P hb hbg,r⟩⟩
theorem dD.sub{w:World}{ob:Nat}{l m:List Grp}(h:dD w ob l)(hs:∀g∈m,g∈l):dD w ob m:=fun g hg=>h g (hs g hg)
theorem sA{w w':World}{a:Option Addr}{base size n:Nat}{e:TypeId}{v:Value}{xs:List Value}(h:w.ownsRow base e size v n xs)(ht:Touch a w w')(hne:∀g,a=some ⟨g,0,none⟩->g<base):w'.ownsRow base e size v n xs:=by
 refine⟨h.1,?_⟩;rcases h.2 with hn|⟨g,cap,cur,rfl,hbg,hgg,rest⟩
 · exact .inl hn
 · refine .inr ⟨g,cap,cur,rfl,hbg,?_,rest⟩;rw[ht.2 g (fun g' e=>by have:=hne g' e;omega)];exact hgg
theorem jy{w w':World}{b:Nat}{p:Addr}(ht:Touch (some ⟨b,0,none⟩) w w')(hp:p.block≠b):w'.cell? p=w.cell? p:=
 World.cell?_of_block (ht.2 p.block (fun g e=>by simp only[a0j,a0w,a0V]at e;omega))
theorem nB(b B:Nat)(h:b<B):∀g,(some ⟨b,0,none⟩:Option Addr)=some ⟨g,0,none⟩->g<B:=by
 intro g e;simp only[a0j,a0w,a0V]at e;omega
def okC(l:List Int):Prop:=∀i,i<l.length->0<=l.getD i 0/\l.getD i 0<=100000
theorem xr{l:List Int}(h:okC l):okC (cS l):=by
 intro i hi;rw[fB]at hi;rw[nV l i hi];have:=h i hi;unfold iQ;omega
theorem Bw{l:List Int}(h:okC l):∀x∈l,0<=x:=by
 intro x hx;obtain⟨i,hi,rfl⟩:=a1X hx;have:=(h i hi).1;have e:l.getD i 0=l[i]:=by simp[List.getD,hi]
 rw[e]at this;exact this
def dF(m:Int)(l:List Int):List Int:=se m (kG l) l
def inC(l:List Int):Bool:=l.all (fun b=>inB b 0 100000)
def tp(l:List Int)(m:Int):Bool:=decide (l.length<=300)&&inB m 1 15&&inC l&&inB (us l:Nat) 1 ((p2 m.toNat/2:Nat):Int)
def io(l:List Int)(m:Int):List Int:=if tp l m then dF m l else []
theorem Ge(l:List Int)(k:Nat)(h:k<l.length):inC (l.take (k+1))=(inC (l.take k)&&inB (l.getD k 0) 0 100000):=by
 rw[cx l k h];simp[inC]
theorem JZ{l:List Int}{k:Nat}(h:k<l.length)(hn:inB (l.getD k 0) 0 100000=false):inC l=false:=by
 rcases hb:inC l with _|_
 · rfl
 · have:=a0R.1 hb (l.getD k 0) (by simp[List.getD,h]);rw[hn]at this;exact absurd this (by simp)
theorem LQ{l:List Int}(h:inC l=true):okC l:=by
 intro i hi;have:=a0R.1 h (l.getD i 0) (by simp[List.getD,hi]);exact aD.1 this
theorem KF(l:List Int)(k:Nat)(hk:k<=l.length):(av l k).length=us (l.take k):=by
 induction k with
 | zero=>rfl
 | succ k ih=>
  rw[pU l k (by omega),←ih (by omega)];simp only[av]
  split
  · simp
  · rfl
theorem fj(l:List Int):(av l l.length).length=us l:=by
 rw[KF l _ (a0a _),a2s]
theorem uU(m:Nat):p2 (m+1)/2=p2 m:=by rw[jm];omega
theorem l8{x y:Grp}(h:aL x y=true):aL y x=false:=by
 simp only[aL,a1n,a0i,a0q]at h;simp only[aL,a18,a2M,a2N];omega
theorem fV{x y z:Grp}(h:aL x y=false)(h2:aL y z=false):aL x z=false:=by
 simp only[aL,a18,a2M,a2N]at h h2 ⊢;omega
theorem wR{x y z:Grp}(h:aL x y=false)(h2:aL z y=true):aL x z=false:=by
 simp only[aL,a1n,a0i,a0q]at h2;simp only[aL,a18,a2M,a2N]at h ⊢;omega
theorem eD(x:Grp):aL x x=false:=by
 simp only[aL,a18,a2M,a2N];omega
def bQ(L:List Grp)(i j:Nat):List Grp:=(L.set i (L.getD j g0)).set j (L.getD i g0)
theorem eG(L:List Grp)(i j:Nat):(bQ L i j).length=L.length:=by simp[bQ]
theorem tK{L:List Grp}{i j:Nat}(hi:i<L.length):(bQ L i j).getD i g0=L.getD j g0:=by
 unfold bQ;rw[List.getD_eq_getElem?_getD,List.getElem?_set];by_cases h:j=i
 · subst h;simp[hi]
 · rw[a0e h,List.getElem?_set_self hi];rfl
theorem lA{L:List Grp}{i j:Nat}(hj:j<L.length):(bQ L i j).getD j g0=L.getD i g0:=by
 unfold bQ;rw[List.getD_eq_getElem?_getD,List.getElem?_set_self (by simpa using hj)];rfl
theorem bX{L:List Grp}{i j k:Nat}(h1:k≠i)(h2:k≠j):(bQ L i j).getD k g0=L.getD k g0:=by
 unfold bQ;rw[List.getD_eq_getElem?_getD,List.getElem?_set_ne (fun e=>h2 e.symm),List.getElem?_set_ne (fun e=>h1 e.symm),←List.getD_eq_getElem?_getD]
theorem set_perm(L:List Grp)(i:Nat)(x:Grp)(h:i<L.length):(L.getD i g0 :: L.set i x).Perm (x :: L):=by
 induction L generalizing i with
 | nil=>simp at h
 | cons g L ih=>
  cases i with
  | zero=>simp only[a2e,List.set_cons_zero];exact a3H _ _ _
  | succ i=>
   simp only[a2w,List.set_cons_succ];have h1:=ih i (by simpa using h);exact(a3H _ _ _).trans ((h1.cons g).trans (a3H _ _ _))
theorem fH{L:List Grp}{i j:Nat}(hi:i<L.length)(hj:j<L.length):(bQ L i j).Perm L:=by
 have h1:=set_perm L i (L.getD j g0) hi;have h2:=set_perm (L.set i (L.getD j g0)) j (L.getD i g0) (by simpa using hj);have e:(L.set i (L.getD j g0)).getD j g0=L.getD j g0:=by
  rw[List.getD_eq_getElem?_getD,List.getElem?_set];by_cases hij:i=j
  · subst hij;simp[hi]
  · rw[a0e hij,←List.getD_eq_getElem?_getD]
 rw[e]at h2;exact(h2.trans h1).cons_inv
def HP(L:List Grp):Prop:=∀i,0<i->i<L.length->aL (L.getD i g0) (L.getD ((i-1)/2) g0)=false
def UpI(L:List Grp)(k:Nat):Prop:=
 (∀i,0<i->i<L.length->i≠k->aL (L.getD i g0) (L.getD ((i-1)/2) g0)=false) /\
 (∀i,0<i->i<L.length->(i-1)/2=k->0<k->aL (L.getD i g0) (L.getD ((k-1)/2) g0)=false)
def DnI(L:List Grp)(k:Nat):Prop:=
 (∀i,0<i->i<L.length->(i-1)/2≠k->aL (L.getD i g0) (L.getD ((i-1)/2) g0)=false) /\
 (∀i,0<i->i<L.length->(i-1)/2=k->0<k->aL (L.getD i g0) (L.getD ((k-1)/2) g0)=false)
theorem I8{L:List Grp}{k:Nat}(h:UpI L k)(hk:k=0∨aL (L.getD k g0) (L.getD ((k-1)/2) g0)=false):HP L:=by
 intro i h0 hi;by_cases e:i=k
 ·
  subst e;rcases hk with hk|hk
  · omega
  · exact hk
 · exact h.1 i h0 hi e
theorem KZ{L:List Grp}{k:Nat}(h:UpI L k)(h0:0<k)(hk:k<L.length)(hl:aL (L.getD k g0) (L.getD ((k-1)/2) g0)=true):UpI (bQ L k ((k-1)/2)) ((k-1)/2):=by
 have hq:(k-1)/2<k:=by omega
 have hqn:(k-1)/2<L.length:=by omega
 have sk:=tK (L:=L) (j:=(k-1)/2) hk;have sq:=lA (L:=L) (i:=k) hqn;refine⟨?_,?_⟩
 ·
  intro i i0 hi hiq;rw[eG]at hi;by_cases e:i=k
  · subst e;rw[sk,sq];exact l8 hl
  ·
   rw[bX e hiq];by_cases p:(i-1)/2=(k-1)/2
   · rw[p,sq];have:=h.1 i i0 hi e;rw[p]at this;exact wR this hl
   ·
    by_cases p2:(i-1)/2=k
    · rw[p2,sk];exact h.2 i i0 hi p2 h0
    · rw[bX p2 p];exact h.1 i i0 hi e
 ·
  intro i i0 hi hp hq0;rw[eG]at hi;have hpp:((k-1)/2-1)/2<(k-1)/2:=by omega
  rw[bX (k:=((k-1)/2-1)/2) (by omega) (by omega)];have hqq:=h.1 ((k-1)/2) hq0 hqn (by omega);by_cases e:i=k
  · subst e;rw[sk];exact hqq
  · rw[bX e (by omega)];have:=h.1 i i0 hi e;rw[hp]at this;exact fV this hqq
theorem um{L:List Grp}{k:Nat}(h:DnI L k)(hk:∀c,0<c->c<L.length->(c-1)/2=k->aL (L.getD c g0) (L.getD k g0)=false):HP L:=by
 intro i h0 hi;by_cases e:(i-1)/2=k
 · rw[e];exact hk i h0 hi e
 · exact h.1 i h0 hi e
theorem un{L:List Grp}{k c:Nat}(h:DnI L k)(hk:k<L.length)(hc:c<L.length)(hc0:0<c)(hp:(c-1)/2=k)(hm:∀i,0<i->i<L.length->(i-1)/2=k->aL (L.getD i g0) (L.getD c g0)=false)(hl:aL (L.getD c g0) (L.getD k g0)=true):DnI (bQ L c k) c:=by
 have hkc:k<c:=by omega
 have sc:=tK (L:=L) (j:=k) hc;have sk:=lA (L:=L) (i:=c) hk;refine⟨?_,?_⟩
 ·
  intro i i0 hi hip;rw[eG]at hi;by_cases e:i=c
  · subst e;rw[hp,sc,sk];exact l8 hl
  ·
   by_cases p:(i-1)/2=k
   · rw[p,sk,bX e (by omega)];exact hm i i0 hi p
   ·
    rw[bX hip p];by_cases e2:i=k
    · subst e2;rw[sk];exact h.2 c hc0 hc hp i0
    · rw[bX e e2];exact h.1 i i0 hi p
 · intro i i0 hi hip _;rw[eG]at hi;rw[hp,sk,bX (by omega) (by omega)];have:=h.1 i i0 hi (by omega);rw[hip]at this;exact this
theorem Gb{L:List Grp}(h:HP L):∀i,i<L.length->aL (L.getD i g0) (L.getD 0 g0)=false:=by
 intro i;induction i using Nat.strongRecOn with
 | ind i ih=>
  intro hi;by_cases e:i=0
  · subst e;exact eD _
  · exact fV (h i (by omega) hi) (ih ((i-1)/2) (by omega) (by omega))
theorem JS{L:List Grp}(h:HP L)(g:Grp):UpI (L++[g]) L.length:=by
 refine⟨?_,?_⟩
 ·
  intro i i0 hi hn;have hi':i<L.length:=by simp at hi;omega
  have e1:∀k,k<L.length->(L++[g]).getD k g0=L.getD k g0:=by
   intro k hk;rw[List.getD_eq_getElem?_getD,List.getElem?_append_left hk,←List.getD_eq_getElem?_getD]
  rw[e1 i hi',e1 _ (by omega)];exact h i i0 hi'
 · intro i i0 hi hp _;simp at hi;omega
theorem qp(L:List Grp)(m k:Nat)(h:k<m):(L.take m).getD k g0=L.getD k g0:=by
 rw[List.getD_eq_getElem?_getD,List.getElem?_take_of_lt h,←List.getD_eq_getElem?_getD]
theorem Ly{L:List Grp}(h:HP L):DnI ((bQ L 0 (L.length-1)).take (L.length-1)) 0:=by
 refine⟨?_,fun i _ _ _ h0=>absurd h0 (a2O 0)⟩;intro i i0 hi hp;have hi':i<L.length-1:=by rw[a0t,eG]at hi;omega
 rw[qp _ _ _ hi',qp _ _ _ (by omega),bX (by omega) (by omega),bX hp (by omega)];exact h i i0 (by omega)
theorem Aj(L:List Grp)(n:Nat)(h:L.length=n+1):L=L.take n++[L.getD n g0]:=by
 have e:L.take (n+1)=L:=a0s (by omega);have h2:L.take (n+1)=L.take n++[L.getD n g0]:=by
  rw[a1c (by omega)]
  congr 2
  simp[List.getD,h]
 rw[e]at h2;exact h2
theorem Fx{L:List Grp}(h:0<L.length):(L.getD 0 g0 :: (bQ L 0 (L.length-1)).take (L.length-1)).Perm L:=by
 have h1:=fH (L:=L) (i:=0) (j:=L.length-1) h (by omega);have h2:=Aj (bQ L 0 (L.length-1)) (L.length-1) (by rw[eG];omega);rw[lA (by omega)]at h2;have h3:(L.getD 0 g0 :: (bQ L 0 (L.length-1)).take (L.length-1)).Perm ((bQ L 0 (L.length-1)).take (L.length-1)++[L.getD 0 g0]):=(List.perm_append_singleton _ _).symm;rw[←h2]at h3;exact h3.trans h1
theorem wN(L:List Grp)(k j:Nat)(hj:j<=k):aL (L.getD j g0) (L.getD (iF L k) g0)=false:=by
 induction k with
 | zero=>
  obtain rfl:j=0:=by omega
  exact eD _
 | succ k ih=>
  simp only[iF];cases hl:aL (L.getD (k+1) g0) (L.getD (iF L k) g0)
  ·
   simp only[a1w,a1x];by_cases e:j=k+1
   · subst e;exact hl
   · exact ih (by omega)
  ·
   simp only[a0Z];by_cases e:j=k+1
   · subst e;exact eD _
   · exact wR (ih (by omega)) hl
theorem ze(M:List Grp)(g:Grp)(hg:g∈M):aL g (aC M)=false:=by
 obtain⟨i,hi,rfl⟩:=a1X hg;have:=wN M (M.length-1) i (by omega);have e:M.getD i g0=M[i]:=by simp[List.getD,hi]
 rw[e]at this;exact this
def oK(M:List Grp):Prop:=∀g∈M,g.fst∈g.syms
theorem Ip(l:List Int)(k:Nat):oK (av l k):=by
 induction k with
 | zero=>intro g hg;simp[av]at hg
 | succ k ih=>
  simp only[av]
  split
  ·
   intro g hg;simp only[a00,a01]at hg;rcases hg with hg|rfl
   · exact ih g hg
   · simp
  · exact ih
theorem ID{M:List Grp}(h:oK M)(hl:1<M.length):oK (stepG M):=by
 have hr:=df M (by omega);intro g hg;simp only[stepG,a00,a01]at hg;rcases hg with hg|rfl
 · exact h g (bg M _ (bg _ _ hg))
 ·
  have ha:=h _ (bw M (by omega));have hb:=h _ (bg M _ (bw (aw M) (by omega)));simp only[fe,a00]
  split
  · exact .inr hb
  · exact .inl ha
theorem Gd(l:List Int)(k:Nat)(hk:k<(av l l.length).length∨k=0):oK (ay l k).1:=by
 induction k with
 | zero=>exact Ip l _
 | succ k ih=>
  have hlen:1<(ay l k).1.length:=by have:=(bF l k (by omega)).2.2.2;omega
  exact ID (ih (by omega)) hlen
theorem Im{M:List Grp}(hn:(aS M).Nodup)(hf:oK M){x y:Grp}(hx:x∈M)(hy:y∈M)(e:x.fst=y.fst):x=y:=by
 induction M with
 | nil=>cases hx
 | cons g M ih=>
  have hs:aS (g :: M)=g.syms++aS M:=by simp[aS]
  rw[hs,a3I]at hn;obtain⟨_,n2,n3⟩:=hn;have hfM:oK M:=fun z hz=>hf z (by simp[hz]);have hin:∀z∈M,z.fst∈aS M:=fun z hz=>List.mem_flatMap.2 ⟨z,hz,hfM z hz⟩;have hfg:g.fst∈g.syms:=hf g (by simp);simp only[a1j]at hx hy;rcases hx with rfl|hx
  ·
   rcases hy with rfl|hy
   · rfl
   · exact absurd e (n3 _ hfg _ (hin y hy))
  ·
   rcases hy with rfl|hy
   · exact absurd e.symm (n3 _ hfg _ (hin x hx))
   · exact ih n2 hfM hx hy
theorem Dp{x y:Grp}(h:aL x y=false)(h2:aL y x=false):x.fst=y.fst:=by
 simp only[aL,a18,a2M,a2N]at h h2;omega
theorem tT{L M:List Grp}{a:Grp}{L1:List Grp}(hp:(L.map bare).Perm M)(hL:L.Perm (a :: L1))(hmin:∀g∈L,aL g a=false)(h0:0<L.length)(hn:(aS M).Nodup)(hf:oK M):bare a=aC M/\(L1.map bare).Perm (aw M):=by
 have hl:0<M.length:=by rw[←hp.length_eq,a0S];exact h0
 have ha:a∈L:=hL.mem_iff.2 (by simp);have haM:bare a∈M:=hp.mem_iff.1 (a28 ha);have hfM:=bw M hl;obtain⟨c,hc,hce⟩:=a2I.1 (hp.mem_iff.2 hfM);have h1:aL (aC M) (bare a)=false:=by rw[←hce,zI];exact hmin c hc
 have h2:=ze M (bare a) haM;have e:bare a=aC M:=Im hn hf haM hfM (Dp h2 h1);refine⟨e,?_⟩;have h3:(bare a :: L1.map bare).Perm M:=by
  have:=(hL.map bare).symm.trans hp;simpa using this
 have h4:=h3.trans (jp M hl).symm;rw[e]at h4;exact h4.cons_inv
theorem CY{M:List Grp}(hl:0<M.length)(hn:(aS M).Nodup):(aS (aw M)).Nodup:=by
 have h1:=nT (jp M hl);have h2:=h1.nodup_iff.2 hn;have e:aS (aC M :: aw M)=(aC M).syms++aS (aw M):=by simp[aS]
 rw[e,a3I]at h2;exact h2.2.1
theorem DF{α:Type}(f:α->Nat){A B:List α}(h:A.Perm B):(A.map f).sum=(B.map f).sum:=by
 induction h with
 | nil=>rfl
 | cons x _ ih=>simp only[a0o,a0M];omega
 | swap x y l=>simp only[a0o,a0M];omega
 | trans _ _ h1 h2=>omega
def oG:Nat->List Grp->Int
 | 0,_=>0
 | n+1,M=>if 1<M.length then(aC M).cnt+(aC (aw M)).cnt+oG n (stepG M)else 0
theorem gF{l:List Int}{k:Nat}(h:0<l.getD k 0):av l (k+1)=av l k++[⟨l.getD k 0,(k:Int),[(k:Int)],.slice none 0 0⟩]:=by simp only[av];rw[a0d h]
theorem kE{l:List Int}{k:Nat}(h:¬ 0<l.getD k 0):av l (k+1)=av l k:=by simp only[av];rw[a0e h]
def krR(l:List Int)(len:Nat->Nat)(D:Nat):Nat->Nat
 | 0=>0
 | n+1=>krR l len D n+(if 0<l.getD n 0 then 2 ^ (D-len n)else 0)
theorem np(l:List Int)(k:Nat):∀g∈av l k,0<=g.cnt/\∃i:Nat,g.fst=(i:Int)/\i<k/\0<l.getD i 0/\g.cnt=l.getD i 0/\g.syms=[(i:Int)]:=by
 induction k with
 | zero=>intro g hg;simp[av]at hg
 | succ k ih=>
  intro g hg;by_cases hp:0<l.getD k 0
  ·
   rw[gF hp]at hg;simp only[a00,a01]at hg;rcases hg with hg|rfl
   · obtain⟨h1,i,h2,h3,h4⟩:=ih g hg;exact⟨h1,i,h2,by omega,h4⟩
   · exact⟨by simp only;omega,k,rfl,by omega,hp,rfl,rfl⟩
  · rw[kE hp]at hg;obtain⟨h1,i,h2,h3,h4⟩:=ih g hg;exact⟨h1,i,h2,by omega,h4⟩
theorem sg(l:List Int)(len:Nat->Nat)(D k:Nat):((aS (av l k)).map fun s=>2 ^ (D-len s.toNat)).sum=krR l len D k:=by
 induction k with
 | zero=>rfl
 | succ k ih=>
  simp only[krR];by_cases h:0<l.getD k 0
  · rw[a0d h,←ih,gF h];simp[aS]
  · rw[a0e h,←ih,kE h];simp
theorem wb(l:List Int)(k:Nat)(x:Int):x∈aS (av l k)<->∃i:Nat,x=(i:Int)/\i<k/\0<l.getD i 0:=by
 constructor
 · intro h;obtain⟨g,hg,hx⟩:=List.mem_flatMap.1 h;obtain⟨_,i,h1,h2,h3,_,h5⟩:=np l k g hg;rw[h5]at hx;simp only[a01]at hx;exact⟨i,hx,h2,h3⟩
 ·
  rintro⟨i,rfl,hi,hp⟩;induction k with
  | zero=>omega
  | succ k ih=>
   by_cases e:i=k
   · subst e;rw[gF hp];simp[aS]
   ·
    have:=ih (by omega);by_cases h:0<l.getD k 0
    · rw[gF h];simp only[aS,a3j,a00];exact .inl this
    · rw[kE h];exact this
/-! What holds behind so many steps. -/
def iJ(l s:List Int):Int:=(s.map fun x=>l.getD x.toNat 0).sum
theorem lN(l a b:List Int):iJ l (a++b)=iJ l a+iJ l b:=by simp[iJ]
theorem Ba(l:List Int)(k:Nat)(hk:k<(av l l.length).length∨k=0):∀g∈(ay l k).1,g.cnt=iJ l g.syms:=by
 induction k with
 | zero=>
  intro g hg;obtain⟨_,i,h1,h2,h3,h4,h5⟩:=np l l.length g hg;rw[h4,h5];simp[iJ]
 | succ k ih=>
  have hlen:1<(ay l k).1.length:=by have:=(bF l k (by omega)).2.2.2;omega
  have hr:=df (ay l k).1 (by omega);have ih':=ih (by omega);intro g hg;have hg':g∈stepG (ay l k).1:=hg;simp only[stepG,a00,a01]at hg';rcases hg' with hg'|rfl
  · exact ih' g (bg _ _ (bg _ _ hg'))
  · simp only[fe];rw[lN,ih' _ (bw _ (by omega)),ih' _ (bg _ _ (bw (aw _) (by omega)))]
def mJ(l o:List Int):Nat->Int
 | 0=>0
 | n+1=>mJ l o n+l.getD n 0*o.getD n 0
theorem Cq(l o:List Int)(s:Int)(h0:0<=s)(n:Nat)(hn:n<=o.length):mJ l (ez o s) n=mJ l o n+(if s<(n:Int)then l.getD s.toNat 0 else 0):=by
 induction n with
 | zero=>simp only[mJ];rw[a0e (by omega)];rfl
 | succ n ih=>
  simp only[mJ];rw[ih (by omega),sG o s n h0 (by omega)];by_cases e:s=(n:Int)
  · subst e;rw[a0e (by omega),a0d rfl,a0d (by omega),Int.mul_add,Int.mul_one,a0r];omega
  ·
   rw[a0e e,Int.add_zero];by_cases h:s<(n:Int)
   · rw[a0d h,a0d (by omega)];omega
   · rw[a0e h,a0e (by omega)];omega
theorem FE(l s:List Int)(n:Nat):∀(o:List Int),n<=o.length->(∀x∈s,0<=x/\x<(n:Int))->mJ l (bump o s) n=mJ l o n+iJ l s:=by
 induction s with
 | nil=>intro o _ _;simp[bump,iJ]
 | cons x s ih=>
  intro o hn hs;show mJ l (bump (ez o x) s) n=_;rw[ih (ez o x) (by rw[kV];exact hn) (fun y hy=>hs y (by simp[hy])),Cq l o x (hs x (by simp)).1 n hn,a0d (hs x (by simp)).2];simp only[iJ,a0o,a0M];omega
theorem FF(l:List Int)(m n:Nat):mJ l (List.replicate m 0) n=0:=by
 induction n with
 | zero=>rfl
 | succ n ih=>
  simp only[mJ];rw[ih];have:(List.replicate m (0:Int)).getD n 0=0:=by
   rw[List.getD_eq_getElem?_getD,List.getElem?_replicate]
   split<;>rfl
  rw[this];omega
theorem JW(l:List Int)(k:Nat)(hk:k<(av l l.length).length∨k=0):mJ l (ay l k).2 l.length+oG ((av l l.length).length-1-k) (ay l k).1=oG ((av l l.length).length-1) (av l l.length):=by
 induction k with
 | zero=>
  show mJ l (List.replicate l.length 0) l.length+oG _ (av l l.length)=_;rw[FF,Int.zero_add,Nat.sub_zero]
 | succ k ih=>
  have ih':=ih (by omega);have hlen:1<(ay l k).1.length:=by have:=(bF l k (by omega)).2.2.2;omega
  have hr:=df (ay l k).1 (by omega);obtain⟨m,hm⟩:∃m,(av l l.length).length-1-k=m+1:=⟨(av l l.length).length-1-k-1,by omega⟩;have hm2:(av l l.length).length-1-(k+1)=m:=by omega
  rw[hm]at ih';rw[hm2];simp only[oG]at ih';rw[a0d hlen]at ih';have hsy:∀x∈aW (ay l k).1,0<=x/\x<(l.length:Int):=by
   intro x hx;have hf:=(fy l k (by omega)).2;exact hf x ((ib _ hlen).mem_iff.1 (by simp[hx]))
  have h1:=FE l (aW (ay l k).1) l.length (ay l k).2 (by rw[dI];exact a0a _) hsy;have h2:=Ba l k (by omega) _ (bw (ay l k).1 (by omega));have h3:=Ba l k (by omega) _ (bg _ _ (bw (aw (ay l k).1) (by omega)));have h4:iJ l (aW (ay l k).1)=(aC (ay l k).1).cnt+(aC (aw (ay l k).1)).cnt:=by
   unfold aW;rw[lN,←h2,←h3]
  show mJ l (bump (ay l k).2 (aW (ay l k).1)) l.length+oG m (stepG (ay l k).1)=_;rw[h1,h4];omega
def lZ(o s:List Int)(D:Nat):Nat:=(s.map fun x=>2 ^ (D-(o.getD x.toNat 0).toNat)).sum
theorem wG(o a b:List Int)(D:Nat):lZ o (a++b) D=lZ o a D+lZ o b D:=by simp[lZ]
theorem Dh{o o' s:List Int}{D:Nat}(h:∀x∈s,o'.getD x.toNat 0=o.getD x.toNat 0):lZ o' s D=lZ o s D:=by
 unfold lZ
 congr 1
 apply List.map_congr_left;intro x hx;rw[h x hx]
theorem Dg{o o' s:List Int}{D:Nat}(h:∀x∈s,0<=o.getD x.toNat 0/\o.getD x.toNat 0<(D:Int)/\o'.getD x.toNat 0=o.getD x.toNat 0+1):2*lZ o' s D=lZ o s D:=by
 induction s with
 | nil=>rfl
 | cons x s ih=>
  have ih':=ih (fun y hy=>h y (by simp[hy]));obtain⟨h1,h2,h3⟩:=h x (by simp);simp only[lZ,a0o,a0M]at ih' ⊢;rw[h3];obtain⟨d,hd⟩:∃d,D-(o.getD x.toNat 0).toNat=d+1:=⟨D-(o.getD x.toNat 0).toNat-1,by omega⟩;have hd2:D-(o.getD x.toNat 0+1).toNat=d:=by omega
  rw[hd,hd2,a1A];omega
theorem JX(l:List Int)(D:Nat)(hD:(av l l.length).length<=D)(k:Nat)(hk:k<(av l l.length).length∨k=0):∀g∈(ay l k).1,lZ (ay l k).2 g.syms D=2 ^ D:=by
 induction k with
 | zero=>
  intro g hg;obtain⟨_,i,h1,h2,h3,h4,h5⟩:=np l l.length g hg;rw[h5];show lZ (List.replicate l.length 0) [(i:Int)] D=2 ^ D;simp[lZ,List.getD,h2]
 | succ k ih=>
  have hlen:1<(ay l k).1.length:=by have:=(bF l k (by omega)).2.2.2;omega
  have hr:=df (ay l k).1 (by omega);have ih':=ih (by omega);have hfl:=fy l k (by omega);obtain⟨hnd,hdis⟩:=ia hlen hfl.1;have hdep:=je l k (by omega);have hin:∀x∈aW (ay l k).1,0<=x/\x<(l.length:Int):=fun x hx=>hfl.2 x ((ib _ hlen).mem_iff.1 (by simp[hx]));have hget:=fun(x:Int) (h0:0<=x) (h1:x<(l.length:Int))=>jS (ay l k).2 (aW (ay l k).1) x.toNat hnd (fun y hy=>(hin y hy).1) (by rw[dI];omega);intro g hg;show lZ (bump (ay l k).2 (aW (ay l k).1)) g.syms D=2 ^ D;have hg':g∈stepG (ay l k).1:=hg;simp only[stepG,a00,a01]at hg';rcases hg' with hg'|rfl
  ·
   rw[Dh (o:=(ay l k).2)]
   · exact ih' g (bg _ _ (bg _ _ hg'))
   · intro x hx;have hxf:x∈aS (ay l k).1:=List.mem_flatMap.2 ⟨g,bg _ _ (bg _ _ hg'),hx⟩;obtain⟨x0,x1⟩:=hfl.2 x hxf;rw[hget x x0 x1,a3K x0,a0e (hdis g hg' x hx),Int.add_zero]
  ·
   have hj:(fe (aC (ay l k).1) (aC (aw (ay l k).1))).syms=aW (ay l k).1:=rfl;rw[hj];have hha:=Dg (o:=(ay l k).2) (o':=bump (ay l k).2 (aW (ay l k).1)) (s:=aW (ay l k).1) (D:=D) (by
    intro x hx;obtain⟨x0,x1⟩:=hin x hx;have hd:=hdep x.toNat (by rw[dI];omega);refine⟨hd.1,by omega,?_⟩;rw[hget x x0 x1,a3K x0,a0d hx])
   have h2:lZ (ay l k).2 (aW (ay l k).1) D=2 ^ D+2 ^ D:=by
    unfold aW;rw[wG,ih' _ (bw _ (by omega)),ih' _ (bg _ _ (bw (aw _) (by omega)))]
   omega
end Go.Proofs.YtkdlcomfpffhhaaGreatDoor
namespace Go.Proofs.YtkdlcomfpffhhaaGreatDoor
open Go.RowKit Corb
def bK(w:World)(b base:Nat)(v:Value)(L:List Grp):Prop:=w.heap[b]?=some (Obj.cells #[v] 317)/\dr 297 w base v L
theorem bK.cell{w:World}{b base:Nat}{v:Value}{L:List Grp}(h:bK w b base v L):w.cell? ⟨b,0,none⟩=some v:=by simp[World.cell?,h.1]
theorem bK.frz{w:World}{b base:Nat}{v:Value}{L:List Grp}(h:bK w b base v L):w.frozen? ⟨b,0,none⟩=false:=by simp[World.frozen?,h.1]
theorem bK.lt{w:World}{b base:Nat}{v:Value}{L:List Grp}(h:bK w b base v L):b<w.heap.size:=(Array.getElem?_eq_some_iff.1 h.1).1
theorem gx(b base n cap:Nat)(a:Option Addr)(L:List Grp)(w:World)(h:bK w b base (.slice a n cap) L) :
  Calls Tryz.prog 215 #[.pointer (some ⟨b,0,none⟩)] w fun e w'=>e = .returned (.int .i64 (n:Nat))/\w'=w:=by
 have c0:=h.cell;clear h;go_enter Tryz.func215,Tryz.ntmps215;go_wp2;go_ret;exact⟨rfl,rfl⟩
set_option maxRecDepth 100000 in
theorem gO(b base ob g n cap i j:Nat)(L:List Grp)(w:World)(hS:dD w ob L)(hn:L.length=n)(hm:n<=300)(h:bK w b base (.slice (some ⟨g,0,none⟩) n cap) L)(hi:i<n)(hj:j<n) :
  Calls Tryz.prog 333 #[.pointer (some ⟨b,0,none⟩),.int .i64 (i:Nat),.int .i64 (j:Nat)] w fun e w'=>e = .returned (.bool (aL (L.getD i g0) (L.getD j g0)))/\Below w.heap.size w w':=by
 have c0:=h.cell;obtain⟨a0,a1,a2,_,hg⟩:=h.2.at hn i hi;obtain⟨d0,d1,d2,_,_⟩:=h.2.at hn j hj;have hbw:b<w.heap.size:=World.block_lt_of_cell? w ⟨b,0,none⟩ c0;obtain⟨xa,xq,hxv⟩:=(hS (L.getD i g0) (eV L i (by omega))).form;obtain⟨ya,yq,hyv⟩:=(hS (L.getD j g0) (eV L j (by omega))).form;have hiI:(i:Int)<(n:Int):=by omega
 have hjI:(j:Int)<(n:Int):=by omega
 have hmI:(n:Int)<=300:=by omega
 rw[hxv]at a2;rw[hyv]at d2;clear h hn hm hi hj hxv hyv hS;generalize L.getD i g0=x at *
 generalize L.getD j g0=y at *
 obtain⟨xc,xf,xs,xv⟩:=x;obtain⟨yc,yf,ys,yv⟩:=y;simp only at a0 a1 a2 d0 d1 d2;generalize xs.length=xn at *
 generalize ys.length=yn at *
 go_enter Tryz.func333,Tryz.ntmps333;go_wp2_with fail
 go_region
 all_goals
  by_cases he:xc=yc
  · subst he;go_wp2;go_ret;exact⟨congrArg (fun x=>Ending.returned (.bool x)) (by simp[aL]),(((a0c _ _).alloc (a0a _) _).alloc (by simp) _).drew⟩
  ·
   have hne:(xc == yc)=false:=by simpa using he
   go_wp2;go_ret;exact⟨congrArg (fun x=>Ending.returned (.bool x)) (by simp[aL,he]),(((a0c _ _).alloc (a0a _) _).alloc (by simp) _).drew⟩
end Go.Proofs.YtkdlcomfpffhhaaGreatDoor
namespace Go.Proofs.YtkdlcomfpffhhaaGreatDoor
open Go.RowKit
theorem aU.ints{w w':World}{base:Nat}{v:Value}{l:List Int}(h:aU 3 w w')(ho:ar w base v l):ar w' base v l:=h.own ho
theorem aU.syms{w w':World}{ob:Nat}{l:List Grp}(h:aU 3 w w')(hs:dD w ob l):dD w' ob l:=fun g hg=>h.ints (hs g hg)
theorem dD.perm{w:World}{ob:Nat}{l m:List Grp}(h:dD w ob l)(hp:m.Perm l):dD w ob m:=fun g hg=>h g (hp.mem_iff.1 hg)
def bc(g:Nat)(w w':World):Prop:=aU 3 w w'/\w.heap.size<=w'.heap.size/\∀k,k<w.heap.size->k≠g->w'.heap[k]?=w.heap[k]?
theorem bc.refl(g:Nat)(w:World):bc g w w:=⟨aU.refl _ _,a0a _,fun _ _ _=>rfl⟩
theorem bc.trans{g:Nat}{w w1 w2:World}(h:bc g w w1)(k:bc g w1 w2):bc g w w2:=
 ⟨h.1.trans k.1,a0P h.2.1 k.2.1,fun j hj hg=>(k.2.2 j (a0k hj h.2.1) hg).trans (h.2.2 j hj hg)⟩
theorem bc.below{g:Nat}{w w':World}(h:Below w.heap.size w w'):bc g w w':=⟨aU.below h,h.size,fun j hj _=>h.block j hj⟩
theorem bc.syms{g:Nat}{w w':World}{ob:Nat}{l:List Grp}(h:bc g w w')(hs:dD w ob l):dD w' ob l:=h.1.syms hs
theorem bc.drew{g:Nat}{w w':World}(h:bc g w w'):bc g w w'.drew:=h
theorem bc.touch{t':TypeId}{w w':World}{g:Nat}{c:Array Value}{f:Nat×Nat}(hg:w.heap[g]?=some (.cells c t' f))(hne:3≠t')(ht:Touch (some ⟨g,0,none⟩) w w'):bc g w w':=
 ⟨aU.touch hg hne ht,Nat.le_of_eq ht.1.symm,fun j _ hj=>ht.2 j (fun g' e=>by simp only[a0j,a0w,a0V]at e;omega)⟩
end Go.Proofs.YtkdlcomfpffhhaaGreatDoor
namespace Go.Proofs.YtkdlcomfpffhhaaGreatDoor
open Go.RowKit Corb
theorem Al(l:List Grp)(j:Nat)(x:Grp):(((aX l).set (j*3) (.int .i64 x.cnt)).set (j*3+1) (.int .i64 x.fst)).set (j*3+2) x.val=aX (l.set j x):=by
 induction l generalizing j with
 | nil=>simp[aX]
 | cons p l ih=>
  cases j with
  | zero=>simp[aX]
  | succ j=>
   rw[show(j+1)*3=j*3+1+1+1 by omega];simp only[aX,List.set_cons_succ];rw[ih j]
theorem dr.put{t:TypeId}{w:World}{base g cap n:Nat}{l:List Grp}(hn:l.length=n)(h:dr t w base (.slice (some ⟨g,0,none⟩) n cap) l)(j:Nat)(x:Grp) :
  dr t (((w.setCell ⟨g,j*3,none⟩ (.int .i64 x.cnt)).setCell ⟨g,j*3+1,none⟩ (.int .i64 x.fst)).setCell ⟨g,j*3+2,none⟩ x.val) base (.slice (some ⟨g,0,none⟩) n cap) (l.set j x):=by
 subst hn;have h1:=(a2m h (j*3) (.int .i64 x.cnt)).1;have h2:=(a2m h1 (j*3+1) (.int .i64 x.fst)).1;have h3:=(a2m h2 (j*3+2) x.val).1;rw[Al]at h3;show World.ownsRow _ _ _ _ _ (l.set j x).length _;rw[a1H];exact h3
theorem dr.frozen{t:TypeId}{w:World}{base g cap n:Nat}{l:List Grp}(hn:l.length=n)(h:dr t w base (.slice (some ⟨g,0,none⟩) n cap) l)(j:Nat):w.frozen? ⟨g,j,none⟩=false:=by
 subst hn;exact a3E h j
theorem Touch.drew{a:Option Addr}{w w':World}(h:Touch a w w'):Touch a w w'.drew:=h
theorem dr.drew{t:TypeId}{w:World}{base:Nat}{v:Value}{l:List Grp}(h:dr t w base v l):dr t w.drew base v l:=h
theorem bK.drew{w:World}{b base:Nat}{v:Value}{L:List Grp}(h:bK w b base v L):bK w.drew b base v L:=⟨h.1,h.2.drew⟩
set_option maxRecDepth 100000 in
theorem kH(b base ob g n cap i j:Nat)(L:List Grp)(w:World)(hS:dD w ob L)(hn:L.length=n)(hm:n<=300)(h:bK w b base (.slice (some ⟨g,0,none⟩) n cap) L)(hbb:b<base)(hi:i<n)(hj:j<n) :
  Calls Tryz.prog 228 #[.pointer (some ⟨b,0,none⟩),.int .i64 (i:Nat),.int .i64 (j:Nat)] w fun e w'=>e = .returned (.tuple #[])/\bK w' b base (.slice (some ⟨g,0,none⟩) n cap) (bQ L i j)/\Below b w w'/\bc g w w':=by
 have c0:=h.cell;have hgl:=(a0y h.2 g rfl).1;have hbg:b≠g:=by omega
 obtain⟨gc,hgc⟩:=DR (n:=n) (by have h2:=h.2;unfold dr at h2;rw[hn]at h2;exact h2) rfl;have HGC:=af hgc;clear hgc;obtain⟨a0,a1,a2,_,hg⟩:=h.2.at hn i hi;obtain⟨d0,d1,d2,_,_⟩:=h.2.at hn j hj;have f0:=h.2.frozen hn (i*3);have f1:=h.2.frozen hn (i*3+1);have f2:=h.2.frozen hn (i*3+2);have k0:=h.2.frozen hn (j*3);have k1:=h.2.frozen hn (j*3+1);have k2:=h.2.frozen hn (j*3+2);have hbw:b<w.heap.size:=World.block_lt_of_cell? w ⟨b,0,none⟩ c0;obtain⟨xa,xq,hxv⟩:=(hS (L.getD i g0) (eV L i (by omega))).form;obtain⟨ya,yq,hyv⟩:=(hS (L.getD j g0) (eV L j (by omega))).form;have hiI:(i:Int)<(n:Int):=by omega
 have hjI:(j:Int)<(n:Int):=by omega
 have hmI:(n:Int)<=300:=by omega
 rw[hxv]at a2;rw[hyv]at d2;have H:=af h;have Hn:=af hn;clear h hn hm hi hj hS;have HX:=af hxv;have HY:=af hyv;have hgb:g≠b:=fun e=>hbg e.symm;clear hxv hyv;generalize hx:L.getD i g0=x at *
 generalize hy:L.getD j g0=y at *
 obtain⟨xc,xf,xs,xv⟩:=x;obtain⟨yc,yf,ys,yv⟩:=y;simp only at a0 a1 a2 d0 d1 d2;generalize xs.length=xn at *
 generalize ys.length=yn at *
 have Hx:=af hx;have Hy:=af hy;clear hx hy;go_enter Tryz.func228,Tryz.ntmps228;go_wp2_with fail;have ex:Hid (L.getD i g0=⟨xc,xf,xs,.slice xa xn xq⟩):=by
  have e:xv = .slice xa xn xq:=ae HX;show L.getD i g0=_;rw[ae Hx,e]
 have ey:Hid (L.getD j g0=⟨yc,yf,ys,.slice ya yn yq⟩):=by
  have e:yv = .slice ya yn yq:=ae HY;show L.getD j g0=_;rw[ae Hy,e]
 have hT:=af (dr.put (by rw[a1H];exact ae Hn) (dr.put (ae Hn) (ae H).2 i ⟨yc,yf,ys,.slice ya yn yq⟩) j ⟨xc,xf,xs,.slice xa xn xq⟩);have hTo:=af (((((((Touch.refl (some ⟨g,0,none⟩) w).set (o:=i*3) rfl (.int .i64 yc)).set (o:=i*3+1) rfl (.int .i64 yf)).set (o:=i*3+2) rfl (.slice ya yn yq)).set (o:=j*3) rfl (.int .i64 xc)).set (o:=j*3+1) rfl (.int .i64 xf)).set (o:=j*3+2) rfl (.slice xa xn xq));have hBe:=af ((ai (ai (ai (ai (ai (ai (a0c b w) (b:=g) (o:=i*3) (by omega) (.int .i64 yc)) (b:=g) (o:=i*3+1) (by omega) (.int .i64 yf)) (b:=g) (o:=i*3+2) (by omega) (.slice ya yn yq)) (b:=g) (o:=j*3) (by omega) (.int .i64 xc)) (b:=g) (o:=j*3+1) (by omega) (.int .i64 xf)) (b:=g) (o:=j*3+2) (by omega) (.slice xa xn xq)));have hKe:=af (bc.touch (ae HGC) (by decide) (ae hTo));have hCe:=af (((ae hTo).2 b (fun g' e=>by simp only[a0j,a0w,a0V]at e;omega)).trans (ae H).1);have hAll:Hid (bK ((((((w.setCell ⟨g,i*3,none⟩ (.int .i64 yc)).setCell ⟨g,i*3+1,none⟩ (.int .i64 yf)).setCell ⟨g,i*3+2,none⟩ (.slice ya yn yq)).setCell ⟨g,j*3,none⟩ (.int .i64 xc)).setCell ⟨g,j*3+1,none⟩ (.int .i64 xf)).setCell ⟨g,j*3+2,none⟩ (.slice xa xn xq)) b base (.slice (some ⟨g,0,none⟩) n cap) ((L.set i ⟨yc,yf,ys,.slice ya yn yq⟩).set j ⟨xc,xf,xs,.slice xa xn xq⟩)):=⟨ae hCe,ae hT⟩;clear H;have hSw:Hid (bQ L i j=(L.set i ⟨yc,yf,ys,.slice ya yn yq⟩).set j ⟨xc,xf,xs,.slice xa xn xq⟩):=by
  show bQ L i j=_;unfold bQ;rw[ae ex,ae ey]
 by_cases hij:i=j
 ·
  subst hij;have exy:=(ae ex).symm.trans (ae ey);simp only[Grp.mk.injEq,a0L]at exy;obtain⟨rfl,rfl,rfl,rfl,rfl,rfl⟩:=exy
  go_region
  all_goals
   go_wp2
   go_end0
   refine⟨rfl,?_,(ae hBe).drew,(ae hKe).drew⟩;rw[ae hSw];exact(ae hAll).drew
 ·
  have hji:¬ j=i:=fun e=>hij e.symm;have q1:¬ j*3=i*3+1:=by omega
  have q2:¬ j*3=i*3+2:=by omega
  have q3:¬ j*3+1=i*3:=by omega
  have q4:¬ j*3+1=i*3+2:=by omega
  have q5:¬ j*3+2=i*3:=by omega
  have q6:¬ j*3+2=i*3+1:=by omega
  have q7:¬ j*3=i*3:=by omega
  have q8:¬ j*3+1=i*3+1:=by omega
  have q9:¬ j*3+2=i*3+2:=by omega
  go_region
  all_goals
   go_wp2
   go_end0
   refine⟨rfl,?_,(ae hBe).drew,(ae hKe).drew⟩;rw[ae hSw];exact(ae hAll).drew
theorem GM(a:Addr)(w:World):(method 500 294 (.pointer (some a)) "loop.example/corbel/impl.size").run Tryz.prog w = .ok (215,.pointer (some a)) w:=by kernel_rfl
theorem ri(a:Addr)(w:World):(method 500 294 (.pointer (some a)) "loop.example/corbel/impl.before").run Tryz.prog w = .ok (333,.pointer (some a)) w:=by kernel_rfl
theorem xe(a:Addr)(w:World):(method 500 294 (.pointer (some a)) "loop.example/corbel/impl.swap").run Tryz.prog w = .ok (228,.pointer (some a)) w:=by kernel_rfl
theorem bK.later{w w':World}{b base:Nat}{v:Value}{L:List Grp}(h:bK w b base v L)(hb:Below w.heap.size w w'):bK w' b base v L:=
 ⟨(hb.block b h.lt).trans h.1,h.2.later hb (a0a _)⟩
set_option maxRecDepth 100000 in
theorem uD(b g n cap p:Nat)(L:List Grp)(w:World)(hS:dD w (b+1) L)(hn:L.length=n)(hm:n<=300)(h:bK w b (b+1) (.slice (some ⟨g,0,none⟩) n cap) L)(hp:p<n)(hu:UpI L p) :
  Calls Tryz.prog 230 #[.iface 294 (.pointer (some ⟨b,0,none⟩)),.int .i64 (p:Nat)] w fun e w'=>e = .returned (.tuple #[])/\∃M:List Grp,M.Perm L/\HP M/\bK w' b (b+1) (.slice (some ⟨g,0,none⟩) n cap) M/\Below b w w'/\bc g w w':=by
 have m1:=ri ⟨b,0,none⟩;have m2:=xe ⟨b,0,none⟩;have hmI:(n:Int)<=300:=by omega
 have HS:=af hS;have HN:=af (a0b hn hm);have H0:=af (a0b h (a0b hp hu));clear hS hn hm h hp hu;go_enter Tryz.func230,Tryz.ntmps230;go_wp2_with fail
 go_loopw [1] (fun p wr=>∃(k:Nat) (M:List Grp),p = .int .i64 k/\k<n/\M.Perm L/\UpI M k/\bK wr b (b+1) (.slice (some ⟨g,0,none⟩) n cap) M/\Below b w wr/\bc g w wr) (fun p _=>(intOf p).toNat)
 case atStart=>exact⟨p,L,rfl,(ae H0).2.1,a2r _,(ae H0).2.2,(ae H0).1,a0c _ _,bc.refl _ _⟩
 case round=>
  obtain⟨k,M,rfl,hk,hM,hu,hh,hbel,hke⟩:=hrel;have hkI:(k:Int)<(n:Int):=by omega
  have hMn:M.length=n:=hM.length_eq.trans (ae HN).1;have HQ:=af (a0b hk (a0b hM (a0b hu (a0b hh (a0b hbel (a0b hke hMn))))));by_cases h0:k=0
  ·
   subst h0;clear hk hM hu hh hbel hke hMn;go_wp2
   go_end0
   obtain⟨hk,hM,hu,hh,hbel,hke,hMn⟩:=ae HQ;exact⟨rfl,M,hM,I8 hu (.inl rfl),hh,hbel,hke⟩
  ·
   have hsy:dD wr (b+1) M:=(hke.syms (ae HS)).perm hM;obtain⟨q,hq⟩:∃q,q=(k-1)/2:=⟨_,rfl⟩;have hqI:((k:Int)-1)/2=(q:Int):=by omega
   have hq0:(q:Int)<(n:Int):=by omega
   have h1I:(1:Int)<=(k:Int):=by omega
   have HB:=af (gO b (b+1) (b+1) g n cap k q M wr hsy hMn (ae HN).2 hh hk (by omega));have HQQ:=af hq;clear hk hM hu hh hbel hke hMn hq;cases hl:aL (M.getD k g0) (M.getD q g0)
   ·
    rw[hl]at HB;have HL:=af hl;clear hl;go_wp2_with fail;refine(ae HB).mono ?_;rintro e x1 ⟨rfl,hb1⟩;go_wp2
    go_end0
    obtain⟨hk,hM,hu,hh,hbel,hke,hMn⟩:=ae HQ;exact⟨rfl,M,hM,I8 hu (.inr (by rw[←ae HQQ];exact ae HL)),hh.later hb1,hbel.trans (hb1.mono (a0x (hh.lt))),hke.trans (bc.below hb1)⟩
   ·
    rw[hl]at HB;have HL:=af hl;clear hl;go_wp2_with fail;refine(ae HB).mono ?_;rintro e x1 ⟨rfl,hb1⟩;have HW:Hid (Calls Tryz.prog 228 #[.pointer (some ⟨b,0,none⟩),.int .i64 (k:Nat),.int .i64 (q:Nat)] x1 fun e w'=>e = .returned (.tuple #[])/\bK w' b (b+1) (.slice (some ⟨g,0,none⟩) n cap) (bQ M k q)/\Below b x1 w'/\bc g x1 w'):=by
     obtain⟨hk,hM,hu,hh,hbel,hke,hMn⟩:=ae HQ;exact kH b (b+1) (b+1) g n cap k q M x1 (((hke.trans (bc.below hb1)).syms (ae HS)).perm hM) hMn (ae HN).2 (hh.later hb1) (a0m _) hk (by omega)
    go_wp2_with fail;refine(ae HW).mono ?_;rintro e x2 ⟨rfl,hh2,hb2,hk2⟩;go_wp2;go_roundw
    case rel=>
     obtain⟨hk,hM,hu,hh,hbel,hke,hMn⟩:=ae HQ;have hq:=ae HQQ;refine⟨q,bQ M k q,by first|rfl|go_num,by omega,(fH (by omega) (by omega)).trans hM,?_,hh2,(hbel.trans (hb1.mono (a0x (hh.lt)))).trans hb2,(hke.trans (bc.below hb1)).trans hk2⟩;subst hq;exact KZ hu (by omega) (by omega) (ae HL)
    case measure=>
     have hq:=ae HQQ;simp[intOf];omega
theorem vi{L:List Grp}{k c:Nat}(hc:(c=2*k+1/\(L.length<=2*k+2∨aL (L.getD (2*k+2) g0) (L.getD (2*k+1) g0)=false))∨(c=2*k+2/\aL (L.getD (2*k+2) g0) (L.getD (2*k+1) g0)=true)) :
  ∀i,0<i->i<L.length->(i-1)/2=k->aL (L.getD i g0) (L.getD c g0)=false:=by
 intro i i0 hi hp;have hi2:i=2*k+1∨i=2*k+2:=by omega
 rcases hc with⟨rfl,h|h⟩|⟨rfl,h⟩
 ·
  rcases hi2 with rfl|rfl
  · exact eD _
  · omega
 ·
  rcases hi2 with rfl|rfl
  · exact eD _
  · exact h
 ·
  rcases hi2 with rfl|rfl
  · exact l8 h
  · exact eD _
set_option maxRecDepth 100000 in
theorem uE(b g n cap p:Nat)(L:List Grp)(w:World)(hS:dD w (b+1) L)(hn:L.length=n)(hm:n<=300)(h:bK w b (b+1) (.slice (some ⟨g,0,none⟩) n cap) L)(hp:p<=n)(hu:DnI L p) :
  Calls Tryz.prog 229 #[.iface 294 (.pointer (some ⟨b,0,none⟩)),.int .i64 (p:Nat)] w fun e w'=>e = .returned (.tuple #[])/\∃M:List Grp,M.Perm L/\HP M/\bK w' b (b+1) (.slice (some ⟨g,0,none⟩) n cap) M/\Below b w w'/\bc g w w':=by
 have m1:=ri ⟨b,0,none⟩;have m2:=xe ⟨b,0,none⟩;have m3:=GM ⟨b,0,none⟩;have hmI:(n:Int)<=300:=by omega
 have HS:=af hS;have HN:=af (a0b hn hm);have H0:=af (a0b h (a0b hp hu));clear hS hn hm h hp hu;go_enter Tryz.func229,Tryz.ntmps229;go_wp2_with fail
 go_loopw [1,4] (fun p _ wr=>∃(k:Nat) (M:List Grp),p = .int .i64 k/\k<=n/\M.Perm L/\DnI M k/\bK wr b (b+1) (.slice (some ⟨g,0,none⟩) n cap) M/\Below b w wr/\bc g w wr) (fun p _ _=>n-(intOf p).toNat)
 case atStart=>exact⟨p,L,rfl,(ae H0).2.1,a2r _,(ae H0).2.2,(ae H0).1,a0c _ _,bc.refl _ _⟩
 case round=>
  obtain⟨k,M,rfl,hk,hM,hu,hh,hbel,hke⟩:=hrel;have hkI:(k:Int)<=(n:Int):=by omega
  have hMn:M.length=n:=hM.length_eq.trans (ae HN).1;have HQ:=af (a0b hk (a0b hM (a0b hu (a0b hh (a0b hbel (a0b hke hMn))))));have HZ:=af (gx b (b+1) n cap _ M wr hh);have hsy:dD wr (b+1) M:=(hke.syms (ae HS)).perm hM;obtain⟨c1,hc1⟩:∃q,q=2*k+1:=⟨_,rfl⟩;have hc1I:2*(k:Int)+1=(c1:Int):=by omega
  have HC1:=af hc1;by_cases h1:c1<n
  ·
   have h1I:(c1:Int)<(n:Int):=by omega
   obtain⟨c2,hc2⟩:∃q,q=2*k+2:=⟨_,rfl⟩;have hc2I:(c1:Int)+1=(c2:Int):=by omega
   have HC2:=af hc2;by_cases h2:c2<n
   ·
    have h2I:(c2:Int)<(n:Int):=by omega
    have HB:=af (gO b (b+1) (b+1) g n cap c2 c1 M wr hsy hMn (ae HN).2 hh h2 h1);clear hk hM hu hh hbel hke hMn hc1 hc2 h1 h2 hsy;cases hl:aL (M.getD c2 g0) (M.getD c1 g0)
    ·
     rw[hl]at HB;have HL:=af hl;clear hl;go_wp2_with fail;refine(ae HZ).mono ?_;rintro e y1 ⟨rfl,hy1⟩;rw[hy1];clear hy1 y1;go_wp2_with fail;refine(ae HZ).mono ?_;rintro e y1 ⟨rfl,hy1⟩;rw[hy1];clear hy1 y1;go_wp2_with fail;refine(ae HB).mono ?_;rintro e x1 ⟨rfl,hb1⟩;have HX:Hid (bK x1 b (b+1) (.slice (some ⟨g,0,none⟩) n cap) M/\Below b w x1/\bc g w x1/\c1<n/\0<c1/\(c1-1)/2=k/\(∀i,0<i->i<M.length->(i-1)/2=k->aL (M.getD i g0) (M.getD c1 g0)=false)):=by
      obtain⟨hk,hM,hu,hh,hbel,hke,hMn⟩:=ae HQ;refine⟨(hh.later hb1),(hbel.trans (hb1.mono (a0x (hh.lt)))),(hke.trans (bc.below hb1)),by omega,?_,?_,vi (k:=k) (.inl ⟨ae HC1,.inr (by rw[←ae HC1,←ae HC2];exact ae HL)⟩)⟩
      · have:=ae HC1;omega
      · have:=ae HC1;omega
     have HB2:Hid (Calls Tryz.prog 333 #[.pointer (some ⟨b,0,none⟩),.int .i64 (c1:Nat),.int .i64 (k:Nat)] x1 fun e w'=>e = .returned (.bool (aL (M.getD c1 g0) (M.getD k g0)))/\Below (x1).heap.size x1 w'):=by
      obtain⟨hk,hM,hu,hh,hbel,hke,hMn⟩:=ae HQ;obtain⟨xh,xb,xk,xc,xc0,xp,xm⟩:=ae HX;exact gO b (b+1) (b+1) g n cap c1 k M x1 ((xk.syms (ae HS)).perm hM) hMn (ae HN).2 xh xc (by omega)
     cases hl2:aL (M.getD c1 g0) (M.getD k g0)
     · rw[hl2]at HB2;have HL2:=af hl2;clear hl2;go_wp2_with fail;refine(ae HB2).mono ?_;rintro e x2 ⟨rfl,hb2⟩;go_wp2;refine a0K (a3n rfl _ _ _) rfl ?_;obtain⟨hk,hM,hu,hh,hbel,hke,hMn⟩:=ae HQ;obtain⟨xh,xb,xk,xc,xc0,xp,xm⟩:=ae HX;exact⟨rfl,M,hM,um hu (fun c c0 hc hp=>fV (xm c c0 hc hp) (ae HL2)),xh.later hb2,xb.trans (hb2.mono (a0x (xh.lt))),xk.trans (bc.below hb2)⟩
     ·
      rw[hl2]at HB2;have HL2:=af hl2;clear hl2;go_wp2_with fail;refine(ae HB2).mono ?_;rintro e x2 ⟨rfl,hb2⟩;have HW:Hid (Calls Tryz.prog 228 #[.pointer (some ⟨b,0,none⟩),.int .i64 (c1:Nat),.int .i64 (k:Nat)] x2 fun e w'=>e = .returned (.tuple #[])/\bK w' b (b+1) (.slice (some ⟨g,0,none⟩) n cap) (bQ M c1 k)/\Below b x2 w'/\bc g x2 w'):=by
       obtain⟨hk,hM,hu,hh,hbel,hke,hMn⟩:=ae HQ;obtain⟨xh,xb,xk,xc,xc0,xp,xm⟩:=ae HX;exact kH b (b+1) (b+1) g n cap c1 k M x2 (((xk.trans (bc.below hb2)).syms (ae HS)).perm hM) hMn (ae HN).2 (xh.later hb2) (a0m _) xc (by omega)
      go_wp2_with fail;refine(ae HW).mono ?_;rintro e x3 ⟨rfl,hh3,hb3,hk3⟩;go_wp2;go_roundw
      case rel=>
       obtain⟨hk,hM,hu,hh,hbel,hke,hMn⟩:=ae HQ;obtain⟨xh,xb,xk,xc,xc0,xp,xm⟩:=ae HX;exact⟨c1,bQ M c1 k,rfl,by omega,(fH (by omega) (by omega)).trans hM,un hu (by omega) (by omega) xc0 xp xm (ae HL2),hh3,(xb.trans (hb2.mono (a0x (xh.lt)))).trans hb3,(xk.trans (bc.below hb2)).trans hk3⟩
      case measure=>
       obtain⟨xh,xb,xk,xc,xc0,xp,xm⟩:=ae HX;simp[intOf];omega
    ·
     rw[hl]at HB;have HL:=af hl;clear hl;go_wp2_with fail;refine(ae HZ).mono ?_;rintro e y1 ⟨rfl,hy1⟩;rw[hy1];clear hy1 y1;go_wp2_with fail;refine(ae HZ).mono ?_;rintro e y1 ⟨rfl,hy1⟩;rw[hy1];clear hy1 y1;go_wp2_with fail;refine(ae HB).mono ?_;rintro e x1 ⟨rfl,hb1⟩;have HX:Hid (bK x1 b (b+1) (.slice (some ⟨g,0,none⟩) n cap) M/\Below b w x1/\bc g w x1/\c2<n/\0<c2/\(c2-1)/2=k/\(∀i,0<i->i<M.length->(i-1)/2=k->aL (M.getD i g0) (M.getD c2 g0)=false)):=by
      obtain⟨hk,hM,hu,hh,hbel,hke,hMn⟩:=ae HQ;refine⟨(hh.later hb1),(hbel.trans (hb1.mono (a0x (hh.lt)))),(hke.trans (bc.below hb1)),by omega,?_,?_,vi (k:=k) (.inr ⟨ae HC2,by rw[←ae HC1,←ae HC2];exact ae HL⟩)⟩
      · have:=ae HC2;omega
      · have:=ae HC2;omega
     have HB2:Hid (Calls Tryz.prog 333 #[.pointer (some ⟨b,0,none⟩),.int .i64 (c2:Nat),.int .i64 (k:Nat)] x1 fun e w'=>e = .returned (.bool (aL (M.getD c2 g0) (M.getD k g0)))/\Below (x1).heap.size x1 w'):=by
      obtain⟨hk,hM,hu,hh,hbel,hke,hMn⟩:=ae HQ;obtain⟨xh,xb,xk,xc,xc0,xp,xm⟩:=ae HX;exact gO b (b+1) (b+1) g n cap c2 k M x1 ((xk.syms (ae HS)).perm hM) hMn (ae HN).2 xh xc (by omega)
     cases hl2:aL (M.getD c2 g0) (M.getD k g0)
     · rw[hl2]at HB2;have HL2:=af hl2;clear hl2;go_wp2_with fail;refine(ae HB2).mono ?_;rintro e x2 ⟨rfl,hb2⟩;go_wp2;refine a0K (a3n rfl _ _ _) rfl ?_;obtain⟨hk,hM,hu,hh,hbel,hke,hMn⟩:=ae HQ;obtain⟨xh,xb,xk,xc,xc0,xp,xm⟩:=ae HX;exact⟨rfl,M,hM,um hu (fun c c0 hc hp=>fV (xm c c0 hc hp) (ae HL2)),xh.later hb2,xb.trans (hb2.mono (a0x (xh.lt))),xk.trans (bc.below hb2)⟩
     ·
      rw[hl2]at HB2;have HL2:=af hl2;clear hl2;go_wp2_with fail;refine(ae HB2).mono ?_;rintro e x2 ⟨rfl,hb2⟩;have HW:Hid (Calls Tryz.prog 228 #[.pointer (some ⟨b,0,none⟩),.int .i64 (c2:Nat),.int .i64 (k:Nat)] x2 fun e w'=>e = .returned (.tuple #[])/\bK w' b (b+1) (.slice (some ⟨g,0,none⟩) n cap) (bQ M c2 k)/\Below b x2 w'/\bc g x2 w'):=by
       obtain⟨hk,hM,hu,hh,hbel,hke,hMn⟩:=ae HQ;obtain⟨xh,xb,xk,xc,xc0,xp,xm⟩:=ae HX;exact kH b (b+1) (b+1) g n cap c2 k M x2 (((xk.trans (bc.below hb2)).syms (ae HS)).perm hM) hMn (ae HN).2 (xh.later hb2) (a0m _) xc (by omega)
      go_wp2_with fail;refine(ae HW).mono ?_;rintro e x3 ⟨rfl,hh3,hb3,hk3⟩;go_wp2;go_roundw
      case rel=>
       obtain⟨hk,hM,hu,hh,hbel,hke,hMn⟩:=ae HQ;obtain⟨xh,xb,xk,xc,xc0,xp,xm⟩:=ae HX;exact⟨c2,bQ M c2 k,rfl,by omega,(fH (by omega) (by omega)).trans hM,un hu (by omega) (by omega) xc0 xp xm (ae HL2),hh3,(xb.trans (hb2.mono (a0x (xh.lt)))).trans hb3,(xk.trans (bc.below hb2)).trans hk3⟩
      case measure=>
       obtain⟨xh,xb,xk,xc,xc0,xp,xm⟩:=ae HX;simp[intOf];omega
   ·
    have h2I:¬ (c2:Int)<(n:Int):=by omega
    have hnn:Hid (n<=c2):=by show n<=c2;omega
    clear hk hM hu hh hbel hke hMn hc1 hc2 h1 h2 hsy;go_wp2_with fail;refine(ae HZ).mono ?_;rintro e y1 ⟨rfl,hy1⟩;rw[hy1];clear hy1 y1;go_wp2_with fail;refine(ae HZ).mono ?_;rintro e y1 ⟨rfl,hy1⟩;rw[hy1];clear hy1 y1;have HX:Hid (bK wr b (b+1) (.slice (some ⟨g,0,none⟩) n cap) M/\Below b w wr/\bc g w wr/\c1<n/\0<c1/\(c1-1)/2=k/\(∀i,0<i->i<M.length->(i-1)/2=k->aL (M.getD i g0) (M.getD c1 g0)=false)):=by
     obtain⟨hk,hM,hu,hh,hbel,hke,hMn⟩:=ae HQ;refine⟨hh,hbel,hke,by omega,?_,?_,vi (k:=k) (.inl ⟨ae HC1,.inl (by rw[hMn,←ae HC2];exact ae hnn)⟩)⟩
     · have:=ae HC1;omega
     · have:=ae HC1;omega
    have HB2:Hid (Calls Tryz.prog 333 #[.pointer (some ⟨b,0,none⟩),.int .i64 (c1:Nat),.int .i64 (k:Nat)] wr fun e w'=>e = .returned (.bool (aL (M.getD c1 g0) (M.getD k g0)))/\Below (wr).heap.size wr w'):=by
     obtain⟨hk,hM,hu,hh,hbel,hke,hMn⟩:=ae HQ;obtain⟨xh,xb,xk,xc,xc0,xp,xm⟩:=ae HX;exact gO b (b+1) (b+1) g n cap c1 k M wr ((xk.syms (ae HS)).perm hM) hMn (ae HN).2 xh xc (by omega)
    cases hl2:aL (M.getD c1 g0) (M.getD k g0)
    · rw[hl2]at HB2;have HL2:=af hl2;clear hl2;go_wp2_with fail;refine(ae HB2).mono ?_;rintro e x2 ⟨rfl,hb2⟩;go_wp2;refine a0K (a3n rfl _ _ _) rfl ?_;obtain⟨hk,hM,hu,hh,hbel,hke,hMn⟩:=ae HQ;obtain⟨xh,xb,xk,xc,xc0,xp,xm⟩:=ae HX;exact⟨rfl,M,hM,um hu (fun c c0 hc hp=>fV (xm c c0 hc hp) (ae HL2)),xh.later hb2,xb.trans (hb2.mono (a0x (xh.lt))),xk.trans (bc.below hb2)⟩
    ·
     rw[hl2]at HB2;have HL2:=af hl2;clear hl2;go_wp2_with fail;refine(ae HB2).mono ?_;rintro e x2 ⟨rfl,hb2⟩;have HW:Hid (Calls Tryz.prog 228 #[.pointer (some ⟨b,0,none⟩),.int .i64 (c1:Nat),.int .i64 (k:Nat)] x2 fun e w'=>e = .returned (.tuple #[])/\bK w' b (b+1) (.slice (some ⟨g,0,none⟩) n cap) (bQ M c1 k)/\Below b x2 w'/\bc g x2 w'):=by
      obtain⟨hk,hM,hu,hh,hbel,hke,hMn⟩:=ae HQ;obtain⟨xh,xb,xk,xc,xc0,xp,xm⟩:=ae HX;exact kH b (b+1) (b+1) g n cap c1 k M x2 (((xk.trans (bc.below hb2)).syms (ae HS)).perm hM) hMn (ae HN).2 (xh.later hb2) (a0m _) xc (by omega)
     go_wp2_with fail;refine(ae HW).mono ?_;rintro e x3 ⟨rfl,hh3,hb3,hk3⟩;go_wp2;go_roundw
     case rel=>
      obtain⟨hk,hM,hu,hh,hbel,hke,hMn⟩:=ae HQ;obtain⟨xh,xb,xk,xc,xc0,xp,xm⟩:=ae HX;exact⟨c1,bQ M c1 k,rfl,by omega,(fH (by omega) (by omega)).trans hM,un hu (by omega) (by omega) xc0 xp xm (ae HL2),hh3,(xb.trans (hb2.mono (a0x (xh.lt)))).trans hb3,(xk.trans (bc.below hb2)).trans hk3⟩
     case measure=>
      obtain⟨xh,xb,xk,xc,xc0,xp,xm⟩:=ae HX;simp[intOf];omega
  ·
   have h1I:¬ (c1:Int)<(n:Int):=by omega
   have hnn:Hid (n<=c1):=by show n<=c1;omega
   clear hk hM hu hh hbel hke hMn hc1 h1 hsy;go_wp2_with fail;refine(ae HZ).mono ?_;rintro e y1 ⟨rfl,hy1⟩;rw[hy1];clear hy1 y1;go_wp2
   go_end0
   obtain⟨hk,hM,hu,hh,hbel,hke,hMn⟩:=ae HQ;have hc1:=ae HC1;exact⟨rfl,M,hM,um hu (fun c c0 hc hp=>by omega),hh,hbel,hke⟩
theorem AJ{w:World}{b:Nat}{v:Value}{t:TypeId}(h:w.heap[b]?=some (Obj.cells #[v] t))(u:Value):(w.setCell ⟨b,0,none⟩ u).heap[b]?=some (Obj.cells #[u] t):=by
 show(w.heap.modify b _)[b]?=_;rw[Array.getElem?_modify,a0d rfl,h];simp
theorem Fs{w:World}{b:Nat}{v:Value}{t:TypeId}(h:w.heap[b]?=some (Obj.cells #[v] t)):w.cell? ⟨b,0,none⟩=some v:=by simp[World.cell?,h]
theorem Jy{w:World}{b:Nat}{v:Value}{t:TypeId}(h:w.heap[b]?=some (Obj.cells #[v] t)):w.frozen? ⟨b,0,none⟩=false:=by simp[World.frozen?,h]
theorem Tryz.infoGrp:(Tryz.prog.info? 297).map (fun i=>(i.zero,i.size,i.bytes))=some (some (.agg #[.int .i64 0,.int .i64 0,.slice none 0 0]),3,40):=by kernel_rfl
theorem zB{w W x1:World}{b n:Nat}{v v':Value}{L:List Grp}{x:Grp}{o:Obj}(hn:L.length=n)(h:bK w b (b+1) v L)(hW:Below w.heap.size w W)(hk:aU 3 w W)(hown:x1.ownsRow (b+1) 297 3 v' (n+1) (aX L++[.int .i64 x.cnt,.int .i64 x.fst,x.val]))(hg0:(W.alloc o).drew.grownBy x1 v.ownBlock) :
  (∃g c,v' = .slice (some ⟨g,0,none⟩) (n+1) c)/\(x1.heap[b]?=some (Obj.cells #[v] 317))/\bK (x1.setCell ⟨b,0,none⟩ v') b (b+1) v' (L++[x])/\Below b w (x1.setCell ⟨b,0,none⟩ v')/\aU 3 w (x1.setCell ⟨b,0,none⟩ v'):=by
 have hg:(W.alloc o).grownBy x1 v.ownBlock:=⟨hg0.os,hg0.tape,hg0.output,hg0.size,hg0.block⟩;have hWs:=hW.size;have hlt:=h.lt;have h1:=h.later hW;have h2:dr 297 (W.alloc o) (b+1) v L:=a0n h1.2 _;have hbk:∀k,v.ownBlock=some k->b<k:=fun k e=>(a0y h2 k e).1;have hxb:x1.heap[b]?=some (Obj.cells #[v] 317):=by
  rw[hg.block b (by simp;omega) (fun e=>by have:=hbk b e.symm;omega),a1l W o b (by omega)];exact h1.1
 have hbel:Below b w x1:=(((hW.mono (a0x hlt)).alloc (by omega) o)).grown hg (by simp;omega) (fun k e=>a0x (hbk k e));have hke:aU 3 w x1:=(hk.alloc o).grown h2 (by decide) hg;subst hn;have hsn:=Ez x hown;obtain⟨va,vc,e⟩:=hsn.formN (n:=L.length+1) (by simp);obtain⟨g,hga⟩:=(show dr 297 x1 (b+1) (.slice va (L.length+1) vc) (L++[x]) by rw[←e];exact hsn).somes (by simp);refine⟨⟨g,vc,by rw[e,hga]⟩,hxb,⟨AJ hxb v',?_⟩,ai hbel (a0a _) _,hke.set hxb (by decide) _⟩;exact a3i hsn (a0m _) _
set_option maxRecDepth 100000 in
theorem wL(b n cap:Nat)(a:Option Addr)(L:List Grp)(x:Grp)(w:World)(hS:dD w (b+1) L)(hx:ar w (b+1) x.val x.syms)(hn:L.length=n)(hm:n<300)(h:bK w b (b+1) (.slice a n cap) L)(hp:HP L) :
  Calls Tryz.prog 217 #[.pointer (some ⟨b,0,none⟩),.agg #[.int .i64 x.cnt,.int .i64 x.fst,x.val]] w fun e w'=>e = .returned (.tuple #[])/\∃(M:List Grp) (g cap':Nat),M.Perm (L++[x])/\HP M/\bK w' b (b+1) (.slice (some ⟨g,0,none⟩) (n+1) cap') M/\Below b w w'/\aU 3 w w':=by
 obtain⟨i0,hi,hz0,hz1,hz2⟩:=a0z Tryz.infoGrp;have hmI:(n:Int)<300:=by omega
 have hlt:=h.lt;have c0:=h.cell;obtain⟨xa,xq,hxv⟩:=hx.form;have HS:=af hS;have HN:=af (a0b hn hm);have H0:=af (a0b h hp);have HX:=af (a0b hx hxv);obtain⟨xc,xf,xs,xv⟩:=x;simp only at hxv;subst hxv;generalize hxn:xs.length=xn at *
 have hlen1:Hid (n+1<=maxLen/\(n+1)*40<=140737488355328):=by show _/\_;unfold maxLen;omega
 have hR:Hid (World.ownsRow ((w.alloc (.cells #[.int .i64 xc,.int .i64 xf,.slice xa xn xq] 297)).alloc (.cells #[.int .i64 xc,.int .i64 xf,.slice xa xn xq] 297)).drew (b+1) 297 3 (.slice a n cap) n (aX L)):=by
  have h2:=h.2;unfold dr at h2;rw[hn]at h2;exact a0n (a0n h2 _) _
 have hNw:Hid (∀(j:Nat) (u:Value),[Value.int .i64 xc,.int .i64 xf,.slice xa xn xq][j]?=some u->World.cell? ((w.alloc (.cells #[.int .i64 xc,.int .i64 xf,.slice xa xn xq] 297)).alloc (.cells #[.int .i64 xc,.int .i64 xf,.slice xa xn xq] 297)).drew ((⟨w.heap.size+1,0,none⟩:Addr).add j)=some u):=Em _ _ _ _ _ _ (by simp);have hSz:Hid (b+1<=((w.alloc (.cells #[.int .i64 xc,.int .i64 xf,.slice xa xn xq] 297)).alloc (.cells #[.int .i64 xc,.int .i64 xf,.slice xa xn xq] 297)).drew.heap.size):=by show b+1<=((w.alloc (.cells #[.int .i64 xc,.int .i64 xf,.slice xa xn xq] 297)).alloc (.cells #[.int .i64 xc,.int .i64 xf,.slice xa xn xq] 297)).drew.heap.size;simp;omega
 clear hS hn hm h hp hx;go_enter Tryz.func217,Tryz.ntmps217;go_wp2_with fail
 go_region_law (refine am rfl (.tmp 8) (.tmp 10) 315 rfl (b+1) 297 i0 (.agg #[.int .i64 0,.int .i64 0,.slice none 0 0]) 3 40 Tryz.underlying315 hi hz0 hz1 hz2 rfl (by decide) _ _ _ rfl (ae hR) ⟨w.heap.size+1,0,none⟩ 1 1 [.int .i64 xc,.int .i64 xf,.slice xa xn xq] rfl rfl (ae hNw) (Eo _ _ _ _ _) (ae hlen1).1 (ae hlen1).2 (ae hSz) ?_;intro v' w' hown hgrow hnil;clear hnil;have HL:=af (zB (x:=⟨xc,xf,xs,.slice xa xn xq⟩) (ae HN).1 (ae H0).1 ((a0c _ _).alloc (a0a _) _) ((aU.refl _ _).alloc _) hown hgrow);obtain⟨⟨g',c',hv'⟩,HB,HH⟩:=(ae HL);subst hv';clear hown hgrow HL;have c1:=Fs HB;have f1:=Jy HB;have HH':=af HH;clear HH HB)
 all_goals
  go_wp2_with fail;obtain⟨hh2,hb2,hk2⟩:=ae HH';have hsy2:=(hk2.syms (ae HS)).snoc (g:=⟨xc,xf,xs,.slice xa xn xq⟩) (hk2.ints (ae HX).1);have HZ:=af (gx b (b+1) (n+1) c' (some ⟨g',0,none⟩) _ _ hh2);have HR:=af (uD b g' (n+1) c' n _ _ hsy2 (by rw[a0l,(ae HN).1];rfl) (by have:=(ae HN).2;omega) hh2 (a0m _) (by have h1:=JS (ae H0).2 ⟨xc,xf,xs,.slice xa xn xq⟩;rw[(ae HN).1]at h1;exact h1));clear hh2 hb2 hk2 hsy2;refine(ae HZ).mono ?_;rintro e y1 ⟨rfl,hy1⟩;rw[hy1];clear hy1 y1;go_wp2_with fail;refine(ae HR).mono ?_;rintro e x3 ⟨rfl,M,hM,hHP,hh3,hb3,hk3⟩;go_wp2
  go_end0
  obtain⟨hh2,hb2,hk2⟩:=ae HH';exact⟨rfl,M,g',c',hM,hHP,hh3,hb2.trans hb3,hk2.trans hk3.1⟩
theorem JP(g n cap k:Nat)(hk:k<=cap)(hc:0<cap)(W:World):(Instr.slice 315 (.slice (some ⟨g,0,none⟩) n cap) none (some (.int .i64 (k:Int))) none).run Tryz.prog W = .ok (.slice (some ⟨g,0,none⟩) k cap) W:=by
 have h1:(k:Int)<=(cap:Int):=by omega
 have h2:¬ ((k:Int)<0):=by omega
 have hk':(cap == 0)=false:=by simp;omega
 go_simp
theorem IX{w:World}{base g cap n:Nat}{l:List Grp}(hn:l.length=n+1)(h:dr 297 w base (.slice (some ⟨g,0,none⟩) (n+1) cap) l):dr 297 w base (.slice (some ⟨g,0,none⟩) n cap) (l.take n):=by
 have e:aX l=aX (l.take n)++aX (l.drop n):=by rw[←lO,a1C]
 have hl:(l.take n).length=n:=by rw[a0t];omega
 unfold dr at h ⊢;rw[hn,e]at h;rw[hl];exact ownsRow_pop (by rw[rO,hl]) h
theorem ot{w:World}{base size g k o n m cap:Nat}{e:TypeId}{xs:List Value}(h:w.ownsRow base e size (.slice (some ⟨g,0,none⟩) n cap) m xs)(hg:k≠g)(u:Value):(w.setCell ⟨k,o,none⟩ u).ownsRow base e size (.slice (some ⟨g,0,none⟩) n cap) m xs:=by
 refine⟨h.1,?_⟩;rcases h.2 with hn|⟨g1,cap,cur,e,hbg,hgg,rest⟩
 · exact .inl hn
 · refine .inr ⟨g1,cap,cur,e,hbg,?_,rest⟩;simp only[a0L,a0j,a0w,a0V]at e;rw[a0J w ⟨k,o,none⟩ u g1 (by show g1≠k;omega)];exact hgg
theorem bK.setOther{w:World}{b base g k o n cap:Nat}{L:List Grp}(h:bK w b base (.slice (some ⟨g,0,none⟩) n cap) L)(hb:k≠b)(hg:k≠g)(u:Value):bK (w.setCell ⟨k,o,none⟩ u) b base (.slice (some ⟨g,0,none⟩) n cap) L:=
 ⟨(a0J w ⟨k,o,none⟩ u b (fun e=>hb e.symm)).trans h.1,ot h.2 hg u⟩
theorem pf{w:World}{b:Nat}{x y z:Value}{t:TypeId}(h:w.heap[b]?=some (Obj.cells #[x,y,z] t)):Three w b x y z:=
 ⟨by simp[World.cell?,h],by simp[World.cell?,h],by simp[World.cell?,h],by simp[World.frozen?,h],by simp[World.frozen?,h],by simp[World.frozen?,h],(Array.getElem?_eq_some_iff.1 h).1⟩
theorem nW(w:World)(o:Obj):(w.alloc o).heap[w.heap.size]?=some o:=Array.getElem?_push_size
set_option maxRecDepth 100000 in
theorem xY(b g N cap:Nat)(L:List Grp)(w:World)(hS:dD w (b+1) L)(hn:L.length=N+1)(hm:N<300)(h:bK w b (b+1) (.slice (some ⟨g,0,none⟩) (N+1) cap) L)(hp:HP L) :
  Calls Tryz.prog 216 #[.pointer (some ⟨b,0,none⟩)] w fun e w'=>e = .returned (.agg #[.int .i64 (L.getD 0 g0).cnt,.int .i64 (L.getD 0 g0).fst,(L.getD 0 g0).val])/\∃M:List Grp,(L.getD 0 g0 :: M).Perm L/\HP M/\bK w' b (b+1) (.slice (some ⟨g,0,none⟩) N cap) M/\Below b w w'/\aU 3 w w':=by
 have hmI:(N:Int)<300:=by omega
 have hlt:=h.lt;have hcap:=h.2.cap hn;have HS:=af hS;have HN:=af (a0b hn hm);have H0:=af (a0b h hp);have hB1:Below w.heap.size w (w.alloc (.cells #[.int .i64 0,.int .i64 0,.slice none 0 0] 297)):=(a0c _ _).alloc (a0a _) _;have HZ:=af (gx b (b+1) (N+1) cap (some ⟨g,0,none⟩) L _ (h.later hB1));have HW:=af (kH b (b+1) (b+1) g (N+1) cap 0 N L _ ((bc.below (g:=g) hB1).syms hS) hn (by omega) (h.later hB1) (a0m _) (by omega) (by omega));have hB1':=af hB1;clear hS hn h hp hB1;go_enter Tryz.func216,Tryz.ntmps216;go_wp2_with fail;refine(ae HZ).mono ?_;rintro e y1 ⟨rfl,hy1⟩;rw[hy1];clear hy1 y1;go_wp2_with fail;refine(ae HW).mono ?_;rintro e x1 ⟨rfl,hh1,hb1,hk1⟩;have hg1:=(a0y (ae H0).1.2 g rfl).2;have hlen1:(bQ L 0 N).length=N+1:=by rw[eG];exact(ae HN).1
 obtain⟨c0,c1,c2,_,hgx⟩:=hh1.2.at hlen1 N (a0m _);rw[lA (by rw[(ae HN).1];exact a0m _)]at c0 c1 c2;have hA:=ae HS (L.getD 0 g0) (eV L 0 (by rw[(ae HN).1];exact Nat.succ_pos _));obtain⟨aa,ac,hav⟩:=hA.form;rw[hav]at c2;have hbc:=hh1.cell;have hbf:=hh1.frz;have hb2:=hh1.lt;have hbg:b≠g:=by have:=(a0y (ae H0).1.2 g rfl).1;omega
 have hx1s:w.heap.size<x1.heap.size:=by have:=hk1.2.1;simp at this;omega
 have hcut:=JP g (N+1) cap N (by omega) (by omega);have hcapI:(cap:Int)<=9223372036854775807:=by have:=hcap.2;unfold maxLen at this;omega
 have hcapI2:(N:Int)+1<=(cap:Int):=by have:=hcap.1;omega
 have hr0:x1.heap[w.heap.size]?=some (Obj.cells #[.int .i64 0,.int .i64 0,.slice none 0 0] 297):=by
  rw[hk1.2.2 w.heap.size (by simp) (by omega)];exact nW _ _
 have HX:=af (a0b hh1 (a0b hb1 (a0b hk1 (a0b hlen1 (a0b hav hr0)))));clear hh1 hb1 hk1 hlen1 hcap hgx hA hr0 hm HZ HW;generalize hAA:(L.getD 0 g0).cnt=Ac at *
 generalize hAF:(L.getD 0 g0).fst=Af at *
 generalize hAS:(L.getD 0 g0).syms.length=An at *
 have HAA:=af (a0b hAA (a0b hAF hAS));clear hAA hAF hAS hav;go_wp2_with fail;have HY:Hid (bK ((x1.setCell ⟨b,0,none⟩ (.slice (some ⟨g,0,none⟩) N cap)).alloc (.cells #[.int .i64 Ac,.int .i64 Af,.slice aa An ac] 297)) b (b+1) (.slice (some ⟨g,0,none⟩) N cap) ((bQ L 0 N).take N) /\
   Below b w ((x1.setCell ⟨b,0,none⟩ (.slice (some ⟨g,0,none⟩) N cap)).alloc (.cells #[.int .i64 Ac,.int .i64 Af,.slice aa An ac] 297)) /\
   aU 3 w ((x1.setCell ⟨b,0,none⟩ (.slice (some ⟨g,0,none⟩) N cap)).alloc (.cells #[.int .i64 Ac,.int .i64 Af,.slice aa An ac] 297)) /\
   ((x1.setCell ⟨b,0,none⟩ (.slice (some ⟨g,0,none⟩) N cap)).alloc (.cells #[.int .i64 Ac,.int .i64 Af,.slice aa An ac] 297)).heap[w.heap.size]?=some (Obj.cells #[.int .i64 0,.int .i64 0,.slice none 0 0] 297) /\
   ((x1.setCell ⟨b,0,none⟩ (.slice (some ⟨g,0,none⟩) N cap)).alloc (.cells #[.int .i64 Ac,.int .i64 Af,.slice aa An ac] 297)).heap[x1.heap.size]?=some (Obj.cells #[.int .i64 Ac,.int .i64 Af,.slice aa An ac] 297)):=by
  obtain⟨hh1,hb1,hk1,hlen1,hav,hr0⟩:=ae HX;have hsz:(x1.setCell ⟨b,0,none⟩ (.slice (some ⟨g,0,none⟩) N cap)).heap.size=x1.heap.size:=by simp
  refine⟨⟨?_,?_⟩,?_,?_,?_,?_⟩
  · rw[a1l _ _ b (by rw[hsz];exact hb2)];exact AJ hh1.1 _
  · exact a0n (a3i (IX hlen1 hh1.2) (a0m _) _) _
  · exact(ai (((ae hB1').mono (a0x hlt)).trans hb1) (a0a _) _).alloc (by rw[hsz];omega) _
  · exact(((aU.below (ae hB1')).trans hk1.1).set hh1.1 (by decide) _).alloc _
  · rw[a1l _ _ w.heap.size (by rw[hsz];exact hx1s),a0J _ _ _ _ (by show w.heap.size≠b;omega)];exact hr0
  · rw[←hsz];exact nW _ _
 generalize (x1.setCell ⟨b,0,none⟩ (.slice (some ⟨g,0,none⟩) N cap)).alloc (.cells #[.int .i64 Ac,.int .i64 Af,.slice aa An ac] 297)=Y at *
 have HK:Hid (Calls Tryz.prog 229 #[.iface 294 (.pointer (some ⟨b,0,none⟩)),.int .i64 ((0:Nat):Int)] Y fun e w'=>e = .returned (.tuple #[])/\∃M:List Grp,M.Perm ((bQ L 0 N).take N)/\HP M/\bK w' b (b+1) (.slice (some ⟨g,0,none⟩) N cap) M/\Below b Y w'/\bc g Y w'):=by
  obtain⟨hY1,hY2,hY3,hY4,hY5⟩:=ae HY;obtain⟨hn,hm⟩:=ae HN;have hsy:dD Y (b+1) ((bQ L 0 N).take N):=fun x hx=>hY3.syms (ae HS) x ((fH (by omega) (by omega)).mem_iff.1 (a3k hx));exact uE b g N cap 0 _ Y hsy (by rw[a0t,eG];omega) (by omega) hY1 (a0h _) (by have h1:=Ly (ae H0).2;rw[hn]at h1;exact h1)
 refine(ae HK).mono ?_;rintro e x5 ⟨rfl,M,hM,hHP,hh5,hb5,hk5⟩;have HF:Hid (bK x5 b (b+1) (.slice (some ⟨g,0,none⟩) N cap) M/\Below b w x5/\aU 3 w x5/\x5.heap[w.heap.size]?=some (Obj.cells #[.int .i64 0,.int .i64 0,.slice none 0 0] 297)/\M.Perm ((bQ L 0 N).take N)/\HP M):=by
  obtain⟨hY1,hY2,hY3,hY4,hY5⟩:=ae HY;exact⟨hh5,hY2.trans hb5,hY3.trans hk5.1,(hk5.2.2 _ (dm hY4) (by omega)).trans hY4,hM,hHP⟩
 have hT1:Three x5 w.heap.size _ _ _:=pf (ae HF).2.2.2.1;have hT2:Three x5 x1.heap.size (.int .i64 Ac) (.int .i64 Af) (.slice aa An ac):=by
  obtain⟨hY1,hY2,hY3,hY4,hY5⟩:=ae HY;exact pf ((hk5.2.2 _ (dm hY5) (by omega)).trans hY5)
 clear hM hHP hh5 hb5 hk5 HK;obtain⟨p0,p1,p2,q0,q1,q2,hps⟩:=hT1;obtain⟨r0,r1,r2,s0,s1,s2,hrs⟩:=hT2;go_wp2_with fail;obtain⟨hh1,hb1,hk1,hlen1,hav,hr0⟩:=ae HX;obtain⟨fh,fb,fk,fr,fM,fP⟩:=ae HF;obtain⟨eA,eF,eS⟩:=ae HAA;have hTt:=(((Three.set0 ⟨p0,p1,p2,q0,q1,q2,hps⟩ (.int .i64 Ac)).set1 (.int .i64 Af)).set2 (.slice aa An ac));have hTo:=((((Touch.refl (some ⟨w.heap.size,0,none⟩) x5).set (o:=0) rfl (.int .i64 Ac)).set (o:=1) rfl (.int .i64 Af)).set (o:=2) rfl (.slice aa An ac));have hbel:=ai (ai (ai fb (b:=w.heap.size) (o:=0) (a0x hlt) (.int .i64 Ac)) (b:=w.heap.size) (o:=1) (a0x hlt) (.int .i64 Af)) (b:=w.heap.size) (o:=2) (a0x hlt) (.slice aa An ac);have hke:=fk.trans (aU.touch fr (by decide) hTo);have hhe:=((fh.setOther (k:=w.heap.size) (o:=0) (by omega) (by omega) (.int .i64 Ac)).setOther (k:=w.heap.size) (o:=1) (by omega) (by omega) (.int .i64 Af)).setOther (k:=w.heap.size) (o:=2) (by omega) (by omega) (.slice aa An ac);generalize ((x5.setCell ⟨w.heap.size,0,none⟩ (.int .i64 Ac)).setCell ⟨w.heap.size,1,none⟩ (.int .i64 Af)).setCell ⟨w.heap.size,2,none⟩ (.slice aa An ac)=Z at *
 obtain⟨t0,t1,t2,_,_,_,_⟩:=hTt;refine a0K (v:=.agg #[.int .i64 Ac,.int .i64 Af,.slice aa An ac]) (by simp[results,Tryz.results216,go_sem,t0,t1,t2]) rfl ⟨?_,M,?_,fP,hhe,hbel,hke⟩
 · rw[eA,eF,hav]
 · have hn:=(ae HN).1;have h1:=Fx (L:=L) (by omega);rw[hn]at h1;exact(fM.cons _).trans h1
theorem ml(l:List Int)(k:Nat):(av l k).length<=k:=by
 induction k with
 | zero=>simp[av]
 | succ k ih=>
  simp only[av]
  split
  · simp;omega
  · omega
set_option maxRecDepth 100000 in
theorem sD(a:Option Addr)(cap n:Nat)(l:List Int)(w:World)(hn:l.length=n)(h:bB w a l)(hm:n<=300) :
  Calls Tryz.prog 214 #[.slice a n cap] w fun e w'=>e = .returned (.pointer (some ⟨w.heap.size,0,none⟩))/\∃(L:List Grp) (va:Option Addr) (vc:Nat),bK w' w.heap.size (w.heap.size+1) (.slice va L.length vc) L/\HP L/\(L.map bare).Perm (av l n)/\dD w' (w.heap.size+1) L/\Below w.heap.size w w':=by
 have hmI:(n:Int)<=300:=by omega
 have HN:=af (a0b hn hm);have hB0:Below w.heap.size w (w.alloc (.cells #[.slice none 0 0] 317)):=(a0c _ _).alloc (a0a _) _;have hH0:bK (w.alloc (.cells #[.slice none 0 0] 317)) w.heap.size (w.heap.size+1) (.slice none 0 0) []:=⟨nW _ _,a07 _ _ _ _⟩;clear hn hm;go_enter Tryz.func214,Tryz.ntmps214;go_wp2_with fail
 go_loopw [4,5,10] (fun _ _ i wr=>∃(k:Nat) (L:List Grp) (va:Option Addr) (vc:Nat),k<=n/\i = .int .i64 k/\bK wr w.heap.size (w.heap.size+1) (.slice va L.length vc) L/\HP L/\(L.map bare).Perm (av l k)/\dD wr (w.heap.size+1) L/\Below w.heap.size w wr) (fun _ _ i _=>n-(intOf i).toNat)
 case atStart=>exact⟨0,[],none,0,a0h _,rfl,hH0,fun i _ hi=>by simp at hi,a2r _,IK _ _,hB0⟩
 case round=>
  obtain⟨k,L,va,vc,hk,rfl,hh,hp,hL,hs,hbel⟩:=hrel;clear hB0 hH0;by_cases hlt:k<n
  ·
   obtain⟨g,o,rfl,hg,hcc⟩:=(h.later hbel) (by rw[(ae HN).1];omega);have c0:=hcc k (by rw[(ae HN).1];exact hlt);have hlen:L.length<300:=by
    have h1:=hL.length_eq;rw[a0S]at h1;have h2:=ml l k;have:=(ae HN).2;omega
   have HQ:=af (a0b hk (a0b hh (a0b hp (a0b hL (a0b hs hbel)))));clear hcc;by_cases hy:0<l.getD k 0
   ·
    have hst:=af (xN hy);generalize l.getD k 0=y at *
    have hB1:Below wr.heap.size wr (wr.alloc (.cells #[.int .i64 (k:Int)] 3)):=(a0c _ _).alloc (a0a _) _;have hA:ar (wr.alloc (.cells #[.int .i64 (k:Int)] 3)) (w.heap.size+1) (.slice (some ⟨wr.heap.size,0,none⟩) 1 1) [(k:Int)]:=ar.one wr _ hh.lt _;have HLa:=af (wL w.heap.size L.length vc va L ⟨y,(k:Int),[(k:Int)],.slice (some ⟨wr.heap.size,0,none⟩) 1 1⟩ _ ((aU.below hB1).syms hs) hA rfl hlen (hh.later hB1) hp);have HB1:=af hB1;have HA:=af hA;clear hk hh hp hL hs hbel hA hB1 hlen;go_wp2_with fail;refine(ae HLa).mono ?_;rintro e x1 ⟨rfl,M,g',c',hM,hHP,hh1,hb1,hk1⟩;go_wp2;go_roundw
    case rel=>
     obtain⟨hk,hh,hp,hL,hs,hbel⟩:=ae HQ;have hlM:M.length=L.length+1:=by rw[hM.length_eq];simp
     refine⟨k+1,M,some ⟨g',0,none⟩,c',by omega,by go_num,by rw[hlM];exact hh1,hHP,?_,?_,(hbel.trans ((ae HB1).mono (a0x hh.lt))).trans hb1⟩
     · rw[ae hst];refine(hM.map bare).trans ?_;rw[a0N];exact hL.append_right _
     · exact((hk1.syms ((aU.below (ae HB1)).syms hs)).snoc (hk1.ints (ae HA))).perm hM
    case measure=>simp[intOf];omega
   ·
    have hst:=af (KE hy);generalize l.getD k 0=y at *
    clear hk hh hp hL hs hbel hlen;go_wp2;go_roundw
    case rel=>
     obtain⟨hk,hh,hp,hL,hs,hbel⟩:=ae HQ;exact⟨k+1,L,va,vc,by omega,by go_num,hh,hp,by rw[ae hst];exact hL,hs,hbel⟩
    case measure=>simp[intOf];omega
  ·
   obtain rfl:k=n:=by omega
   clear h;go_wp2;go_ret;exact⟨rfl,L,va,vc,hh,hp,hL,hs,hbel⟩
end Go.Proofs.YtkdlcomfpffhhaaGreatDoor
namespace Go.Proofs.YtkdlcomfpffhhaaGreatDoor
open Go.RowKit
theorem F9{l:List Int}{j:Nat}{L M1 M2:List Grp}(hc:∀i,i<l.length->0<=l.getD i 0/\l.getD i 0<=100000)(hn:l.length<=300)(hj:j<(av l l.length).length∨j=0)(hL:(L.map bare).Perm (ay l j).1)(hp:HP L)(h2:1<L.length)(h1:(L.getD 0 g0 :: M1).Perm L)(hp1:HP M1)(h12:(M1.getD 0 g0 :: M2).Perm M1) :
  aW (ay l j).1=(L.getD 0 g0).syms++(M1.getD 0 g0).syms /\
  (∀(M3:List Grp) (v:Value),M3.Perm (M2++[⟨(L.getD 0 g0).cnt+(M1.getD 0 g0).cnt,if (M1.getD 0 g0).fst<(L.getD 0 g0).fst then(M1.getD 0 g0).fst else(L.getD 0 g0).fst,(L.getD 0 g0).syms++(M1.getD 0 g0).syms,v⟩])->(M3.map bare).Perm (ay l (j+1)).1) /\
  0<=(L.getD 0 g0).cnt/\0<=(M1.getD 0 g0).cnt/\(L.getD 0 g0).cnt+(M1.getD 0 g0).cnt<=30000000 /\
  ((L.getD 0 g0).syms++(M1.getD 0 g0).syms).length<=300/\0<(L.getD 0 g0).syms.length/\0<(M1.getD 0 g0).syms.length/\(∀x∈(L.getD 0 g0).syms++(M1.getD 0 g0).syms,0<=x/\x<(l.length:Int)):=by
 have hM1l:M1.length+1=L.length:=by have:=h1.length_eq;simpa using this
 obtain⟨hwf,hC,hS,hlen⟩:=bF l j hj;have hMl:(ay l j).1.length=L.length:=by rw[←hL.length_eq,a0S]
 have hnd:=(fy l j hj).1;have hfi:=Gd l j hj;have htop:∀g∈L,aL g (L.getD 0 g0)=false:=by
  intro g hg;obtain⟨i,hi,rfl⟩:=a1X hg;have:=Gb hp i hi;have e:L.getD i g0=L[i]:=by simp[List.getD,hi]
  rw[e]at this;exact this
 have htop1:∀g∈M1,aL g (M1.getD 0 g0)=false:=by
  intro g hg;obtain⟨i,hi,rfl⟩:=a1X hg;have:=Gb hp1 i hi;have e:M1.getD i g0=M1[i]:=by simp[List.getD,hi]
  rw[e]at this;exact this
 obtain⟨e1,p1⟩:=tT hL h1.symm htop (by omega) hnd hfi;have hfr:oK (aw (ay l j).1):=fun g hg=>hfi g (bg _ g hg);obtain⟨e2,p2⟩:=tT p1 h12.symm htop1 (by omega) (CY (by omega) hnd) hfr;have htwo:=BQ hwf (by omega:1<(ay l j).1.length);have ha:=hwf _ (bw (ay l j).1 (by omega));have hrl:=df (ay l j).1 (by omega);have hb:=hwf _ (bg _ _ (bw (aw (ay l j).1) (by omega)));have hst:=xM l 100000 (by omega) (fun i hi=>(hc i hi).2) l.length (a0a _);have hsy:aW (ay l j).1=(L.getD 0 g0).syms++(M1.getD 0 g0).syms:=by
  unfold aW;rw[←e1,←e2];rfl
 rw[←e1]at ha htwo;rw[←e2]at hb htwo;refine⟨hsy,?_,ha.1,hb.1,?_,?_,ha.2.2.2.2,hb.2.2.2.2,?_⟩
 · intro M3 v hM3;have h3:=hM3.map bare;rw[a0N]at h3;refine h3.trans ?_;show List.Perm _ (stepG (ay l j).1);unfold stepG;rw[←e1,←e2];exact p2.append_right _
 · have h0:=htwo.1;have:(bare (L.getD 0 g0)).cnt=(L.getD 0 g0).cnt:=rfl;have:(bare (M1.getD 0 g0)).cnt=(M1.getD 0 g0).cnt:=rfl;omega
 · have h0:=htwo.2;rw[hsy]at h0;omega
 ·
  intro x hx;simp only[a00]at hx;rcases hx with hx|hx
  · exact ha.2.2.2.1 x hx
  · exact hb.2.2.2.1 x hx
end Go.Proofs.YtkdlcomfpffhhaaGreatDoor
namespace Go.Proofs.YtkdlcomfpffhhaaGreatDoor
open Go.RowKit Corb
def gq(l:List Int):Int:=if decide (l.length<=300)&&inC l then(us l:Nat)else -1
theorem EE{l:List Int}(h:300<l.length):gq l = -1:=by
 unfold gq;rw[a0p (by omega)];rfl
theorem EF{l:List Int}(h:inC l=false):gq l = -1:=by
 unfold gq;rw[h];simp
theorem lC{l:List Int}(h:l.length<=300)(h2:inC l=true):gq l=(us l:Nat):=by
 unfold gq;rw[a0G h,h2];rfl
set_option maxRecDepth 100000 in
theorem jU(a:Option Addr)(cap n:Nat)(l:List Int)(w:World)(hn:l.length=n)(h:bB w a l)(hm:n<=1048576) :
  Calls Tryz.prog 178 #[.slice a n cap] w fun e w'=>e = .returned (.int .i64 (gq l))/\w'=w:=by
 subst hn;have hmI:(l.length:Int)<=1048576:=by omega
 clear hm;by_cases h3:(l.length:Int)<=300
 ·
  go_enter Tryz.func178,Tryz.ntmps178;go_wp2_with fail
  go_loop [3,5,11] (fun n _ i=>∃k:Nat,k<=l.length/\i = .int .i64 k/\n = .int .i64 (us (l.take k):Nat)/\inC (l.take k)=true) (fun _ _ i=>l.length-(intOf i).toNat)
  case atStart=>exact⟨0,a0h _,rfl,rfl,rfl⟩
  case round=>
   obtain⟨k,hk,rfl,rfl,hin⟩:=hrel;have HI:=af hin;clear hin;by_cases hlt:k<l.length
   ·
    obtain⟨g,o,rfl,hg,hc⟩:=h (by omega);have c0:=hc k hlt;have hst:=af (pU l k hlt);have hit:=af (Ge l k hlt);have hig:=af (fun hb=>JZ (l:=l) (k:=k) hlt hb);have hub:=rT (l.take k);have hub':(us (l.take k):Int)<=300:=by
     have:(l.take k).length<=l.length:=by simp;omega
     omega
    clear hc hk h hub;generalize l.getD k 0=y at *
    generalize us (l.take k)=u at *
    by_cases hb:0<=y/\y<=100000
    ·
     obtain⟨hb0,hb1⟩:=hb;have hin2:Hid (inC (l.take (k+1))=true):=by
      show _=true;rw[ae hit,ae HI,aD.2 ⟨hb0,hb1⟩];rfl
     by_cases hy:0<y
     ·
      have hst':Hid (us (l.take (k+1))=u+1):=by have:=ae hst;rw[a0d hy]at this;exact this
      go_wp2
      go_round
      case rel=>exact⟨k+1,by omega,by go_num,by rw[ae hst'];go_num,ae hin2⟩
      case measure=>simp[intOf];omega
     ·
      have hst':Hid (us (l.take (k+1))=u):=by have:=ae hst;rw[a0e hy]at this;exact this
      go_wp2
      go_round
      case rel=>exact⟨k+1,by omega,by go_num,by rw[ae hst'],ae hin2⟩
      case measure=>simp[intOf];omega
    ·
     have hno:Hid (gq l = -1):=EF (ae hig (by
      cases hx:inB y 0 100000
      · rfl
      · exact absurd (aD.1 hx) hb))
     by_cases hy:y<0
     · go_wp2;go_ret;exact⟨aQ (ae hno).symm,rfl⟩
     ·
      have hy2:¬ y<=100000:=by omega
      go_wp2;go_ret;exact⟨aQ (ae hno).symm,rfl⟩
   ·
    have hlk:Hid (l.take k=l):=a0s (by omega);have hin2:Hid (inC l=true):=by show inC l=true;rw[←ae hlk];exact ae HI
    clear h;go_wp2;go_ret;exact⟨aQ (by rw[lC (by omega) (ae hin2),ae hlk]),rfl⟩
 · have hno:=af (EE (l:=l) (by omega));go_enter Tryz.func178,Tryz.ntmps178;clear h;go_wp2;go_ret;exact⟨aQ (ae hno).symm,rfl⟩
def fD(x:Int):Int:=if x<=1 then x else 1
theorem wQ(x:Int)(w:World)(h0 : -1000000<=x)(h1:x<=1000000) :
  Calls Tryz.prog 180 #[.int .i64 x] w fun e w'=>e = .returned (.int .i64 (fD x))/\w'=w:=by
 by_cases h:x<=1
 ·
  have e:Hid (fD x=x):=by show fD x=x;simp[fD,h]
  go_enter Tryz.func180,Tryz.ntmps180;go_wp2;go_ret;exact⟨aQ (ae e).symm,rfl⟩
 ·
  have e:Hid (fD x=1):=by show fD x=1;simp[fD,h]
  go_enter Tryz.func180,Tryz.ntmps180;go_wp2;go_ret;exact⟨aQ (ae e).symm,rfl⟩
set_option maxRecDepth 100000 in
theorem vS(a:Option Addr)(cap n:Nat)(l:List Int)(w:World)(hn:l.length=n)(h:bB w a l)(hm:n<=1048576)(hc:okC l) :
  Calls Tryz.prog 179 #[.slice a n cap,.func (.func 180) #[] #[]] w fun e w'=>∃v,e = .returned v/\ar w' w.heap.size v (l.map fD)/\Below w.heap.size w w':=by
 have hmI:(n:Int)<=1048576:=by omega
 have Hn:=af hn;have Hm:=af hm;have HC:=af hc;clear hn hm hc;obtain⟨i0,hi,hz0,hz1,hz2⟩:=a0z Tryz.infoInt;go_enter Tryz.func179,Tryz.ntmps179;go_wp2_with fail
 go_loopw [5,7,10] (fun o _ i wr=>∃k:Nat,k<=n/\i = .int .i64 k/\ar wr w.heap.size o ((l.take k).map fD)/\Below w.heap.size w wr) (fun _ _ i _=>n-(intOf i).toNat)
 case atStart=>exact⟨0,a0h _,rfl,a07 _ _ _ _,a0c _ _⟩
 case round=>
  obtain⟨k,hk,rfl,hq,hbel⟩:=hrel;have hbs:=hbel.size;by_cases hlt:k<n
  ·
   obtain⟨g,o,rfl,hg,hcc⟩:=(h.later hbel) (by rw[ae Hn];omega);have c0:=hcc k (by rw[ae Hn];exact hlt);obtain⟨y0,y1⟩:=ae HC k (by rw[ae Hn];exact hlt);have hst:Hid ((l.take (k+1)).map fD=(l.take k).map fD++[fD (l.getD k 0)]):=by
    show _=_;rw[cx l k (by rw[ae Hn];exact hlt),a0N];rfl
   have hlk:Hid (((l.take k).map fD).length=k):=by show _=k;have:=ae Hn;simp;omega
   have Hk:=af hk;clear hcc hk h;generalize l.getD k 0=y at *
   have HP:=af (wQ y wr (by omega) (by omega));generalize fD y=R at *
   go_wp2_with fail;refine(ae HP).mono ?_;rintro e x1 ⟨rfl,hx1⟩;rw[hx1];clear hx1 x1;have hlen1:Hid (((l.take k).map fD).length+1<=maxLen/\(((l.take k).map fD).length+1)*8<=140737488355328):=by
    show _/\_;rw[ae hlk];have:=ae Hm;unfold maxLen;omega
   clear HP;go_wp2_with (at_builtin;refine a0H _ rfl _ _ 146 rfl w.heap.size 3 i0 (.int .i64 0) 1 8 a05 hi hz0 hz1 hz2 rfl (by decide) _ _ _ rfl (a0n hq _) ⟨wr.heap.size,0,none⟩ 1 1 [.int .i64 R] rfl rfl (fO _ _ rfl _ _) (pM _) (ae hlen1).1 (ae hlen1).2 (aB hbs _) ?_;intro v' x2 hown hgrow hnil;clear hnil);have hb2:=aJ (v:=u5) hgrow hq (a0a _) hbs hbel;have hq2:=li hown;rw[←ae hst]at hq2;clear hown hgrow hq;go_wp2;go_roundw
   case rel=>exact⟨k+1,by have:=ae Hk;omega,by go_num,hq2,hb2⟩
   case measure=>simp[intOf];omega
  · have hlk2:l.take k=l:=a0s (by rw[ae Hn];omega);rw[hlk2]at hq;obtain⟨va,vc,rfl⟩:=hq.form;clear hlk2 h;go_wp2;go_ret;exact⟨_,rfl,hq,hbel⟩
end Go.Proofs.YtkdlcomfpffhhaaGreatDoor
