/- Of what the proof is made: 16 texts, one behind the other. -/
import Derived.Test.YtkpfkgoiaicgbaaGreatDoorM15
import Derived.Test.YtkpfkgoiaicgbaaGreatDoorM9
import Derived.BigRegion
import Derived.Test.YtkpfkgoiaicgbaaGreatDoorM2
set_option linter.unusedSimpArgs false
set_option linter.unusedVariables false
set_option maxHeartbeats 3200000
namespace Go.Proofs.YtkpfkgoiaicgbaaGreatDoor
open Go.RowKit
def sliceLen:Value->Nat
 | .slice _ n _=>n
 | _=>0
theorem yd{l:List Int}{k:Nat}(h:0<l.getD k 0):av l (k+1)=av l k++[⟨l.getD k 0,(k:Int),[(k:Int)],.slice none 0 0⟩]:=by simp only[av];rw[if_pos h]
theorem KR{l:List Int}{k:Nat}(h:¬ 0<l.getD k 0):av l (k+1)=av l k:=by simp only[av];rw[if_neg h]
theorem EE(w:World)(x y z:Value)(t:TypeId)(g:Nat)(hg:w.heap.size=g):∀(j:Nat) (u:Value),[x,y,z][j]?=some u->(w.alloc (.cells #[x,y,z] t)).cell? ((⟨g,0,none⟩:Addr).add j)=some u:=by
 subst hg;intro j u hj
 match j,hj with
 | 0,hj=>simp at hj;subst hj;simp[Addr.add]
 | 1,hj=>simp at hj;subst hj;simp[Addr.add]
 | 2,hj=>simp at hj;subst hj;simp[Addr.add]
theorem EF(x y:Int)(a:Option Addr)(n c:Nat):∀u∈[Value.int .i64 x,Value.int .i64 y,Value.slice a n c],u.oneCell'=true:=by
 intro u hu;simp at hu;rcases hu with rfl|rfl|rfl<;>rfl
theorem EQ{t:TypeId}{x:World}{base:Nat}{v:Value}{l:List Grp}(g:Grp)(h:x.ownsRow base t 3 v (l.length+1) (aY l++[.int .i64 g.cnt,.int .i64 g.fst,g.val])):dr t x base v (l++[g]):=by
 show World.ownsRow _ _ _ _ _ (l++[g]).length _;rw[lX];simpa[aY]using h
theorem ar.one(w:World)(base:Nat)(hb:base<=w.heap.size)(x:Int):ar (w.alloc (.cells #[.int .i64 x] 3)) base (.slice (some ⟨w.heap.size,0,none⟩) 1 1) [x]:=
 World.ownsRow_lit w #[.int .i64 x] 1 hb (by unfold maxLen;omega) rfl
theorem I2(w:World)(ob:Nat):dD w ob []:=fun g hg=>by simp at hg
theorem dD.snoc{w:World}{ob:Nat}{l:List Grp}{g:Grp}(h:dD w ob l)(hg:ar w ob g.val g.syms):dD w ob (l++[g]):=by
 intro x hx;simp only[List.mem_append,List.mem_singleton]at hx;rcases hx with hx|rfl
 · exact h x hx
 · exact hg
theorem dD.grown{t:TypeId}{w w':World}{ob base:Nat}{v:Value}{l m:List Grp}(h:dD w ob l)(hr:dr t w base v m)(ht:3≠t)(hg:w.grownBy w' v.ownBlock):dD w' ob l:=
 fun g hgm=>World.ownsRow.kept (h g hgm) hg (su (h g hgm) hr ht)
theorem yA(w:World)(x y z:Value)(t:TypeId):Three (w.alloc (.cells #[x,y,z] t)) w.heap.size x y z:=⟨by simp,by simp,by simp,by simp,by simp,by simp,by simp⟩
theorem Three.later{w w':World}{b:Nat}{v0 v1 v2:Value}(h:Three w b v0 v1 v2)(hb:Below w.heap.size w w'):Three w' b v0 v1 v2:=h.kept (hb.mono h.2.2.2.2.2.2)
theorem dr.mono{t:TypeId}{w:World}{base base':Nat}{v:Value}{l:List Grp}(h:dr t w base v l)(hb:base'<=base):dr t w base' v l:=
 ⟨h.1,h.2.imp id fun⟨g,c,u,e,hbg,r⟩=>⟨g,c,u,e,Nat.le_trans hb hbg,r⟩⟩
theorem dD.sub{w:World}{ob:Nat}{l m:List Grp}(h:dD w ob l)(hs:∀g∈m,g∈l):dD w ob m:=fun g hg=>h g (hs g hg)
theorem sQ{w w':World}{a:Option Addr}{base size n:Nat}{e:TypeId}{v:Value}{xs:List Value}(h:w.ownsRow base e size v n xs)(ht:Touch a w w')(hne:∀g,a=some ⟨g,0,none⟩->g<base):w'.ownsRow base e size v n xs:=by
 refine⟨h.1,?_⟩;rcases h.2 with hn|⟨g,cap,cur,rfl,hbg,hgg,rest⟩
 · exact .inl hn
 · refine .inr ⟨g,cap,cur,rfl,hbg,?_,rest⟩;rw[ht.2 g (fun g' e=>by have:=hne g' e;omega)];exact hgg
theorem jD{w w':World}{b:Nat}{p:Addr}(ht:Touch (some ⟨b,0,none⟩) w w')(hp:p.block≠b):w'.cell? p=w.cell? p:=
 World.cell?_of_block (ht.2 p.block (fun g e=>by simp only[Option.some.injEq,Addr.mk.injEq,and_true]at e;omega))
theorem nR(b B:Nat)(h:b<B):∀g,(some ⟨b,0,none⟩:Option Addr)=some ⟨g,0,none⟩->g<B:=by
 intro g e;simp only[Option.some.injEq,Addr.mk.injEq,and_true]at e;omega
def okC(l:List Int):Prop:=∀i,i<l.length->0<=l.getD i 0/\l.getD i 0<=100000
theorem xI{l:List Int}(h:okC l):okC (cS l):=by
 intro i hi;rw[fD]at hi;rw[oj l i hi];have:=h i hi;unfold iX;omega
theorem BL{l:List Int}(h:okC l):∀x∈l,0<=x:=by
 intro x hx;obtain⟨i,hi,rfl⟩:=List.getElem_of_mem hx;have:=(h i hi).1;have e:l.getD i 0=l[i]:=by simp[List.getD,hi]
 rw[e]at this;exact this
def dF(m:Int)(l:List Int):List Int:=sE m (kK l) l
def inC(l:List Int):Bool:=l.all (fun b=>inB b 0 100000)
def tI(l:List Int)(m:Int):Bool:=decide (l.length<=300)&&inB m 1 15&&inC l&&inB (us l:Nat) 1 ((p2 m.toNat/2:Nat):Int)
def iv(l:List Int)(m:Int):List Int:=if tI l m then dF m l else []
theorem Gv(l:List Int)(k:Nat)(h:k<l.length):inC (l.take (k+1))=(inC (l.take k)&&inB (l.getD k 0) 0 100000):=by
 rw[cz l k h];simp[inC]
theorem Kg{l:List Int}{k:Nat}(h:k<l.length)(hn:inB (l.getD k 0) 0 100000=false):inC l=false:=by
 rcases hb:inC l with _|_
 · rfl
 · have:=List.all_eq_true.1 hb (l.getD k 0) (by simp[List.getD,h]);rw[hn]at this;exact absurd this (by simp)
theorem Mb{l:List Int}(h:inC l=true):okC l:=by
 intro i hi;have:=List.all_eq_true.1 h (l.getD i 0) (by simp[List.getD,hi]);exact aD.1 this
theorem KS(l:List Int)(k:Nat)(hk:k<=l.length):(av l k).length=us (l.take k):=by
 induction k with
 | zero=>rfl
 | succ k ih=>
  rw[qk l k (by omega),←ih (by omega)];simp only[av]
  split
  · simp
  · rfl
theorem fm(l:List Int):(av l l.length).length=us l:=by
 rw[KS l _ (Nat.le_refl _),List.take_length]
theorem vk(m:Nat):p2 (m+1)/2=p2 m:=by rw[jt];omega
theorem mn{x y:Grp}(h:aM x y=true):aM y x=false:=by
 simp only[aM,Bool.or_eq_true,Bool.and_eq_true,decide_eq_true_eq]at h;simp only[aM,Bool.or_eq_false_iff,Bool.and_eq_false_iff,decide_eq_false_iff_not];omega
theorem fY{x y z:Grp}(h:aM x y=false)(h2:aM y z=false):aM x z=false:=by
 simp only[aM,Bool.or_eq_false_iff,Bool.and_eq_false_iff,decide_eq_false_iff_not]at h h2 ⊢;omega
theorem xg{x y z:Grp}(h:aM x y=false)(h2:aM z y=true):aM x z=false:=by
 simp only[aM,Bool.or_eq_true,Bool.and_eq_true,decide_eq_true_eq]at h2;simp only[aM,Bool.or_eq_false_iff,Bool.and_eq_false_iff,decide_eq_false_iff_not]at h ⊢;omega
theorem eE(x:Grp):aM x x=false:=by
 simp only[aM,Bool.or_eq_false_iff,Bool.and_eq_false_iff,decide_eq_false_iff_not];omega
def bR(L:List Grp)(i j:Nat):List Grp:=(L.set i (L.getD j g0)).set j (L.getD i g0)
theorem eH(L:List Grp)(i j:Nat):(bR L i j).length=L.length:=by simp[bR]
theorem tZ{L:List Grp}{i j:Nat}(hi:i<L.length):(bR L i j).getD i g0=L.getD j g0:=by
 unfold bR;rw[List.getD_eq_getElem?_getD,List.getElem?_set];by_cases h:j=i
 · subst h;simp[hi]
 · rw[if_neg h,List.getElem?_set_self hi];rfl
theorem lG{L:List Grp}{i j:Nat}(hj:j<L.length):(bR L i j).getD j g0=L.getD i g0:=by
 unfold bR;rw[List.getD_eq_getElem?_getD,List.getElem?_set_self (by simpa using hj)];rfl
theorem bY{L:List Grp}{i j k:Nat}(h1:k≠i)(h2:k≠j):(bR L i j).getD k g0=L.getD k g0:=by
 unfold bR;rw[List.getD_eq_getElem?_getD,List.getElem?_set_ne (fun e=>h2 e.symm),List.getElem?_set_ne (fun e=>h1 e.symm),←List.getD_eq_getElem?_getD]
theorem set_perm(L:List Grp)(i:Nat)(x:Grp)(h:i<L.length):(L.getD i g0 :: L.set i x).Perm (x :: L):=by
 induction L generalizing i with
 | nil=>simp at h
 | cons g L ih=>
  cases i with
  | zero=>simp only[List.getD_cons_zero,List.set_cons_zero];exact List.Perm.swap _ _ _
  | succ i=>
   simp only[List.getD_cons_succ,List.set_cons_succ];have h1:=ih i (by simpa using h);exact(List.Perm.swap _ _ _).trans ((h1.cons g).trans (List.Perm.swap _ _ _))
theorem fJ{L:List Grp}{i j:Nat}(hi:i<L.length)(hj:j<L.length):(bR L i j).Perm L:=by
 have h1:=set_perm L i (L.getD j g0) hi;have h2:=set_perm (L.set i (L.getD j g0)) j (L.getD i g0) (by simpa using hj);have e:(L.set i (L.getD j g0)).getD j g0=L.getD j g0:=by
  rw[List.getD_eq_getElem?_getD,List.getElem?_set];by_cases hij:i=j
  · subst hij;simp[hi]
  · rw[if_neg hij,←List.getD_eq_getElem?_getD]
 rw[e]at h2;exact(h2.trans h1).cons_inv
def HP(L:List Grp):Prop:=∀i,0<i->i<L.length->aM (L.getD i g0) (L.getD ((i-1)/2) g0)=false
def UpI(L:List Grp)(k:Nat):Prop:=
 (∀i,0<i->i<L.length->i≠k->aM (L.getD i g0) (L.getD ((i-1)/2) g0)=false) /\
 (∀i,0<i->i<L.length->(i-1)/2=k->0<k->aM (L.getD i g0) (L.getD ((k-1)/2) g0)=false)
def DnI(L:List Grp)(k:Nat):Prop:=
 (∀i,0<i->i<L.length->(i-1)/2≠k->aM (L.getD i g0) (L.getD ((i-1)/2) g0)=false) /\
 (∀i,0<i->i<L.length->(i-1)/2=k->0<k->aM (L.getD i g0) (L.getD ((k-1)/2) g0)=false)
theorem Jl{L:List Grp}{k:Nat}(h:UpI L k)(hk:k=0∨aM (L.getD k g0) (L.getD ((k-1)/2) g0)=false):HP L:=by
 intro i h0 hi;by_cases e:i=k
 ·
  subst e;rcases hk with hk|hk
  · omega
  · exact hk
 · exact h.1 i h0 hi e
theorem Lg{L:List Grp}{k:Nat}(h:UpI L k)(h0:0<k)(hk:k<L.length)(hl:aM (L.getD k g0) (L.getD ((k-1)/2) g0)=true):UpI (bR L k ((k-1)/2)) ((k-1)/2):=by
 have hq:(k-1)/2<k:=by omega
 have hqn:(k-1)/2<L.length:=by omega
 have sk:=tZ (L:=L) (j:=(k-1)/2) hk;have sq:=lG (L:=L) (i:=k) hqn;refine⟨?_,?_⟩
 ·
  intro i i0 hi hiq;rw[eH]at hi;by_cases e:i=k
  · subst e;rw[sk,sq];exact mn hl
  ·
   rw[bY e hiq];by_cases p:(i-1)/2=(k-1)/2
   · rw[p,sq];have:=h.1 i i0 hi e;rw[p]at this;exact xg this hl
   ·
    by_cases p2:(i-1)/2=k
    · rw[p2,sk];exact h.2 i i0 hi p2 h0
    · rw[bY p2 p];exact h.1 i i0 hi e
 ·
  intro i i0 hi hp hq0;rw[eH]at hi;have hpp:((k-1)/2-1)/2<(k-1)/2:=by omega
  rw[bY (k:=((k-1)/2-1)/2) (by omega) (by omega)];have hqq:=h.1 ((k-1)/2) hq0 hqn (by omega);by_cases e:i=k
  · subst e;rw[sk];exact hqq
  · rw[bY e (by omega)];have:=h.1 i i0 hi e;rw[hp]at this;exact fY this hqq
theorem uE{L:List Grp}{k:Nat}(h:DnI L k)(hk:∀c,0<c->c<L.length->(c-1)/2=k->aM (L.getD c g0) (L.getD k g0)=false):HP L:=by
 intro i h0 hi;by_cases e:(i-1)/2=k
 · rw[e];exact hk i h0 hi e
 · exact h.1 i h0 hi e
theorem uF{L:List Grp}{k c:Nat}(h:DnI L k)(hk:k<L.length)(hc:c<L.length)(hc0:0<c)(hp:(c-1)/2=k)(hm:∀i,0<i->i<L.length->(i-1)/2=k->aM (L.getD i g0) (L.getD c g0)=false)(hl:aM (L.getD c g0) (L.getD k g0)=true):DnI (bR L c k) c:=by
 have hkc:k<c:=by omega
 have sc:=tZ (L:=L) (j:=k) hc;have sk:=lG (L:=L) (i:=c) hk;refine⟨?_,?_⟩
 ·
  intro i i0 hi hip;rw[eH]at hi;by_cases e:i=c
  · subst e;rw[hp,sc,sk];exact mn hl
  ·
   by_cases p:(i-1)/2=k
   · rw[p,sk,bY e (by omega)];exact hm i i0 hi p
   ·
    rw[bY hip p];by_cases e2:i=k
    · subst e2;rw[sk];exact h.2 c hc0 hc hp i0
    · rw[bY e e2];exact h.1 i i0 hi p
 · intro i i0 hi hip _;rw[eH]at hi;rw[hp,sk,bY (by omega) (by omega)];have:=h.1 i i0 hi (by omega);rw[hip]at this;exact this
theorem Gs{L:List Grp}(h:HP L):∀i,i<L.length->aM (L.getD i g0) (L.getD 0 g0)=false:=by
 intro i;induction i using Nat.strongRecOn with
 | ind i ih=>
  intro hi;by_cases e:i=0
  · subst e;exact eE _
  · exact fY (h i (by omega) hi) (ih ((i-1)/2) (by omega) (by omega))
theorem Ka{L:List Grp}(h:HP L)(g:Grp):UpI (L++[g]) L.length:=by
 refine⟨?_,?_⟩
 ·
  intro i i0 hi hn;have hi':i<L.length:=by simp at hi;omega
  have e1:∀k,k<L.length->(L++[g]).getD k g0=L.getD k g0:=by
   intro k hk;rw[List.getD_eq_getElem?_getD,List.getElem?_append_left hk,←List.getD_eq_getElem?_getD]
  rw[e1 i hi',e1 _ (by omega)];exact h i i0 hi'
 · intro i i0 hi hp _;simp at hi;omega
theorem qD(L:List Grp)(m k:Nat)(h:k<m):(L.take m).getD k g0=L.getD k g0:=by
 rw[List.getD_eq_getElem?_getD,List.getElem?_take_of_lt h,←List.getD_eq_getElem?_getD]
theorem LM{L:List Grp}(h:HP L):DnI ((bR L 0 (L.length-1)).take (L.length-1)) 0:=by
 refine⟨?_,fun i _ _ _ h0=>absurd h0 (Nat.lt_irrefl 0)⟩;intro i i0 hi hp;have hi':i<L.length-1:=by rw[List.length_take,eH]at hi;omega
 rw[qD _ _ _ hi',qD _ _ _ (by omega),bY (by omega) (by omega),bY hp (by omega)];exact h i i0 (by omega)
theorem Az(L:List Grp)(n:Nat)(h:L.length=n+1):L=L.take n++[L.getD n g0]:=by
 have e:L.take (n+1)=L:=List.take_of_length_le (by omega);have h2:L.take (n+1)=L.take n++[L.getD n g0]:=by
  rw[List.take_succ_eq_append_getElem (by omega)]
  congr 2
  simp[List.getD,h]
 rw[e]at h2;exact h2
theorem FM{L:List Grp}(h:0<L.length):(L.getD 0 g0 :: (bR L 0 (L.length-1)).take (L.length-1)).Perm L:=by
 have h1:=fJ (L:=L) (i:=0) (j:=L.length-1) h (by omega);have h2:=Az (bR L 0 (L.length-1)) (L.length-1) (by rw[eH];omega);rw[lG (by omega)]at h2;have h3:(L.getD 0 g0 :: (bR L 0 (L.length-1)).take (L.length-1)).Perm ((bR L 0 (L.length-1)).take (L.length-1)++[L.getD 0 g0]):=(List.perm_append_singleton _ _).symm;rw[←h2]at h3;exact h3.trans h1
theorem wY(L:List Grp)(k j:Nat)(hj:j<=k):aM (L.getD j g0) (L.getD (iM L k) g0)=false:=by
 induction k with
 | zero=>
  obtain rfl:j=0:=by omega
  exact eE _
 | succ k ih=>
  simp only[iM];cases hl:aM (L.getD (k+1) g0) (L.getD (iM L k) g0)
  ·
   simp only[Bool.false_eq_true,if_false];by_cases e:j=k+1
   · subst e;exact hl
   · exact ih (by omega)
  ·
   simp only[if_true];by_cases e:j=k+1
   · subst e;exact eE _
   · exact xg (ih (by omega)) hl
theorem zx(M:List Grp)(g:Grp)(hg:g∈M):aM g (aC M)=false:=by
 obtain⟨i,hi,rfl⟩:=List.getElem_of_mem hg;have:=wY M (M.length-1) i (by omega);have e:M.getD i g0=M[i]:=by simp[List.getD,hi]
 rw[e]at this;exact this
def oW(M:List Grp):Prop:=∀g∈M,g.fst∈g.syms
theorem IE(l:List Int)(k:Nat):oW (av l k):=by
 induction k with
 | zero=>intro g hg;simp[av]at hg
 | succ k ih=>
  simp only[av]
  split
  ·
   intro g hg;simp only[List.mem_append,List.mem_singleton]at hg;rcases hg with hg|rfl
   · exact ih g hg
   · simp
  · exact ih
theorem IW{M:List Grp}(h:oW M)(hl:1<M.length):oW (stepG M):=by
 have hr:=df M (by omega);intro g hg;simp only[stepG,List.mem_append,List.mem_singleton]at hg;rcases hg with hg|rfl
 · exact h g (bg M _ (bg _ _ hg))
 ·
  have ha:=h _ (bz M (by omega));have hb:=h _ (bg M _ (bz (aw M) (by omega)));simp only[ff,List.mem_append]
  split
  · exact .inr hb
  · exact .inl ha
theorem Gu(l:List Int)(k:Nat)(hk:k<(av l l.length).length∨k=0):oW (ay l k).1:=by
 induction k with
 | zero=>exact IE l _
 | succ k ih=>
  have hlen:1<(ay l k).1.length:=by have:=(bG l k (by omega)).2.2.2;omega
  exact IW (ih (by omega)) hlen
theorem IC{M:List Grp}(hn:(aT M).Nodup)(hf:oW M){x y:Grp}(hx:x∈M)(hy:y∈M)(e:x.fst=y.fst):x=y:=by
 induction M with
 | nil=>cases hx
 | cons g M ih=>
  have hs:aT (g :: M)=g.syms++aT M:=by simp[aT]
  rw[hs,List.nodup_append]at hn;obtain⟨_,n2,n3⟩:=hn;have hfM:oW M:=fun z hz=>hf z (by simp[hz]);have hin:∀z∈M,z.fst∈aT M:=fun z hz=>List.mem_flatMap.2 ⟨z,hz,hfM z hz⟩;have hfg:g.fst∈g.syms:=hf g (by simp);simp only[List.mem_cons]at hx hy;rcases hx with rfl|hx
  ·
   rcases hy with rfl|hy
   · rfl
   · exact absurd e (n3 _ hfg _ (hin y hy))
  ·
   rcases hy with rfl|hy
   · exact absurd e.symm (n3 _ hfg _ (hin x hx))
   · exact ih n2 hfM hx hy
theorem DI{x y:Grp}(h:aM x y=false)(h2:aM y x=false):x.fst=y.fst:=by
 simp only[aM,Bool.or_eq_false_iff,Bool.and_eq_false_iff,decide_eq_false_iff_not]at h h2;omega
theorem uj{L M:List Grp}{a:Grp}{L1:List Grp}(hp:(L.map bare).Perm M)(hL:L.Perm (a :: L1))(hmin:∀g∈L,aM g a=false)(h0:0<L.length)(hn:(aT M).Nodup)(hf:oW M):bare a=aC M/\(L1.map bare).Perm (aw M):=by
 have hl:0<M.length:=by rw[←hp.length_eq,List.length_map];exact h0
 have ha:a∈L:=hL.mem_iff.2 (by simp);have haM:bare a∈M:=hp.mem_iff.1 (List.mem_map_of_mem ha);have hfM:=bz M hl;obtain⟨c,hc,hce⟩:=List.mem_map.1 (hp.mem_iff.2 hfM);have h1:aM (aC M) (bare a)=false:=by rw[←hce,zW];exact hmin c hc
 have h2:=zx M (bare a) haM;have e:bare a=aC M:=IC hn hf haM hfM (DI h2 h1);refine⟨e,?_⟩;have h3:(bare a :: L1.map bare).Perm M:=by
  have:=(hL.map bare).symm.trans hp;simpa using this
 have h4:=h3.trans (jw M hl).symm;rw[e]at h4;exact h4.cons_inv
theorem Dk{M:List Grp}(hl:0<M.length)(hn:(aT M).Nodup):(aT (aw M)).Nodup:=by
 have h1:=oh (jw M hl);have h2:=h1.nodup_iff.2 hn;have e:aT (aC M :: aw M)=(aC M).syms++aT (aw M):=by simp[aT]
 rw[e,List.nodup_append]at h2;exact h2.2.1
theorem D2{α:Type}(f:α->Nat){A B:List α}(h:A.Perm B):(A.map f).sum=(B.map f).sum:=by
 induction h with
 | nil=>rfl
 | cons x _ ih=>simp only[List.map_cons,List.sum_cons];omega
 | swap x y l=>simp only[List.map_cons,List.sum_cons];omega
 | trans _ _ h1 h2=>omega
def oR:Nat->List Grp->Int
 | 0,_=>0
 | n+1,M=>if 1<M.length then(aC M).cnt+(aC (aw M)).cnt+oR n (stepG M)else 0
theorem gJ{l:List Int}{k:Nat}(h:0<l.getD k 0):av l (k+1)=av l k++[⟨l.getD k 0,(k:Int),[(k:Int)],.slice none 0 0⟩]:=by simp only[av];rw[if_pos h]
theorem kH{l:List Int}{k:Nat}(h:¬ 0<l.getD k 0):av l (k+1)=av l k:=by simp only[av];rw[if_neg h]
def krR(l:List Int)(len:Nat->Nat)(D:Nat):Nat->Nat
 | 0=>0
 | n+1=>krR l len D n+(if 0<l.getD n 0 then 2 ^ (D-len n)else 0)
theorem nH(l:List Int)(k:Nat):∀g∈av l k,0<=g.cnt/\∃i:Nat,g.fst=(i:Int)/\i<k/\0<l.getD i 0/\g.cnt=l.getD i 0/\g.syms=[(i:Int)]:=by
 induction k with
 | zero=>intro g hg;simp[av]at hg
 | succ k ih=>
  intro g hg;by_cases hp:0<l.getD k 0
  ·
   rw[gJ hp]at hg;simp only[List.mem_append,List.mem_singleton]at hg;rcases hg with hg|rfl
   · obtain⟨h1,i,h2,h3,h4⟩:=ih g hg;exact⟨h1,i,h2,by omega,h4⟩
   · exact⟨by simp only;omega,k,rfl,by omega,hp,rfl,rfl⟩
  · rw[kH hp]at hg;obtain⟨h1,i,h2,h3,h4⟩:=ih g hg;exact⟨h1,i,h2,by omega,h4⟩
theorem sG(l:List Int)(len:Nat->Nat)(D k:Nat):((aT (av l k)).map fun s=>2 ^ (D-len s.toNat)).sum=krR l len D k:=by
 induction k with
 | zero=>rfl
 | succ k ih=>
  simp only[krR];by_cases h:0<l.getD k 0
  · rw[if_pos h,←ih,gJ h];simp[aT]
  · rw[if_neg h,←ih,kH h];simp
theorem wu(l:List Int)(k:Nat)(x:Int):x∈aT (av l k)<->∃i:Nat,x=(i:Int)/\i<k/\0<l.getD i 0:=by
 constructor
 · intro h;obtain⟨g,hg,hx⟩:=List.mem_flatMap.1 h;obtain⟨_,i,h1,h2,h3,_,h5⟩:=nH l k g hg;rw[h5]at hx;simp only[List.mem_singleton]at hx;exact⟨i,hx,h2,h3⟩
 ·
  rintro⟨i,rfl,hi,hp⟩;induction k with
  | zero=>omega
  | succ k ih=>
   by_cases e:i=k
   · subst e;rw[gJ hp];simp[aT]
   ·
    have:=ih (by omega);by_cases h:0<l.getD k 0
    · rw[gJ h];simp only[aT,List.flatMap_append,List.mem_append];exact .inl this
    · rw[kH h];exact this
/-! What holds behind so many steps. -/
def iQ(l s:List Int):Int:=(s.map fun x=>l.getD x.toNat 0).sum
theorem lW(l a b:List Int):iQ l (a++b)=iQ l a+iQ l b:=by simp[iQ]
theorem Bq(l:List Int)(k:Nat)(hk:k<(av l l.length).length∨k=0):∀g∈(ay l k).1,g.cnt=iQ l g.syms:=by
 induction k with
 | zero=>
  intro g hg;obtain⟨_,i,h1,h2,h3,h4,h5⟩:=nH l l.length g hg;rw[h4,h5];simp[iQ]
 | succ k ih=>
  have hlen:1<(ay l k).1.length:=by have:=(bG l k (by omega)).2.2.2;omega
  have hr:=df (ay l k).1 (by omega);have ih':=ih (by omega);intro g hg;have hg':g∈stepG (ay l k).1:=hg;simp only[stepG,List.mem_append,List.mem_singleton]at hg';rcases hg' with hg'|rfl
  · exact ih' g (bg _ _ (bg _ _ hg'))
  · simp only[ff];rw[lW,ih' _ (bz _ (by omega)),ih' _ (bg _ _ (bz (aw _) (by omega)))]
def mW(l o:List Int):Nat->Int
 | 0=>0
 | n+1=>mW l o n+l.getD n 0*o.getD n 0
theorem CK(l o:List Int)(s:Int)(h0:0<=s)(n:Nat)(hn:n<=o.length):mW l (eB o s) n=mW l o n+(if s<(n:Int)then l.getD s.toNat 0 else 0):=by
 induction n with
 | zero=>simp only[mW];rw[if_neg (by omega)];rfl
 | succ n ih=>
  simp only[mW];rw[ih (by omega),sW o s n h0 (by omega)];by_cases e:s=(n:Int)
  · subst e;rw[if_neg (by omega),if_pos rfl,if_pos (by omega),Int.mul_add,Int.mul_one,Int.toNat_natCast];omega
  ·
   rw[if_neg e,Int.add_zero];by_cases h:s<(n:Int)
   · rw[if_pos h,if_pos (by omega)];omega
   · rw[if_neg h,if_neg (by omega)];omega
theorem FU(l s:List Int)(n:Nat):∀(o:List Int),n<=o.length->(∀x∈s,0<=x/\x<(n:Int))->mW l (bump o s) n=mW l o n+iQ l s:=by
 induction s with
 | nil=>intro o _ _;simp[bump,iQ]
 | cons x s ih=>
  intro o hn hs;show mW l (bump (eB o x) s) n=_;rw[ih (eB o x) (by rw[kX];exact hn) (fun y hy=>hs y (by simp[hy])),CK l o x (hs x (by simp)).1 n hn,if_pos (hs x (by simp)).2];simp only[iQ,List.map_cons,List.sum_cons];omega
theorem FW(l:List Int)(m n:Nat):mW l (List.replicate m 0) n=0:=by
 induction n with
 | zero=>rfl
 | succ n ih=>
  simp only[mW];rw[ih];have:(List.replicate m (0:Int)).getD n 0=0:=by
   rw[List.getD_eq_getElem?_getD,List.getElem?_replicate]
   split<;>rfl
  rw[this];omega
theorem Kd(l:List Int)(k:Nat)(hk:k<(av l l.length).length∨k=0):mW l (ay l k).2 l.length+oR ((av l l.length).length-1-k) (ay l k).1=oR ((av l l.length).length-1) (av l l.length):=by
 induction k with
 | zero=>
  show mW l (List.replicate l.length 0) l.length+oR _ (av l l.length)=_;rw[FW,Int.zero_add,Nat.sub_zero]
 | succ k ih=>
  have ih':=ih (by omega);have hlen:1<(ay l k).1.length:=by have:=(bG l k (by omega)).2.2.2;omega
  have hr:=df (ay l k).1 (by omega);obtain⟨m,hm⟩:∃m,(av l l.length).length-1-k=m+1:=⟨(av l l.length).length-1-k-1,by omega⟩;have hm2:(av l l.length).length-1-(k+1)=m:=by omega
  rw[hm]at ih';rw[hm2];simp only[oR]at ih';rw[if_pos hlen]at ih';have hsy:∀x∈aX (ay l k).1,0<=x/\x<(l.length:Int):=by
   intro x hx;have hf:=(fC l k (by omega)).2;exact hf x ((ig _ hlen).mem_iff.1 (by simp[hx]))
  have h1:=FU l (aX (ay l k).1) l.length (ay l k).2 (by rw[dJ];exact Nat.le_refl _) hsy;have h2:=Bq l k (by omega) _ (bz (ay l k).1 (by omega));have h3:=Bq l k (by omega) _ (bg _ _ (bz (aw (ay l k).1) (by omega)));have h4:iQ l (aX (ay l k).1)=(aC (ay l k).1).cnt+(aC (aw (ay l k).1)).cnt:=by
   unfold aX;rw[lW,←h2,←h3]
  show mW l (bump (ay l k).2 (aX (ay l k).1)) l.length+oR m (stepG (ay l k).1)=_;rw[h1,h4];omega
def mj(o s:List Int)(D:Nat):Nat:=(s.map fun x=>2 ^ (D-(o.getD x.toNat 0).toNat)).sum
theorem wR(o a b:List Int)(D:Nat):mj o (a++b) D=mj o a D+mj o b D:=by simp[mj]
theorem Dx{o o' s:List Int}{D:Nat}(h:∀x∈s,o'.getD x.toNat 0=o.getD x.toNat 0):mj o' s D=mj o s D:=by
 unfold mj
 congr 1
 apply List.map_congr_left;intro x hx;rw[h x hx]
theorem Dw{o o' s:List Int}{D:Nat}(h:∀x∈s,0<=o.getD x.toNat 0/\o.getD x.toNat 0<(D:Int)/\o'.getD x.toNat 0=o.getD x.toNat 0+1):2*mj o' s D=mj o s D:=by
 induction s with
 | nil=>rfl
 | cons x s ih=>
  have ih':=ih (fun y hy=>h y (by simp[hy]));obtain⟨h1,h2,h3⟩:=h x (by simp);simp only[mj,List.map_cons,List.sum_cons]at ih' ⊢;rw[h3];obtain⟨d,hd⟩:∃d,D-(o.getD x.toNat 0).toNat=d+1:=⟨D-(o.getD x.toNat 0).toNat-1,by omega⟩;have hd2:D-(o.getD x.toNat 0+1).toNat=d:=by omega
  rw[hd,hd2,Nat.pow_succ];omega
theorem Ke(l:List Int)(D:Nat)(hD:(av l l.length).length<=D)(k:Nat)(hk:k<(av l l.length).length∨k=0):∀g∈(ay l k).1,mj (ay l k).2 g.syms D=2 ^ D:=by
 induction k with
 | zero=>
  intro g hg;obtain⟨_,i,h1,h2,h3,h4,h5⟩:=nH l l.length g hg;rw[h5];show mj (List.replicate l.length 0) [(i:Int)] D=2 ^ D;simp[mj,List.getD,h2]
 | succ k ih=>
  have hlen:1<(ay l k).1.length:=by have:=(bG l k (by omega)).2.2.2;omega
  have hr:=df (ay l k).1 (by omega);have ih':=ih (by omega);have hfl:=fC l k (by omega);obtain⟨hnd,hdis⟩:=ie hlen hfl.1;have hdep:=jo l k (by omega);have hin:∀x∈aX (ay l k).1,0<=x/\x<(l.length:Int):=fun x hx=>hfl.2 x ((ig _ hlen).mem_iff.1 (by simp[hx]));have hget:=fun(x:Int) (h0:0<=x) (h1:x<(l.length:Int))=>jY (ay l k).2 (aX (ay l k).1) x.toNat hnd (fun y hy=>(hin y hy).1) (by rw[dJ];omega);intro g hg;show mj (bump (ay l k).2 (aX (ay l k).1)) g.syms D=2 ^ D;have hg':g∈stepG (ay l k).1:=hg;simp only[stepG,List.mem_append,List.mem_singleton]at hg';rcases hg' with hg'|rfl
  ·
   rw[Dx (o:=(ay l k).2)]
   · exact ih' g (bg _ _ (bg _ _ hg'))
   · intro x hx;have hxf:x∈aT (ay l k).1:=List.mem_flatMap.2 ⟨g,bg _ _ (bg _ _ hg'),hx⟩;obtain⟨x0,x1⟩:=hfl.2 x hxf;rw[hget x x0 x1,Int.toNat_of_nonneg x0,if_neg (hdis g hg' x hx),Int.add_zero]
  ·
   have hj:(ff (aC (ay l k).1) (aC (aw (ay l k).1))).syms=aX (ay l k).1:=rfl;rw[hj];have hha:=Dw (o:=(ay l k).2) (o':=bump (ay l k).2 (aX (ay l k).1)) (s:=aX (ay l k).1) (D:=D) (by
    intro x hx;obtain⟨x0,x1⟩:=hin x hx;have hd:=hdep x.toNat (by rw[dJ];omega);refine⟨hd.1,by omega,?_⟩;rw[hget x x0 x1,Int.toNat_of_nonneg x0,if_pos hx])
   have h2:mj (ay l k).2 (aX (ay l k).1) D=2 ^ D+2 ^ D:=by
    unfold aX;rw[wR,ih' _ (bz _ (by omega)),ih' _ (bg _ _ (bz (aw _) (by omega)))]
   omega
end Go.Proofs.YtkpfkgoiaicgbaaGreatDoor
namespace Go.Proofs.YtkpfkgoiaicgbaaGreatDoor
open Go.RowKit Corb
def bL(w:World)(b base:Nat)(v:Value)(L:List Grp):Prop:=w.heap[b]?=some (Obj.cells #[v] 315)/\dr 300 w base v L
theorem bL.cell{w:World}{b base:Nat}{v:Value}{L:List Grp}(h:bL w b base v L):w.cell? ⟨b,0,none⟩=some v:=by simp[World.cell?,h.1]
theorem bL.frz{w:World}{b base:Nat}{v:Value}{L:List Grp}(h:bL w b base v L):w.frozen? ⟨b,0,none⟩=false:=by simp[World.frozen?,h.1]
theorem bL.lt{w:World}{b base:Nat}{v:Value}{L:List Grp}(h:bL w b base v L):b<w.heap.size:=(Array.getElem?_eq_some_iff.1 h.1).1
theorem gB(b base n cap:Nat)(a:Option Addr)(L:List Grp)(w:World)(h:bL w b base (.slice a n cap) L) :
  Calls Tryz.prog 194 #[.pointer (some ⟨b,0,none⟩)] w fun e w'=>e = .returned (.int .i64 (n:Nat))/\w'=w:=by
 have c0:=h.cell;clear h;go_enter Tryz.func194,Tryz.ntmps194;go_wp2;go_ret;exact⟨rfl,rfl⟩
set_option maxRecDepth 100000 in
theorem gQ(b base ob g n cap i j:Nat)(L:List Grp)(w:World)(hS:dD w ob L)(hn:L.length=n)(hm:n<=300)(h:bL w b base (.slice (some ⟨g,0,none⟩) n cap) L)(hi:i<n)(hj:j<n) :
  Calls Tryz.prog 271 #[.pointer (some ⟨b,0,none⟩),.int .i64 (i:Nat),.int .i64 (j:Nat)] w fun e w'=>e = .returned (.bool (aM (L.getD i g0) (L.getD j g0)))/\Below w.heap.size w w':=by
 have c0:=h.cell;obtain⟨a0,a1,a2,_,hg⟩:=h.2.at hn i hi;obtain⟨d0,d1,d2,_,_⟩:=h.2.at hn j hj;have hbw:b<w.heap.size:=World.block_lt_of_cell? w ⟨b,0,none⟩ c0;obtain⟨xa,xq,hxv⟩:=(hS (L.getD i g0) (eV L i (by omega))).form;obtain⟨ya,yq,hyv⟩:=(hS (L.getD j g0) (eV L j (by omega))).form;have hiI:(i:Int)<(n:Int):=by omega
 have hjI:(j:Int)<(n:Int):=by omega
 have hmI:(n:Int)<=300:=by omega
 rw[hxv]at a2;rw[hyv]at d2;clear h hn hm hi hj hxv hyv hS;generalize L.getD i g0=x at *
 generalize L.getD j g0=y at *
 obtain⟨xc,xf,xs,xv⟩:=x;obtain⟨yc,yf,ys,yv⟩:=y;simp only at a0 a1 a2 d0 d1 d2;generalize xs.length=xn at *
 generalize ys.length=yn at *
 go_enter Tryz.func271,Tryz.ntmps271;go_wp2_with fail
 go_region
 all_goals
  by_cases he:xc=yc
  · subst he;go_wp2;go_ret;exact⟨congrArg (fun x=>Ending.returned (.bool x)) (by simp[aM]),(((Below.refl _ _).alloc (Nat.le_refl _) _).alloc (by simp) _).drew⟩
  ·
   have hne:(xc == yc)=false:=by simpa using he
   go_wp2;go_ret;exact⟨congrArg (fun x=>Ending.returned (.bool x)) (by simp[aM,he]),(((Below.refl _ _).alloc (Nat.le_refl _) _).alloc (by simp) _).drew⟩
end Go.Proofs.YtkpfkgoiaicgbaaGreatDoor
namespace Go.Proofs.YtkpfkgoiaicgbaaGreatDoor
open Go.RowKit
theorem aV.ints{w w':World}{base:Nat}{v:Value}{l:List Int}(h:aV 3 w w')(ho:ar w base v l):ar w' base v l:=h.own ho
theorem aV.syms{w w':World}{ob:Nat}{l:List Grp}(h:aV 3 w w')(hs:dD w ob l):dD w' ob l:=fun g hg=>h.ints (hs g hg)
theorem dD.perm{w:World}{ob:Nat}{l m:List Grp}(h:dD w ob l)(hp:m.Perm l):dD w ob m:=fun g hg=>h g (hp.mem_iff.1 hg)
def bc(g:Nat)(w w':World):Prop:=aV 3 w w'/\w.heap.size<=w'.heap.size/\∀k,k<w.heap.size->k≠g->w'.heap[k]?=w.heap[k]?
theorem bc.refl(g:Nat)(w:World):bc g w w:=⟨aV.refl _ _,Nat.le_refl _,fun _ _ _=>rfl⟩
theorem bc.trans{g:Nat}{w w1 w2:World}(h:bc g w w1)(k:bc g w1 w2):bc g w w2:=
 ⟨h.1.trans k.1,Nat.le_trans h.2.1 k.2.1,fun j hj hg=>(k.2.2 j (Nat.lt_of_lt_of_le hj h.2.1) hg).trans (h.2.2 j hj hg)⟩
theorem bc.below{g:Nat}{w w':World}(h:Below w.heap.size w w'):bc g w w':=⟨aV.below h,h.size,fun j hj _=>h.block j hj⟩
theorem bc.syms{g:Nat}{w w':World}{ob:Nat}{l:List Grp}(h:bc g w w')(hs:dD w ob l):dD w' ob l:=h.1.syms hs
theorem bc.drew{g:Nat}{w w':World}(h:bc g w w'):bc g w w'.drew:=h
theorem bc.touch{t':TypeId}{w w':World}{g:Nat}{c:Array Value}{f:Nat×Nat}(hg:w.heap[g]?=some (.cells c t' f))(hne:3≠t')(ht:Touch (some ⟨g,0,none⟩) w w'):bc g w w':=
 ⟨aV.touch hg hne ht,Nat.le_of_eq ht.1.symm,fun j _ hj=>ht.2 j (fun g' e=>by simp only[Option.some.injEq,Addr.mk.injEq,and_true]at e;omega)⟩
end Go.Proofs.YtkpfkgoiaicgbaaGreatDoor
namespace Go.Proofs.YtkpfkgoiaicgbaaGreatDoor
open Go.RowKit Corb
theorem AC(l:List Grp)(j:Nat)(x:Grp):(((aY l).set (j*3) (.int .i64 x.cnt)).set (j*3+1) (.int .i64 x.fst)).set (j*3+2) x.val=aY (l.set j x):=by
 induction l generalizing j with
 | nil=>simp[aY]
 | cons p l ih=>
  cases j with
  | zero=>simp[aY]
  | succ j=>
   rw[show(j+1)*3=j*3+1+1+1 by omega];simp only[aY,List.set_cons_succ];rw[ih j]
theorem dr.put{t:TypeId}{w:World}{base g cap n:Nat}{l:List Grp}(hn:l.length=n)(h:dr t w base (.slice (some ⟨g,0,none⟩) n cap) l)(j:Nat)(x:Grp) :
  dr t (((w.setCell ⟨g,j*3,none⟩ (.int .i64 x.cnt)).setCell ⟨g,j*3+1,none⟩ (.int .i64 x.fst)).setCell ⟨g,j*3+2,none⟩ x.val) base (.slice (some ⟨g,0,none⟩) n cap) (l.set j x):=by
 subst hn;have h1:=(World.ownsRow.stored h (j*3) (.int .i64 x.cnt)).1;have h2:=(World.ownsRow.stored h1 (j*3+1) (.int .i64 x.fst)).1;have h3:=(World.ownsRow.stored h2 (j*3+2) x.val).1;rw[AC]at h3;show World.ownsRow _ _ _ _ _ (l.set j x).length _;rw[List.length_set];exact h3
theorem dr.frozen{t:TypeId}{w:World}{base g cap n:Nat}{l:List Grp}(hn:l.length=n)(h:dr t w base (.slice (some ⟨g,0,none⟩) n cap) l)(j:Nat):w.frozen? ⟨g,j,none⟩=false:=by
 subst hn;exact World.ownsRow.frozenAt h j
theorem Touch.drew{a:Option Addr}{w w':World}(h:Touch a w w'):Touch a w w'.drew:=h
theorem dr.drew{t:TypeId}{w:World}{base:Nat}{v:Value}{l:List Grp}(h:dr t w base v l):dr t w.drew base v l:=h
theorem bL.drew{w:World}{b base:Nat}{v:Value}{L:List Grp}(h:bL w b base v L):bL w.drew b base v L:=⟨h.1,h.2.drew⟩
set_option maxRecDepth 100000 in
theorem kM(b base ob g n cap i j:Nat)(L:List Grp)(w:World)(hS:dD w ob L)(hn:L.length=n)(hm:n<=300)(h:bL w b base (.slice (some ⟨g,0,none⟩) n cap) L)(hbb:b<base)(hi:i<n)(hj:j<n) :
  Calls Tryz.prog 202 #[.pointer (some ⟨b,0,none⟩),.int .i64 (i:Nat),.int .i64 (j:Nat)] w fun e w'=>e = .returned (.tuple #[])/\bL w' b base (.slice (some ⟨g,0,none⟩) n cap) (bR L i j)/\Below b w w'/\bc g w w':=by
 have c0:=h.cell;have hgl:=(World.ownsRow.lt h.2 g rfl).1;have hbg:b≠g:=by omega
 obtain⟨gc,hgc⟩:=Ea (n:=n) (by have h2:=h.2;unfold dr at h2;rw[hn]at h2;exact h2) rfl;have HGC:=af hgc;clear hgc;obtain⟨a0,a1,a2,_,hg⟩:=h.2.at hn i hi;obtain⟨d0,d1,d2,_,_⟩:=h.2.at hn j hj;have f0:=h.2.frozen hn (i*3);have f1:=h.2.frozen hn (i*3+1);have f2:=h.2.frozen hn (i*3+2);have k0:=h.2.frozen hn (j*3);have k1:=h.2.frozen hn (j*3+1);have k2:=h.2.frozen hn (j*3+2);have hbw:b<w.heap.size:=World.block_lt_of_cell? w ⟨b,0,none⟩ c0;obtain⟨xa,xq,hxv⟩:=(hS (L.getD i g0) (eV L i (by omega))).form;obtain⟨ya,yq,hyv⟩:=(hS (L.getD j g0) (eV L j (by omega))).form;have hiI:(i:Int)<(n:Int):=by omega
 have hjI:(j:Int)<(n:Int):=by omega
 have hmI:(n:Int)<=300:=by omega
 rw[hxv]at a2;rw[hyv]at d2;have H:=af h;have Hn:=af hn;clear h hn hm hi hj hS;have HX:=af hxv;have HY:=af hyv;have hgb:g≠b:=fun e=>hbg e.symm;clear hxv hyv;generalize hx:L.getD i g0=x at *
 generalize hy:L.getD j g0=y at *
 obtain⟨xc,xf,xs,xv⟩:=x;obtain⟨yc,yf,ys,yv⟩:=y;simp only at a0 a1 a2 d0 d1 d2;generalize xs.length=xn at *
 generalize ys.length=yn at *
 have Hx:=af hx;have Hy:=af hy;clear hx hy;go_enter Tryz.func202,Tryz.ntmps202;go_wp2_with fail;have ex:Hid (L.getD i g0=⟨xc,xf,xs,.slice xa xn xq⟩):=by
  have e:xv = .slice xa xn xq:=ae HX;show L.getD i g0=_;rw[ae Hx,e]
 have ey:Hid (L.getD j g0=⟨yc,yf,ys,.slice ya yn yq⟩):=by
  have e:yv = .slice ya yn yq:=ae HY;show L.getD j g0=_;rw[ae Hy,e]
 have hT:=af (dr.put (by rw[List.length_set];exact ae Hn) (dr.put (ae Hn) (ae H).2 i ⟨yc,yf,ys,.slice ya yn yq⟩) j ⟨xc,xf,xs,.slice xa xn xq⟩);have hTo:=af (((((((Touch.refl (some ⟨g,0,none⟩) w).set (o:=i*3) rfl (.int .i64 yc)).set (o:=i*3+1) rfl (.int .i64 yf)).set (o:=i*3+2) rfl (.slice ya yn yq)).set (o:=j*3) rfl (.int .i64 xc)).set (o:=j*3+1) rfl (.int .i64 xf)).set (o:=j*3+2) rfl (.slice xa xn xq));have hBe:=af ((ai (ai (ai (ai (ai (ai (Below.refl b w) (b:=g) (o:=i*3) (by omega) (.int .i64 yc)) (b:=g) (o:=i*3+1) (by omega) (.int .i64 yf)) (b:=g) (o:=i*3+2) (by omega) (.slice ya yn yq)) (b:=g) (o:=j*3) (by omega) (.int .i64 xc)) (b:=g) (o:=j*3+1) (by omega) (.int .i64 xf)) (b:=g) (o:=j*3+2) (by omega) (.slice xa xn xq)));have hKe:=af (bc.touch (ae HGC) (by decide) (ae hTo));have hCe:=af (((ae hTo).2 b (fun g' e=>by simp only[Option.some.injEq,Addr.mk.injEq,and_true]at e;omega)).trans (ae H).1);have hAll:Hid (bL ((((((w.setCell ⟨g,i*3,none⟩ (.int .i64 yc)).setCell ⟨g,i*3+1,none⟩ (.int .i64 yf)).setCell ⟨g,i*3+2,none⟩ (.slice ya yn yq)).setCell ⟨g,j*3,none⟩ (.int .i64 xc)).setCell ⟨g,j*3+1,none⟩ (.int .i64 xf)).setCell ⟨g,j*3+2,none⟩ (.slice xa xn xq)) b base (.slice (some ⟨g,0,none⟩) n cap) ((L.set i ⟨yc,yf,ys,.slice ya yn yq⟩).set j ⟨xc,xf,xs,.slice xa xn xq⟩)):=⟨ae hCe,ae hT⟩;clear H;have hSw:Hid (bR L i j=(L.set i ⟨yc,yf,ys,.slice ya yn yq⟩).set j ⟨xc,xf,xs,.slice xa xn xq⟩):=by
  show bR L i j=_;unfold bR;rw[ae ex,ae ey]
 by_cases hij:i=j
 ·
  subst hij;have exy:=(ae ex).symm.trans (ae ey);simp only[Grp.mk.injEq,Value.slice.injEq]at exy;obtain⟨rfl,rfl,rfl,rfl,rfl,rfl⟩:=exy
  go_region
  all_goals
   go_wp2
   go_end0
   refine⟨rfl,?_,(ae hBe).drew,(ae hKe).drew⟩;rw[ae hSw];exact(ae hAll).drew
 ·
  have hji:¬ j=i:=fun e=>hij e.symm;have q1:¬ j*3=i*3+1:=by omega
  have q2:¬ j*3=i*3+2:=by omega
  have q3:¬ j*3+1=i*3:=by omega
  have q4:¬ j*3+1=i*3+2:=by omega
  have q5:¬ j*3+2=i*3:=by omega
  have q6:¬ j*3+2=i*3+1:=by omega
  have q7:¬ j*3=i*3:=by omega
  have q8:¬ j*3+1=i*3+1:=by omega
  have q9:¬ j*3+2=i*3+2:=by omega
  go_region
  all_goals
   go_wp2
   go_end0
   refine⟨rfl,?_,(ae hBe).drew,(ae hKe).drew⟩;rw[ae hSw];exact(ae hAll).drew
theorem G8(a:Addr)(w:World):(method 476 297 (.pointer (some a)) "loop.example/corbel/impl.size").run Tryz.prog w = .ok (194,.pointer (some a)) w:=by kernel_rfl
theorem rB(a:Addr)(w:World):(method 476 297 (.pointer (some a)) "loop.example/corbel/impl.before").run Tryz.prog w = .ok (271,.pointer (some a)) w:=by kernel_rfl
theorem xC(a:Addr)(w:World):(method 476 297 (.pointer (some a)) "loop.example/corbel/impl.swap").run Tryz.prog w = .ok (202,.pointer (some a)) w:=by kernel_rfl
theorem bL.later{w w':World}{b base:Nat}{v:Value}{L:List Grp}(h:bL w b base v L)(hb:Below w.heap.size w w'):bL w' b base v L:=
 ⟨(hb.block b h.lt).trans h.1,h.2.later hb (Nat.le_refl _)⟩
set_option maxRecDepth 100000 in
theorem uR(b g n cap p:Nat)(L:List Grp)(w:World)(hS:dD w (b+1) L)(hn:L.length=n)(hm:n<=300)(h:bL w b (b+1) (.slice (some ⟨g,0,none⟩) n cap) L)(hp:p<n)(hu:UpI L p) :
  Calls Tryz.prog 204 #[.iface 297 (.pointer (some ⟨b,0,none⟩)),.int .i64 (p:Nat)] w fun e w'=>e = .returned (.tuple #[])/\∃M:List Grp,M.Perm L/\HP M/\bL w' b (b+1) (.slice (some ⟨g,0,none⟩) n cap) M/\Below b w w'/\bc g w w':=by
 have m1:=rB ⟨b,0,none⟩;have m2:=xC ⟨b,0,none⟩;have hmI:(n:Int)<=300:=by omega
 have HS:=af hS;have HN:=af (And.intro hn hm);have H0:=af (And.intro h (And.intro hp hu));clear hS hn hm h hp hu;go_enter Tryz.func204,Tryz.ntmps204;go_wp2_with fail
 go_loopw [1] (fun p wr=>∃(k:Nat) (M:List Grp),p = .int .i64 k/\k<n/\M.Perm L/\UpI M k/\bL wr b (b+1) (.slice (some ⟨g,0,none⟩) n cap) M/\Below b w wr/\bc g w wr) (fun p _=>(intOf p).toNat)
 case atStart=>exact⟨p,L,rfl,(ae H0).2.1,List.Perm.refl _,(ae H0).2.2,(ae H0).1,Below.refl _ _,bc.refl _ _⟩
 case round=>
  obtain⟨k,M,rfl,hk,hM,hu,hh,hbel,hke⟩:=hrel;have hkI:(k:Int)<(n:Int):=by omega
  have hMn:M.length=n:=hM.length_eq.trans (ae HN).1;have HQ:=af (And.intro hk (And.intro hM (And.intro hu (And.intro hh (And.intro hbel (And.intro hke hMn))))));by_cases h0:k=0
  ·
   subst h0;clear hk hM hu hh hbel hke hMn;go_wp2
   go_end0
   obtain⟨hk,hM,hu,hh,hbel,hke,hMn⟩:=ae HQ;exact⟨rfl,M,hM,Jl hu (.inl rfl),hh,hbel,hke⟩
  ·
   have hsy:dD wr (b+1) M:=(hke.syms (ae HS)).perm hM;obtain⟨q,hq⟩:∃q,q=(k-1)/2:=⟨_,rfl⟩;have hqI:((k:Int)-1)/2=(q:Int):=by omega
   have hq0:(q:Int)<(n:Int):=by omega
   have h1I:(1:Int)<=(k:Int):=by omega
   have HB:=af (gQ b (b+1) (b+1) g n cap k q M wr hsy hMn (ae HN).2 hh hk (by omega));have HQQ:=af hq;clear hk hM hu hh hbel hke hMn hq;cases hl:aM (M.getD k g0) (M.getD q g0)
   ·
    rw[hl]at HB;have HL:=af hl;clear hl;go_wp2_with fail;refine(ae HB).mono ?_;rintro e x1 ⟨rfl,hb1⟩;go_wp2
    go_end0
    obtain⟨hk,hM,hu,hh,hbel,hke,hMn⟩:=ae HQ;exact⟨rfl,M,hM,Jl hu (.inr (by rw[←ae HQQ];exact ae HL)),hh.later hb1,hbel.trans (hb1.mono (Nat.le_of_lt (hh.lt))),hke.trans (bc.below hb1)⟩
   ·
    rw[hl]at HB;have HL:=af hl;clear hl;go_wp2_with fail;refine(ae HB).mono ?_;rintro e x1 ⟨rfl,hb1⟩;have HW:Hid (Calls Tryz.prog 202 #[.pointer (some ⟨b,0,none⟩),.int .i64 (k:Nat),.int .i64 (q:Nat)] x1 fun e w'=>e = .returned (.tuple #[])/\bL w' b (b+1) (.slice (some ⟨g,0,none⟩) n cap) (bR M k q)/\Below b x1 w'/\bc g x1 w'):=by
     obtain⟨hk,hM,hu,hh,hbel,hke,hMn⟩:=ae HQ;exact kM b (b+1) (b+1) g n cap k q M x1 (((hke.trans (bc.below hb1)).syms (ae HS)).perm hM) hMn (ae HN).2 (hh.later hb1) (Nat.lt_succ_self _) hk (by omega)
    go_wp2_with fail;refine(ae HW).mono ?_;rintro e x2 ⟨rfl,hh2,hb2,hk2⟩;go_wp2;go_roundw
    case rel=>
     obtain⟨hk,hM,hu,hh,hbel,hke,hMn⟩:=ae HQ;have hq:=ae HQQ;refine⟨q,bR M k q,by first|rfl|go_num,by omega,(fJ (by omega) (by omega)).trans hM,?_,hh2,(hbel.trans (hb1.mono (Nat.le_of_lt (hh.lt)))).trans hb2,(hke.trans (bc.below hb1)).trans hk2⟩;subst hq;exact Lg hu (by omega) (by omega) (ae HL)
    case measure=>
     have hq:=ae HQQ;simp[intOf];omega
theorem vw{L:List Grp}{k c:Nat}(hc:(c=2*k+1/\(L.length<=2*k+2∨aM (L.getD (2*k+2) g0) (L.getD (2*k+1) g0)=false))∨(c=2*k+2/\aM (L.getD (2*k+2) g0) (L.getD (2*k+1) g0)=true)) :
  ∀i,0<i->i<L.length->(i-1)/2=k->aM (L.getD i g0) (L.getD c g0)=false:=by
 intro i i0 hi hp;have hi2:i=2*k+1∨i=2*k+2:=by omega
 rcases hc with⟨rfl,h|h⟩|⟨rfl,h⟩
 ·
  rcases hi2 with rfl|rfl
  · exact eE _
  · omega
 ·
  rcases hi2 with rfl|rfl
  · exact eE _
  · exact h
 ·
  rcases hi2 with rfl|rfl
  · exact mn h
  · exact eE _
set_option maxRecDepth 100000 in
theorem uS(b g n cap p:Nat)(L:List Grp)(w:World)(hS:dD w (b+1) L)(hn:L.length=n)(hm:n<=300)(h:bL w b (b+1) (.slice (some ⟨g,0,none⟩) n cap) L)(hp:p<=n)(hu:DnI L p) :
  Calls Tryz.prog 203 #[.iface 297 (.pointer (some ⟨b,0,none⟩)),.int .i64 (p:Nat)] w fun e w'=>e = .returned (.tuple #[])/\∃M:List Grp,M.Perm L/\HP M/\bL w' b (b+1) (.slice (some ⟨g,0,none⟩) n cap) M/\Below b w w'/\bc g w w':=by
 have m1:=rB ⟨b,0,none⟩;have m2:=xC ⟨b,0,none⟩;have m3:=G8 ⟨b,0,none⟩;have hmI:(n:Int)<=300:=by omega
 have HS:=af hS;have HN:=af (And.intro hn hm);have H0:=af (And.intro h (And.intro hp hu));clear hS hn hm h hp hu;go_enter Tryz.func203,Tryz.ntmps203;go_wp2_with fail
 go_loopw [1,4] (fun p _ wr=>∃(k:Nat) (M:List Grp),p = .int .i64 k/\k<=n/\M.Perm L/\DnI M k/\bL wr b (b+1) (.slice (some ⟨g,0,none⟩) n cap) M/\Below b w wr/\bc g w wr) (fun p _ _=>n-(intOf p).toNat)
 case atStart=>exact⟨p,L,rfl,(ae H0).2.1,List.Perm.refl _,(ae H0).2.2,(ae H0).1,Below.refl _ _,bc.refl _ _⟩
 case round=>
  obtain⟨k,M,rfl,hk,hM,hu,hh,hbel,hke⟩:=hrel;have hkI:(k:Int)<=(n:Int):=by omega
  have hMn:M.length=n:=hM.length_eq.trans (ae HN).1;have HQ:=af (And.intro hk (And.intro hM (And.intro hu (And.intro hh (And.intro hbel (And.intro hke hMn))))));have HZ:=af (gB b (b+1) n cap _ M wr hh);have hsy:dD wr (b+1) M:=(hke.syms (ae HS)).perm hM;obtain⟨c1,hc1⟩:∃q,q=2*k+1:=⟨_,rfl⟩;have hc1I:2*(k:Int)+1=(c1:Int):=by omega
  have HC1:=af hc1;by_cases h1:c1<n
  ·
   have h1I:(c1:Int)<(n:Int):=by omega
   obtain⟨c2,hc2⟩:∃q,q=2*k+2:=⟨_,rfl⟩;have hc2I:(c1:Int)+1=(c2:Int):=by omega
   have HC2:=af hc2;by_cases h2:c2<n
   ·
    have h2I:(c2:Int)<(n:Int):=by omega
    have HB:=af (gQ b (b+1) (b+1) g n cap c2 c1 M wr hsy hMn (ae HN).2 hh h2 h1);clear hk hM hu hh hbel hke hMn hc1 hc2 h1 h2 hsy;cases hl:aM (M.getD c2 g0) (M.getD c1 g0)
    ·
     rw[hl]at HB;have HL:=af hl;clear hl;go_wp2_with fail;refine(ae HZ).mono ?_;rintro e y1 ⟨rfl,hy1⟩;rw[hy1];clear hy1 y1;go_wp2_with fail;refine(ae HZ).mono ?_;rintro e y1 ⟨rfl,hy1⟩;rw[hy1];clear hy1 y1;go_wp2_with fail;refine(ae HB).mono ?_;rintro e x1 ⟨rfl,hb1⟩;have HX:Hid (bL x1 b (b+1) (.slice (some ⟨g,0,none⟩) n cap) M/\Below b w x1/\bc g w x1/\c1<n/\0<c1/\(c1-1)/2=k/\(∀i,0<i->i<M.length->(i-1)/2=k->aM (M.getD i g0) (M.getD c1 g0)=false)):=by
      obtain⟨hk,hM,hu,hh,hbel,hke,hMn⟩:=ae HQ;refine⟨(hh.later hb1),(hbel.trans (hb1.mono (Nat.le_of_lt (hh.lt)))),(hke.trans (bc.below hb1)),by omega,?_,?_,vw (k:=k) (.inl ⟨ae HC1,.inr (by rw[←ae HC1,←ae HC2];exact ae HL)⟩)⟩
      · have:=ae HC1;omega
      · have:=ae HC1;omega
     have HB2:Hid (Calls Tryz.prog 271 #[.pointer (some ⟨b,0,none⟩),.int .i64 (c1:Nat),.int .i64 (k:Nat)] x1 fun e w'=>e = .returned (.bool (aM (M.getD c1 g0) (M.getD k g0)))/\Below (x1).heap.size x1 w'):=by
      obtain⟨hk,hM,hu,hh,hbel,hke,hMn⟩:=ae HQ;obtain⟨xh,xb,xk,xc,xc0,xp,xm⟩:=ae HX;exact gQ b (b+1) (b+1) g n cap c1 k M x1 ((xk.syms (ae HS)).perm hM) hMn (ae HN).2 xh xc (by omega)
     cases hl2:aM (M.getD c1 g0) (M.getD k g0)
     · rw[hl2]at HB2;have HL2:=af hl2;clear hl2;go_wp2_with fail;refine(ae HB2).mono ?_;rintro e x2 ⟨rfl,hb2⟩;go_wp2;refine bodyPost_ret (results_none rfl _ _ _) rfl ?_;obtain⟨hk,hM,hu,hh,hbel,hke,hMn⟩:=ae HQ;obtain⟨xh,xb,xk,xc,xc0,xp,xm⟩:=ae HX;exact⟨rfl,M,hM,uE hu (fun c c0 hc hp=>fY (xm c c0 hc hp) (ae HL2)),xh.later hb2,xb.trans (hb2.mono (Nat.le_of_lt (xh.lt))),xk.trans (bc.below hb2)⟩
     ·
      rw[hl2]at HB2;have HL2:=af hl2;clear hl2;go_wp2_with fail;refine(ae HB2).mono ?_;rintro e x2 ⟨rfl,hb2⟩;have HW:Hid (Calls Tryz.prog 202 #[.pointer (some ⟨b,0,none⟩),.int .i64 (c1:Nat),.int .i64 (k:Nat)] x2 fun e w'=>e = .returned (.tuple #[])/\bL w' b (b+1) (.slice (some ⟨g,0,none⟩) n cap) (bR M c1 k)/\Below b x2 w'/\bc g x2 w'):=by
       obtain⟨hk,hM,hu,hh,hbel,hke,hMn⟩:=ae HQ;obtain⟨xh,xb,xk,xc,xc0,xp,xm⟩:=ae HX;exact kM b (b+1) (b+1) g n cap c1 k M x2 (((xk.trans (bc.below hb2)).syms (ae HS)).perm hM) hMn (ae HN).2 (xh.later hb2) (Nat.lt_succ_self _) xc (by omega)
      go_wp2_with fail;refine(ae HW).mono ?_;rintro e x3 ⟨rfl,hh3,hb3,hk3⟩;go_wp2;go_roundw
      case rel=>
       obtain⟨hk,hM,hu,hh,hbel,hke,hMn⟩:=ae HQ;obtain⟨xh,xb,xk,xc,xc0,xp,xm⟩:=ae HX;exact⟨c1,bR M c1 k,rfl,by omega,(fJ (by omega) (by omega)).trans hM,uF hu (by omega) (by omega) xc0 xp xm (ae HL2),hh3,(xb.trans (hb2.mono (Nat.le_of_lt (xh.lt)))).trans hb3,(xk.trans (bc.below hb2)).trans hk3⟩
      case measure=>
       obtain⟨xh,xb,xk,xc,xc0,xp,xm⟩:=ae HX;simp[intOf];omega
    ·
     rw[hl]at HB;have HL:=af hl;clear hl;go_wp2_with fail;refine(ae HZ).mono ?_;rintro e y1 ⟨rfl,hy1⟩;rw[hy1];clear hy1 y1;go_wp2_with fail;refine(ae HZ).mono ?_;rintro e y1 ⟨rfl,hy1⟩;rw[hy1];clear hy1 y1;go_wp2_with fail;refine(ae HB).mono ?_;rintro e x1 ⟨rfl,hb1⟩;have HX:Hid (bL x1 b (b+1) (.slice (some ⟨g,0,none⟩) n cap) M/\Below b w x1/\bc g w x1/\c2<n/\0<c2/\(c2-1)/2=k/\(∀i,0<i->i<M.length->(i-1)/2=k->aM (M.getD i g0) (M.getD c2 g0)=false)):=by
      obtain⟨hk,hM,hu,hh,hbel,hke,hMn⟩:=ae HQ;refine⟨(hh.later hb1),(hbel.trans (hb1.mono (Nat.le_of_lt (hh.lt)))),(hke.trans (bc.below hb1)),by omega,?_,?_,vw (k:=k) (.inr ⟨ae HC2,by rw[←ae HC1,←ae HC2];exact ae HL⟩)⟩
      · have:=ae HC2;omega
      · have:=ae HC2;omega
     have HB2:Hid (Calls Tryz.prog 271 #[.pointer (some ⟨b,0,none⟩),.int .i64 (c2:Nat),.int .i64 (k:Nat)] x1 fun e w'=>e = .returned (.bool (aM (M.getD c2 g0) (M.getD k g0)))/\Below (x1).heap.size x1 w'):=by
      obtain⟨hk,hM,hu,hh,hbel,hke,hMn⟩:=ae HQ;obtain⟨xh,xb,xk,xc,xc0,xp,xm⟩:=ae HX;exact gQ b (b+1) (b+1) g n cap c2 k M x1 ((xk.syms (ae HS)).perm hM) hMn (ae HN).2 xh xc (by omega)
     cases hl2:aM (M.getD c2 g0) (M.getD k g0)
     · rw[hl2]at HB2;have HL2:=af hl2;clear hl2;go_wp2_with fail;refine(ae HB2).mono ?_;rintro e x2 ⟨rfl,hb2⟩;go_wp2;refine bodyPost_ret (results_none rfl _ _ _) rfl ?_;obtain⟨hk,hM,hu,hh,hbel,hke,hMn⟩:=ae HQ;obtain⟨xh,xb,xk,xc,xc0,xp,xm⟩:=ae HX;exact⟨rfl,M,hM,uE hu (fun c c0 hc hp=>fY (xm c c0 hc hp) (ae HL2)),xh.later hb2,xb.trans (hb2.mono (Nat.le_of_lt (xh.lt))),xk.trans (bc.below hb2)⟩
     ·
      rw[hl2]at HB2;have HL2:=af hl2;clear hl2;go_wp2_with fail;refine(ae HB2).mono ?_;rintro e x2 ⟨rfl,hb2⟩;have HW:Hid (Calls Tryz.prog 202 #[.pointer (some ⟨b,0,none⟩),.int .i64 (c2:Nat),.int .i64 (k:Nat)] x2 fun e w'=>e = .returned (.tuple #[])/\bL w' b (b+1) (.slice (some ⟨g,0,none⟩) n cap) (bR M c2 k)/\Below b x2 w'/\bc g x2 w'):=by
       obtain⟨hk,hM,hu,hh,hbel,hke,hMn⟩:=ae HQ;obtain⟨xh,xb,xk,xc,xc0,xp,xm⟩:=ae HX;exact kM b (b+1) (b+1) g n cap c2 k M x2 (((xk.trans (bc.below hb2)).syms (ae HS)).perm hM) hMn (ae HN).2 (xh.later hb2) (Nat.lt_succ_self _) xc (by omega)
      go_wp2_with fail;refine(ae HW).mono ?_;rintro e x3 ⟨rfl,hh3,hb3,hk3⟩;go_wp2;go_roundw
      case rel=>
       obtain⟨hk,hM,hu,hh,hbel,hke,hMn⟩:=ae HQ;obtain⟨xh,xb,xk,xc,xc0,xp,xm⟩:=ae HX;exact⟨c2,bR M c2 k,rfl,by omega,(fJ (by omega) (by omega)).trans hM,uF hu (by omega) (by omega) xc0 xp xm (ae HL2),hh3,(xb.trans (hb2.mono (Nat.le_of_lt (xh.lt)))).trans hb3,(xk.trans (bc.below hb2)).trans hk3⟩
      case measure=>
       obtain⟨xh,xb,xk,xc,xc0,xp,xm⟩:=ae HX;simp[intOf];omega
   ·
    have h2I:¬ (c2:Int)<(n:Int):=by omega
    have hnn:Hid (n<=c2):=by show n<=c2;omega
    clear hk hM hu hh hbel hke hMn hc1 hc2 h1 h2 hsy;go_wp2_with fail;refine(ae HZ).mono ?_;rintro e y1 ⟨rfl,hy1⟩;rw[hy1];clear hy1 y1;go_wp2_with fail;refine(ae HZ).mono ?_;rintro e y1 ⟨rfl,hy1⟩;rw[hy1];clear hy1 y1;have HX:Hid (bL wr b (b+1) (.slice (some ⟨g,0,none⟩) n cap) M/\Below b w wr/\bc g w wr/\c1<n/\0<c1/\(c1-1)/2=k/\(∀i,0<i->i<M.length->(i-1)/2=k->aM (M.getD i g0) (M.getD c1 g0)=false)):=by
     obtain⟨hk,hM,hu,hh,hbel,hke,hMn⟩:=ae HQ;refine⟨hh,hbel,hke,by omega,?_,?_,vw (k:=k) (.inl ⟨ae HC1,.inl (by rw[hMn,←ae HC2];exact ae hnn)⟩)⟩
     · have:=ae HC1;omega
     · have:=ae HC1;omega
    have HB2:Hid (Calls Tryz.prog 271 #[.pointer (some ⟨b,0,none⟩),.int .i64 (c1:Nat),.int .i64 (k:Nat)] wr fun e w'=>e = .returned (.bool (aM (M.getD c1 g0) (M.getD k g0)))/\Below (wr).heap.size wr w'):=by
     obtain⟨hk,hM,hu,hh,hbel,hke,hMn⟩:=ae HQ;obtain⟨xh,xb,xk,xc,xc0,xp,xm⟩:=ae HX;exact gQ b (b+1) (b+1) g n cap c1 k M wr ((xk.syms (ae HS)).perm hM) hMn (ae HN).2 xh xc (by omega)
    cases hl2:aM (M.getD c1 g0) (M.getD k g0)
    · rw[hl2]at HB2;have HL2:=af hl2;clear hl2;go_wp2_with fail;refine(ae HB2).mono ?_;rintro e x2 ⟨rfl,hb2⟩;go_wp2;refine bodyPost_ret (results_none rfl _ _ _) rfl ?_;obtain⟨hk,hM,hu,hh,hbel,hke,hMn⟩:=ae HQ;obtain⟨xh,xb,xk,xc,xc0,xp,xm⟩:=ae HX;exact⟨rfl,M,hM,uE hu (fun c c0 hc hp=>fY (xm c c0 hc hp) (ae HL2)),xh.later hb2,xb.trans (hb2.mono (Nat.le_of_lt (xh.lt))),xk.trans (bc.below hb2)⟩
    ·
     rw[hl2]at HB2;have HL2:=af hl2;clear hl2;go_wp2_with fail;refine(ae HB2).mono ?_;rintro e x2 ⟨rfl,hb2⟩;have HW:Hid (Calls Tryz.prog 202 #[.pointer (some ⟨b,0,none⟩),.int .i64 (c1:Nat),.int .i64 (k:Nat)] x2 fun e w'=>e = .returned (.tuple #[])/\bL w' b (b+1) (.slice (some ⟨g,0,none⟩) n cap) (bR M c1 k)/\Below b x2 w'/\bc g x2 w'):=by
      obtain⟨hk,hM,hu,hh,hbel,hke,hMn⟩:=ae HQ;obtain⟨xh,xb,xk,xc,xc0,xp,xm⟩:=ae HX;exact kM b (b+1) (b+1) g n cap c1 k M x2 (((xk.trans (bc.below hb2)).syms (ae HS)).perm hM) hMn (ae HN).2 (xh.later hb2) (Nat.lt_succ_self _) xc (by omega)
     go_wp2_with fail;refine(ae HW).mono ?_;rintro e x3 ⟨rfl,hh3,hb3,hk3⟩;go_wp2;go_roundw
     case rel=>
      obtain⟨hk,hM,hu,hh,hbel,hke,hMn⟩:=ae HQ;obtain⟨xh,xb,xk,xc,xc0,xp,xm⟩:=ae HX;exact⟨c1,bR M c1 k,rfl,by omega,(fJ (by omega) (by omega)).trans hM,uF hu (by omega) (by omega) xc0 xp xm (ae HL2),hh3,(xb.trans (hb2.mono (Nat.le_of_lt (xh.lt)))).trans hb3,(xk.trans (bc.below hb2)).trans hk3⟩
     case measure=>
      obtain⟨xh,xb,xk,xc,xc0,xp,xm⟩:=ae HX;simp[intOf];omega
  ·
   have h1I:¬ (c1:Int)<(n:Int):=by omega
   have hnn:Hid (n<=c1):=by show n<=c1;omega
   clear hk hM hu hh hbel hke hMn hc1 h1 hsy;go_wp2_with fail;refine(ae HZ).mono ?_;rintro e y1 ⟨rfl,hy1⟩;rw[hy1];clear hy1 y1;go_wp2
   go_end0
   obtain⟨hk,hM,hu,hh,hbel,hke,hMn⟩:=ae HQ;have hc1:=ae HC1;exact⟨rfl,M,hM,uE hu (fun c c0 hc hp=>by omega),hh,hbel,hke⟩
theorem AY{w:World}{b:Nat}{v:Value}{t:TypeId}(h:w.heap[b]?=some (Obj.cells #[v] t))(u:Value):(w.setCell ⟨b,0,none⟩ u).heap[b]?=some (Obj.cells #[u] t):=by
 show(w.heap.modify b _)[b]?=_;rw[Array.getElem?_modify,if_pos rfl,h];simp
theorem FH{w:World}{b:Nat}{v:Value}{t:TypeId}(h:w.heap[b]?=some (Obj.cells #[v] t)):w.cell? ⟨b,0,none⟩=some v:=by simp[World.cell?,h]
theorem JM{w:World}{b:Nat}{v:Value}{t:TypeId}(h:w.heap[b]?=some (Obj.cells #[v] t)):w.frozen? ⟨b,0,none⟩=false:=by simp[World.frozen?,h]
theorem Tryz.infoGrp:(Tryz.prog.info? 300).map (fun i=>(i.zero,i.size,i.bytes))=some (some (.agg #[.int .i64 0,.int .i64 0,.slice none 0 0]),3,40):=by kernel_rfl
theorem zP{w W x1:World}{b n:Nat}{v v':Value}{L:List Grp}{x:Grp}{o:Obj}(hn:L.length=n)(h:bL w b (b+1) v L)(hW:Below w.heap.size w W)(hk:aV 3 w W)(hown:x1.ownsRow (b+1) 300 3 v' (n+1) (aY L++[.int .i64 x.cnt,.int .i64 x.fst,x.val]))(hg0:(W.alloc o).drew.grownBy x1 v.ownBlock) :
  (∃g c,v' = .slice (some ⟨g,0,none⟩) (n+1) c)/\(x1.heap[b]?=some (Obj.cells #[v] 315))/\bL (x1.setCell ⟨b,0,none⟩ v') b (b+1) v' (L++[x])/\Below b w (x1.setCell ⟨b,0,none⟩ v')/\aV 3 w (x1.setCell ⟨b,0,none⟩ v'):=by
 have hg:(W.alloc o).grownBy x1 v.ownBlock:=⟨hg0.os,hg0.tape,hg0.output,hg0.size,hg0.block⟩;have hWs:=hW.size;have hlt:=h.lt;have h1:=h.later hW;have h2:dr 300 (W.alloc o) (b+1) v L:=World.ownsRow.alloc h1.2 _;have hbk:∀k,v.ownBlock=some k->b<k:=fun k e=>(World.ownsRow.lt h2 k e).1;have hxb:x1.heap[b]?=some (Obj.cells #[v] 315):=by
  rw[hg.block b (by simp;omega) (fun e=>by have:=hbk b e.symm;omega),Below.heap_alloc W o b (by omega)];exact h1.1
 have hbel:Below b w x1:=(((hW.mono (Nat.le_of_lt hlt)).alloc (by omega) o)).grown hg (by simp;omega) (fun k e=>Nat.le_of_lt (hbk k e));have hke:aV 3 w x1:=(hk.alloc o).grown h2 (by decide) hg;subst hn;have hsn:=EQ x hown;obtain⟨va,vc,e⟩:=hsn.formN (n:=L.length+1) (by simp);obtain⟨g,hga⟩:=(show dr 300 x1 (b+1) (.slice va (L.length+1) vc) (L++[x]) by rw[←e];exact hsn).somes (by simp);refine⟨⟨g,vc,by rw[e,hga]⟩,hxb,⟨AY hxb v',?_⟩,ai hbel (Nat.le_refl _) _,hke.set hxb (by decide) _⟩;exact ownsRow_setCell_below hsn (Nat.lt_succ_self _) _
set_option maxRecDepth 100000 in
theorem wW(b n cap:Nat)(a:Option Addr)(L:List Grp)(x:Grp)(w:World)(hS:dD w (b+1) L)(hx:ar w (b+1) x.val x.syms)(hn:L.length=n)(hm:n<300)(h:bL w b (b+1) (.slice a n cap) L)(hp:HP L) :
  Calls Tryz.prog 196 #[.pointer (some ⟨b,0,none⟩),.agg #[.int .i64 x.cnt,.int .i64 x.fst,x.val]] w fun e w'=>e = .returned (.tuple #[])/\∃(M:List Grp) (g cap':Nat),M.Perm (L++[x])/\HP M/\bL w' b (b+1) (.slice (some ⟨g,0,none⟩) (n+1) cap') M/\Below b w w'/\aV 3 w w':=by
 obtain⟨i0,hi,hz0,hz1,hz2⟩:=info_parts Tryz.infoGrp;have hmI:(n:Int)<300:=by omega
 have hlt:=h.lt;have c0:=h.cell;obtain⟨xa,xq,hxv⟩:=hx.form;have HS:=af hS;have HN:=af (And.intro hn hm);have H0:=af (And.intro h hp);have HX:=af (And.intro hx hxv);obtain⟨xc,xf,xs,xv⟩:=x;simp only at hxv;subst hxv;generalize hxn:xs.length=xn at *
 have hlen1:Hid (n+1<=maxLen/\(n+1)*40<=140737488355328):=by show _/\_;unfold maxLen;omega
 have hR:Hid (World.ownsRow ((w.alloc (.cells #[.int .i64 xc,.int .i64 xf,.slice xa xn xq] 300)).alloc (.cells #[.int .i64 xc,.int .i64 xf,.slice xa xn xq] 300)).drew (b+1) 300 3 (.slice a n cap) n (aY L)):=by
  have h2:=h.2;unfold dr at h2;rw[hn]at h2;exact World.ownsRow.alloc (World.ownsRow.alloc h2 _) _
 have hNw:Hid (∀(j:Nat) (u:Value),[Value.int .i64 xc,.int .i64 xf,.slice xa xn xq][j]?=some u->World.cell? ((w.alloc (.cells #[.int .i64 xc,.int .i64 xf,.slice xa xn xq] 300)).alloc (.cells #[.int .i64 xc,.int .i64 xf,.slice xa xn xq] 300)).drew ((⟨w.heap.size+1,0,none⟩:Addr).add j)=some u):=EE _ _ _ _ _ _ (by simp);have hSz:Hid (b+1<=((w.alloc (.cells #[.int .i64 xc,.int .i64 xf,.slice xa xn xq] 300)).alloc (.cells #[.int .i64 xc,.int .i64 xf,.slice xa xn xq] 300)).drew.heap.size):=by show b+1<=((w.alloc (.cells #[.int .i64 xc,.int .i64 xf,.slice xa xn xq] 300)).alloc (.cells #[.int .i64 xc,.int .i64 xf,.slice xa xn xq] 300)).drew.heap.size;simp;omega
 clear hS hn hm h hp hx;go_enter Tryz.func196,Tryz.ntmps196;go_wp2_with fail
 go_region_law (refine an rfl (.tmp 8) (.tmp 10) 313 rfl (b+1) 300 i0 (.agg #[.int .i64 0,.int .i64 0,.slice none 0 0]) 3 40 Tryz.underlying313 hi hz0 hz1 hz2 rfl (by decide) _ _ _ rfl (ae hR) ⟨w.heap.size+1,0,none⟩ 1 1 [.int .i64 xc,.int .i64 xf,.slice xa xn xq] rfl rfl (ae hNw) (EF _ _ _ _ _) (ae hlen1).1 (ae hlen1).2 (ae hSz) ?_;intro v' w' hown hgrow hnil;clear hnil;have HL:=af (zP (x:=⟨xc,xf,xs,.slice xa xn xq⟩) (ae HN).1 (ae H0).1 ((Below.refl _ _).alloc (Nat.le_refl _) _) ((aV.refl _ _).alloc _) hown hgrow);obtain⟨⟨g',c',hv'⟩,HB,HH⟩:=(ae HL);subst hv';clear hown hgrow HL;have c1:=FH HB;have f1:=JM HB;have HH':=af HH;clear HH HB)
 all_goals
  go_wp2_with fail;obtain⟨hh2,hb2,hk2⟩:=ae HH';have hsy2:=(hk2.syms (ae HS)).snoc (g:=⟨xc,xf,xs,.slice xa xn xq⟩) (hk2.ints (ae HX).1);have HZ:=af (gB b (b+1) (n+1) c' (some ⟨g',0,none⟩) _ _ hh2);have HR:=af (uR b g' (n+1) c' n _ _ hsy2 (by rw[List.length_append,(ae HN).1];rfl) (by have:=(ae HN).2;omega) hh2 (Nat.lt_succ_self _) (by have h1:=Ka (ae H0).2 ⟨xc,xf,xs,.slice xa xn xq⟩;rw[(ae HN).1]at h1;exact h1));clear hh2 hb2 hk2 hsy2;refine(ae HZ).mono ?_;rintro e y1 ⟨rfl,hy1⟩;rw[hy1];clear hy1 y1;go_wp2_with fail;refine(ae HR).mono ?_;rintro e x3 ⟨rfl,M,hM,hHP,hh3,hb3,hk3⟩;go_wp2
  go_end0
  obtain⟨hh2,hb2,hk2⟩:=ae HH';exact⟨rfl,M,g',c',hM,hHP,hh3,hb2.trans hb3,hk2.trans hk3.1⟩
theorem J6(g n cap k:Nat)(hk:k<=cap)(hc:0<cap)(W:World):(Instr.slice 313 (.slice (some ⟨g,0,none⟩) n cap) none (some (.int .i64 (k:Int))) none).run Tryz.prog W = .ok (.slice (some ⟨g,0,none⟩) k cap) W:=by
 have h1:(k:Int)<=(cap:Int):=by omega
 have h2:¬ ((k:Int)<0):=by omega
 have hk':(cap == 0)=false:=by simp;omega
 go_simp
theorem Ja{w:World}{base g cap n:Nat}{l:List Grp}(hn:l.length=n+1)(h:dr 300 w base (.slice (some ⟨g,0,none⟩) (n+1) cap) l):dr 300 w base (.slice (some ⟨g,0,none⟩) n cap) (l.take n):=by
 have e:aY l=aY (l.take n)++aY (l.drop n):=by rw[←lX,List.take_append_drop]
 have hl:(l.take n).length=n:=by rw[List.length_take];omega
 unfold dr at h ⊢;rw[hn,e]at h;rw[hl];exact ownsRow_pop (by rw[si,hl]) h
theorem oE{w:World}{base size g k o n m cap:Nat}{e:TypeId}{xs:List Value}(h:w.ownsRow base e size (.slice (some ⟨g,0,none⟩) n cap) m xs)(hg:k≠g)(u:Value):(w.setCell ⟨k,o,none⟩ u).ownsRow base e size (.slice (some ⟨g,0,none⟩) n cap) m xs:=by
 refine⟨h.1,?_⟩;rcases h.2 with hn|⟨g1,cap,cur,e,hbg,hgg,rest⟩
 · exact .inl hn
 · refine .inr ⟨g1,cap,cur,e,hbg,?_,rest⟩;simp only[Value.slice.injEq,Option.some.injEq,Addr.mk.injEq,and_true]at e;rw[Below.heap_setCell w ⟨k,o,none⟩ u g1 (by show g1≠k;omega)];exact hgg
theorem bL.setOther{w:World}{b base g k o n cap:Nat}{L:List Grp}(h:bL w b base (.slice (some ⟨g,0,none⟩) n cap) L)(hb:k≠b)(hg:k≠g)(u:Value):bL (w.setCell ⟨k,o,none⟩ u) b base (.slice (some ⟨g,0,none⟩) n cap) L:=
 ⟨(Below.heap_setCell w ⟨k,o,none⟩ u b (fun e=>hb e.symm)).trans h.1,oE h.2 hg u⟩
theorem px{w:World}{b:Nat}{x y z:Value}{t:TypeId}(h:w.heap[b]?=some (Obj.cells #[x,y,z] t)):Three w b x y z:=
 ⟨by simp[World.cell?,h],by simp[World.cell?,h],by simp[World.cell?,h],by simp[World.frozen?,h],by simp[World.frozen?,h],by simp[World.frozen?,h],(Array.getElem?_eq_some_iff.1 h).1⟩
theorem ol(w:World)(o:Obj):(w.alloc o).heap[w.heap.size]?=some o:=Array.getElem?_push_size
set_option maxRecDepth 100000 in
theorem yu(b g N cap:Nat)(L:List Grp)(w:World)(hS:dD w (b+1) L)(hn:L.length=N+1)(hm:N<300)(h:bL w b (b+1) (.slice (some ⟨g,0,none⟩) (N+1) cap) L)(hp:HP L) :
  Calls Tryz.prog 195 #[.pointer (some ⟨b,0,none⟩)] w fun e w'=>e = .returned (.agg #[.int .i64 (L.getD 0 g0).cnt,.int .i64 (L.getD 0 g0).fst,(L.getD 0 g0).val])/\∃M:List Grp,(L.getD 0 g0 :: M).Perm L/\HP M/\bL w' b (b+1) (.slice (some ⟨g,0,none⟩) N cap) M/\Below b w w'/\aV 3 w w':=by
 have hmI:(N:Int)<300:=by omega
 have hlt:=h.lt;have hcap:=h.2.cap hn;have HS:=af hS;have HN:=af (And.intro hn hm);have H0:=af (And.intro h hp);have hB1:Below w.heap.size w (w.alloc (.cells #[.int .i64 0,.int .i64 0,.slice none 0 0] 300)):=(Below.refl _ _).alloc (Nat.le_refl _) _;have HZ:=af (gB b (b+1) (N+1) cap (some ⟨g,0,none⟩) L _ (h.later hB1));have HW:=af (kM b (b+1) (b+1) g (N+1) cap 0 N L _ ((bc.below (g:=g) hB1).syms hS) hn (by omega) (h.later hB1) (Nat.lt_succ_self _) (by omega) (by omega));have hB1':=af hB1;clear hS hn h hp hB1;go_enter Tryz.func195,Tryz.ntmps195;go_wp2_with fail;refine(ae HZ).mono ?_;rintro e y1 ⟨rfl,hy1⟩;rw[hy1];clear hy1 y1;go_wp2_with fail;refine(ae HW).mono ?_;rintro e x1 ⟨rfl,hh1,hb1,hk1⟩;have hg1:=(World.ownsRow.lt (ae H0).1.2 g rfl).2;have hlen1:(bR L 0 N).length=N+1:=by rw[eH];exact(ae HN).1
 obtain⟨c0,c1,c2,_,hgx⟩:=hh1.2.at hlen1 N (Nat.lt_succ_self _);rw[lG (by rw[(ae HN).1];exact Nat.lt_succ_self _)]at c0 c1 c2;have hA:=ae HS (L.getD 0 g0) (eV L 0 (by rw[(ae HN).1];exact Nat.succ_pos _));obtain⟨aa,ac,hav⟩:=hA.form;rw[hav]at c2;have hbc:=hh1.cell;have hbf:=hh1.frz;have hb2:=hh1.lt;have hbg:b≠g:=by have:=(World.ownsRow.lt (ae H0).1.2 g rfl).1;omega
 have hx1s:w.heap.size<x1.heap.size:=by have:=hk1.2.1;simp at this;omega
 have hcut:=J6 g (N+1) cap N (by omega) (by omega);have hcapI:(cap:Int)<=9223372036854775807:=by have:=hcap.2;unfold maxLen at this;omega
 have hcapI2:(N:Int)+1<=(cap:Int):=by have:=hcap.1;omega
 have hr0:x1.heap[w.heap.size]?=some (Obj.cells #[.int .i64 0,.int .i64 0,.slice none 0 0] 300):=by
  rw[hk1.2.2 w.heap.size (by simp) (by omega)];exact ol _ _
 have HX:=af (And.intro hh1 (And.intro hb1 (And.intro hk1 (And.intro hlen1 (And.intro hav hr0)))));clear hh1 hb1 hk1 hlen1 hcap hgx hA hr0 hm HZ HW;generalize hAA:(L.getD 0 g0).cnt=Ac at *
 generalize hAF:(L.getD 0 g0).fst=Af at *
 generalize hAS:(L.getD 0 g0).syms.length=An at *
 have HAA:=af (And.intro hAA (And.intro hAF hAS));clear hAA hAF hAS hav;go_wp2_with fail;have HY:Hid (bL ((x1.setCell ⟨b,0,none⟩ (.slice (some ⟨g,0,none⟩) N cap)).alloc (.cells #[.int .i64 Ac,.int .i64 Af,.slice aa An ac] 300)) b (b+1) (.slice (some ⟨g,0,none⟩) N cap) ((bR L 0 N).take N) /\
   Below b w ((x1.setCell ⟨b,0,none⟩ (.slice (some ⟨g,0,none⟩) N cap)).alloc (.cells #[.int .i64 Ac,.int .i64 Af,.slice aa An ac] 300)) /\
   aV 3 w ((x1.setCell ⟨b,0,none⟩ (.slice (some ⟨g,0,none⟩) N cap)).alloc (.cells #[.int .i64 Ac,.int .i64 Af,.slice aa An ac] 300)) /\
   ((x1.setCell ⟨b,0,none⟩ (.slice (some ⟨g,0,none⟩) N cap)).alloc (.cells #[.int .i64 Ac,.int .i64 Af,.slice aa An ac] 300)).heap[w.heap.size]?=some (Obj.cells #[.int .i64 0,.int .i64 0,.slice none 0 0] 300) /\
   ((x1.setCell ⟨b,0,none⟩ (.slice (some ⟨g,0,none⟩) N cap)).alloc (.cells #[.int .i64 Ac,.int .i64 Af,.slice aa An ac] 300)).heap[x1.heap.size]?=some (Obj.cells #[.int .i64 Ac,.int .i64 Af,.slice aa An ac] 300)):=by
  obtain⟨hh1,hb1,hk1,hlen1,hav,hr0⟩:=ae HX;have hsz:(x1.setCell ⟨b,0,none⟩ (.slice (some ⟨g,0,none⟩) N cap)).heap.size=x1.heap.size:=by simp
  refine⟨⟨?_,?_⟩,?_,?_,?_,?_⟩
  · rw[Below.heap_alloc _ _ b (by rw[hsz];exact hb2)];exact AY hh1.1 _
  · exact World.ownsRow.alloc (ownsRow_setCell_below (Ja hlen1 hh1.2) (Nat.lt_succ_self _) _) _
  · exact(ai (((ae hB1').mono (Nat.le_of_lt hlt)).trans hb1) (Nat.le_refl _) _).alloc (by rw[hsz];omega) _
  · exact(((aV.below (ae hB1')).trans hk1.1).set hh1.1 (by decide) _).alloc _
  · rw[Below.heap_alloc _ _ w.heap.size (by rw[hsz];exact hx1s),Below.heap_setCell _ _ _ _ (by show w.heap.size≠b;omega)];exact hr0
  · rw[←hsz];exact ol _ _
 generalize (x1.setCell ⟨b,0,none⟩ (.slice (some ⟨g,0,none⟩) N cap)).alloc (.cells #[.int .i64 Ac,.int .i64 Af,.slice aa An ac] 300)=Y at *
 have HK:Hid (Calls Tryz.prog 203 #[.iface 297 (.pointer (some ⟨b,0,none⟩)),.int .i64 ((0:Nat):Int)] Y fun e w'=>e = .returned (.tuple #[])/\∃M:List Grp,M.Perm ((bR L 0 N).take N)/\HP M/\bL w' b (b+1) (.slice (some ⟨g,0,none⟩) N cap) M/\Below b Y w'/\bc g Y w'):=by
  obtain⟨hY1,hY2,hY3,hY4,hY5⟩:=ae HY;obtain⟨hn,hm⟩:=ae HN;have hsy:dD Y (b+1) ((bR L 0 N).take N):=fun x hx=>hY3.syms (ae HS) x ((fJ (by omega) (by omega)).mem_iff.1 (List.mem_of_mem_take hx));exact uS b g N cap 0 _ Y hsy (by rw[List.length_take,eH];omega) (by omega) hY1 (Nat.zero_le _) (by have h1:=LM (ae H0).2;rw[hn]at h1;exact h1)
 refine(ae HK).mono ?_;rintro e x5 ⟨rfl,M,hM,hHP,hh5,hb5,hk5⟩;have HF:Hid (bL x5 b (b+1) (.slice (some ⟨g,0,none⟩) N cap) M/\Below b w x5/\aV 3 w x5/\x5.heap[w.heap.size]?=some (Obj.cells #[.int .i64 0,.int .i64 0,.slice none 0 0] 300)/\M.Perm ((bR L 0 N).take N)/\HP M):=by
  obtain⟨hY1,hY2,hY3,hY4,hY5⟩:=ae HY;exact⟨hh5,hY2.trans hb5,hY3.trans hk5.1,(hk5.2.2 _ (dm hY4) (by omega)).trans hY4,hM,hHP⟩
 have hT1:Three x5 w.heap.size _ _ _:=px (ae HF).2.2.2.1;have hT2:Three x5 x1.heap.size (.int .i64 Ac) (.int .i64 Af) (.slice aa An ac):=by
  obtain⟨hY1,hY2,hY3,hY4,hY5⟩:=ae HY;exact px ((hk5.2.2 _ (dm hY5) (by omega)).trans hY5)
 clear hM hHP hh5 hb5 hk5 HK;obtain⟨p0,p1,p2,q0,q1,q2,hps⟩:=hT1;obtain⟨r0,r1,r2,s0,s1,s2,hrs⟩:=hT2;go_wp2_with fail;obtain⟨hh1,hb1,hk1,hlen1,hav,hr0⟩:=ae HX;obtain⟨fh,fb,fk,fr,fM,fP⟩:=ae HF;obtain⟨eA,eF,eS⟩:=ae HAA;have hTt:=(((Three.set0 ⟨p0,p1,p2,q0,q1,q2,hps⟩ (.int .i64 Ac)).set1 (.int .i64 Af)).set2 (.slice aa An ac));have hTo:=((((Touch.refl (some ⟨w.heap.size,0,none⟩) x5).set (o:=0) rfl (.int .i64 Ac)).set (o:=1) rfl (.int .i64 Af)).set (o:=2) rfl (.slice aa An ac));have hbel:=ai (ai (ai fb (b:=w.heap.size) (o:=0) (Nat.le_of_lt hlt) (.int .i64 Ac)) (b:=w.heap.size) (o:=1) (Nat.le_of_lt hlt) (.int .i64 Af)) (b:=w.heap.size) (o:=2) (Nat.le_of_lt hlt) (.slice aa An ac);have hke:=fk.trans (aV.touch fr (by decide) hTo);have hhe:=((fh.setOther (k:=w.heap.size) (o:=0) (by omega) (by omega) (.int .i64 Ac)).setOther (k:=w.heap.size) (o:=1) (by omega) (by omega) (.int .i64 Af)).setOther (k:=w.heap.size) (o:=2) (by omega) (by omega) (.slice aa An ac);generalize ((x5.setCell ⟨w.heap.size,0,none⟩ (.int .i64 Ac)).setCell ⟨w.heap.size,1,none⟩ (.int .i64 Af)).setCell ⟨w.heap.size,2,none⟩ (.slice aa An ac)=Z at *
 obtain⟨t0,t1,t2,_,_,_,_⟩:=hTt;refine bodyPost_ret (v:=.agg #[.int .i64 Ac,.int .i64 Af,.slice aa An ac]) (by simp[results,Tryz.results195,go_sem,t0,t1,t2]) rfl ⟨?_,M,?_,fP,hhe,hbel,hke⟩
 · rw[eA,eF,hav]
 · have hn:=(ae HN).1;have h1:=FM (L:=L) (by omega);rw[hn]at h1;exact(fM.cons _).trans h1
theorem mz(l:List Int)(k:Nat):(av l k).length<=k:=by
 induction k with
 | zero=>simp[av]
 | succ k ih=>
  simp only[av]
  split
  · simp;omega
  · omega
set_option maxRecDepth 100000 in
theorem sT(a:Option Addr)(cap n:Nat)(l:List Int)(w:World)(hn:l.length=n)(h:bC w a l)(hm:n<=300) :
  Calls Tryz.prog 193 #[.slice a n cap] w fun e w'=>e = .returned (.pointer (some ⟨w.heap.size,0,none⟩))/\∃(L:List Grp) (va:Option Addr) (vc:Nat),bL w' w.heap.size (w.heap.size+1) (.slice va L.length vc) L/\HP L/\(L.map bare).Perm (av l n)/\dD w' (w.heap.size+1) L/\Below w.heap.size w w':=by
 have hmI:(n:Int)<=300:=by omega
 have HN:=af (And.intro hn hm);have hB0:Below w.heap.size w (w.alloc (.cells #[.slice none 0 0] 315)):=(Below.refl _ _).alloc (Nat.le_refl _) _;have hH0:bL (w.alloc (.cells #[.slice none 0 0] 315)) w.heap.size (w.heap.size+1) (.slice none 0 0) []:=⟨ol _ _,World.ownsRow_nil _ _ _ _⟩;clear hn hm;go_enter Tryz.func193,Tryz.ntmps193;go_wp2_with fail
 go_loopw [4,5,10] (fun _ _ i wr=>∃(k:Nat) (L:List Grp) (va:Option Addr) (vc:Nat),k<=n/\i = .int .i64 k/\bL wr w.heap.size (w.heap.size+1) (.slice va L.length vc) L/\HP L/\(L.map bare).Perm (av l k)/\dD wr (w.heap.size+1) L/\Below w.heap.size w wr) (fun _ _ i _=>n-(intOf i).toNat)
 case atStart=>exact⟨0,[],none,0,Nat.zero_le _,rfl,hH0,fun i _ hi=>by simp at hi,List.Perm.refl _,I2 _ _,hB0⟩
 case round=>
  obtain⟨k,L,va,vc,hk,rfl,hh,hp,hL,hs,hbel⟩:=hrel;clear hB0 hH0;by_cases hlt:k<n
  ·
   obtain⟨g,o,rfl,hg,hcc⟩:=(h.later hbel) (by rw[(ae HN).1];omega);have c0:=hcc k (by rw[(ae HN).1];exact hlt);have hlen:L.length<300:=by
    have h1:=hL.length_eq;rw[List.length_map]at h1;have h2:=mz l k;have:=(ae HN).2;omega
   have HQ:=af (And.intro hk (And.intro hh (And.intro hp (And.intro hL (And.intro hs hbel)))));clear hcc;by_cases hy:0<l.getD k 0
   ·
    have hst:=af (yd hy);generalize l.getD k 0=y at *
    have hB1:Below wr.heap.size wr (wr.alloc (.cells #[.int .i64 (k:Int)] 3)):=(Below.refl _ _).alloc (Nat.le_refl _) _;have hA:ar (wr.alloc (.cells #[.int .i64 (k:Int)] 3)) (w.heap.size+1) (.slice (some ⟨wr.heap.size,0,none⟩) 1 1) [(k:Int)]:=ar.one wr _ hh.lt _;have HLa:=af (wW w.heap.size L.length vc va L ⟨y,(k:Int),[(k:Int)],.slice (some ⟨wr.heap.size,0,none⟩) 1 1⟩ _ ((aV.below hB1).syms hs) hA rfl hlen (hh.later hB1) hp);have HB1:=af hB1;have HA:=af hA;clear hk hh hp hL hs hbel hA hB1 hlen;go_wp2_with fail;refine(ae HLa).mono ?_;rintro e x1 ⟨rfl,M,g',c',hM,hHP,hh1,hb1,hk1⟩;go_wp2;go_roundw
    case rel=>
     obtain⟨hk,hh,hp,hL,hs,hbel⟩:=ae HQ;have hlM:M.length=L.length+1:=by rw[hM.length_eq];simp
     refine⟨k+1,M,some ⟨g',0,none⟩,c',by omega,by go_num,by rw[hlM];exact hh1,hHP,?_,?_,(hbel.trans ((ae HB1).mono (Nat.le_of_lt hh.lt))).trans hb1⟩
     · rw[ae hst];refine(hM.map bare).trans ?_;rw[List.map_append];exact hL.append_right _
     · exact((hk1.syms ((aV.below (ae HB1)).syms hs)).snoc (hk1.ints (ae HA))).perm hM
    case measure=>simp[intOf];omega
   ·
    have hst:=af (KR hy);generalize l.getD k 0=y at *
    clear hk hh hp hL hs hbel hlen;go_wp2;go_roundw
    case rel=>
     obtain⟨hk,hh,hp,hL,hs,hbel⟩:=ae HQ;exact⟨k+1,L,va,vc,by omega,by go_num,hh,hp,by rw[ae hst];exact hL,hs,hbel⟩
    case measure=>simp[intOf];omega
  ·
   obtain rfl:k=n:=by omega
   clear h;go_wp2;go_ret;exact⟨rfl,L,va,vc,hh,hp,hL,hs,hbel⟩
end Go.Proofs.YtkpfkgoiaicgbaaGreatDoor
namespace Go.Proofs.YtkpfkgoiaicgbaaGreatDoor
open Go.RowKit
theorem Gq{l:List Int}{j:Nat}{L M1 M2:List Grp}(hc:∀i,i<l.length->0<=l.getD i 0/\l.getD i 0<=100000)(hn:l.length<=300)(hj:j<(av l l.length).length∨j=0)(hL:(L.map bare).Perm (ay l j).1)(hp:HP L)(h2:1<L.length)(h1:(L.getD 0 g0 :: M1).Perm L)(hp1:HP M1)(h12:(M1.getD 0 g0 :: M2).Perm M1) :
  aX (ay l j).1=(L.getD 0 g0).syms++(M1.getD 0 g0).syms /\
  (∀(M3:List Grp) (v:Value),M3.Perm (M2++[⟨(L.getD 0 g0).cnt+(M1.getD 0 g0).cnt,if (M1.getD 0 g0).fst<(L.getD 0 g0).fst then(M1.getD 0 g0).fst else(L.getD 0 g0).fst,(L.getD 0 g0).syms++(M1.getD 0 g0).syms,v⟩])->(M3.map bare).Perm (ay l (j+1)).1) /\
  0<=(L.getD 0 g0).cnt/\0<=(M1.getD 0 g0).cnt/\(L.getD 0 g0).cnt+(M1.getD 0 g0).cnt<=30000000 /\
  ((L.getD 0 g0).syms++(M1.getD 0 g0).syms).length<=300/\0<(L.getD 0 g0).syms.length/\0<(M1.getD 0 g0).syms.length/\(∀x∈(L.getD 0 g0).syms++(M1.getD 0 g0).syms,0<=x/\x<(l.length:Int)):=by
 have hM1l:M1.length+1=L.length:=by have:=h1.length_eq;simpa using this
 obtain⟨hwf,hC,hS,hlen⟩:=bG l j hj;have hMl:(ay l j).1.length=L.length:=by rw[←hL.length_eq,List.length_map]
 have hnd:=(fC l j hj).1;have hfi:=Gu l j hj;have htop:∀g∈L,aM g (L.getD 0 g0)=false:=by
  intro g hg;obtain⟨i,hi,rfl⟩:=List.getElem_of_mem hg;have:=Gs hp i hi;have e:L.getD i g0=L[i]:=by simp[List.getD,hi]
  rw[e]at this;exact this
 have htop1:∀g∈M1,aM g (M1.getD 0 g0)=false:=by
  intro g hg;obtain⟨i,hi,rfl⟩:=List.getElem_of_mem hg;have:=Gs hp1 i hi;have e:M1.getD i g0=M1[i]:=by simp[List.getD,hi]
  rw[e]at this;exact this
 obtain⟨e1,p1⟩:=uj hL h1.symm htop (by omega) hnd hfi;have hfr:oW (aw (ay l j).1):=fun g hg=>hfi g (bg _ g hg);obtain⟨e2,p2⟩:=uj p1 h12.symm htop1 (by omega) (Dk (by omega) hnd) hfr;have htwo:=Cc hwf (by omega:1<(ay l j).1.length);have ha:=hwf _ (bz (ay l j).1 (by omega));have hrl:=df (ay l j).1 (by omega);have hb:=hwf _ (bg _ _ (bz (aw (ay l j).1) (by omega)));have hst:=yb l 100000 (by omega) (fun i hi=>(hc i hi).2) l.length (Nat.le_refl _);have hsy:aX (ay l j).1=(L.getD 0 g0).syms++(M1.getD 0 g0).syms:=by
  unfold aX;rw[←e1,←e2];rfl
 rw[←e1]at ha htwo;rw[←e2]at hb htwo;refine⟨hsy,?_,ha.1,hb.1,?_,?_,ha.2.2.2.2,hb.2.2.2.2,?_⟩
 · intro M3 v hM3;have h3:=hM3.map bare;rw[List.map_append]at h3;refine h3.trans ?_;show List.Perm _ (stepG (ay l j).1);unfold stepG;rw[←e1,←e2];exact p2.append_right _
 · have h0:=htwo.1;have:(bare (L.getD 0 g0)).cnt=(L.getD 0 g0).cnt:=rfl;have:(bare (M1.getD 0 g0)).cnt=(M1.getD 0 g0).cnt:=rfl;omega
 · have h0:=htwo.2;rw[hsy]at h0;omega
 ·
  intro x hx;simp only[List.mem_append]at hx;rcases hx with hx|hx
  · exact ha.2.2.2.1 x hx
  · exact hb.2.2.2.1 x hx
end Go.Proofs.YtkpfkgoiaicgbaaGreatDoor
namespace Go.Proofs.YtkpfkgoiaicgbaaGreatDoor
open Go.RowKit Corb
def gu(l:List Int):Int:=if decide (l.length<=300)&&inC l then(us l:Nat)else -1
theorem EU{l:List Int}(h:300<l.length):gu l = -1:=by
 unfold gu;rw[decide_eq_false (by omega)];rfl
theorem EV{l:List Int}(h:inC l=false):gu l = -1:=by
 unfold gu;rw[h];simp
theorem lI{l:List Int}(h:l.length<=300)(h2:inC l=true):gu l=(us l:Nat):=by
 unfold gu;rw[decide_eq_true h,h2];rfl
set_option maxRecDepth 100000 in
theorem j6(a:Option Addr)(cap n:Nat)(l:List Int)(w:World)(hn:l.length=n)(h:bC w a l)(hm:n<=1048576) :
  Calls Tryz.prog 164 #[.slice a n cap] w fun e w'=>e = .returned (.int .i64 (gu l))/\w'=w:=by
 subst hn;have hmI:(l.length:Int)<=1048576:=by omega
 clear hm;by_cases h3:(l.length:Int)<=300
 ·
  go_enter Tryz.func164,Tryz.ntmps164;go_wp2_with fail
  go_loop [3,5,11] (fun n _ i=>∃k:Nat,k<=l.length/\i = .int .i64 k/\n = .int .i64 (us (l.take k):Nat)/\inC (l.take k)=true) (fun _ _ i=>l.length-(intOf i).toNat)
  case atStart=>exact⟨0,Nat.zero_le _,rfl,rfl,rfl⟩
  case round=>
   obtain⟨k,hk,rfl,rfl,hin⟩:=hrel;have HI:=af hin;clear hin;by_cases hlt:k<l.length
   ·
    obtain⟨g,o,rfl,hg,hc⟩:=h (by omega);have c0:=hc k hlt;have hst:=af (qk l k hlt);have hit:=af (Gv l k hlt);have hig:=af (fun hb=>Kg (l:=l) (k:=k) hlt hb);have hub:=sv (l.take k);have hub':(us (l.take k):Int)<=300:=by
     have:(l.take k).length<=l.length:=by simp;omega
     omega
    clear hc hk h hub;generalize l.getD k 0=y at *
    generalize us (l.take k)=u at *
    by_cases hb:0<=y/\y<=100000
    ·
     obtain⟨hb0,hb1⟩:=hb;have hin2:Hid (inC (l.take (k+1))=true):=by
      show _=true;rw[ae hit,ae HI,aD.2 ⟨hb0,hb1⟩];rfl
     by_cases hy:0<y
     ·
      have hst':Hid (us (l.take (k+1))=u+1):=by have:=ae hst;rw[if_pos hy]at this;exact this
      go_wp2
      go_round
      case rel=>exact⟨k+1,by omega,by go_num,by rw[ae hst'];go_num,ae hin2⟩
      case measure=>simp[intOf];omega
     ·
      have hst':Hid (us (l.take (k+1))=u):=by have:=ae hst;rw[if_neg hy]at this;exact this
      go_wp2
      go_round
      case rel=>exact⟨k+1,by omega,by go_num,by rw[ae hst'],ae hin2⟩
      case measure=>simp[intOf];omega
    ·
     have hno:Hid (gu l = -1):=EV (ae hig (by
      cases hx:inB y 0 100000
      · rfl
      · exact absurd (aD.1 hx) hb))
     by_cases hy:y<0
     · go_wp2;go_ret;exact⟨aR (ae hno).symm,rfl⟩
     ·
      have hy2:¬ y<=100000:=by omega
      go_wp2;go_ret;exact⟨aR (ae hno).symm,rfl⟩
   ·
    have hlk:Hid (l.take k=l):=List.take_of_length_le (by omega);have hin2:Hid (inC l=true):=by show inC l=true;rw[←ae hlk];exact ae HI
    clear h;go_wp2;go_ret;exact⟨aR (by rw[lI (by omega) (ae hin2),ae hlk]),rfl⟩
 · have hno:=af (EU (l:=l) (by omega));go_enter Tryz.func164,Tryz.ntmps164;clear h;go_wp2;go_ret;exact⟨aR (ae hno).symm,rfl⟩
def fF(x:Int):Int:=if x<=1 then x else 1
theorem xe(x:Int)(w:World)(h0 : -1000000<=x)(h1:x<=1000000) :
  Calls Tryz.prog 166 #[.int .i64 x] w fun e w'=>e = .returned (.int .i64 (fF x))/\w'=w:=by
 by_cases h:x<=1
 ·
  have e:Hid (fF x=x):=by show fF x=x;simp[fF,h]
  go_enter Tryz.func166,Tryz.ntmps166;go_wp2;go_ret;exact⟨aR (ae e).symm,rfl⟩
 ·
  have e:Hid (fF x=1):=by show fF x=1;simp[fF,h]
  go_enter Tryz.func166,Tryz.ntmps166;go_wp2;go_ret;exact⟨aR (ae e).symm,rfl⟩
set_option maxRecDepth 100000 in
theorem wi(a:Option Addr)(cap n:Nat)(l:List Int)(w:World)(hn:l.length=n)(h:bC w a l)(hm:n<=1048576)(hc:okC l) :
  Calls Tryz.prog 165 #[.slice a n cap,.func (.func 166) #[] #[]] w fun e w'=>∃v,e = .returned v/\ar w' w.heap.size v (l.map fF)/\Below w.heap.size w w':=by
 have hmI:(n:Int)<=1048576:=by omega
 have Hn:=af hn;have Hm:=af hm;have HC:=af hc;clear hn hm hc;obtain⟨i0,hi,hz0,hz1,hz2⟩:=info_parts Tryz.infoInt;go_enter Tryz.func165,Tryz.ntmps165;go_wp2_with fail
 go_loopw [5,7,10] (fun o _ i wr=>∃k:Nat,k<=n/\i = .int .i64 k/\ar wr w.heap.size o ((l.take k).map fF)/\Below w.heap.size w wr) (fun _ _ i _=>n-(intOf i).toNat)
 case atStart=>exact⟨0,Nat.zero_le _,rfl,World.ownsRow_nil _ _ _ _,Below.refl _ _⟩
 case round=>
  obtain⟨k,hk,rfl,hq,hbel⟩:=hrel;have hbs:=hbel.size;by_cases hlt:k<n
  ·
   obtain⟨g,o,rfl,hg,hcc⟩:=(h.later hbel) (by rw[ae Hn];omega);have c0:=hcc k (by rw[ae Hn];exact hlt);obtain⟨y0,y1⟩:=ae HC k (by rw[ae Hn];exact hlt);have hst:Hid ((l.take (k+1)).map fF=(l.take k).map fF++[fF (l.getD k 0)]):=by
    show _=_;rw[cz l k (by rw[ae Hn];exact hlt),List.map_append];rfl
   have hlk:Hid (((l.take k).map fF).length=k):=by show _=k;have:=ae Hn;simp;omega
   have Hk:=af hk;clear hcc hk h;generalize l.getD k 0=y at *
   have HP:=af (xe y wr (by omega) (by omega));generalize fF y=R at *
   go_wp2_with fail;refine(ae HP).mono ?_;rintro e x1 ⟨rfl,hx1⟩;rw[hx1];clear hx1 x1;have hlen1:Hid (((l.take k).map fF).length+1<=maxLen/\(((l.take k).map fF).length+1)*8<=140737488355328):=by
    show _/\_;rw[ae hlk];have:=ae Hm;unfold maxLen;omega
   clear HP;go_wp2_with (at_builtin;refine wpList_append_own _ rfl _ _ 154 rfl w.heap.size 3 i0 (.int .i64 0) 1 8 Tryz.underlying154 hi hz0 hz1 hz2 rfl (by decide) _ _ _ rfl (World.ownsRow.alloc hq _) ⟨wr.heap.size,0,none⟩ 1 1 [.int .i64 R] rfl rfl (fQ _ _ rfl _ _) (p6 _) (ae hlen1).1 (ae hlen1).2 (aB hbs _) ?_;intro v' x2 hown hgrow hnil;clear hnil);have hb2:=aK (v:=u5) hgrow hq (Nat.le_refl _) hbs hbel;have hq2:=ll hown;rw[←ae hst]at hq2;clear hown hgrow hq;go_wp2;go_roundw
   case rel=>exact⟨k+1,by have:=ae Hk;omega,by go_num,hq2,hb2⟩
   case measure=>simp[intOf];omega
  · have hlk2:l.take k=l:=List.take_of_length_le (by rw[ae Hn];omega);rw[hlk2]at hq;obtain⟨va,vc,rfl⟩:=hq.form;clear hlk2 h;go_wp2;go_ret;exact⟨_,rfl,hq,hbel⟩
end Go.Proofs.YtkpfkgoiaicgbaaGreatDoor
