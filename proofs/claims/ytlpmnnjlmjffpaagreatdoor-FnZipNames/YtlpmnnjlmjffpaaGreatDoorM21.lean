/- Of what the proof is made: 4 texts, one behind the other. -/
import Derived.Test.YtlpmnnjlmjffpaaGreatDoorM19
import Derived.Test.YtlpmnnjlmjffpaaGreatDoorM9
import Derived.Test.YtlpmnnjlmjffpaaGreatDoorM11
import Derived.Test.YtlpmnnjlmjffpaaGreatDoorM17
import Derived.Test.YtlpmnnjlmjffpaaGreatDoorM2
import Derived.Test.YtlpmnnjlmjffpaaGreatDoorM15
set_option linter.unusedSimpArgs false
set_option linter.unusedVariables false
namespace Go.Proofs.YtlpmnnjlmjffpaaGreatDoor
open Go.RowKit Corb
variable {D L l o:List Int}{T:List UInt8}{V k p q r sz:Nat}{i:Int}
theorem L3{f n:Nat}(b:n+f=15)(d:nx l n<=cd V p n)(h:mQ l V sz p f n=some (i,q)):q<=sz/\p<q/\0<=i/\i<(l.length:Int):=by
 induction f generalizing n with
 | zero=>simp[mQ]at h
 | succ f ih=>
  by_cases a:sz<p+n+1
  . rw[nj a]at h;cases h
  .
   by_cases h2:cd V p (n+1)<nx l (n+1)
   . rw[ov a h2]at h;simp only[a0k,a0O]at h;obtain⟨rfl,rfl⟩:=h;obtain⟨k,g,_,_,e⟩:=qd (l:=l) (n:=n) (c:=cd V p (n+1)) (by omega) (by simp only[cd];omega) h2;rw[e];omega
   . rw[mg a h2]at h;exact ih (by omega) (by omega) h
theorem fo(h:dec l V sz p=some (i,q)):q<=sz/\p<q/\0<=i/\i<(l.length:Int):=L3 rfl (a0g _) h
def rdN(V sz p k:Nat):Option (Nat×Nat):=if p+k<=sz then some (V/2 ^ p%2 ^ k,p+k)else none
theorem ck(h:p+k<=sz):rdN V sz p k=some (V/2 ^ p%2 ^ k,p+k):=a0e h
theorem eA(h:¬ p+k<=sz):rdN V sz p k=none:=a0d h
theorem bm{x:Nat}(h:rdN V sz p k=some (x,q)):q<=sz/\q=p+k/\x=V/2 ^ p%2 ^ k/\x<2 ^ k:=by
 unfold rdN at h
 split at h
 . simp only[a0k,a0O]at h;obtain⟨rfl,rfl⟩:=h;exact⟨by assumption,rfl,rfl,a0W _ (a1t k)⟩
 . cases h
def scG(V sz least group many k q:Nat):Option (Nat×Nat):=if k<many then(rdN V sz q (stF least group k).2).bind fun x=>some ((stF least group k).1+x.1,x.2)else none
def ft(V sz:Nat)(D:List Int)(k q:Nat):Option (Tk×Nat):=
 (scG V sz 3 4 28 k q).bind fun a=>(dec D V sz a.2).bind fun j=>(scG V sz 1 2 30 j.1.toNat j.2).bind fun c=>some ((0,((a.1:Nat):Int),((c.1:Nat):Int)),c.2)
def oneG(V sz:Nat)(D:List Int)(k:Int)(q:Nat):Option (Tk×Nat):=if k<256 then some ((k,0,0),q)else ft V sz D (k.toNat-257) q
theorem Dc{least group many x:Nat}(h:scG V sz least group many k q=some (x,r)):r<=sz/\q<=r:=by
 unfold scG at h
 split at h
 .
  rcases a:rdN V sz q (stF least group k).2 with _|⟨y,t⟩
  . rw[a]at h;cases h
  . rw[a]at h;simp only[a0f,a0k,a0O]at h;have:=bm a;omega
 . cases h
theorem xy{t:Tk}(h:ft V sz D k q=some (t,r)):r<=sz/\q<=r:=by
 unfold ft at h;rcases b:scG V sz 3 4 28 k q with _|⟨a,a2⟩
 . rw[b]at h;cases h
 rw[b]at h;simp only[a0f]at h;rcases h2:dec D V sz a2 with _|⟨j,j2⟩
 . rw[h2]at h;cases h
 rw[h2]at h;simp only[a0f]at h;rcases d:scG V sz 1 2 30 j.toNat j2 with _|⟨c,c2⟩
 . rw[d]at h;cases h
 rw[d]at h;simp only[a0f,a0k,a0O]at h;have e:=Dc b;have f:=fo h2;have g:=Dc d;omega
theorem rE{k:Int}{t:Tk}(h:oneG V sz D k q=some (t,r))(hq:q<=sz):r<=sz/\q<=r:=by
 unfold oneG at h
 split at h
 . simp only[a0k,a0O]at h;omega
 . exact xy h
def nS(V sz:Nat)(L D:List Int):Nat->Nat->List UInt8->Option (List UInt8×Nat)
 | 0,_,_=>none
 | f+1,p,T=>(dec L V sz p).bind fun k=>if k.1=256 then some (T,k.2)else(oneG V sz D k.1 k.2).bind fun t=>(dP T t.1).bind fun T'=>nS V sz L D f t.2 T'
def gp(V sz:Nat)(L D:List Int)(p:Nat)(T:List UInt8):Option (List UInt8×Nat):=nS V sz L D (sz+1-p) p T
theorem GT: ∀(n f p:Nat) (T:List UInt8),sz+1-p<=n->sz+1-p<=f->nS V sz L D f p T=nS V sz L D (sz+1-p) p T:=by
 intro n;induction n with
 | zero=>
  intro f p T b h2;have e:sz+1-p=0:=by omega
  rw[e];cases f with
  | zero=>rfl
  | succ f=>
   have hd:dec L V sz p=none:=by
    rcases h:dec L V sz p with _|⟨i,q⟩
    . rfl
    . have:=fo h;omega
   simp only[nS,hd,a2b]
 | succ n ih=>
  intro f p T b h2;rcases hd:dec L V sz p with _|⟨i,q⟩
  .
   cases f with
   | zero=>rw[show sz+1-p=0 by omega]
   | succ f=>
    rcases a:sz+1-p with _|m
    . simp only[nS,hd,a2b]
    . simp only[nS,hd,a2b]
  .
   have hb:=fo hd;obtain⟨f',rfl⟩:∃g,f=g+1:=⟨f-1,by omega⟩;obtain⟨m,a⟩:∃g,sz+1-p=g+1:=⟨sz-p,by omega⟩;rw[a];simp only[nS,hd,a0f]
   split
   . rfl
   .
    rcases c:oneG V sz D i q with _|⟨t,r⟩
    . rfl
    .
     simp only[a0f];have d:=rE c hb.1;rcases dP T t with _|T'
     . rfl
     . simp only[a0f];rw[ih f' r T' (by omega) (by omega),ih m r T' (by omega) (by omega)]
theorem vP(h:dec L V sz p=none):gp V sz L D p T=none:=by
 unfold gp;rcases a:sz+1-p with _|m
 . rfl
 . simp only[nS,h,a2b]
theorem tU(h:dec L V sz p=some (256,q)):gp V sz L D p T=some (T,q):=by
 have hb:=fo h;unfold gp;obtain⟨m,hm⟩:∃g,sz+1-p=g+1:=⟨sz-p,by omega⟩;rw[hm];simp only[nS,h,a0f,a0R]
theorem qf(h:dec L V sz p=some (i,q))(a:i≠256):gp V sz L D p T=(oneG V sz D i q).bind fun t=>(dP T t.1).bind fun T'=>gp V sz L D t.2 T':=by
 have hb:=fo h;unfold gp;obtain⟨m,hm⟩:∃g,sz+1-p=g+1:=⟨sz-p,by omega⟩;rw[hm];simp only[nS,h,a0f,a0d a];rcases b:oneG V sz D i q with _|⟨t,r⟩
 . rfl
 .
  simp only[a0f];have c:=rE b hb.1;rcases dP T t with _|T'
  . rfl
  . simp only[a0f];exact GT m m r T' (by omega) (by omega)
theorem Nm: ∀(f p:Nat) (T T':List UInt8) (q:Nat),nS V sz L D f p T=some (T',q)->q<=sz/\p<q/\(T.length<=300->T'.length<=300):=by
 intro f;induction f with
 | zero=>intro p T T' q h;simp[nS]at h
 | succ f ih=>
  intro p T T' q h;rcases hd:dec L V sz p with _|⟨i,r⟩
  . simp[nS,hd]at h
  .
   have hb:=fo hd;simp only[nS,hd,a0f]at h
   split at h
   . simp only[a0k,a0O]at h;obtain⟨rfl,rfl⟩:=h;exact⟨hb.1,hb.2.1,id⟩
   .
    rcases b:oneG V sz D i r with _|⟨t,u⟩
    . rw[b]at h;simp at h
    .
     rw[b]at h;simp only[a0f]at h;have e:=rE b hb.1;rcases a:dP T t with _|T2
     . rw[a]at h;simp at h
     . rw[a]at h;simp only[a0f]at h;obtain⟨c,h2,d⟩:=ih u T2 T' q h;exact⟨c,by omega,fun _=>d (oe a)⟩
theorem xm{T':List UInt8}(h:gp V sz L D p T=some (T',q)):q<=sz/\p<q/\(T.length<=300->T'.length<=300):=Nm _ _ _ _ _ h
theorem JW(h:d9 o k<o.getD k 0):d9 o (k+1)=o.getD k 0:=by simp only[d9];rw[a0e h]
theorem MI(h:¬ d9 o k<o.getD k 0):d9 o (k+1)=d9 o k:=by simp only[d9];rw[a0d h]
theorem KJ(l:List Int)(k i:Nat)(d:i<k)(c:0<l.getD i 0):∃g∈aC l k,g.fst=(i:Int):=by
 induction k with
 | zero=>omega
 | succ k ih=>
  by_cases e:i=k
  . subst e;refine⟨⟨l.getD i 0,(i:Int),[(i:Int)],.slice none 0 0⟩,?_,rfl⟩;rw[Ab c];simp
  .
   obtain⟨g,a,b⟩:=ih (by omega);refine⟨g,?_,b⟩;simp only[aC]
   split
   . simp[a]
   . exact a
theorem KL(l:List Int)(k:Nat):∀g∈aC l k,∃i:Nat,g.fst=(i:Int)/\i<k/\0<l.getD i 0:=by
 induction k with
 | zero=>intro g a;simp[aC]at a
 | succ k ih=>
  intro g a;simp only[aC]at a
  split at a
  .
   rename_i hp;simp only[a1b,a09]at a;rcases a with a|rfl
   . obtain⟨i,b,h2,c⟩:=ih g a;exact⟨i,b,by omega,c⟩
   . exact⟨k,rfl,by omega,hp⟩
  . obtain⟨i,b,h2,c⟩:=ih g a;exact⟨i,b,by omega,c⟩
theorem Mr(m:okC l)(a:(aC l l.length).length=1):da l=l.map Gq:=by
 unfold da;rw[a0e a];obtain⟨x,hx⟩:∃x,aC l l.length=[x]:=by
  cases j:aC l l.length with
  | nil=>rw[j]at a;simp at a
  | cons x t=>rw[j]at a;simp at a;exact⟨x,by rw[a]⟩
 obtain⟨q,hq,p,h⟩:=KL l l.length x (by rw[hx];simp);rw[hx];simp only[List.getD_cons_zero];rw[hq,a0l];apply a2H
 . simp
 .
  intro i h2 k;have f:i<l.length:=by simpa using k
  have e:l.getD i 0=l[i]:=by simp[List.getD,f]
  have b:=m i f;rw[List.getElem_set,List.getElem_map,List.getElem_replicate];by_cases c:q=i
  .
   subst c;rw[a0e rfl];rw[e]at h b;unfold Gq
   split<;>omega
  .
   rw[a0d c];have r:¬ 0<l.getD i 0:=by
    intro o;obtain⟨g,d,n⟩:=KJ l l.length i f o;rw[hx]at d;simp only[a09]at d;subst d;rw[hq]at n;omega
   rw[e]at r b;unfold Gq
   split<;>omega
def sW(o:List Int)(i:Nat):Nat:=(o.getD i 0).toNat
theorem JS(l:List Int)(i:Nat)(h:i<l.length):l.getD i 0∈l:=by simp[List.getD,h]
theorem uW(h2:2<=(aC l l.length).length) :
  (∀i,i<l.length->0<=(da l).getD i 0/\(da l).getD i 0<=(((aC l l.length).length-1:Nat):Int)) /\
  (∀i,i<l.length->(0<(da l).getD i 0<->0<l.getD i 0)) /\
  (∀D,(aC l l.length).length<=D->krR l (sW (da l)) D l.length=2 ^ D) /\
  ox l (da l) l.length=qp ((aC l l.length).length-1) (aC l l.length):=by
 obtain⟨U,hU⟩:∃U,(aC l l.length).length=U+2:=⟨(aC l l.length).length-2,by omega⟩;have A:da l=(aG l (U+1)).2:=by
  unfold da;rw[a0d (by omega),hU];rfl
 have k:U+1<(aC l l.length).length∨U+1=0:=.inl (by omega);have m:=kE l (U+1) k;have b:(aG l (U+1)).1.length=1:=by have:=(dp l (U+1) k).2.2.2;omega
 have B:(aG l U).1.length=2:=by have:=(dp l U (by omega)).2.2.2;omega
 obtain⟨g,hg⟩:∃g,(aG l (U+1)).1=[g]:=by
  cases v:(aG l (U+1)).1 with
  | nil=>rw[v]at b;simp at b
  | cons x t=>rw[v]at b;simp at b;exact⟨x,by rw[b]⟩
 have a:=mq l (U+1) k;have p:(g.syms).Perm (bF (aC l l.length)):=by
  rw[hg]at a
  simpa[bF]using a
 rw[A];refine⟨?_,?_,?_,?_⟩
 .
  intro i h;have:=m i (by rw[ej];exact h);refine⟨this.1,?_⟩;have e:(((aC l l.length).length-1:Nat):Int)=((U+1:Nat):Int):=by rw[hU];omega
  rw[e];exact this.2
 .
  intro i h;constructor
  .
   intro u;apply Classical.byContradiction;intro C;have H:=uV l i h (fun q=>by
    obtain⟨j,d,s,w⟩:=(yo l l.length (i:Int)).1 q;have:i=j:=by omega
    subst this;exact C w) (U+1) k
   omega
  .
   intro u;have q:(i:Int)∈bF (aC l l.length):=(yo l l.length (i:Int)).2 ⟨i,rfl,h,u⟩;have f:1<(aG l U).1.length:=by omega
   have n:=iB l U (by omega);have c:=ja _ f;have G:=dE (aG l U).1 (by omega);have E:=dE (ar (aG l U).1) (by omega);have o:ar (ar (aG l U).1)=[]:=a1R (by omega);rw[o]at c;have r:(i:Int)∈bf (aG l U).1:=by
    have d:=(mq l U (by omega)).mem_iff.2 q;have s:=c.mem_iff.2 d;simpa[bF]using s
   have hb:=ly (aG l U).2 (bf (aG l U).1) i (i7 f n.1).1 (fun y F=>(n.2 y (c.mem_iff.1 (by simp[F]))).1) (by rw[ej];exact h);rw[a0e r]at hb;have hd:=(kE l U (by omega)) i (by rw[ej];exact h);show 0<(bump (aG l U).2 (bf (aG l U).1)).getD i 0;omega
 . intro D z;have d:=Mq l D z (U+1) k g (by rw[hg];simp);rw[←uh,←d];exact(Gp _ p).symm
 .
  have d:=Mp l (U+1) k;have e:(aC l l.length).length-1-(U+1)=0:=by omega
  rw[e]at d;simp only[qp,Int.add_zero]at d;exact d
theorem Jw{len:Nat->Nat}{D E n:Nat}(b:E<=D)(h:∀i,i<n->0<l.getD i 0->len i<=E):krR l len D n=2 ^ (D-E)*krR l len E n:=by
 induction n with
 | zero=>rfl
 | succ n ih=>
  simp only[krR];rw[ih (fun i c=>h i (by omega)),a2q];by_cases a:0<l.getD n 0
  .
   rw[a0e a,a0e a];have:=h n (by omega) a;rw[←a0P]
   congr 2
   omega
  . rw[a0d a,a0d a];rfl
theorem Jx{E:Nat}(h2:2<=(aC l l.length).length)(h:∀i,i<l.length->(da l).getD i 0<=(E:Int)):krR l (sW (da l)) E l.length=2 ^ E:=by
 obtain⟨e,_,d,_⟩:=uW h2;have b:∀i,i<l.length->0<l.getD i 0->sW (da l) i<=E:=by
  intro i c _;have:=h i c;unfold sW;omega
 have a:=Jw (D:=E+(aC l l.length).length) (Nat.le_add_right _ _) b;rw[d _ (Nat.le_add_left _ _),a1C,a0P,a1q]at a;exact(Nat.eq_of_mul_eq_mul_left (Nat.pow_pos (by omega)) a).symm
theorem Mt(e:o.length=l.length)(h:∀i,i<l.length->(0<o.getD i 0<->0<l.getD i 0))(k:Nat)(d:k<=l.length):kr (o.take k)=krR l (sW o) 15 k/\us (o.take k)=(aC l k).length:=by
 induction k with
 | zero=>exact⟨rfl,rfl⟩
 | succ k ih=>
  obtain⟨c,h2⟩:=ih (by omega);rw[wQ o k (by omega),rK o k (by omega),c,h2];simp only[krR];have b:=h k (by omega);by_cases a:0<l.getD k 0
  .
   rw[a0e a,a0e (b.2 a),iE a];refine⟨?_,by simp⟩;unfold krN sW p2;rw[a0e (b.2 a)]
   congr 2
   have:=b.2 a;omega
  . rw[a0d a,a0d (fun x=>a (b.1 x)),lQ a];refine⟨?_,rfl⟩;unfold krN;rw[a0d (fun x=>a (b.1 x))]
theorem AL(c:o.length=l.length)(j:l.length<=300)(h:∀i,i<l.length->(0<o.getD i 0<->0<l.getD i 0))(b:∀i,i<l.length->0<=o.getD i 0/\o.getD i 0<=15)(a:krR l (sW o) 15 l.length=32768∨((aC l l.length).length=1/\krR l (sW o) 15 l.length=16384)):av o=true:=by
 obtain⟨d,h2⟩:=Mt c h l.length (a0a _);rw[←c,a1v,c]at d h2;unfold av kV;simp only[a0h,a1B,a0o];refine⟨⟨?_,by omega⟩,?_⟩
 .
  unfold inL;rw[a05];intro x g;obtain⟨i,f,rfl⟩:=a2k g;have:=b i (by omega);have e:o.getD i 0=o[i]:=by simp[List.getD,f]
  rw[e]at this;exact aI.2 this
 .
  rw[d,h2];rcases a with a|a
  . exact .inl a
  . exact .inr a
theorem MH(o:List Int)(k i:Nat)(a:i<k):o.getD i 0<=d9 o k:=by
 induction k with
 | zero=>omega
 | succ k ih=>
  by_cases h:d9 o k<o.getD k 0
  .
   rw[JW h];by_cases e:i=k
   . subst e;exact a22 _
   . have:=ih (by omega);omega
  .
   rw[MI h];by_cases e:i=k
   . subst e;omega
   . exact ih (by omega)
theorem Fq(m:Nat):∀(f:Nat) (l:List Int),okC l->1<=(aC l l.length).length->(aC l l.length).length<=p2 m->mS l<=f ->
  ∃c:List Int,c.length=l.length/\okC c/\(∀i,i<l.length->(0<c.getD i 0<->0<l.getD i 0))/\wE ((m:Int)+1) f l=da c/\(∀i,i<l.length->(da c).getD i 0<=(m:Int)+1)/\(aC c c.length).length=(aC l l.length).length:=by
 intro f;induction f with
 | zero=>
  intro l e k _ v;exfalso;obtain⟨g,u⟩:∃g,g∈aC l l.length:=by
   cases b:aC l l.length with
   | nil=>rw[b]at k;simp at k
   | cons x t=>exact⟨x,by simp⟩
  obtain⟨_,i,_,d,q,_⟩:=oT l l.length g u;have:∀(a:List Int) (x:Int),x∈a->0<x->0<mS a:=by
   intro a x j q;induction a with
   | nil=>cases j
   | cons y a ih=>
    simp only[mS,a0E,a0N]at ih ⊢;simp only[a1a]at j;rcases j with rfl|j
    . omega
    . have:=ih j;omega
  have:=this l (l.getD i 0) (JS l i d) q;omega
 | succ f ih=>
  intro l e k p v;cases h:fits (da l) ((m:Int)+1)
  .
   have hex:=zv p h;have r:=(Al l (Eo e)).2 hex;have b:=vC l (fun i d=>(e i d).1) l.length (a0a _);obtain⟨c,c1,c2,c3,c4,n,o⟩:=ih (cx l) (zy e) (by rw[gw,b];exact k) (by rw[gw,b];exact p) (by omega);rw[gw]at c1 c3 n o;refine⟨c,c1,c2,?_,?_,n,by rw[o,b]⟩
   . intro i d;rw[c3 i d,pC l i d];unfold jr;have:=(e i d).1;omega
   . simp only[wE];rw[h];exact c4
  .
   refine⟨l,rfl,e,fun i _=>Iff.rfl,?_,?_,rfl⟩
   . simp only[wE];rw[h];rfl
   . intro i d;unfold fits at h;have s:=a2X h;rw[iP]at s;have:=MH (da l) l.length i d;omega
theorem vr{c:List Int}(d:okC c)(g:(aC c c.length).length=1)(i:Nat)(b:i<c.length):(da c).getD i 0=if 0<c.getD i 0 then 1 else 0:=by
 rw[Mr d g];have e:(c.map Gq).getD i 0=Gq c[i]:=by simp[List.getD,b]
 have e2:c.getD i 0=c[i]:=by simp[List.getD,b]
 have a:=d i b;rw[e2]at a ⊢;rw[e];unfold Gq;by_cases f:0<c[i]
 . rw[a0e f];split<;>omega
 . rw[a0d f];split<;>omega
theorem Ov{c:List Int}(d:okC c)(k:Nat)(f:k<=c.length)(b:(aC c c.length).length=1):krR c (sW (da c)) 15 k=(aC c k).length*16384:=by
 induction k with
 | zero=>simp[krR,aC]
 | succ k ih=>
  simp only[krR];rw[ih (by omega)];have h:=vr d b k (by omega);by_cases a:0<c.getD k 0
  .
   rw[a0e a,iE a];have e:sW (da c) k=1:=by unfold sW;rw[h,a0e a];rfl
   have e2:(2:Nat) ^ (15-1)=16384:=by decide
   rw[e,e2,a0m,a1z,a1y,a2I]
  . rw[a0d a,lQ a,a1l]
theorem s9{m:Nat}(p:okC l)(s:l.length<=300)(n:1<=(aC l l.length).length)(o:(aC l l.length).length<=p2 m)(t:m<=14) :
  (fR ((m:Int)+1) l).length=l.length/\av (fR ((m:Int)+1) l)=true/\∀i,i<l.length->0<=(fR ((m:Int)+1) l).getD i 0/\(fR ((m:Int)+1) l).getD i 0<=(m:Int)+1/\(0<(fR ((m:Int)+1) l).getD i 0<->0<l.getD i 0):=by
 obtain⟨c,c1,c2,c3,c4,j,r⟩:=Fq m (mS l) l p n o (a0a _);have e:fR ((m:Int)+1) l=da c:=c4;rw[e];by_cases b:(aC c c.length).length=1
 .
  have q:=vr c2 b;have d:∀i,i<l.length->0<=(da c).getD i 0/\(da c).getD i 0<=1/\(0<(da c).getD i 0<->0<l.getD i 0):=by
   intro i a;have h:=q i (by omega);have k:=c3 i a;by_cases g:0<c.getD i 0
   . rw[a0e g]at h;rw[h];exact⟨by omega,by omega,⟨fun _=>k.1 g,fun _=>by omega⟩⟩
   . rw[a0d g]at h;rw[h];exact⟨by omega,by omega,⟨fun x=>by omega,fun x=>absurd (k.2 x) g⟩⟩
  refine⟨by rw[iP,c1],?_,fun i a=>⟨(d i a).1,j i a,(d i a).2.2⟩⟩;refine AL (l:=c) (iP c) (by omega) ?_ ?_ (.inr ⟨b,by rw[Ov c2 _ (a0a _) b,b]⟩)
  . intro i a;exact(d i (by omega)).2.2.trans (c3 i (by omega)).symm
  . intro i a;have:=d i (by omega);exact⟨this.1,by omega⟩
 .
  have h2:2<=(aC c c.length).length:=by omega
  obtain⟨f0,f1,_,_⟩:=uW h2;refine⟨by rw[iP,c1],?_,fun i a=>⟨(f0 i (by omega)).1,j i a,(f1 i (by omega)).trans (c3 i a)⟩⟩;have f:∀i,i<c.length->(da c).getD i 0<=((15:Nat):Int):=fun i a=>by have:=j i (by omega);omega
  refine AL (l:=c) (iP c) (by omega) f1 (fun i a=>⟨(f0 i a).1,f i a⟩) (.inl (Jx h2 f))
end Go.Proofs.YtlpmnnjlmjffpaaGreatDoor
