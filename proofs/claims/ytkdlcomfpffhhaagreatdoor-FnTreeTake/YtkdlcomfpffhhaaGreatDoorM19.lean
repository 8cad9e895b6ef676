/- Of what the proof is made: 4 texts, one behind the other. -/
import Derived.Test.YtkdlcomfpffhhaaGreatDoorM17
import Derived.Test.YtkdlcomfpffhhaaGreatDoorM8
import Derived.Test.YtkdlcomfpffhhaaGreatDoorM10
import Derived.Test.YtkdlcomfpffhhaaGreatDoorM15
import Derived.Test.YtkdlcomfpffhhaaGreatDoorM2
import Derived.Test.YtkdlcomfpffhhaaGreatDoorM13
set_option linter.unusedSimpArgs false
set_option linter.unusedVariables false
namespace Go.Proofs.YtkdlcomfpffhhaaGreatDoor
open Go.RowKit Corb
variable {D L l o:List Int}{T:List UInt8}{V k p q r sz:Nat}{i:Int}
theorem KL{f n:Nat}(b:n+f=15)(d:nx l n<=cd V p n)(h:mx l V sz p f n=some (i,q)):q<=sz/\p<q/\0<=i/\i<(l.length:Int):=by
 induction f generalizing n with
 | zero=>simp[mx]at h
 | succ f ih=>
  by_cases a:sz<p+n+1
  . rw[my a]at h;cases h
  .
   by_cases h2:cd V p (n+1)<nx l (n+1)
   . rw[rp a h2]at h;simp only[a0m,a0X]at h;obtain⟨rfl,rfl⟩:=h;obtain⟨k,g,_,_,e⟩:=pw (l:=l) (n:=n) (c:=cd V p (n+1)) (by omega) (by simp only[cd];omega) h2;rw[e];omega
   . rw[oB a h2]at h;exact ih (by omega) (by omega) h
theorem eH(h:dec l V sz p=some (i,q)):q<=sz/\p<q/\0<=i/\i<(l.length:Int):=KL rfl (a0h _) h
def rdN(V sz p k:Nat):Option (Nat×Nat):=if p+k<=sz then some (V/2 ^ p%2 ^ k,p+k)else none
theorem ca(h:p+k<=sz):rdN V sz p k=some (V/2 ^ p%2 ^ k,p+k):=a0e h
theorem dZ(h:¬ p+k<=sz):rdN V sz p k=none:=a0d h
theorem bh{x:Nat}(h:rdN V sz p k=some (x,q)):q<=sz/\q=p+k/\x=V/2 ^ p%2 ^ k/\x<2 ^ k:=by
 unfold rdN at h
 split at h
 . simp only[a0m,a0X]at h;obtain⟨rfl,rfl⟩:=h;exact⟨by assumption,rfl,rfl,a05 _ (a1D k)⟩
 . cases h
def scG(V sz least group many k q:Nat):Option (Nat×Nat):=if k<many then(rdN V sz q (stF least group k).2).bind fun x=>some ((stF least group k).1+x.1,x.2)else none
def fi(V sz:Nat)(D:List Int)(k q:Nat):Option (Tk×Nat):=
 (scG V sz 3 4 28 k q).bind fun a=>(dec D V sz a.2).bind fun j=>(scG V sz 1 2 30 j.1.toNat j.2).bind fun c=>some ((0,((a.1:Nat):Int),((c.1:Nat):Int)),c.2)
def oneG(V sz:Nat)(D:List Int)(k:Int)(q:Nat):Option (Tk×Nat):=if k<256 then some ((k,0,0),q)else fi V sz D (k.toNat-257) q
theorem BI{least group many x:Nat}(h:scG V sz least group many k q=some (x,r)):r<=sz/\q<=r:=by
 unfold scG at h
 split at h
 .
  rcases a:rdN V sz q (stF least group k).2 with _|⟨y,t⟩
  . rw[a]at h;cases h
  . rw[a]at h;simp only[a0g,a0m,a0X]at h;have:=bh a;omega
 . cases h
theorem wN{t:Tk}(h:fi V sz D k q=some (t,r)):r<=sz/\q<=r:=by
 unfold fi at h;rcases b:scG V sz 3 4 28 k q with _|⟨a,a2⟩
 . rw[b]at h;cases h
 rw[b]at h;simp only[a0g]at h;rcases h2:dec D V sz a2 with _|⟨j,j2⟩
 . rw[h2]at h;cases h
 rw[h2]at h;simp only[a0g]at h;rcases d:scG V sz 1 2 30 j.toNat j2 with _|⟨c,c2⟩
 . rw[d]at h;cases h
 rw[d]at h;simp only[a0g,a0m,a0X]at h;have e:=BI b;have f:=eH h2;have g:=BI d;omega
theorem qP{k:Int}{t:Tk}(h:oneG V sz D k q=some (t,r))(hq:q<=sz):r<=sz/\q<=r:=by
 unfold oneG at h
 split at h
 . simp only[a0m,a0X]at h;omega
 . exact wN h
def nf(V sz:Nat)(L D:List Int):Nat->Nat->List UInt8->Option (List UInt8×Nat)
 | 0,_,_=>none
 | f+1,p,T=>(dec L V sz p).bind fun k=>if k.1=256 then some (T,k.2)else(oneG V sz D k.1 k.2).bind fun t=>(dT T t.1).bind fun T'=>nf V sz L D f t.2 T'
def gx(V sz:Nat)(L D:List Int)(p:Nat)(T:List UInt8):Option (List UInt8×Nat):=nf V sz L D (sz+1-p) p T
theorem F4: ∀(n f p:Nat) (T:List UInt8),sz+1-p<=n->sz+1-p<=f->nf V sz L D f p T=nf V sz L D (sz+1-p) p T:=by
 intro n;induction n with
 | zero=>
  intro f p T b h2;have e:sz+1-p=0:=by omega
  rw[e];cases f with
  | zero=>rfl
  | succ f=>
   have hd:dec L V sz p=none:=by
    rcases h:dec L V sz p with _|⟨i,q⟩
    . rfl
    . have:=eH h;omega
   simp only[nf,hd,a2e]
 | succ n ih=>
  intro f p T b h2;rcases hd:dec L V sz p with _|⟨i,q⟩
  .
   cases f with
   | zero=>rw[show sz+1-p=0 by omega]
   | succ f=>
    rcases a:sz+1-p with _|m
    . simp only[nf,hd,a2e]
    . simp only[nf,hd,a2e]
  .
   have hb:=eH hd;obtain⟨f',rfl⟩:∃g,f=g+1:=⟨f-1,by omega⟩;obtain⟨m,a⟩:∃g,sz+1-p=g+1:=⟨sz-p,by omega⟩;rw[a];simp only[nf,hd,a0g]
   split
   . rfl
   .
    rcases c:oneG V sz D i q with _|⟨t,r⟩
    . rfl
    .
     simp only[a0g];have d:=qP c hb.1;rcases dT T t with _|T'
     . rfl
     . simp only[a0g];rw[ih f' r T' (by omega) (by omega),ih m r T' (by omega) (by omega)]
theorem vg(h:dec L V sz p=none):gx V sz L D p T=none:=by
 unfold gx;rcases a:sz+1-p with _|m
 . rfl
 . simp only[nf,h,a2e]
theorem zB(h:dec L V sz p=some (256,q)):gx V sz L D p T=some (T,q):=by
 have hb:=eH h;unfold gx;obtain⟨m,hm⟩:∃g,sz+1-p=g+1:=⟨sz-p,by omega⟩;rw[hm];simp only[nf,h,a0g,a09]
theorem vh(h:dec L V sz p=some (i,q))(a:i≠256):gx V sz L D p T=(oneG V sz D i q).bind fun t=>(dT T t.1).bind fun T'=>gx V sz L D t.2 T':=by
 have hb:=eH h;unfold gx;obtain⟨m,hm⟩:∃g,sz+1-p=g+1:=⟨sz-p,by omega⟩;rw[hm];simp only[nf,h,a0g,a0d a];rcases b:oneG V sz D i q with _|⟨t,r⟩
 . rfl
 .
  simp only[a0g];have c:=qP b hb.1;rcases dT T t with _|T'
  . rfl
  . simp only[a0g];exact F4 m m r T' (by omega) (by omega)
theorem Mh: ∀(f p:Nat) (T T':List UInt8) (q:Nat),nf V sz L D f p T=some (T',q)->q<=sz/\p<q/\(T.length<=300->T'.length<=300):=by
 intro f;induction f with
 | zero=>intro p T T' q h;simp[nf]at h
 | succ f ih=>
  intro p T T' q h;rcases hd:dec L V sz p with _|⟨i,r⟩
  . simp[nf,hd]at h
  .
   have hb:=eH hd;simp only[nf,hd,a0g]at h
   split at h
   . simp only[a0m,a0X]at h;obtain⟨rfl,rfl⟩:=h;exact⟨hb.1,hb.2.1,id⟩
   .
    rcases b:oneG V sz D i r with _|⟨t,u⟩
    . rw[b]at h;simp at h
    .
     rw[b]at h;simp only[a0g]at h;have e:=qP b hb.1;rcases a:dT T t with _|T2
     . rw[a]at h;simp at h
     . rw[a]at h;simp only[a0g]at h;obtain⟨c,h2,d⟩:=ih u T2 T' q h;exact⟨c,by omega,fun _=>d (np a)⟩
theorem wE{T':List UInt8}(h:gx V sz L D p T=some (T',q)):q<=sz/\p<q/\(T.length<=300->T'.length<=300):=Mh _ _ _ _ _ h
theorem I3(h:dO o k<o.getD k 0):dO o (k+1)=o.getD k 0:=by simp only[dO];rw[a0e h]
theorem Lx(h:¬ dO o k<o.getD k 0):dO o (k+1)=dO o k:=by simp only[dO];rw[a0d h]
theorem Jz(l:List Int)(k i:Nat)(d:i<k)(c:0<l.getD i 0):∃g∈aC l k,g.fst=(i:Int):=by
 induction k with
 | zero=>omega
 | succ k ih=>
  by_cases e:i=k
  . subst e;refine⟨⟨l.getD i 0,(i:Int),[(i:Int)],.slice none 0 0⟩,?_,rfl⟩;rw[zf c];simp
  .
   obtain⟨g,a,b⟩:=ih (by omega);refine⟨g,?_,b⟩;simp only[aC]
   split
   . simp[a]
   . exact a
theorem JB(l:List Int)(k:Nat):∀g∈aC l k,∃i:Nat,g.fst=(i:Int)/\i<k/\0<l.getD i 0:=by
 induction k with
 | zero=>intro g a;simp[aC]at a
 | succ k ih=>
  intro g a;simp only[aC]at a
  split at a
  .
   rename_i hp;simp only[a1j,a1g]at a;rcases a with a|rfl
   . obtain⟨i,b,h2,c⟩:=ih g a;exact⟨i,b,by omega,c⟩
   . exact⟨k,rfl,by omega,hp⟩
  . obtain⟨i,b,h2,c⟩:=ih g a;exact⟨i,b,by omega,c⟩
theorem Lf(m:okC l)(a:(aC l l.length).length=1):cB l=l.map Fs:=by
 unfold cB;rw[a0e a];obtain⟨x,hx⟩:∃x,aC l l.length=[x]:=by
  cases j:aC l l.length with
  | nil=>rw[j]at a;simp at a
  | cons x t=>rw[j]at a;simp at a;exact⟨x,by rw[a]⟩
 obtain⟨q,hq,p,h⟩:=JB l l.length x (by rw[hx];simp);rw[hx];simp only[a2I];rw[hq,a0x];apply a3a
 . simp
 .
  intro i h2 k;have f:i<l.length:=by simpa using k
  have e:l.getD i 0=l[i]:=by simp[List.getD,f]
  have b:=m i f;rw[List.getElem_set,List.getElem_map,List.getElem_replicate];by_cases c:q=i
  .
   subst c;rw[a0e rfl];rw[e]at h b;unfold Fs
   split<;>omega
  .
   rw[a0d c];have r:¬ 0<l.getD i 0:=by
    intro o;obtain⟨g,d,n⟩:=Jz l l.length i f o;rw[hx]at d;simp only[a1g]at d;subst d;rw[hq]at n;omega
   rw[e]at r b;unfold Fs
   split<;>omega
def rZ(o:List Int)(i:Nat):Nat:=(o.getD i 0).toNat
theorem I0(l:List Int)(i:Nat)(h:i<l.length):l.getD i 0∈l:=by simp[List.getD,h]
theorem uu(h2:2<=(aC l l.length).length) :
  (∀i,i<l.length->0<=(cB l).getD i 0/\(cB l).getD i 0<=(((aC l l.length).length-1:Nat):Int)) /\
  (∀i,i<l.length->(0<(cB l).getD i 0<->0<l.getD i 0)) /\
  (∀D,(aC l l.length).length<=D->krR l (rZ (cB l)) D l.length=2 ^ D) /\
  nE l (cB l) l.length=pL ((aC l l.length).length-1) (aC l l.length):=by
 obtain⟨U,hU⟩:∃U,(aC l l.length).length=U+2:=⟨(aC l l.length).length-2,by omega⟩;have A:cB l=(aF l (U+1)).2:=by
  unfold cB;rw[a0d (by omega),hU];rfl
 have k:U+1<(aC l l.length).length∨U+1=0:=.inl (by omega);have m:=jN l (U+1) k;have b:(aF l (U+1)).1.length=1:=by have:=(cX l (U+1) k).2.2.2;omega
 have B:(aF l U).1.length=2:=by have:=(cX l U (by omega)).2.2.2;omega
 obtain⟨g,hg⟩:∃g,(aF l (U+1)).1=[g]:=by
  cases v:(aF l (U+1)).1 with
  | nil=>rw[v]at b;simp at b
  | cons x t=>rw[v]at b;simp at b;exact⟨x,by rw[b]⟩
 have a:=lz l (U+1) k;have p:(g.syms).Perm (bq (aC l l.length)):=by
  rw[hg]at a
  simpa[bq]using a
 rw[A];refine⟨?_,?_,?_,?_⟩
 .
  intro i h;have:=m i (by rw[dU];exact h);refine⟨this.1,?_⟩;have e:(((aC l l.length).length-1:Nat):Int)=((U+1:Nat):Int):=by rw[hU];omega
  rw[e];exact this.2
 .
  intro i h;constructor
  .
   intro u;apply Classical.byContradiction;intro C;have H:=ut l i h (fun q=>by
    obtain⟨j,d,s,w⟩:=(xA l l.length (i:Int)).1 q;have:i=j:=by omega
    subst this;exact C w) (U+1) k
   omega
  .
   intro u;have q:(i:Int)∈bq (aC l l.length):=(xA l l.length (i:Int)).2 ⟨i,rfl,h,u⟩;have f:1<(aF l U).1.length:=by omega
   have n:=gZ l U (by omega);have c:=iE _ f;have G:=dj (aF l U).1 (by omega);have E:=dj (au (aF l U).1) (by omega);have o:au (au (aF l U).1)=[]:=a1P (by omega);rw[o]at c;have r:(i:Int)∈aX (aF l U).1:=by
    have d:=(lz l U (by omega)).mem_iff.2 q;have s:=c.mem_iff.2 d;simpa[bq]using s
   have hb:=kC (aF l U).2 (aX (aF l U).1) i (iD f n.1).1 (fun y F=>(n.2 y (c.mem_iff.1 (by simp[F]))).1) (by rw[dU];exact h);rw[a0e r]at hb;have hd:=(jN l U (by omega)) i (by rw[dU];exact h);show 0<(bump (aF l U).2 (aX (aF l U).1)).getD i 0;omega
 . intro D z;have d:=Le l D z (U+1) k g (by rw[hg];simp);rw[←tD,←d];exact(Fq _ p).symm
 .
  have d:=Ld l (U+1) k;have e:(aC l l.length).length-1-(U+1)=0:=by omega
  rw[e]at d;simp only[pL,Int.add_zero]at d;exact d
theorem Ix{len:Nat->Nat}{D E n:Nat}(b:E<=D)(h:∀i,i<n->0<l.getD i 0->len i<=E):krR l len D n=2 ^ (D-E)*krR l len E n:=by
 induction n with
 | zero=>rfl
 | succ n ih=>
  simp only[krR];rw[ih (fun i c=>h i (by omega)),a2w];by_cases a:0<l.getD n 0
  .
   rw[a0e a,a0e a];have:=h n (by omega) a;rw[←a07]
   congr 2
   omega
  . rw[a0d a,a0d a];rfl
theorem Iy{E:Nat}(h2:2<=(aC l l.length).length)(h:∀i,i<l.length->(cB l).getD i 0<=(E:Int)):krR l (rZ (cB l)) E l.length=2 ^ E:=by
 obtain⟨e,_,d,_⟩:=uu h2;have b:∀i,i<l.length->0<l.getD i 0->rZ (cB l) i<=E:=by
  intro i c _;have:=h i c;unfold rZ;omega
 have a:=Ix (D:=E+(aC l l.length).length) (Nat.le_add_right _ _) b;rw[d _ (Nat.le_add_left _ _),a2o,a07,a1E]at a;exact(Nat.eq_of_mul_eq_mul_left (Nat.pow_pos (by omega)) a).symm
theorem Li(e:o.length=l.length)(h:∀i,i<l.length->(0<o.getD i 0<->0<l.getD i 0))(k:Nat)(d:k<=l.length):kr (o.take k)=krR l (rZ o) 15 k/\us (o.take k)=(aC l k).length:=by
 induction k with
 | zero=>exact⟨rfl,rfl⟩
 | succ k ih=>
  obtain⟨c,h2⟩:=ih (by omega);rw[vZ o k (by omega),qT o k (by omega),c,h2];simp only[krR];have b:=h k (by omega);by_cases a:0<l.getD k 0
  .
   rw[a0e a,a0e (b.2 a),ib a];refine⟨?_,by simp⟩;unfold krN rZ p2;rw[a0e (b.2 a)]
   congr 2
   have:=b.2 a;omega
  . rw[a0d a,a0d (fun x=>a (b.1 x)),kY a];refine⟨?_,rfl⟩;unfold krN;rw[a0d (fun x=>a (b.1 x))]
theorem zS(c:o.length=l.length)(j:l.length<=300)(h:∀i,i<l.length->(0<o.getD i 0<->0<l.getD i 0))(b:∀i,i<l.length->0<=o.getD i 0/\o.getD i 0<=15)(a:krR l (rZ o) 15 l.length=32768∨((aC l l.length).length=1/\krR l (rZ o) 15 l.length=16384)):ay o=true:=by
 obtain⟨d,h2⟩:=Li c h l.length (a0a _);rw[←c,List.take_length,c]at d h2;unfold ay kc;simp only[a0n,a1U,a0E];refine⟨⟨?_,by omega⟩,?_⟩
 .
  unfold inL;rw[a06];intro x g;obtain⟨i,f,rfl⟩:=a2b g;have:=b i (by omega);have e:o.getD i 0=o[i]:=by simp[List.getD,f]
  rw[e]at this;exact aG.2 this
 .
  rw[d,h2];rcases a with a|a
  . exact .inl a
  . exact .inr a
theorem Lw(o:List Int)(k i:Nat)(a:i<k):o.getD i 0<=dO o k:=by
 induction k with
 | zero=>omega
 | succ k ih=>
  by_cases h:dO o k<o.getD k 0
  .
   rw[I3 h];by_cases e:i=k
   . subst e;exact a26 _
   . have:=ih (by omega);omega
  .
   rw[Lx h];by_cases e:i=k
   . subst e;omega
   . exact ih (by omega)
theorem Ej(m:Nat):∀(f:Nat) (l:List Int),okC l->1<=(aC l l.length).length->(aC l l.length).length<=p2 m->lY l<=f ->
  ∃c:List Int,c.length=l.length/\okC c/\(∀i,i<l.length->(0<c.getD i 0<->0<l.getD i 0))/\vO ((m:Int)+1) f l=cB c/\(∀i,i<l.length->(cB c).getD i 0<=(m:Int)+1)/\(aC c c.length).length=(aC l l.length).length:=by
 intro f;induction f with
 | zero=>
  intro l e k _ v;exfalso;obtain⟨g,u⟩:∃g,g∈aC l l.length:=by
   cases b:aC l l.length with
   | nil=>rw[b]at k;simp at k
   | cons x t=>exact⟨x,by simp⟩
  obtain⟨_,i,_,d,q,_⟩:=oh l l.length g u;have:∀(a:List Int) (x:Int),x∈a->0<x->0<lY a:=by
   intro a x j q;induction a with
   | nil=>cases j
   | cons y a ih=>
    simp only[lY,a0K,a0V]at ih ⊢;simp only[a1h]at j;rcases j with rfl|j
    . omega
    . have:=ih j;omega
  have:=this l (l.getD i 0) (I0 l i d) q;omega
 | succ f ih=>
  intro l e k p v;cases h:fits (cB l) ((m:Int)+1)
  .
   have hex:=yF p h;have r:=(zq l (Dl e)).2 hex;have b:=uT l (fun i d=>(e i d).1) l.length (a0a _);obtain⟨c,c1,c2,c3,c4,n,o⟩:=ih (b9 l) (yG e) (by rw[fW,b];exact k) (by rw[fW,b];exact p) (by omega);rw[fW]at c1 c3 n o;refine⟨c,c1,c2,?_,?_,n,by rw[o,b]⟩
   . intro i d;rw[c3 i d,oK l i d];unfold iO;have:=(e i d).1;omega
   . simp only[vO];rw[h];exact c4
  .
   refine⟨l,rfl,e,fun i _=>Iff.rfl,?_,?_,rfl⟩
   . simp only[vO];rw[h];rfl
   . intro i d;unfold fits at h;have s:=a3s h;rw[iq]at s;have:=Lw (cB l) l.length i d;omega
theorem uJ{c:List Int}(d:okC c)(g:(aC c c.length).length=1)(i:Nat)(b:i<c.length):(cB c).getD i 0=if 0<c.getD i 0 then 1 else 0:=by
 rw[Lf d g];have e:(c.map Fs).getD i 0=Fs c[i]:=by simp[List.getD,b]
 have e2:c.getD i 0=c[i]:=by simp[List.getD,b]
 have a:=d i b;rw[e2]at a ⊢;rw[e];unfold Fs;by_cases f:0<c[i]
 . rw[a0e f];split<;>omega
 . rw[a0d f];split<;>omega
theorem M9{c:List Int}(d:okC c)(k:Nat)(f:k<=c.length)(b:(aC c c.length).length=1):krR c (rZ (cB c)) 15 k=(aC c k).length*16384:=by
 induction k with
 | zero=>simp[krR,aC]
 | succ k ih=>
  simp only[krR];rw[ih (by omega)];have h:=uJ d b k (by omega);by_cases a:0<c.getD k 0
  .
   rw[a0e a,ib a];have e:rZ (cB c) k=1:=by unfold rZ;rw[h,a0e a];rfl
   have e2:(2:Nat) ^ (15-1)=16384:=by decide
   rw[e,e2,a0o,a1R,a1F,a2R]
  . rw[a0d a,kY a,a1H]
theorem sd{m:Nat}(p:okC l)(s:l.length<=300)(n:1<=(aC l l.length).length)(o:(aC l l.length).length<=p2 m)(t:m<=14) :
  (ft ((m:Int)+1) l).length=l.length/\ay (ft ((m:Int)+1) l)=true/\∀i,i<l.length->0<=(ft ((m:Int)+1) l).getD i 0/\(ft ((m:Int)+1) l).getD i 0<=(m:Int)+1/\(0<(ft ((m:Int)+1) l).getD i 0<->0<l.getD i 0):=by
 obtain⟨c,c1,c2,c3,c4,j,r⟩:=Ej m (lY l) l p n o (a0a _);have e:ft ((m:Int)+1) l=cB c:=c4;rw[e];by_cases b:(aC c c.length).length=1
 .
  have q:=uJ c2 b;have d:∀i,i<l.length->0<=(cB c).getD i 0/\(cB c).getD i 0<=1/\(0<(cB c).getD i 0<->0<l.getD i 0):=by
   intro i a;have h:=q i (by omega);have k:=c3 i a;by_cases g:0<c.getD i 0
   . rw[a0e g]at h;rw[h];exact⟨by omega,by omega,⟨fun _=>k.1 g,fun _=>by omega⟩⟩
   . rw[a0d g]at h;rw[h];exact⟨by omega,by omega,⟨fun x=>by omega,fun x=>absurd (k.2 x) g⟩⟩
  refine⟨by rw[iq,c1],?_,fun i a=>⟨(d i a).1,j i a,(d i a).2.2⟩⟩;refine zS (l:=c) (iq c) (by omega) ?_ ?_ (.inr ⟨b,by rw[M9 c2 _ (a0a _) b,b]⟩)
  . intro i a;exact(d i (by omega)).2.2.trans (c3 i (by omega)).symm
  . intro i a;have:=d i (by omega);exact⟨this.1,by omega⟩
 .
  have h2:2<=(aC c c.length).length:=by omega
  obtain⟨f0,f1,_,_⟩:=uu h2;refine⟨by rw[iq,c1],?_,fun i a=>⟨(f0 i (by omega)).1,j i a,(f1 i (by omega)).trans (c3 i a)⟩⟩;have f:∀i,i<c.length->(cB c).getD i 0<=((15:Nat):Int):=fun i a=>by have:=j i (by omega);omega
  refine zS (l:=c) (iq c) (by omega) f1 (fun i a=>⟨(f0 i a).1,f i a⟩) (.inl (Iy h2 f))
end Go.Proofs.YtkdlcomfpffhhaaGreatDoor
