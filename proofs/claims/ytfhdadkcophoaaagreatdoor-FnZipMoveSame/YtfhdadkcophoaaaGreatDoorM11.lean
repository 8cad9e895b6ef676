/- Of what the proof is made: 3 texts, one behind the other. -/
import Derived.Test.YtfhdadkcophoaaaGreatDoorM9
import Derived.Test.YtfhdadkcophoaaaGreatDoorM7
import Derived.Deep.RegionWith
set_option linter.unusedSimpArgs false
set_option linter.unusedVariables false
namespace Go.Proofs.YtfhdadkcophoaaaGreatDoor
open Go.RowKit
abbrev Tk:=Int×Int×Int
def k0:Tk:=(0,0,0)
def rep(s:List UInt8)(back:Nat):Nat->List UInt8
 | 0=>s
 | n+1=>rep s back n++[(rep s back n).getD ((rep s back n).length-back) 0]
theorem pJ(s:List UInt8)(back n:Nat):(rep s back n).length=s.length+n:=by
 induction n with
 | zero=>rfl
 | succ n ih=>simp only[rep,a0i,a1v,ih];omega
def j9(x:Int):UInt8:=UInt8.ofNat x.toNat
theorem sF{x:Int}(h0:0<=x)(h1:x<=255):((j9 x).toNat:Int)=x:=by
 unfold j9;rw[UInt8.toNat_ofNat'];omega
def isB(t:Tk):Bool:=decide (t.2.1=0)&&(inB t.1 0 255&&decide (t.2.2=0))
def isK(t:Tk):Bool:=decide (t.1=0)&&inB t.2.1 3 60&&inB t.2.2 1 250
def yK(s:List UInt8)(t:Tk):Option (List UInt8):=
 if isB t then some (s++[j9 t.1])else if isK t&&decide (t.2.2<=(s.length:Int))then some (rep s t.2.2.toNat t.2.1.toNat)else none
def dA(s:List UInt8)(t:Tk):Option (List UInt8):=(yK s t).bind fun x=>if x.length<=300 then some x else none
theorem mD{s x:List UInt8}{t:Tk}(h:dA s t=some x):x.length<=300:=by
 unfold dA at h;cases ha:yK s t with
 | none=>rw[ha]at h;cases h
 | some y=>
  rw[ha]at h;simp only[a0f]at h
  split at h
  · simp only[a0k]at h;subst h;assumption
  · cases h
theorem sY{t:Tk}(h:isB t=true):isK t=false:=by
 simp only[isB,a0j,a0o]at h;have:inB t.2.1 3 60=false:=eC.2 (by omega);simp[isK,this]
def nw(t:Tk):Nat:=if isB t then 1 else t.2.1.toNat
def okT(t:Tk):Bool:=isB t || isK t
theorem iX{s:List UInt8}{t:Tk}(ho:okT t=true)(hb:isK t=true->t.2.2<=(s.length:Int))(hl:s.length+nw t<=300):dA s t=some (if isB t then s++[j9 t.1]else rep s t.2.2.toNat t.2.1.toNat):=by
 unfold dA yK;unfold nw at hl;cases hB:isB t
 ·
  have hK:isK t=true:=by simpa[okT,hB]using ho
  rw[hB]at hl;simp only[a1m,a1n]at hl ⊢;rw[hK,a0E (hb hK)];simp only[a2M,a0U,a0f];rw[a0d (by rw[pJ];exact hl)]
 · rw[hB]at hl;simp only[a0U,a0f]at hl ⊢;rw[a0d (by simp;omega)]
theorem EM{s:List UInt8}{t:Tk}(ho:okT t=false):dA s t=none:=by
 have hB:isB t=false:=by cases h:isB t<;>simp[okT,h]at ho ⊢
 have hK:isK t=false:=by simpa[okT,hB]using ho
 unfold dA yK;rw[hB,hK];rfl
theorem vq{s:List UInt8}{t:Tk}(hK:isK t=true)(hb:(s.length:Int)<t.2.2):dA s t=none:=by
 have hB:isB t=false:=by
  cases h:isB t
  · rfl
  · rw[sY h]at hK;cases hK
 unfold dA yK;rw[hB,hK,a0n (by omega)];rfl
theorem kX{s:List UInt8}{t:Tk}(hl:300<s.length+nw t):dA s t=none:=by
 unfold dA yK;unfold nw at hl;cases hB:isB t
 ·
  rw[hB]at hl;simp only[a1m,a1n]at hl ⊢
  split
  · simp only[a0f];rw[a0e (by rw[pJ];omega)]
  · rfl
 · rw[hB]at hl;simp only[a0U,a0f]at hl ⊢;rw[a0e (by simp;omega)]
def agF(L:List UInt8)(p b:Nat):Nat->Nat->Nat
 | 0,n=>n
 | f+1,n=>if p+n<L.length/\L.getD (p+n) 0=L.getD (p+n-b) 0 then agF L p b f (n+1)else n
def agN(L:List UInt8)(p b:Nat):Nat:=agF L p b 60 0
theorem EQ{L:List UInt8}{p b k:Nat}(hk:k<60)(h:p+k<L.length)(he:L.getD (p+k) 0=L.getD (p+k-b) 0):agF L p b (60-k) k=agF L p b (60-(k+1)) (k+1):=by
 obtain⟨f,hf⟩:∃f,60-k=f+1:=⟨60-k-1,by omega⟩;rw[hf,show 60-(k+1)=f by omega];simp only[agF];rw[a0d ⟨h,he⟩]
theorem pW{L:List UInt8}{p b k:Nat}(h:k=60∨¬ (p+k<L.length)∨L.getD (p+k) 0≠L.getD (p+k-b) 0)(hk:k<=60):agF L p b (60-k) k=k:=by
 by_cases e:k=60
 · subst e;rfl
 ·
  obtain⟨f,hf⟩:∃f,60-k=f+1:=⟨60-k-1,by omega⟩;rw[hf];simp only[agF];rw[a0e];rintro⟨h1,h2⟩;rcases h with h|h|h
  · exact e h
  · exact h h1
  · exact h h2
theorem yL(L:List UInt8)(p b f n:Nat):n<=agF L p b f n/\agF L p b f n<=n+f/\(p+n<=L.length->p+agF L p b f n<=L.length)/\(∀i,n<=i->i<agF L p b f n->L.getD (p+i) 0=L.getD (p+i-b) 0):=by
 induction f generalizing n with
 | zero=>exact⟨a0a _,a0a _,fun h=>h,fun i h1 h2=>by simp only[agF]at h2;omega⟩
 | succ f ih=>
  simp only[agF]
  split
  ·
   rename_i h;obtain⟨h1,h2,h3,h4⟩:=ih (n+1);refine⟨by omega,by omega,fun _=>h3 (by omega),fun i h5 h6=>?_⟩;by_cases e:i=n
   · subst e;exact h.2
   · exact h4 i (by omega) h6
  · exact⟨a0a _,by omega,fun h=>h,fun i h1 h2=>by omega⟩
theorem Li(L:List UInt8)(p b:Nat):agN L p b<=60:=by have:=(yL L p b 60 0).2.1;unfold agN;omega
theorem Lh{L:List UInt8}{p b:Nat}(h:p<=L.length):p+agN L p b<=L.length:=(yL L p b 60 0).2.2.1 (by omega)
theorem Lg(L:List UInt8)(p b i:Nat)(h:i<agN L p b):L.getD (p+i) 0=L.getD (p+i-b) 0:=(yL L p b 60 0).2.2.2 i (a0h _) h
def bg(L:List UInt8)(p:Nat):Nat->Nat×Nat
 | 0=>(0,0)
 | k+1=>if (bg L p k).1<agN L p (k+1)then(agN L p (k+1),k+1)else bg L p k
theorem jY(L:List UInt8)(p k:Nat):(bg L p k).1<=60/\(bg L p k).2<=k/\((bg L p k).1≠0->1<=(bg L p k).2/\(bg L p k).1=agN L p (bg L p k).2)/\(∀b,1<=b->b<=k->agN L p b<=(bg L p k).1/\(agN L p b=(bg L p k).1->(bg L p k).1≠0->(bg L p k).2<=b)):=by
 induction k with
 | zero=>exact⟨by simp[bg],by simp[bg],fun h=>by simp[bg]at h,fun b h1 h2=>by omega⟩
 | succ k ih=>
  obtain⟨h1,h2,h3,h4⟩:=ih;simp only[bg]
  split
  ·
   rename_i h;refine⟨Li L p (k+1),a0a _,fun _=>⟨by simp,rfl⟩,fun b hb1 hb2=>?_⟩;by_cases e:b=k+1
   · subst e;exact⟨a0a _,fun _ _=>a0a _⟩
   · have:=(h4 b hb1 (by omega)).1;simp only;exact⟨by omega,fun he=>by omega⟩
  ·
   rename_i h;refine⟨h1,by omega,h3,fun b hb1 hb2=>?_⟩;by_cases e:b=k+1
   · subst e;exact⟨by omega,fun _ hne=>by omega⟩
   · exact h4 b hb1 (by omega)
def ft(L:List UInt8)(p:Nat):Tk:=
 if (bg L p (min p 250)).1<3 then(((L.getD p 0).toNat:Int),0,0)else(0,((bg L p (min p 250)).1:Int),((bg L p (min p 250)).2:Int))
def iu(L:List UInt8)(p:Nat):Nat:=if (bg L p (min p 250)).1<3 then 1 else(bg L p (min p 250)).1
theorem fq(L:List UInt8)(p:Nat):1<=iu L p/\iu L p<=60:=by
 unfold iu;have:=(jY L p (min p 250)).1
 split<;>omega
theorem pL{L:List UInt8}{p:Nat}(h:p<L.length):p+iu L p<=L.length:=by
 unfold iu;obtain⟨h1,h2,h3,h4⟩:=jY L p (min p 250)
 split
 · omega
 · rename_i hn;obtain⟨h5,h6⟩:=h3 (by omega);rw[h6];exact Lh (by omega)
def fw(L:List UInt8):Nat->Nat->List Tk
 | 0,_=>[]
 | f+1,p=>if p<L.length then ft L p :: fw L f (p+iu L p)else []
theorem Ak{L:List UInt8}{f p:Nat}(h:L.length-p<=f):fw L f p=fw L (L.length-p) p:=by
 induction f generalizing p with
 | zero=>rw[show L.length-p=0 by omega]
 | succ f ih=>
  by_cases hp:p<L.length
  ·
   obtain⟨g,hg⟩:∃g,L.length-p=g+1:=⟨L.length-p-1,by omega⟩;have hs:=fq L p;rw[hg];simp only[fw];rw[a0d hp,a0d hp,ih (by omega)]
   congr 1
   -- both are the tokens from there on
   have:∀g',L.length-(p+iu L p)<=g'->g'<=f->fw L g' (p+iu L p)=fw L (L.length-(p+iu L p)) (p+iu L p):=by
    intro g' h1 h2;clear ih;have key:∀n q,L.length-q<=n->fw L n q=fw L (L.length-q) q:=by
     intro n;induction n with
     | zero=>intro q hq;rw[show L.length-q=0 by omega]
     | succ n ihn=>
      intro q hq;by_cases hq2:q<L.length
      ·
       obtain⟨m,hm⟩:∃m,L.length-q=m+1:=⟨L.length-q-1,by omega⟩;have hs2:=fq L q;rw[hm];simp only[fw];rw[a0d hq2,a0d hq2,ihn _ (by omega)]
       congr 1
       by_cases hmn:m=n
       · subst hmn;rw[ihn _ (by omega)]
       ·
        have hmn2:m<n:=by omega
        clear hq;have:∀n m r,m<=n->L.length-r<=m->fw L n r=fw L m r:=by
         intro n;induction n with
         | zero=>intro m r h1 _;rw[show m=0 by omega]
         | succ n ih3=>
          intro m r h1 h2;by_cases hr:r<L.length
          · obtain⟨m',rfl⟩:∃m',m=m'+1:=⟨m-1,by omega⟩;have hs3:=fq L r;simp only[fw];rw[a0d hr,a0d hr,ih3 m' _ (by omega) (by omega)]
          ·
           cases m with
           | zero=>simp only[fw];rw[a0e hr]
           | succ m=>simp only[fw];rw[a0e hr,a0e hr]
        exact(this m _ _ (by omega) (a0a _)).symm
      · rw[show L.length-q=0 by omega];simp only[fw];rw[a0e hq2]
    exact key g' _ h1
   exact(this g (by omega) (by omega)).symm
  · rw[show L.length-p=0 by omega];simp only[fw];rw[a0e hp]
def bi(L:List UInt8)(p:Nat):List Tk:=fw L (L.length-p) p
theorem ik{L:List UInt8}{p:Nat}(h:p<L.length):bi L p=ft L p :: bi L (p+iu L p):=by
 unfold bi;obtain⟨g,hg⟩:∃g,L.length-p=g+1:=⟨L.length-p-1,by omega⟩;have hs:=fq L p;rw[hg];simp only[fw];rw[a0d h,Ak (by omega)]
theorem dP{L:List UInt8}{p:Nat}(h:¬ p<L.length):bi L p=[]:=by
 unfold bi;rw[show L.length-p=0 by omega];rfl
theorem tL(L:List UInt8):∀n p,L.length-p<=n->(bi L p).length<=L.length-p:=by
 intro n;induction n with
 | zero=>intro p h;rw[dP (by omega)];simp
 | succ n ih=>
  intro p h;by_cases hp:p<L.length
  · have hs:=fq L p;rw[ik hp];have:=ih (p+iu L p) (by omega);simp only[a0y];omega
  · rw[dP hp];simp
end Go.Proofs.YtfhdadkcophoaaaGreatDoor
