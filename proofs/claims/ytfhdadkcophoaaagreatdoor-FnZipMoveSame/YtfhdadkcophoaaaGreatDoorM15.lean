/- Of what the proof is made: 4 texts, one behind the other. -/
import Derived.Test.YtfhdadkcophoaaaGreatDoorM13
import Derived.Deep.RegionHeld3
import Derived.BigQuiet
import Derived.Test.YtfhdadkcophoaaaGreatDoorM9
import Derived.Test.YtfhdadkcophoaaaGreatDoorM6
set_option linter.unusedSimpArgs false
set_option linter.unusedVariables false
namespace Go.Proofs.YtfhdadkcophoaaaGreatDoor
open Go.RowKit
def aM(x y:Grp):Bool:=decide (x.cnt<y.cnt) || (decide (x.cnt=y.cnt)&&decide (x.fst<y.fst))
def iQ(L:List Grp):Nat->Nat
 | 0=>0
 | k+1=>if aM (L.getD (k+1) g0) (L.getD (iQ L k) g0)then k+1 else iQ L k
def least(L:List Grp):Nat:=iQ L (L.length-1)
theorem Dk(L:List Grp)(k:Nat):iQ L k<=k:=by
 induction k with
 | zero=>exact a0a _
 | succ k ih=>simp only[iQ];split<;>omega
theorem d6(L:List Grp)(h:0<L.length):least L<L.length:=by
 have:=Dk L (L.length-1);unfold least;omega
def bare(g:Grp):Grp:=⟨g.cnt,g.fst,g.syms,.slice none 0 0⟩
def au(l:List Int):Nat->List Grp
 | 0=>[]
 | k+1=>if 0<l.getD k 0 then au l k++[⟨l.getD k 0,(k:Int),[(k:Int)],.slice none 0 0⟩]else au l k
def fj(a b:Grp):Grp:=⟨a.cnt+b.cnt,if b.fst<a.fst then b.fst else a.fst,a.syms++b.syms,.slice none 0 0⟩
def aD(M:List Grp):Grp:=M.getD (least M) g0
def av(M:List Grp):List Grp:=M.eraseIdx (least M)
def stepG(M:List Grp):List Grp:=av (av M)++[fj (aD M) (aD (av M))]
def aW(M:List Grp):List Int:=(aD M).syms++(aD (av M)).syms
def eu(o:List Int)(i:Int):List Int:=o.set i.toNat (o.getD i.toNat 0+1)
def bump(o s:List Int):List Int:=s.foldl eu o
def ax(l:List Int):Nat->List Grp×List Int
 | 0=>(au l l.length,List.replicate l.length 0)
 | k+1=>(stepG (ax l k).1,bump (ax l k).2 (aW (ax l k).1))
def cb(l:List Int):List Int:=if (au l l.length).length=1 then(List.replicate l.length 0).set ((au l l.length).getD 0 g0).fst.toNat 1 else(ax l ((au l l.length).length-1)).2
theorem lc(o:List Int)(i:Int):(eu o i).length=o.length:=by simp[eu]
theorem qe(o s:List Int):(bump o s).length=o.length:=by
 induction s generalizing o with
 | nil=>rfl
 | cons i s ih=>show(bump (eu o i) s).length=_;rw[ih,lc]
theorem dG(l:List Int)(k:Nat):(ax l k).2.length=l.length:=by
 induction k with
 | zero=>simp[ax]
 | succ k ih=>simp only[ax];rw[qe,ih]
theorem g8(l:List Int):(cb l).length=l.length:=by
 unfold cb
 split
 · simp
 · exact dG l _
theorem Cb(o s:List Int)(k:Nat)(h:k<s.length):bump o (s.take (k+1))=eu (bump o (s.take k)) (s.getD k 0):=by
 rw[cA s k h];simp[bump]
/-! What is bare is as it was. -/
theorem zE(x y:Grp):aM (bare x) (bare y)=aM x y:=rfl
/-! Bounds. -/
def WFg(n:Nat)(g:Grp):Prop:=0<=g.cnt/\0<=g.fst/\g.fst<(n:Int)/\(∀s∈g.syms,0<=s/\s<(n:Int))/\0<g.syms.length
def WFL(n:Nat)(M:List Grp):Prop:=∀g∈M,WFg n g
def gi(M:List Grp):Int:=(M.map Grp.cnt).sum
def jT(M:List Grp):Nat:=(M.map (fun g=>g.syms.length)).sum
theorem fg(M:List Grp)(k:Nat)(h:k<M.length):M.getD k g0∈M:=by simp[List.getD,h]
theorem mz(M:List Grp)(k:Nat)(h:k<M.length):gi M=(M.getD k g0).cnt+gi (M.eraseIdx k):=by
 induction M generalizing k with
 | nil=>simp at h
 | cons g M ih=>
  cases k with
  | zero=>simp[gi,List.eraseIdx]
  | succ k=>
   have:=ih k (by simpa using h);simp only[gi,List.eraseIdx_cons_succ,a0p,a0H,a2h]at this ⊢;omega
theorem jG(M:List Grp)(k:Nat)(h:k<M.length):jT M=(M.getD k g0).syms.length+jT (M.eraseIdx k):=by
 induction M generalizing k with
 | nil=>simp at h
 | cons g M ih=>
  cases k with
  | zero=>simp[jT,List.eraseIdx]
  | succ k=>
   have:=ih k (by simpa using h);simp only[jT,List.eraseIdx_cons_succ,a0p,a0H,a2h]at this ⊢;omega
theorem dh(M:List Grp)(h:0<M.length):(av M).length=M.length-1:=by
 unfold av;rw[List.length_eraseIdx,a0d (d6 M h)]
theorem pf(A B:List Grp):gi (A++B)=gi A+gi B:=by simp[gi]
theorem pg(A B:List Grp):jT (A++B)=jT A+jT B:=by simp[jT]
theorem Iz(M:List Grp)(h:1<M.length):gi (stepG M)=gi M/\jT (stepG M)=jT M/\(stepG M).length=M.length-1:=by
 have h1:=mz M (least M) (d6 M (by omega));have h2:=jG M (least M) (d6 M (by omega));have hr:=dh M (by omega);have h3:=mz (av M) (least (av M)) (d6 _ (by omega));have h4:=jG (av M) (least (av M)) (d6 _ (by omega));have hr2:=dh (av M) (by omega);have e1:M.getD (least M) g0=aD M:=rfl;have e2:(av M).getD (least (av M)) g0=aD (av M):=rfl;have e3:M.eraseIdx (least M)=av M:=rfl;have e4:(av M).eraseIdx (least (av M))=av (av M):=rfl;rw[e1,e3]at h1 h2;rw[e2,e4]at h3 h4;refine⟨?_,?_,?_⟩
 ·
  unfold stepG;rw[pf];have:gi [fj (aD M) (aD (av M))]=(aD M).cnt+(aD (av M)).cnt:=by simp[gi,fj]
  omega
 ·
  unfold stepG;rw[pg];have:jT [fj (aD M) (aD (av M))]=(aD M).syms.length+(aD (av M)).syms.length:=by simp[jT,fj]
  omega
 · unfold stepG;simp;omega
theorem bh(M:List Grp):∀g∈av M,g∈M:=fun _ hg=>List.mem_of_mem_eraseIdx hg
theorem bE(M:List Grp)(h:0<M.length):aD M∈M:=fg M _ (d6 M h)
theorem KO{n:Nat}{M:List Grp}(hw:WFL n M)(h:1<M.length):WFL n (stepG M):=by
 have hr:=dh M (by omega);have ha:=hw _ (bE M (by omega));have hb:=hw _ (bh M _ (bE (av M) (by omega)));intro g hg;simp only[stepG,a0S,a0T]at hg;rcases hg with hg|rfl
 · exact hw g (bh M _ (bh _ _ hg))
 ·
  obtain⟨a0,a1,a2,a3,a4⟩:=ha;obtain⟨b0,b1,b2,b3,b4⟩:=hb;refine⟨?_,?_,?_,?_,?_⟩
  · simp only[fj];omega
  · simp only[fj];split<;>assumption
  · simp only[fj];split<;>assumption
  ·
   intro s hs;simp only[fj,a0S]at hs;rcases hs with hs|hs
   · exact a3 s hs
   · exact b3 s hs
  · simp only[fj,a0i];omega
theorem KC(l:List Int)(k:Nat)(hk:k<=l.length):WFL l.length (au l k):=by
 induction k with
 | zero=>intro g hg;simp[au]at hg
 | succ k ih=>
  simp only[au]
  split
  case isTrue h=>
   intro g hg;simp only[a0S,a0T]at hg;rcases hg with hg|rfl
   · exact ih (by omega) g hg
   · refine⟨by simp only;omega,by simp only;omega,by simp only;omega,?_,by simp⟩;intro s hs;simp only[a0T]at hs;subst hs;omega
  case isFalse=>exact ih (by omega)
theorem xN(l:List Int)(C:Int)(hC:0<=C)(hl:∀i,i<l.length->l.getD i 0<=C)(k:Nat)(hk:k<=l.length):gi (au l k)<=C*k/\jT (au l k)<=k/\(au l k).length<=k:=by
 induction k with
 | zero=>simp[au,gi,jT]
 | succ k ih=>
  obtain⟨h1,h2,h3⟩:=ih (by omega);have hb:=hl k (by omega);have e:C*((k+1:Nat):Int)=C*(k:Int)+C:=by rw[show((k+1:Nat):Int)=(k:Int)+1 by omega,Int.mul_add,Int.mul_one]
  simp only[au]
  split
  ·
   rw[pf,pg];refine⟨?_,?_,?_⟩
   · simp only[gi,a0p,a1F,a0H,a3n]at h1 ⊢;omega
   · simp only[jT,a0p,a1F,a0H,a3n,a1v]at h2 ⊢;omega
   · simp;omega
  · refine⟨by omega,by omega,by omega⟩
theorem bK(l:List Int)(k:Nat)(hk:k<(au l l.length).length∨k=0):WFL l.length (ax l k).1/\gi (ax l k).1=gi (au l l.length)/\jT (ax l k).1=jT (au l l.length)/\(ax l k).1.length=(au l l.length).length-k:=by
 induction k with
 | zero=>exact⟨KC l _ (a0a _),rfl,rfl,rfl⟩
 | succ k ih=>
  obtain⟨h1,h2,h3,h4⟩:=ih (by omega);have hlen:1<(ax l k).1.length:=by omega
  obtain⟨t1,t2,t3⟩:=Iz _ hlen;refine⟨KO h1 hlen,by simp only[ax];omega,by simp only[ax];omega,by simp only[ax];omega⟩
theorem Lu{n:Nat}{M:List Grp}(hw:WFL n M){g:Grp}(hg:g∈M):g.cnt<=gi M:=by
 induction M with
 | nil=>cases hg
 | cons x M ih=>
  have hx:=(hw x (by simp)).1;have hM:0<=gi M:=by
   clear ih hg;have hw':WFL n M:=fun y hy=>hw y (by simp[hy]);clear hw;induction M with
   | nil=>simp[gi]
   | cons y M ih2=>
    have:=ih2 (fun z hz=>hw' z (by simp[hz]));have hy:=(hw' y (by simp)).1;simp only[gi,a0p,a0H]at this ⊢;omega
  simp only[a04]at hg;simp only[gi,a0p,a0H]at hM ih ⊢;rcases hg with rfl|hg
  · omega
  · have:=ih (fun y hy=>hw y (by simp[hy])) hg;omega
theorem BK{n:Nat}{M:List Grp}(hw:WFL n M)(h:1<M.length):(aD M).cnt+(aD (av M)).cnt<=gi M/\(aW M).length<=jT M:=by
 have hr:=dh M (by omega);have h1:=mz M (least M) (d6 M (by omega));have h2:=jG M (least M) (d6 M (by omega));have h4:=jG (av M) (least (av M)) (d6 _ (by omega));have e1:M.getD (least M) g0=aD M:=rfl;have e2:(av M).getD (least (av M)) g0=aD (av M):=rfl;have e3:M.eraseIdx (least M)=av M:=rfl;rw[e1,e3]at h1 h2;rw[e2]at h4;have hc:=Lu (n:=n) (M:=av M) (fun g hg=>hw g (bh M _ hg)) (bE (av M) (by omega));refine⟨by omega,?_⟩;unfold aW;rw[a0i];omega
/-! Lengths stay small. -/
def uQ(o:List Int)(B:Int):Prop:=∀i,i<o.length->0<=o.getD i 0/\o.getD i 0<=B
theorem Ca{o:List Int}{B:Int}(h:uQ o B)(i:Int):uQ (eu o i) (B+1):=by
 intro j hj;rw[lc]at hj;have hj':=h j hj;by_cases e:i.toNat=j
 · subst e;simp only[eu,List.getD];rw[List.getElem?_set_self hj];simp only[a1x];have:=h i.toNat hj;simp only[List.getD]at this;omega
 ·
  have:(eu o i).getD j 0=o.getD j 0:=by
   simp only[eu,List.getD];rw[List.getElem?_set_ne e]
  rw[this];omega
theorem vC{o:List Int}{B:Int}(h:uQ o B)(s:List Int):uQ (bump o s) (B+s.length):=by
 induction s generalizing o B with
 | nil=>intro i hi;have:=h i hi;simp only[bump,List.foldl_nil,a02];omega
 | cons i s ih=>
  have:=ih (Ca h i);intro j hj;have h2:=this j hj;simp only[a0y];show 0<=(bump (eu o i) s).getD j 0/\_;refine⟨h2.1,?_⟩;have:=h2.2;show(bump (eu o i) s).getD j 0<=_;omega
theorem wD(l:List Int)(hl:∀i,i<l.length->l.getD i 0<=100000)(hn:l.length<=300)(k:Nat)(hk:k<(au l l.length).length∨k=0):uQ (ax l k).2 (300*(k:Int)):=by
 induction k with
 | zero=>
  intro i hi;have:(ax l 0).2.getD i 0=0:=by
   simp only[ax,List.getD];simp only[ax,a0A]at hi;simp[hi]
  rw[this];omega
 | succ k ih=>
  have hi:=ih (by omega);obtain⟨h1,h2,h3,h4⟩:=bK l k (by omega);have ht:=(BK h1 (by omega)).2;have hs:=(xN l 100000 (by omega) hl l.length (a0a _)).2.1;have hb:=vC hi (aW (ax l k).1);intro i hil;have:=hb i hil;simp only[ax]at this ⊢;omega
/-! What is counted once more. -/
theorem sE(o:List Int)(i:Int)(j:Nat)(h0:0<=i)(hj:j<o.length):(eu o i).getD j 0=o.getD j 0+(if i=(j:Int)then 1 else 0):=by
 by_cases e:i=(j:Int)
 ·
  rw[a0d e];have e2:i.toNat=j:=by omega
  simp only[eu,List.getD];rw[e2,List.getElem?_set_self hj,a1x]
 ·
  rw[a0e e];have e2:i.toNat≠j:=by omega
  simp only[eu,List.getD];rw[List.getElem?_set_ne e2];omega
theorem j8(o s:List Int)(j:Nat)(hs:s.Nodup)(h0:∀x∈s,0<=x)(hj:j<o.length):(bump o s).getD j 0=o.getD j 0+(if (j:Int)∈s then 1 else 0):=by
 induction s generalizing o with
 | nil=>simp[bump]
 | cons x s ih=>
  show(bump (eu o x) s).getD j 0=_;rw[List.nodup_cons]at hs;rw[ih (eu o x) hs.2 (fun y hy=>h0 y (by simp[hy])) (by rw[lc];exact hj),sE o x j (h0 x (by simp)) hj];by_cases e:x=(j:Int)
  · subst e;rw[a0d rfl,a0e hs.1,a0d (by simp)];omega
  ·
   rw[a0e e];by_cases h2:(j:Int)∈s
   · rw[a0d h2,a0d (by simp[h2])];omega
   · rw[a0e h2,a0e (by simp only[a04,not_or];exact⟨fun e2=>e e2.symm,h2⟩)];omega
/-! All symbols, each once. -/
def aS(M:List Grp):List Int:=M.flatMap Grp.syms
theorem zS(M:List Grp)(k:Nat)(h:k<M.length):(M.getD k g0 :: M.eraseIdx k).Perm M:=by
 induction M generalizing k with
 | nil=>simp at h
 | cons x M ih=>
  cases k with
  | zero=>exact a2a _
  | succ k=>
   rw[a2h,List.eraseIdx_cons_succ];exact(a3o _ _ _).trans (List.Perm.cons x (ih k (by simpa using h)))
theorem jB(M:List Grp)(h:0<M.length):(aD M :: av M).Perm M:=zS M _ (d6 M h)
theorem ry(M:List Grp)(h:1<M.length):(aD M :: aD (av M) :: av (av M)).Perm M:=by
 have hr:=dh M (by omega);exact(List.Perm.cons _ (jB (av M) (by omega))).trans (jB M (by omega))
theorem nW{A B:List Grp}(h:A.Perm B):(aS A).Perm (aS B):=by
 induction h with
 | nil=>exact a2a _
 | cons x _ ih=>
  simp only[aS,a0V]at ih ⊢;exact List.Perm.append_left _ ih
 | swap x y l=>
  simp only[aS,a0V];rw[←a0O,←a0O];exact List.Perm.append_right _ List.perm_append_comm
 | trans _ _ h1 h2=>exact h1.trans h2
theorem sS(M:List Grp)(h:1<M.length):(aS (stepG M)).Perm (aS M):=by
 refine List.Perm.trans ?_ (nW (ry M h));unfold stepG aS;rw[a1J];refine List.perm_append_comm.trans ?_;simp[fj]
theorem CQ(l:List Int)(k:Nat):(aS (au l k)).Nodup/\∀x∈aS (au l k),0<=x/\x<(k:Int):=by
 induction k with
 | zero=>simp[au,aS]
 | succ k ih=>
  simp only[au]
  split
  ·
   have e:aS (au l k++[⟨l.getD k 0,(k:Int),[(k:Int)],.slice none 0 0⟩])=aS (au l k)++[(k:Int)]:=by simp[aS]
   rw[e];refine⟨?_,?_⟩
   · rw[a3p];refine⟨ih.1,by simp,?_⟩;intro x hx y hy;simp only[a0T]at hy;subst hy;have:=(ih.2 x hx).2;omega
   ·
    intro x hx;simp only[a0S,a0T]at hx;rcases hx with hx|rfl
    · have:=ih.2 x hx;omega
    · omega
  · exact⟨ih.1,fun x hx=>by have:=ih.2 x hx;omega⟩
theorem fD(l:List Int)(k:Nat)(hk:k<(au l l.length).length∨k=0):(aS (ax l k).1).Nodup/\∀x∈aS (ax l k).1,0<=x/\x<(l.length:Int):=by
 induction k with
 | zero=>exact CQ l _
 | succ k ih=>
  have hi:=ih (by omega);have hl:=(bK l k (by omega)).2.2.2;have hp:=sS (ax l k).1 (by omega);exact⟨(hp.nodup_iff).2 hi.1,fun x hx=>hi.2 x (hp.mem_iff.1 hx)⟩
theorem ij(M:List Grp)(h:1<M.length):((aW M)++aS (av (av M))).Perm (aS M):=by
 refine List.Perm.trans ?_ (nW (ry M h));simp[aW,aS]
theorem ii{M:List Grp}(h:1<M.length)(hn:(aS M).Nodup):(aW M).Nodup/\∀g∈av (av M),∀s∈g.syms,s ∉ aW M:=by
 have h2:=((ij M h).nodup_iff).2 hn;rw[a3p]at h2;refine⟨h2.1,fun g hg s hs hm=>?_⟩;exact h2.2.2 s hm s (by simp only[aS,List.mem_flatMap];exact⟨g,hg,hs⟩) rfl
theorem js(l:List Int)(k:Nat)(hk:k<(au l l.length).length∨k=0):uQ (ax l k).2 (k:Int):=by
 induction k with
 | zero=>
  intro i hi;have:(ax l 0).2.getD i 0=0:=by
   simp only[ax,List.getD];simp only[ax,a0A]at hi;simp[hi]
  rw[this];omega
 | succ k ih=>
  have hi:=ih (by omega);have hl:=(bK l k (by omega)).2.2.2;have hf:=fD l k (by omega);have hn:=ii (M:=(ax l k).1) (by omega) hf.1;intro i hil;simp only[ax]at hil ⊢;rw[qe]at hil;have hpos:∀x∈aW (ax l k).1,0<=x:=fun x hx=>(hf.2 x ((ij _ (by omega)).mem_iff.1 (by simp[hx]))).1;rw[j8 _ _ i hn.1 hpos hil];have:=hi i hil
  split<;>omega
/-! Where all come as often. -/
def Gz(K:Nat)(o:List Int)(g:Grp):Prop:=g.cnt=(p2 K:Nat)/\∀s∈g.syms,o.getD s.toNat 0<=(K:Int)
def LM(K:Nat)(o:List Int)(g:Grp):Prop:=g.cnt=(p2 (K+1):Nat)/\∀s∈g.syms,o.getD s.toNat 0<=(K:Int)+1
def xd(K:Nat)(o:List Int)(g:Grp):Prop:=(p2 K:Nat)<g.cnt/\g.cnt<(p2 (K+1):Nat)/\∀s∈g.syms,o.getD s.toNat 0<=(K:Int)+1
def Lvl(K:Nat)(o:List Int)(M:List Grp):Prop:=(∀g∈M,Gz K o g∨LM K o g∨xd K o g)/\M.Pairwise (fun x y=>¬ (xd K o x/\xd K o y))
theorem zx (L : List Grp) (k j : Nat) (hj : j ≤ k) : (L.getD (iQ L k) g0).cnt ≤ (L.getD j g0).cnt := by
  induction k with
  | zero => have : j = 0 := by omega
            subst this; exact a2m _
  | succ k ih =>
    simp only [iQ]
    by_cases e : j = k + 1
    · subst e
      split
      · exact a2m _
      · rename_i h
        simp only [aM, a1c, a0o, not_or] at h
        have := h.1
        omega
    · have := ih (by omega)
      split
      · rename_i h
        simp only [aM, a1c, a0j, a0o] at h
        omega
      · exact this
theorem sQ(M:List Grp)(g:Grp)(hg:g∈M):(aD M).cnt<=g.cnt:=by
 obtain⟨i,hi,rfl⟩:=a1o hg;have:=zx M (M.length-1) i (by omega);have e:M.getD i g0=M[i]:=by simp[List.getD,hi]
 rw[e]at this;exact this
theorem GB{K:Nat}{o:List Int}{M:List Grp}(h:1<M.length)(hL:Lvl K o M)(hn:(aS M).Nodup)(hx:∀x∈aS M,0<=x/\x<(o.length:Int)):Lvl K (bump o (aW M)) (stepG M)∨Lvl (K+1) (bump o (aW M)) (stepG M):=by
 have hr:=dh M (by omega);obtain⟨hs1,hs2⟩:=ii h hn;have hsub:=ij M h;have hpos:∀x∈aW M,0<=x:=fun x hm=>(hx x (hsub.mem_iff.1 (by simp[hm]))).1;have ha:=bE M (by omega);have hb:=bh M _ (bE (av M) (by omega));have hR:∀g∈av (av M),g∈M:=fun g hg=>bh M _ (bh _ _ hg);have hab:(aD M).cnt<=(aD (av M)).cnt:=sQ M _ hb;have hbR:∀g∈av (av M),(aD (av M)).cnt<=g.cnt:=fun g hg=>sQ (av M) g (bh _ _ hg);have hp2:p2 (K+1)=p2 K*2:=jz K;have hp3:p2 (K+1+1)=p2 (K+1)*2:=jz (K+1);have hp0:=rx K;have hget:∀x,x∈aS M->(bump o (aW M)).getD x.toNat 0=o.getD x.toNat 0+(if x∈aW M then 1 else 0):=by
  intro x hm;have hb:=hx x hm;rw[j8 o (aW M) x.toNat hs1 hpos (by omega)];have e:((x.toNat:Nat):Int)=x:=by omega
  rw[e]
 have hmem:∀g∈M,∀x∈g.syms,x∈aS M:=fun g hg x hxm=>by simp only[aS,List.mem_flatMap];exact⟨g,hg,hxm⟩
 have hold:∀g∈av (av M),∀x∈g.syms,(bump o (aW M)).getD x.toNat 0=o.getD x.toNat 0:=by
  intro g hg x hxm;rw[hget x (hmem g (hR g hg) x hxm),a0e (hs2 g hg x hxm)];omega
 have hnew:∀x,x∈aW M->(bump o (aW M)).getD x.toNat 0=o.getD x.toNat 0+1:=by
  intro x hm;rw[hget x (hsub.mem_iff.1 (by simp[hm])),a0d hm]
 have hpw:(aD M :: aD (av M) :: av (av M)).Pairwise (fun x y=>¬ (xd K o x/\xd K o y)):=
  ((ry M h).pairwise_iff (fun{x y} hxy hyx=>hxy ⟨hyx.2,hyx.1⟩)).2 hL.2
 rw[List.pairwise_cons,List.pairwise_cons]at hpw;obtain⟨pw1,pw2,pw3⟩:=hpw;have hjc:(fj (aD M) (aD (av M))).cnt=(aD M).cnt+(aD (av M)).cnt:=rfl;have hjs:∀x,x∈(fj (aD M) (aD (av M))).syms<->x∈aW M:=fun x=>Iff.rfl;by_cases hAA:Gz K o (aD M)/\Gz K o (aD (av M))
 ·
  left;obtain⟨⟨a1,a2⟩,b1,b2⟩:=hAA;have hj:LM K (bump o (aW M)) (fj (aD M) (aD (av M))):=by
   refine⟨by rw[hjc,a1,b1,hp2];omega,fun x hm=>?_⟩;have hm2:=(hjs x).1 hm;rw[hnew x hm2];simp only[aW,a0S]at hm2;rcases hm2 with hm2|hm2
   · have:=a2 x hm2;omega
   · have:=b2 x hm2;omega
  have hO:∀g∈av (av M),xd K (bump o (aW M)) g->xd K o g:=fun g hg hO=>⟨hO.1,hO.2.1,fun x hm=>by have:=hO.2.2 x hm;rw[hold g hg x hm]at this;exact this⟩;refine⟨fun g hg=>?_,?_⟩
  ·
   simp only[stepG,a0S,a0T]at hg;rcases hg with hg|rfl
   ·
    rcases hL.1 g (hR g hg)with h1|h1|h1
    · exact .inl ⟨h1.1,fun x hm=>by rw[hold g hg x hm];exact h1.2 x hm⟩
    · exact .inr (.inl ⟨h1.1,fun x hm=>by rw[hold g hg x hm];exact h1.2 x hm⟩)
    · exact .inr (.inr ⟨h1.1,h1.2.1,fun x hm=>by rw[hold g hg x hm];exact h1.2.2 x hm⟩)
   · exact .inr (.inl hj)
  ·
   unfold stepG;rw[List.pairwise_append];refine⟨?_,by simp,?_⟩
   · refine List.Pairwise.imp_of_mem ?_ pw3;intro x y hxm hym hxy hxy2;exact hxy ⟨hO x hxm hxy2.1,hO y hym hxy2.2⟩
   · intro x _ y hy hxy;simp only[a0T]at hy;subst hy;have h1:=hj.1;have h2:=hxy.2.2.1;omega
 ·
  right;have hbig:((p2 K:Nat):Int)<=(aD M).cnt/\(aD M).cnt<=((p2 (K+1):Nat):Int)/\((p2 K:Nat):Int)<(aD (av M)).cnt/\(aD (av M)).cnt<=((p2 (K+1):Nat):Int)/\∀g∈av (av M),LM K o g:=by
   rcases hL.1 _ ha with a1|a1|a1
   ·
    rcases hL.1 _ hb with b1|b1|b1
    · exact absurd ⟨a1,b1⟩ hAA
    ·
     refine⟨by rw[a1.1];omega,by rw[a1.1];omega,by rw[b1.1];omega,by rw[b1.1];omega,fun g hg=>?_⟩;have hge:=hbR g hg;rcases hL.1 g (hR g hg)with h1|h1|h1
     · have:=h1.1;have:=b1.1;omega
     · exact h1
     · have:=h1.2.1;have:=b1.1;omega
    ·
     refine⟨by rw[a1.1];omega,by rw[a1.1];omega,b1.1,by have:=b1.2.1;omega,fun g hg=>?_⟩;have hge:=hbR g hg;rcases hL.1 g (hR g hg)with h1|h1|h1
     · have:=h1.1;have:=b1.1;omega
     · exact h1
     · exact absurd ⟨b1,h1⟩ (pw2 g hg)
   ·
    rcases hL.1 _ hb with b1|b1|b1
    · have:=a1.1;have:=b1.1;omega
    ·
     refine⟨by rw[a1.1];omega,by rw[a1.1];omega,by rw[b1.1];omega,by rw[b1.1];omega,fun g hg=>?_⟩;have hge:=hbR g hg;rcases hL.1 g (hR g hg)with h1|h1|h1
     · have:=h1.1;have:=b1.1;omega
     · exact h1
     · have:=h1.2.1;have:=b1.1;omega
    · have:=a1.1;have:=b1.2.1;omega
   ·
    rcases hL.1 _ hb with b1|b1|b1
    · have:=a1.1;have:=b1.1;omega
    ·
     refine⟨by have:=a1.1;omega,by have:=a1.2.1;omega,by rw[b1.1];omega,by rw[b1.1];omega,fun g hg=>?_⟩;have hge:=hbR g hg;rcases hL.1 g (hR g hg)with h1|h1|h1
     · have:=h1.1;have:=b1.1;omega
     · exact h1
     · have:=h1.2.1;have:=b1.1;omega
    · exact absurd ⟨a1,b1⟩ (pw1 _ (by simp))
  obtain⟨q1,q2,q3,q4,q5⟩:=hbig;have hK1:∀g∈M,∀x∈g.syms,o.getD x.toNat 0<=(K:Int)+1:=by
   intro g hg x hm;rcases hL.1 g hg with h1|h1|h1
   · have:=h1.2 x hm;omega
   · exact h1.2 x hm
   · exact h1.2.2 x hm
  have hjd:∀x∈(fj (aD M) (aD (av M))).syms,(bump o (aW M)).getD x.toNat 0<=((K+1:Nat):Int)+1:=by
   intro x hm;have hm2:=(hjs x).1 hm;rw[hnew x hm2];simp only[aW,a0S]at hm2;rcases hm2 with hm2|hm2
   · have:=hK1 _ ha x hm2;omega
   · have:=hK1 _ hb x hm2;omega
  have hRA:∀g∈av (av M),Gz (K+1) (bump o (aW M)) g:=fun g hg=>⟨(q5 g hg).1,fun x hm=>by rw[hold g hg x hm];have:=(q5 g hg).2 x hm;omega⟩;refine⟨fun g hg=>?_,?_⟩
  ·
   simp only[stepG,a0S,a0T]at hg;rcases hg with hg|rfl
   · exact .inl (hRA g hg)
   ·
    by_cases e:(fj (aD M) (aD (av M))).cnt=((p2 (K+1+1):Nat):Int)
    · exact .inr (.inl ⟨e,hjd⟩)
    ·
     refine .inr (.inr ⟨?_,?_,hjd⟩)
     · rw[hjc];omega
     · rw[hjc]at e ⊢;omega
  ·
   unfold stepG;have hnO:∀g∈av (av M),¬ xd (K+1) (bump o (aW M)) g:=fun g hg hO=>by
    have h1:=(hRA g hg).1;have h2:=hO.1;omega
   rw[List.pairwise_append];refine⟨?_,by simp,?_⟩
   · refine List.Pairwise.imp_of_mem ?_ pw3;intro x y hxm _ _ hxy2;exact hnO x hxm hxy2.1
   · intro x hxm y _ hxy;exact hnO x hxm hxy.1
def Ko(l:List Int):Prop:=∀i,i<l.length->l.getD i 0<=1
theorem qY(l:List Int)(h1:Ko l)(k:Nat)(hk:k<=l.length):∀g∈au l k,Gz 0 (List.replicate l.length 0) g:=by
 induction k with
 | zero=>intro g hg;simp[au]at hg
 | succ k ih=>
  simp only[au]
  split
  case isTrue h=>
   intro g hg;simp only[a0S,a0T]at hg;rcases hg with hg|rfl
   · exact ih (by omega) g hg
   ·
    refine⟨?_,?_⟩
    · have:=h1 k (by omega);have e:p2 0=1:=rfl;simp only;rw[e];omega
    ·
     intro s hs;simp only[a0T]at hs;subst hs;rw[a0q];have:(List.replicate l.length (0:Int)).getD k 0=0:=by simp[List.getD,show k<l.length by omega]
     rw[this];exact a2m _
  case isFalse=>exact ih (by omega)
theorem GA(l:List Int)(h1:Ko l)(k:Nat)(hk:k<(au l l.length).length∨k=0):∃K,Lvl K (ax l k).2 (ax l k).1:=by
 induction k with
 | zero=>
  refine⟨0,fun g hg=>.inl (qY l h1 _ (a0a _) g hg),?_⟩;refine List.Pairwise.imp_of_mem ?_ (List.pairwise_of_forall (R:=fun _ _=>True) (fun _ _=>trivial));intro x y hxm _ _ hxy;have:=(qY l h1 _ (a0a _) x hxm).1;have:=hxy.1.1;omega
 | succ k ih=>
  obtain⟨K,hK⟩:=ih (by omega);have hl:=(bK l k (by omega)).2.2.2;have hf:=fD l k (by omega);rcases GB (by omega) hK hf.1 (fun x hx=>by rw[dG];exact hf.2 x hx)with h|h
  · exact⟨K,h⟩
  · exact⟨K+1,h⟩
theorem ll(l:List Int)(k:Nat)(hk:k<(au l l.length).length∨k=0):(aS (ax l k).1).Perm (aS (au l l.length)):=by
 induction k with
 | zero=>exact a2a _
 | succ k ih=>
  have hl:=(bK l k (by omega)).2.2.2;exact(sS (ax l k).1 (by omega)).trans (ih (by omega))
theorem sW(l:List Int)(i:Nat)(hi:i<l.length)(hn:(i:Int) ∉ aS (au l l.length))(k:Nat)(hk:k<(au l l.length).length∨k=0):(ax l k).2.getD i 0=0:=by
 induction k with
 | zero=>simp[ax,List.getD,hi]
 | succ k ih=>
  have h0:=ih (by omega);have hl:=(bK l k (by omega)).2.2.2;have hf:=fD l k (by omega);have hs:=ii (M:=(ax l k).1) (by omega) hf.1;have hsub:=ij (ax l k).1 (by omega);simp only[ax];rw[j8 _ _ i hs.1 (fun x hx=>(hf.2 x (hsub.mem_iff.1 (by simp[hx]))).1) (by rw[dG];exact hi),h0,a0e]
  · rfl
  · intro hm;exact hn ((ll l k (by omega)).mem_iff.1 (hsub.mem_iff.1 (by simp[hm])))
theorem Er(M:List Grp)(h:∀g∈M,g.cnt=1):gi M=(M.length:Int):=by
 induction M with
 | nil=>rfl
 | cons g M ih=>
  have:=ih (fun x hx=>h x (by simp[hx]));have hg:=h g (by simp);simp only[gi,a0p,a0H,a0y]at this ⊢;omega
theorem BB{a b:Nat}(h:p2 a<=p2 b):a<=b:=by
 rcases a1e b a with h2|h2
 · have h3:p2 (b+1)<=p2 a:=a0Q (by omega) (by omega);have h4:=jz b;have h5:=rx b;omega
 · exact h2
theorem Mw{a b:Nat}(h:p2 a<p2 b):a<b:=by
 rcases a1e a b with h2|h2
 · exact h2
 · have h3:p2 b<=p2 a:=a0Q (by omega) h2;omega
theorem GN(l:List Int)(h1:Ko l)(m:Nat)(hU:(au l l.length).length<=p2 m):uQ (cb l) ((m:Int)+1):=by
 have hzero:∀i,i<l.length->(List.replicate l.length (0:Int)).getD i 0=0:=fun i hi=>by simp[List.getD,hi]
 intro i hi;rw[g8]at hi;unfold cb;by_cases hone:(au l l.length).length=1
 ·
  rw[a0d hone];generalize ((au l l.length).getD 0 g0).fst.toNat=q;by_cases e:q=i
  · simp only[List.getD];rw[←e,List.getElem?_set_self (by rw[a0A,e];exact hi),a1x];omega
  · simp only[List.getD];rw[List.getElem?_set_ne e];have:=hzero i hi;simp only[List.getD]at this;omega
 ·
  rw[a0e hone];generalize hk:(au l l.length).length-1=k;have hkU:k<(au l l.length).length∨k=0:=by omega
  have hmx:=js l k hkU i (by rw[dG];exact hi);by_cases hmem:(i:Int)∈aS (au l l.length)
  ·
   obtain⟨K,hK⟩:=GA l h1 k hkU;have hinv:=bK l k hkU;have hpos:0<(au l l.length).length:=by
    rcases a3q (au l l.length).length with h|h
    · have:au l l.length=[]:=a13 h;rw[this]at hmem;simp[aS]at hmem
    · exact h
   have hlen:(ax l k).1.length=1:=by rw[hinv.2.2.2];omega
   obtain⟨g,hg⟩:=List.length_eq_one_iff.1 hlen;have hm2:=(ll l k hkU).mem_iff.2 hmem;rw[hg]at hm2 hK;have hsy:(i:Int)∈g.syms:=by simpa[aS]using hm2
   have hc:g.cnt=((au l l.length).length:Int):=by
    have h2:=hinv.2.1;rw[hg,Er (au l l.length) (fun x hx=>by have:=(qY l h1 _ (a0a _) x hx).1;simpa[p2]using this)]at h2;simpa[gi]using h2
   have hgm:g∈[g]:=by simp
   rcases hK.1 g hgm with h|h|h
   ·
    have h3:=h.2 _ hsy;rw[a0q]at h3;have h4:p2 K<=p2 m:=by have:=h.1;omega
    have:=BB h4;exact⟨hmx.1,by omega⟩
   ·
    have h3:=h.2 _ hsy;rw[a0q]at h3;have h4:p2 (K+1)<=p2 m:=by have:=h.1;omega
    have:=BB h4;exact⟨hmx.1,by omega⟩
   ·
    have h3:=h.2.2 _ hsy;rw[a0q]at h3;have h4:p2 K<p2 m:=by have:=h.1;omega
    have:=Mw h4;exact⟨hmx.1,by omega⟩
  · rw[sW l i hi hmem k hkU];omega
/-! Counts are halved. -/
def ja(x:Int):Int:=(x+1)/2
def cS(l:List Int):List Int:=l.map ja
theorem fE(l:List Int):(cS l).length=l.length:=by simp[cS]
theorem nX(l:List Int)(i:Nat)(hi:i<l.length):(cS l).getD i 0=ja (l.getD i 0):=by simp[cS,List.getD,hi]
theorem tx(l:List Int)(h0:∀i,i<l.length->0<=l.getD i 0)(k:Nat)(hk:k<=l.length):(au (cS l) k).length=(au l k).length:=by
 induction k with
 | zero=>rfl
 | succ k ih=>
  have hh:=nX l k (by omega);have hp:=h0 k (by omega);simp only[au];by_cases h:0<l.getD k 0
  · rw[a0d h,a0d (by rw[hh];unfold ja;omega)];simp only[a0i,a1v];rw[ih (by omega)]
  · rw[a0e h,a0e (by rw[hh];unfold ja;omega),ih (by omega)]
def kO(l:List Int):Nat:=(l.map Int.toNat).sum
theorem xW(l:List Int)(h0:∀x∈l,0<=x):kO (cS l)<=kO l/\((∃x∈l,1<x)->kO (cS l)<kO l):=by
 induction l with
 | nil=>simp[kO,cS]
 | cons x l ih=>
  have h1:=ih (fun y hy=>h0 y (by simp[hy]));have hx:=h0 x (by simp);simp only[kO,cS,a0p,a0H]at h1 ⊢;have e:(ja x).toNat<=x.toNat:=by unfold ja;omega
  refine⟨by omega,?_⟩;rintro⟨y,hy,hy1⟩;simp only[a04]at hy;rcases hy with rfl|hy
  ·
   have:(ja y).toNat<y.toNat:=by unfold ja;omega
   omega
  · have:=h1.2 ⟨y,hy,hy1⟩;omega
def bT(o:List Int):Nat->Int
 | 0=>0
 | k+1=>if bT o k<o.getD k 0 then o.getD k 0 else bT o k
def fits(o:List Int)(m:Int):Bool:=decide (bT o o.length<=m)
theorem GJ{o:List Int}{B:Int}(hB:0<=B)(h:uQ o B)(k:Nat)(hk:k<=o.length):bT o k<=B:=by
 induction k with
 | zero=>exact hB
 | succ k ih=>
  have h1:=ih (by omega);have h2:=(h k (by omega)).2;simp only[bT]
  split<;>assumption
theorem AQ{o:List Int}{m:Int}(hm:0<=m)(h:uQ o m):fits o m=true:=by
 unfold fits;exact a0E (GJ hm h _ (a0a _))
def r9(m:Int):Nat->List Int->List Int
 | 0,l=>cb l
 | f+1,l=>if fits (cb l) m then cb l else r9 m f (cS l)
theorem xu{l:List Int}{m:Nat}(hU:(au l l.length).length<=p2 m)(hf:fits (cb l) ((m:Int)+1)=false):∃x∈l,1<x:=by
 apply Classical.byContradiction;intro hno;have h1:Ko l:=by
  intro i hi;have hm:l.getD i 0∈l:=by simp[List.getD,hi]
  rcases a1k 1 (l.getD i 0)with h|h
  · exact absurd ⟨_,hm,h⟩ hno
  · exact h
 have:=AQ (by omega) (GN l h1 m hU);rw[this]at hf;cases hf
end Go.Proofs.YtfhdadkcophoaaaGreatDoor
