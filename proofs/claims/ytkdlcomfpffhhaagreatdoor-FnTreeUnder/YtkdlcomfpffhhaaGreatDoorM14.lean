/- Of what the proof is made: 4 texts, one behind the other. -/
import Derived.Test.YtkdlcomfpffhhaaGreatDoorM12
import Derived.Deep.RegionHeld3
import Derived.BigQuiet
import Derived.Test.YtkdlcomfpffhhaaGreatDoorM8
import Derived.Test.YtkdlcomfpffhhaaGreatDoorM5
set_option linter.unusedSimpArgs false
set_option linter.unusedVariables false
namespace Go.Proofs.YtkdlcomfpffhhaaGreatDoor
open Go.RowKit
def aL(x y:Grp):Bool:=decide (x.cnt<y.cnt) || (decide (x.cnt=y.cnt)&&decide (x.fst<y.fst))
def iF(L:List Grp):Nat->Nat
 | 0=>0
 | k+1=>if aL (L.getD (k+1) g0) (L.getD (iF L k) g0)then k+1 else iF L k
def least(L:List Grp):Nat:=iF L (L.length-1)
theorem Dm(L:List Grp)(k:Nat):iF L k<=k:=by
 induction k with
 | zero=>exact a0a _
 | succ k ih=>simp only[iF];split<;>omega
theorem dZ(L:List Grp)(h:0<L.length):least L<L.length:=by
 have:=Dm L (L.length-1);unfold least;omega
def bare(g:Grp):Grp:=⟨g.cnt,g.fst,g.syms,.slice none 0 0⟩
def av(l:List Int):Nat->List Grp
 | 0=>[]
 | k+1=>if 0<l.getD k 0 then av l k++[⟨l.getD k 0,(k:Int),[(k:Int)],.slice none 0 0⟩]else av l k
def fe(a b:Grp):Grp:=⟨a.cnt+b.cnt,if b.fst<a.fst then b.fst else a.fst,a.syms++b.syms,.slice none 0 0⟩
def aC(M:List Grp):Grp:=M.getD (least M) g0
def aw(M:List Grp):List Grp:=M.eraseIdx (least M)
def stepG(M:List Grp):List Grp:=aw (aw M)++[fe (aC M) (aC (aw M))]
def aW(M:List Grp):List Int:=(aC M).syms++(aC (aw M)).syms
def ez(o:List Int)(i:Int):List Int:=o.set i.toNat (o.getD i.toNat 0+1)
def bump(o s:List Int):List Int:=s.foldl ez o
def ay(l:List Int):Nat->List Grp×List Int
 | 0=>(av l l.length,List.replicate l.length 0)
 | k+1=>(stepG (ay l k).1,bump (ay l k).2 (aW (ay l k).1))
def bV(l:List Int):List Int:=if (av l l.length).length=1 then(List.replicate l.length 0).set ((av l l.length).getD 0 g0).fst.toNat 1 else(ay l ((av l l.length).length-1)).2
theorem kV(o:List Int)(i:Int):(ez o i).length=o.length:=by simp[ez]
theorem qf(o s:List Int):(bump o s).length=o.length:=by
 induction s generalizing o with
 | nil=>rfl
 | cons i s ih=>show(bump (ez o i) s).length=_;rw[ih,kV]
theorem dI(l:List Int)(k:Nat):(ay l k).2.length=l.length:=by
 induction k with
 | zero=>simp[ay]
 | succ k ih=>simp only[ay];rw[qf,ih]
theorem gT(l:List Int):(bV l).length=l.length:=by
 unfold bV
 split
 · simp
 · exact dI l _
theorem Cg(o s:List Int)(k:Nat)(h:k<s.length):bump o (s.take (k+1))=ez (bump o (s.take k)) (s.getD k 0):=by
 rw[cx s k h];simp[bump]
/-! What is bare is as it was. -/
theorem zI(x y:Grp):aL (bare x) (bare y)=aL x y:=rfl
/-! Bounds. -/
def WFg(n:Nat)(g:Grp):Prop:=0<=g.cnt/\0<=g.fst/\g.fst<(n:Int)/\(∀s∈g.syms,0<=s/\s<(n:Int))/\0<g.syms.length
def WFL(n:Nat)(M:List Grp):Prop:=∀g∈M,WFg n g
def fY(M:List Grp):Int:=(M.map Grp.cnt).sum
def jL(M:List Grp):Nat:=(M.map (fun g=>g.syms.length)).sum
theorem eV(M:List Grp)(k:Nat)(h:k<M.length):M.getD k g0∈M:=by simp[List.getD,h]
theorem mt(M:List Grp)(k:Nat)(h:k<M.length):fY M=(M.getD k g0).cnt+fY (M.eraseIdx k):=by
 induction M generalizing k with
 | nil=>simp at h
 | cons g M ih=>
  cases k with
  | zero=>simp[fY,List.eraseIdx]
  | succ k=>
   have:=ih k (by simpa using h);simp only[fY,List.eraseIdx_cons_succ,a0o,a0M,a2w]at this ⊢;omega
theorem jw(M:List Grp)(k:Nat)(h:k<M.length):jL M=(M.getD k g0).syms.length+jL (M.eraseIdx k):=by
 induction M generalizing k with
 | nil=>simp at h
 | cons g M ih=>
  cases k with
  | zero=>simp[jL,List.eraseIdx]
  | succ k=>
   have:=ih k (by simpa using h);simp only[jL,List.eraseIdx_cons_succ,a0o,a0M,a2w]at this ⊢;omega
theorem df(M:List Grp)(h:0<M.length):(aw M).length=M.length-1:=by
 unfold aw;rw[List.length_eraseIdx,a0d (dZ M h)]
theorem pj(A B:List Grp):fY (A++B)=fY A+fY B:=by simp[fY]
theorem pm(A B:List Grp):jL (A++B)=jL A+jL B:=by simp[jL]
theorem IE(M:List Grp)(h:1<M.length):fY (stepG M)=fY M/\jL (stepG M)=jL M/\(stepG M).length=M.length-1:=by
 have h1:=mt M (least M) (dZ M (by omega));have h2:=jw M (least M) (dZ M (by omega));have hr:=df M (by omega);have h3:=mt (aw M) (least (aw M)) (dZ _ (by omega));have h4:=jw (aw M) (least (aw M)) (dZ _ (by omega));have hr2:=df (aw M) (by omega);have e1:M.getD (least M) g0=aC M:=rfl;have e2:(aw M).getD (least (aw M)) g0=aC (aw M):=rfl;have e3:M.eraseIdx (least M)=aw M:=rfl;have e4:(aw M).eraseIdx (least (aw M))=aw (aw M):=rfl;rw[e1,e3]at h1 h2;rw[e2,e4]at h3 h4;refine⟨?_,?_,?_⟩
 ·
  unfold stepG;rw[pj];have:fY [fe (aC M) (aC (aw M))]=(aC M).cnt+(aC (aw M)).cnt:=by simp[fY,fe]
  omega
 ·
  unfold stepG;rw[pm];have:jL [fe (aC M) (aC (aw M))]=(aC M).syms.length+(aC (aw M)).syms.length:=by simp[jL,fe]
  omega
 · unfold stepG;simp;omega
theorem bg(M:List Grp):∀g∈aw M,g∈M:=fun _ hg=>List.mem_of_mem_eraseIdx hg
theorem bw(M:List Grp)(h:0<M.length):aC M∈M:=eV M _ (dZ M h)
theorem KT{n:Nat}{M:List Grp}(hw:WFL n M)(h:1<M.length):WFL n (stepG M):=by
 have hr:=df M (by omega);have ha:=hw _ (bw M (by omega));have hb:=hw _ (bg M _ (bw (aw M) (by omega)));intro g hg;simp only[stepG,a00,a01]at hg;rcases hg with hg|rfl
 · exact hw g (bg M _ (bg _ _ hg))
 ·
  obtain⟨a0,a1,a2,a3,a4⟩:=ha;obtain⟨b0,b1,b2,b3,b4⟩:=hb;refine⟨?_,?_,?_,?_,?_⟩
  · simp only[fe];omega
  · simp only[fe];split<;>assumption
  · simp only[fe];split<;>assumption
  ·
   intro s hs;simp only[fe,a00]at hs;rcases hs with hs|hs
   · exact a3 s hs
   · exact b3 s hs
  · simp only[fe,a0l];omega
theorem KG(l:List Int)(k:Nat)(hk:k<=l.length):WFL l.length (av l k):=by
 induction k with
 | zero=>intro g hg;simp[av]at hg
 | succ k ih=>
  simp only[av]
  split
  case isTrue h=>
   intro g hg;simp only[a00,a01]at hg;rcases hg with hg|rfl
   · exact ih (by omega) g hg
   · refine⟨by simp only;omega,by simp only;omega,by simp only;omega,?_,by simp⟩;intro s hs;simp only[a01]at hs;subst hs;omega
  case isFalse=>exact ih (by omega)
theorem xM(l:List Int)(C:Int)(hC:0<=C)(hl:∀i,i<l.length->l.getD i 0<=C)(k:Nat)(hk:k<=l.length):fY (av l k)<=C*k/\jL (av l k)<=k/\(av l k).length<=k:=by
 induction k with
 | zero=>simp[av,fY,jL]
 | succ k ih=>
  obtain⟨h1,h2,h3⟩:=ih (by omega);have hb:=hl k (by omega);have e:C*((k+1:Nat):Int)=C*(k:Int)+C:=by rw[show((k+1:Nat):Int)=(k:Int)+1 by omega,Int.mul_add,Int.mul_one]
  simp only[av]
  split
  ·
   rw[pj,pm];refine⟨?_,?_,?_⟩
   · simp only[fY,a0o,a1S,a0M,a3G]at h1 ⊢;omega
   · simp only[jL,a0o,a1S,a0M,a3G,a1E]at h2 ⊢;omega
   · simp;omega
  · refine⟨by omega,by omega,by omega⟩
theorem bF(l:List Int)(k:Nat)(hk:k<(av l l.length).length∨k=0):WFL l.length (ay l k).1/\fY (ay l k).1=fY (av l l.length)/\jL (ay l k).1=jL (av l l.length)/\(ay l k).1.length=(av l l.length).length-k:=by
 induction k with
 | zero=>exact⟨KG l _ (a0a _),rfl,rfl,rfl⟩
 | succ k ih=>
  obtain⟨h1,h2,h3,h4⟩:=ih (by omega);have hlen:1<(ay l k).1.length:=by omega
  obtain⟨t1,t2,t3⟩:=IE _ hlen;refine⟨KT h1 hlen,by simp only[ay];omega,by simp only[ay];omega,by simp only[ay];omega⟩
theorem Lw{n:Nat}{M:List Grp}(hw:WFL n M){g:Grp}(hg:g∈M):g.cnt<=fY M:=by
 induction M with
 | nil=>cases hg
 | cons x M ih=>
  have hx:=(hw x (by simp)).1;have hM:0<=fY M:=by
   clear ih hg;have hw':WFL n M:=fun y hy=>hw y (by simp[hy]);clear hw;induction M with
   | nil=>simp[fY]
   | cons y M ih2=>
    have:=ih2 (fun z hz=>hw' z (by simp[hz]));have hy:=(hw' y (by simp)).1;simp only[fY,a0o,a0M]at this ⊢;omega
  simp only[a1j]at hg;simp only[fY,a0o,a0M]at hM ih ⊢;rcases hg with rfl|hg
  · omega
  · have:=ih (fun y hy=>hw y (by simp[hy])) hg;omega
theorem BQ{n:Nat}{M:List Grp}(hw:WFL n M)(h:1<M.length):(aC M).cnt+(aC (aw M)).cnt<=fY M/\(aW M).length<=jL M:=by
 have hr:=df M (by omega);have h1:=mt M (least M) (dZ M (by omega));have h2:=jw M (least M) (dZ M (by omega));have h4:=jw (aw M) (least (aw M)) (dZ _ (by omega));have e1:M.getD (least M) g0=aC M:=rfl;have e2:(aw M).getD (least (aw M)) g0=aC (aw M):=rfl;have e3:M.eraseIdx (least M)=aw M:=rfl;rw[e1,e3]at h1 h2;rw[e2]at h4;have hc:=Lw (n:=n) (M:=aw M) (fun g hg=>hw g (bg M _ hg)) (bw (aw M) (by omega));refine⟨by omega,?_⟩;unfold aW;rw[a0l];omega
/-! Lengths stay small. -/
def uQ(o:List Int)(B:Int):Prop:=∀i,i<o.length->0<=o.getD i 0/\o.getD i 0<=B
theorem Cf{o:List Int}{B:Int}(h:uQ o B)(i:Int):uQ (ez o i) (B+1):=by
 intro j hj;rw[kV]at hj;have hj':=h j hj;by_cases e:i.toNat=j
 · subst e;simp only[ez,List.getD];rw[List.getElem?_set_self hj];simp only[a1K];have:=h i.toNat hj;simp only[List.getD]at this;omega
 ·
  have:(ez o i).getD j 0=o.getD j 0:=by
   simp only[ez,List.getD];rw[List.getElem?_set_ne e]
  rw[this];omega
theorem vz{o:List Int}{B:Int}(h:uQ o B)(s:List Int):uQ (bump o s) (B+s.length):=by
 induction s generalizing o B with
 | nil=>intro i hi;have:=h i hi;simp only[bump,List.foldl_nil,a1i];omega
 | cons i s ih=>
  have:=ih (Cf h i);intro j hj;have h2:=this j hj;simp only[a0B];show 0<=(bump (ez o i) s).getD j 0/\_;refine⟨h2.1,?_⟩;have:=h2.2;show(bump (ez o i) s).getD j 0<=_;omega
theorem wz(l:List Int)(hl:∀i,i<l.length->l.getD i 0<=100000)(hn:l.length<=300)(k:Nat)(hk:k<(av l l.length).length∨k=0):uQ (ay l k).2 (300*(k:Int)):=by
 induction k with
 | zero=>
  intro i hi;have:(ay l 0).2.getD i 0=0:=by
   simp only[ay,List.getD];simp only[ay,a0E]at hi;simp[hi]
  rw[this];omega
 | succ k ih=>
  have hi:=ih (by omega);obtain⟨h1,h2,h3,h4⟩:=bF l k (by omega);have ht:=(BQ h1 (by omega)).2;have hs:=(xM l 100000 (by omega) hl l.length (a0a _)).2.1;have hb:=vz hi (aW (ay l k).1);intro i hil;have:=hb i hil;simp only[ay]at this ⊢;omega
/-! What is counted once more. -/
theorem sG(o:List Int)(i:Int)(j:Nat)(h0:0<=i)(hj:j<o.length):(ez o i).getD j 0=o.getD j 0+(if i=(j:Int)then 1 else 0):=by
 by_cases e:i=(j:Int)
 ·
  rw[a0d e];have e2:i.toNat=j:=by omega
  simp only[ez,List.getD];rw[e2,List.getElem?_set_self hj,a1K]
 ·
  rw[a0e e];have e2:i.toNat≠j:=by omega
  simp only[ez,List.getD];rw[List.getElem?_set_ne e2];omega
theorem jS(o s:List Int)(j:Nat)(hs:s.Nodup)(h0:∀x∈s,0<=x)(hj:j<o.length):(bump o s).getD j 0=o.getD j 0+(if (j:Int)∈s then 1 else 0):=by
 induction s generalizing o with
 | nil=>simp[bump]
 | cons x s ih=>
  show(bump (ez o x) s).getD j 0=_;rw[List.nodup_cons]at hs;rw[ih (ez o x) hs.2 (fun y hy=>h0 y (by simp[hy])) (by rw[kV];exact hj),sG o x j (h0 x (by simp)) hj];by_cases e:x=(j:Int)
  · subst e;rw[a0d rfl,a0e hs.1,a0d (by simp)];omega
  ·
   rw[a0e e];by_cases h2:(j:Int)∈s
   · rw[a0d h2,a0d (by simp[h2])];omega
   · rw[a0e h2,a0e (by simp only[a1j,not_or];exact⟨fun e2=>e e2.symm,h2⟩)];omega
/-! All symbols, each once. -/
def aS(M:List Grp):List Int:=M.flatMap Grp.syms
theorem zW(M:List Grp)(k:Nat)(h:k<M.length):(M.getD k g0 :: M.eraseIdx k).Perm M:=by
 induction M generalizing k with
 | nil=>simp at h
 | cons x M ih=>
  cases k with
  | zero=>exact a2r _
  | succ k=>
   rw[a2w,List.eraseIdx_cons_succ];exact(a3H _ _ _).trans (List.Perm.cons x (ih k (by simpa using h)))
theorem jp(M:List Grp)(h:0<M.length):(aC M :: aw M).Perm M:=zW M _ (dZ M h)
theorem rx(M:List Grp)(h:1<M.length):(aC M :: aC (aw M) :: aw (aw M)).Perm M:=by
 have hr:=df M (by omega);exact(List.Perm.cons _ (jp (aw M) (by omega))).trans (jp M (by omega))
theorem nT{A B:List Grp}(h:A.Perm B):(aS A).Perm (aS B):=by
 induction h with
 | nil=>exact a2r _
 | cons x _ ih=>
  simp only[aS,a0W]at ih ⊢;exact List.Perm.append_left _ ih
 | swap x y l=>
  simp only[aS,a0W];rw[←a0U,←a0U];exact List.Perm.append_right _ List.perm_append_comm
 | trans _ _ h1 h2=>exact h1.trans h2
theorem sT(M:List Grp)(h:1<M.length):(aS (stepG M)).Perm (aS M):=by
 refine List.Perm.trans ?_ (nT (rx M h));unfold stepG aS;rw[a3j];refine List.perm_append_comm.trans ?_;simp[fe]
theorem C0(l:List Int)(k:Nat):(aS (av l k)).Nodup/\∀x∈aS (av l k),0<=x/\x<(k:Int):=by
 induction k with
 | zero=>simp[av,aS]
 | succ k ih=>
  simp only[av]
  split
  ·
   have e:aS (av l k++[⟨l.getD k 0,(k:Int),[(k:Int)],.slice none 0 0⟩])=aS (av l k)++[(k:Int)]:=by simp[aS]
   rw[e];refine⟨?_,?_⟩
   · rw[a3I];refine⟨ih.1,by simp,?_⟩;intro x hx y hy;simp only[a01]at hy;subst hy;have:=(ih.2 x hx).2;omega
   ·
    intro x hx;simp only[a00,a01]at hx;rcases hx with hx|rfl
    · have:=ih.2 x hx;omega
    · omega
  · exact⟨ih.1,fun x hx=>by have:=ih.2 x hx;omega⟩
theorem fy(l:List Int)(k:Nat)(hk:k<(av l l.length).length∨k=0):(aS (ay l k).1).Nodup/\∀x∈aS (ay l k).1,0<=x/\x<(l.length:Int):=by
 induction k with
 | zero=>exact C0 l _
 | succ k ih=>
  have hi:=ih (by omega);have hl:=(bF l k (by omega)).2.2.2;have hp:=sT (ay l k).1 (by omega);exact⟨(hp.nodup_iff).2 hi.1,fun x hx=>hi.2 x (hp.mem_iff.1 hx)⟩
theorem ib(M:List Grp)(h:1<M.length):((aW M)++aS (aw (aw M))).Perm (aS M):=by
 refine List.Perm.trans ?_ (nT (rx M h));simp[aW,aS]
theorem ia{M:List Grp}(h:1<M.length)(hn:(aS M).Nodup):(aW M).Nodup/\∀g∈aw (aw M),∀s∈g.syms,s ∉ aW M:=by
 have h2:=((ib M h).nodup_iff).2 hn;rw[a3I]at h2;refine⟨h2.1,fun g hg s hs hm=>?_⟩;exact h2.2.2 s hm s (by simp only[aS,List.mem_flatMap];exact⟨g,hg,hs⟩) rfl
theorem je(l:List Int)(k:Nat)(hk:k<(av l l.length).length∨k=0):uQ (ay l k).2 (k:Int):=by
 induction k with
 | zero=>
  intro i hi;have:(ay l 0).2.getD i 0=0:=by
   simp only[ay,List.getD];simp only[ay,a0E]at hi;simp[hi]
  rw[this];omega
 | succ k ih=>
  have hi:=ih (by omega);have hl:=(bF l k (by omega)).2.2.2;have hf:=fy l k (by omega);have hn:=ia (M:=(ay l k).1) (by omega) hf.1;intro i hil;simp only[ay]at hil ⊢;rw[qf]at hil;have hpos:∀x∈aW (ay l k).1,0<=x:=fun x hx=>(hf.2 x ((ib _ (by omega)).mem_iff.1 (by simp[hx]))).1;rw[jS _ _ i hn.1 hpos hil];have:=hi i hil
  split<;>omega
/-! Where all come as often. -/
def GA(K:Nat)(o:List Int)(g:Grp):Prop:=g.cnt=(p2 K:Nat)/\∀s∈g.syms,o.getD s.toNat 0<=(K:Int)
def LL(K:Nat)(o:List Int)(g:Grp):Prop:=g.cnt=(p2 (K+1):Nat)/\∀s∈g.syms,o.getD s.toNat 0<=(K:Int)+1
def wY(K:Nat)(o:List Int)(g:Grp):Prop:=(p2 K:Nat)<g.cnt/\g.cnt<(p2 (K+1):Nat)/\∀s∈g.syms,o.getD s.toNat 0<=(K:Int)+1
def Lvl(K:Nat)(o:List Int)(M:List Grp):Prop:=(∀g∈M,GA K o g∨LL K o g∨wY K o g)/\M.Pairwise (fun x y=>¬ (wY K o x/\wY K o y))
theorem zD (L : List Grp) (k j : Nat) (hj : j ≤ k) : (L.getD (iF L k) g0).cnt ≤ (L.getD j g0).cnt := by
  induction k with
  | zero => have : j = 0 := by omega
            subst this; exact a2A _
  | succ k ih =>
    simp only [iF]
    by_cases e : j = k + 1
    · subst e
      split
      · exact a2A _
      · rename_i h
        simp only [aL, a1n, a0q, not_or] at h
        have := h.1
        omega
    · have := ih (by omega)
      split
      · rename_i h
        simp only [aL, a1n, a0i, a0q] at h
        omega
      · exact this
theorem sR(M:List Grp)(g:Grp)(hg:g∈M):(aC M).cnt<=g.cnt:=by
 obtain⟨i,hi,rfl⟩:=a1X hg;have:=zD M (M.length-1) i (by omega);have e:M.getD i g0=M[i]:=by simp[List.getD,hi]
 rw[e]at this;exact this
theorem GC{K:Nat}{o:List Int}{M:List Grp}(h:1<M.length)(hL:Lvl K o M)(hn:(aS M).Nodup)(hx:∀x∈aS M,0<=x/\x<(o.length:Int)):Lvl K (bump o (aW M)) (stepG M)∨Lvl (K+1) (bump o (aW M)) (stepG M):=by
 have hr:=df M (by omega);obtain⟨hs1,hs2⟩:=ia h hn;have hsub:=ib M h;have hpos:∀x∈aW M,0<=x:=fun x hm=>(hx x (hsub.mem_iff.1 (by simp[hm]))).1;have ha:=bw M (by omega);have hb:=bg M _ (bw (aw M) (by omega));have hR:∀g∈aw (aw M),g∈M:=fun g hg=>bg M _ (bg _ _ hg);have hab:(aC M).cnt<=(aC (aw M)).cnt:=sR M _ hb;have hbR:∀g∈aw (aw M),(aC (aw M)).cnt<=g.cnt:=fun g hg=>sR (aw M) g (bg _ _ hg);have hp2:p2 (K+1)=p2 K*2:=jm K;have hp3:p2 (K+1+1)=p2 (K+1)*2:=jm (K+1);have hp0:=rt K;have hget:∀x,x∈aS M->(bump o (aW M)).getD x.toNat 0=o.getD x.toNat 0+(if x∈aW M then 1 else 0):=by
  intro x hm;have hb:=hx x hm;rw[jS o (aW M) x.toNat hs1 hpos (by omega)];have e:((x.toNat:Nat):Int)=x:=by omega
  rw[e]
 have hmem:∀g∈M,∀x∈g.syms,x∈aS M:=fun g hg x hxm=>by simp only[aS,List.mem_flatMap];exact⟨g,hg,hxm⟩
 have hold:∀g∈aw (aw M),∀x∈g.syms,(bump o (aW M)).getD x.toNat 0=o.getD x.toNat 0:=by
  intro g hg x hxm;rw[hget x (hmem g (hR g hg) x hxm),a0e (hs2 g hg x hxm)];omega
 have hnew:∀x,x∈aW M->(bump o (aW M)).getD x.toNat 0=o.getD x.toNat 0+1:=by
  intro x hm;rw[hget x (hsub.mem_iff.1 (by simp[hm])),a0d hm]
 have hpw:(aC M :: aC (aw M) :: aw (aw M)).Pairwise (fun x y=>¬ (wY K o x/\wY K o y)):=
  ((rx M h).pairwise_iff (fun{x y} hxy hyx=>hxy ⟨hyx.2,hyx.1⟩)).2 hL.2
 rw[List.pairwise_cons,List.pairwise_cons]at hpw;obtain⟨pw1,pw2,pw3⟩:=hpw;have hjc:(fe (aC M) (aC (aw M))).cnt=(aC M).cnt+(aC (aw M)).cnt:=rfl;have hjs:∀x,x∈(fe (aC M) (aC (aw M))).syms<->x∈aW M:=fun x=>Iff.rfl;by_cases hAA:GA K o (aC M)/\GA K o (aC (aw M))
 ·
  left;obtain⟨⟨a1,a2⟩,b1,b2⟩:=hAA;have hj:LL K (bump o (aW M)) (fe (aC M) (aC (aw M))):=by
   refine⟨by rw[hjc,a1,b1,hp2];omega,fun x hm=>?_⟩;have hm2:=(hjs x).1 hm;rw[hnew x hm2];simp only[aW,a00]at hm2;rcases hm2 with hm2|hm2
   · have:=a2 x hm2;omega
   · have:=b2 x hm2;omega
  have hO:∀g∈aw (aw M),wY K (bump o (aW M)) g->wY K o g:=fun g hg hO=>⟨hO.1,hO.2.1,fun x hm=>by have:=hO.2.2 x hm;rw[hold g hg x hm]at this;exact this⟩;refine⟨fun g hg=>?_,?_⟩
  ·
   simp only[stepG,a00,a01]at hg;rcases hg with hg|rfl
   ·
    rcases hL.1 g (hR g hg)with h1|h1|h1
    · exact .inl ⟨h1.1,fun x hm=>by rw[hold g hg x hm];exact h1.2 x hm⟩
    · exact .inr (.inl ⟨h1.1,fun x hm=>by rw[hold g hg x hm];exact h1.2 x hm⟩)
    · exact .inr (.inr ⟨h1.1,h1.2.1,fun x hm=>by rw[hold g hg x hm];exact h1.2.2 x hm⟩)
   · exact .inr (.inl hj)
  ·
   unfold stepG;rw[List.pairwise_append];refine⟨?_,by simp,?_⟩
   · refine List.Pairwise.imp_of_mem ?_ pw3;intro x y hxm hym hxy hxy2;exact hxy ⟨hO x hxm hxy2.1,hO y hym hxy2.2⟩
   · intro x _ y hy hxy;simp only[a01]at hy;subst hy;have h1:=hj.1;have h2:=hxy.2.2.1;omega
 ·
  right;have hbig:((p2 K:Nat):Int)<=(aC M).cnt/\(aC M).cnt<=((p2 (K+1):Nat):Int)/\((p2 K:Nat):Int)<(aC (aw M)).cnt/\(aC (aw M)).cnt<=((p2 (K+1):Nat):Int)/\∀g∈aw (aw M),LL K o g:=by
   rcases hL.1 _ ha with a1|a1|a1
   ·
    rcases hL.1 _ hb with b1|b1|b1
    · exact absurd ⟨a1,b1⟩ hAA
    ·
     refine⟨by rw[a1.1];omega,by rw[a1.1];omega,by rw[b1.1];omega,by rw[b1.1];omega,fun g hg=>?_⟩;have hge:=hbR g hg;rcases hL.1 g (hR g hg)with h1|h1|h1
     · have:=h1.1;have:=b1.1;omega
     · exact h1
     · have:=h1.2.1;have:=b1.1;omega
    ·
     refine⟨by rw[a1.1];omega,by rw[a1.1];omega,b1.1,by have:=b1.2.1;omega,fun g hg=>?_⟩;have hge:=hbR g hg;rcases hL.1 g (hR g hg)with h1|h1|h1
     · have:=h1.1;have:=b1.1;omega
     · exact h1
     · exact absurd ⟨b1,h1⟩ (pw2 g hg)
   ·
    rcases hL.1 _ hb with b1|b1|b1
    · have:=a1.1;have:=b1.1;omega
    ·
     refine⟨by rw[a1.1];omega,by rw[a1.1];omega,by rw[b1.1];omega,by rw[b1.1];omega,fun g hg=>?_⟩;have hge:=hbR g hg;rcases hL.1 g (hR g hg)with h1|h1|h1
     · have:=h1.1;have:=b1.1;omega
     · exact h1
     · have:=h1.2.1;have:=b1.1;omega
    · have:=a1.1;have:=b1.2.1;omega
   ·
    rcases hL.1 _ hb with b1|b1|b1
    · have:=a1.1;have:=b1.1;omega
    ·
     refine⟨by have:=a1.1;omega,by have:=a1.2.1;omega,by rw[b1.1];omega,by rw[b1.1];omega,fun g hg=>?_⟩;have hge:=hbR g hg;rcases hL.1 g (hR g hg)with h1|h1|h1
     · have:=h1.1;have:=b1.1;omega
     · exact h1
     · have:=h1.2.1;have:=b1.1;omega
    · exact absurd ⟨a1,b1⟩ (pw1 _ (by simp))
  obtain⟨q1,q2,q3,q4,q5⟩:=hbig;have hK1:∀g∈M,∀x∈g.syms,o.getD x.toNat 0<=(K:Int)+1:=by
   intro g hg x hm;rcases hL.1 g hg with h1|h1|h1
   · have:=h1.2 x hm;omega
   · exact h1.2 x hm
   · exact h1.2.2 x hm
  have hjd:∀x∈(fe (aC M) (aC (aw M))).syms,(bump o (aW M)).getD x.toNat 0<=((K+1:Nat):Int)+1:=by
   intro x hm;have hm2:=(hjs x).1 hm;rw[hnew x hm2];simp only[aW,a00]at hm2;rcases hm2 with hm2|hm2
   · have:=hK1 _ ha x hm2;omega
   · have:=hK1 _ hb x hm2;omega
  have hRA:∀g∈aw (aw M),GA (K+1) (bump o (aW M)) g:=fun g hg=>⟨(q5 g hg).1,fun x hm=>by rw[hold g hg x hm];have:=(q5 g hg).2 x hm;omega⟩;refine⟨fun g hg=>?_,?_⟩
  ·
   simp only[stepG,a00,a01]at hg;rcases hg with hg|rfl
   · exact .inl (hRA g hg)
   ·
    by_cases e:(fe (aC M) (aC (aw M))).cnt=((p2 (K+1+1):Nat):Int)
    · exact .inr (.inl ⟨e,hjd⟩)
    ·
     refine .inr (.inr ⟨?_,?_,hjd⟩)
     · rw[hjc];omega
     · rw[hjc]at e ⊢;omega
  ·
   unfold stepG;have hnO:∀g∈aw (aw M),¬ wY (K+1) (bump o (aW M)) g:=fun g hg hO=>by
    have h1:=(hRA g hg).1;have h2:=hO.1;omega
   rw[List.pairwise_append];refine⟨?_,by simp,?_⟩
   · refine List.Pairwise.imp_of_mem ?_ pw3;intro x y hxm _ _ hxy2;exact hnO x hxm hxy2.1
   · intro x hxm y _ hxy;exact hnO x hxm hxy.1
def Kp(l:List Int):Prop:=∀i,i<l.length->l.getD i 0<=1
theorem qZ(l:List Int)(h1:Kp l)(k:Nat)(hk:k<=l.length):∀g∈av l k,GA 0 (List.replicate l.length 0) g:=by
 induction k with
 | zero=>intro g hg;simp[av]at hg
 | succ k ih=>
  simp only[av]
  split
  case isTrue h=>
   intro g hg;simp only[a00,a01]at hg;rcases hg with hg|rfl
   · exact ih (by omega) g hg
   ·
    refine⟨?_,?_⟩
    · have:=h1 k (by omega);have e:p2 0=1:=rfl;simp only;rw[e];omega
    ·
     intro s hs;simp only[a01]at hs;subst hs;rw[a0r];have:(List.replicate l.length (0:Int)).getD k 0=0:=by simp[List.getD,show k<l.length by omega]
     rw[this];exact a2A _
  case isFalse=>exact ih (by omega)
theorem GB(l:List Int)(h1:Kp l)(k:Nat)(hk:k<(av l l.length).length∨k=0):∃K,Lvl K (ay l k).2 (ay l k).1:=by
 induction k with
 | zero=>
  refine⟨0,fun g hg=>.inl (qZ l h1 _ (a0a _) g hg),?_⟩;refine List.Pairwise.imp_of_mem ?_ (List.pairwise_of_forall (R:=fun _ _=>True) (fun _ _=>trivial));intro x y hxm _ _ hxy;have:=(qZ l h1 _ (a0a _) x hxm).1;have:=hxy.1.1;omega
 | succ k ih=>
  obtain⟨K,hK⟩:=ih (by omega);have hl:=(bF l k (by omega)).2.2.2;have hf:=fy l k (by omega);rcases GC (by omega) hK hf.1 (fun x hx=>by rw[dI];exact hf.2 x hx)with h|h
  · exact⟨K,h⟩
  · exact⟨K+1,h⟩
theorem lc(l:List Int)(k:Nat)(hk:k<(av l l.length).length∨k=0):(aS (ay l k).1).Perm (aS (av l l.length)):=by
 induction k with
 | zero=>exact a2r _
 | succ k ih=>
  have hl:=(bF l k (by omega)).2.2.2;exact(sT (ay l k).1 (by omega)).trans (ih (by omega))
theorem sY(l:List Int)(i:Nat)(hi:i<l.length)(hn:(i:Int) ∉ aS (av l l.length))(k:Nat)(hk:k<(av l l.length).length∨k=0):(ay l k).2.getD i 0=0:=by
 induction k with
 | zero=>simp[ay,List.getD,hi]
 | succ k ih=>
  have h0:=ih (by omega);have hl:=(bF l k (by omega)).2.2.2;have hf:=fy l k (by omega);have hs:=ia (M:=(ay l k).1) (by omega) hf.1;have hsub:=ib (ay l k).1 (by omega);simp only[ay];rw[jS _ _ i hs.1 (fun x hx=>(hf.2 x (hsub.mem_iff.1 (by simp[hx]))).1) (by rw[dI];exact hi),h0,a0e]
  · rfl
  · intro hm;exact hn ((lc l k (by omega)).mem_iff.1 (hsub.mem_iff.1 (by simp[hm])))
theorem Ew(M:List Grp)(h:∀g∈M,g.cnt=1):fY M=(M.length:Int):=by
 induction M with
 | nil=>rfl
 | cons g M ih=>
  have:=ih (fun x hx=>h x (by simp[hx]));have hg:=h g (by simp);simp only[fY,a0o,a0M,a0B]at this ⊢;omega
theorem BG{a b:Nat}(h:p2 a<=p2 b):a<=b:=by
 rcases a1q b a with h2|h2
 · have h3:p2 (b+1)<=p2 a:=a0Y (by omega) (by omega);have h4:=jm b;have h5:=rt b;omega
 · exact h2
theorem Mz{a b:Nat}(h:p2 a<p2 b):a<b:=by
 rcases a1q a b with h2|h2
 · exact h2
 · have h3:p2 b<=p2 a:=a0Y (by omega) h2;omega
theorem GW(l:List Int)(h1:Kp l)(m:Nat)(hU:(av l l.length).length<=p2 m):uQ (bV l) ((m:Int)+1):=by
 have hzero:∀i,i<l.length->(List.replicate l.length (0:Int)).getD i 0=0:=fun i hi=>by simp[List.getD,hi]
 intro i hi;rw[gT]at hi;unfold bV;by_cases hone:(av l l.length).length=1
 ·
  rw[a0d hone];generalize ((av l l.length).getD 0 g0).fst.toNat=q;by_cases e:q=i
  · simp only[List.getD];rw[←e,List.getElem?_set_self (by rw[a0E,e];exact hi),a1K];omega
  · simp only[List.getD];rw[List.getElem?_set_ne e];have:=hzero i hi;simp only[List.getD]at this;omega
 ·
  rw[a0e hone];generalize hk:(av l l.length).length-1=k;have hkU:k<(av l l.length).length∨k=0:=by omega
  have hmx:=je l k hkU i (by rw[dI];exact hi);by_cases hmem:(i:Int)∈aS (av l l.length)
  ·
   obtain⟨K,hK⟩:=GB l h1 k hkU;have hinv:=bF l k hkU;have hpos:0<(av l l.length).length:=by
    rcases a3J (av l l.length).length with h|h
    · have:av l l.length=[]:=a2h h;rw[this]at hmem;simp[aS]at hmem
    · exact h
   have hlen:(ay l k).1.length=1:=by rw[hinv.2.2.2];omega
   obtain⟨g,hg⟩:=List.length_eq_one_iff.1 hlen;have hm2:=(lc l k hkU).mem_iff.2 hmem;rw[hg]at hm2 hK;have hsy:(i:Int)∈g.syms:=by simpa[aS]using hm2
   have hc:g.cnt=((av l l.length).length:Int):=by
    have h2:=hinv.2.1;rw[hg,Ew (av l l.length) (fun x hx=>by have:=(qZ l h1 _ (a0a _) x hx).1;simpa[p2]using this)]at h2;simpa[fY]using h2
   have hgm:g∈[g]:=by simp
   rcases hK.1 g hgm with h|h|h
   ·
    have h3:=h.2 _ hsy;rw[a0r]at h3;have h4:p2 K<=p2 m:=by have:=h.1;omega
    have:=BG h4;exact⟨hmx.1,by omega⟩
   ·
    have h3:=h.2 _ hsy;rw[a0r]at h3;have h4:p2 (K+1)<=p2 m:=by have:=h.1;omega
    have:=BG h4;exact⟨hmx.1,by omega⟩
   ·
    have h3:=h.2.2 _ hsy;rw[a0r]at h3;have h4:p2 K<p2 m:=by have:=h.1;omega
    have:=Mz h4;exact⟨hmx.1,by omega⟩
  · rw[sY l i hi hmem k hkU];omega
/-! Counts are halved. -/
def iQ(x:Int):Int:=(x+1)/2
def cS(l:List Int):List Int:=l.map iQ
theorem fB(l:List Int):(cS l).length=l.length:=by simp[cS]
theorem nV(l:List Int)(i:Nat)(hi:i<l.length):(cS l).getD i 0=iQ (l.getD i 0):=by simp[cS,List.getD,hi]
theorem tE(l:List Int)(h0:∀i,i<l.length->0<=l.getD i 0)(k:Nat)(hk:k<=l.length):(av (cS l) k).length=(av l k).length:=by
 induction k with
 | zero=>rfl
 | succ k ih=>
  have hh:=nV l k (by omega);have hp:=h0 k (by omega);simp only[av];by_cases h:0<l.getD k 0
  · rw[a0d h,a0d (by rw[hh];unfold iQ;omega)];simp only[a0l,a1E];rw[ih (by omega)]
  · rw[a0e h,a0e (by rw[hh];unfold iQ;omega),ih (by omega)]
def kG(l:List Int):Nat:=(l.map Int.toNat).sum
theorem xX(l:List Int)(h0:∀x∈l,0<=x):kG (cS l)<=kG l/\((∃x∈l,1<x)->kG (cS l)<kG l):=by
 induction l with
 | nil=>simp[kG,cS]
 | cons x l ih=>
  have h1:=ih (fun y hy=>h0 y (by simp[hy]));have hx:=h0 x (by simp);simp only[kG,cS,a0o,a0M]at h1 ⊢;have e:(iQ x).toNat<=x.toNat:=by unfold iQ;omega
  refine⟨by omega,?_⟩;rintro⟨y,hy,hy1⟩;simp only[a1j]at hy;rcases hy with rfl|hy
  ·
   have:(iQ y).toNat<y.toNat:=by unfold iQ;omega
   omega
  · have:=h1.2 ⟨y,hy,hy1⟩;omega
def bP(o:List Int):Nat->Int
 | 0=>0
 | k+1=>if bP o k<o.getD k 0 then o.getD k 0 else bP o k
def fits(o:List Int)(m:Int):Bool:=decide (bP o o.length<=m)
theorem GP{o:List Int}{B:Int}(hB:0<=B)(h:uQ o B)(k:Nat)(hk:k<=o.length):bP o k<=B:=by
 induction k with
 | zero=>exact hB
 | succ k ih=>
  have h1:=ih (by omega);have h2:=(h k (by omega)).2;simp only[bP]
  split<;>assumption
theorem AW{o:List Int}{m:Int}(hm:0<=m)(h:uQ o m):fits o m=true:=by
 unfold fits;exact a0G (GP hm h _ (a0a _))
def se(m:Int):Nat->List Int->List Int
 | 0,l=>bV l
 | f+1,l=>if fits (bV l) m then bV l else se m f (cS l)
theorem xl{l:List Int}{m:Nat}(hU:(av l l.length).length<=p2 m)(hf:fits (bV l) ((m:Int)+1)=false):∃x∈l,1<x:=by
 apply Classical.byContradiction;intro hno;have h1:Kp l:=by
  intro i hi;have hm:l.getD i 0∈l:=by simp[List.getD,hi]
  rcases a1u 1 (l.getD i 0)with h|h
  · exact absurd ⟨_,hm,h⟩ hno
  · exact h
 have:=AW (by omega) (GW l h1 m hU);rw[this]at hf;cases hf
end Go.Proofs.YtkdlcomfpffhhaaGreatDoor
