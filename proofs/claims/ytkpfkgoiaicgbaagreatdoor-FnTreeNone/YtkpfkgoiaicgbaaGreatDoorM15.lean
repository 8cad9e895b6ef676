/- Of what the proof is made: 4 texts, one behind the other. -/
import Derived.Test.YtkpfkgoiaicgbaaGreatDoorM13
import Derived.Deep.RegionHeld3
import Derived.BigQuiet
import Derived.Test.YtkpfkgoiaicgbaaGreatDoorM9
import Derived.Test.YtkpfkgoiaicgbaaGreatDoorM6
set_option linter.unusedSimpArgs false
set_option linter.unusedVariables false
namespace Go.Proofs.YtkpfkgoiaicgbaaGreatDoor
open Go.RowKit
def aM(x y:Grp):Bool:=decide (x.cnt<y.cnt) || (decide (x.cnt=y.cnt)&&decide (x.fst<y.fst))
def iM(L:List Grp):Nat->Nat
 | 0=>0
 | k+1=>if aM (L.getD (k+1) g0) (L.getD (iM L k) g0)then k+1 else iM L k
def least(L:List Grp):Nat:=iM L (L.length-1)
theorem DD(L:List Grp)(k:Nat):iM L k<=k:=by
 induction k with
 | zero=>exact Nat.le_refl _
 | succ k ih=>simp only[iM];split<;>omega
theorem dZ(L:List Grp)(h:0<L.length):least L<L.length:=by
 have:=DD L (L.length-1);unfold least;omega
def bare(g:Grp):Grp:=⟨g.cnt,g.fst,g.syms,.slice none 0 0⟩
def av(l:List Int):Nat->List Grp
 | 0=>[]
 | k+1=>if 0<l.getD k 0 then av l k++[⟨l.getD k 0,(k:Int),[(k:Int)],.slice none 0 0⟩]else av l k
def ff(a b:Grp):Grp:=⟨a.cnt+b.cnt,if b.fst<a.fst then b.fst else a.fst,a.syms++b.syms,.slice none 0 0⟩
def aC(M:List Grp):Grp:=M.getD (least M) g0
def aw(M:List Grp):List Grp:=M.eraseIdx (least M)
def stepG(M:List Grp):List Grp:=aw (aw M)++[ff (aC M) (aC (aw M))]
def aX(M:List Grp):List Int:=(aC M).syms++(aC (aw M)).syms
def eB(o:List Int)(i:Int):List Int:=o.set i.toNat (o.getD i.toNat 0+1)
def bump(o s:List Int):List Int:=s.foldl eB o
def ay(l:List Int):Nat->List Grp×List Int
 | 0=>(av l l.length,List.replicate l.length 0)
 | k+1=>(stepG (ay l k).1,bump (ay l k).2 (aX (ay l k).1))
def bW(l:List Int):List Int:=if (av l l.length).length=1 then(List.replicate l.length 0).set ((av l l.length).getD 0 g0).fst.toNat 1 else(ay l ((av l l.length).length-1)).2
theorem kX(o:List Int)(i:Int):(eB o i).length=o.length:=by simp[eB]
theorem qu(o s:List Int):(bump o s).length=o.length:=by
 induction s generalizing o with
 | nil=>rfl
 | cons i s ih=>show(bump (eB o i) s).length=_;rw[ih,kX]
theorem dJ(l:List Int)(k:Nat):(ay l k).2.length=l.length:=by
 induction k with
 | zero=>simp[ay]
 | succ k ih=>simp only[ay];rw[qu,ih]
theorem gV(l:List Int):(bW l).length=l.length:=by
 unfold bW
 split
 · simp
 · exact dJ l _
theorem Cs(o s:List Int)(k:Nat)(h:k<s.length):bump o (s.take (k+1))=eB (bump o (s.take k)) (s.getD k 0):=by
 rw[cz s k h];simp[bump]
/-! What is bare is as it was. -/
theorem zW(x y:Grp):aM (bare x) (bare y)=aM x y:=rfl
/-! Bounds. -/
def WFg(n:Nat)(g:Grp):Prop:=0<=g.cnt/\0<=g.fst/\g.fst<(n:Int)/\(∀s∈g.syms,0<=s/\s<(n:Int))/\0<g.syms.length
def WFL(n:Nat)(M:List Grp):Prop:=∀g∈M,WFg n g
def gg(M:List Grp):Int:=(M.map Grp.cnt).sum
def jQ(M:List Grp):Nat:=(M.map (fun g=>g.syms.length)).sum
theorem eV(M:List Grp)(k:Nat)(h:k<M.length):M.getD k g0∈M:=by simp[List.getD,h]
theorem mG(M:List Grp)(k:Nat)(h:k<M.length):gg M=(M.getD k g0).cnt+gg (M.eraseIdx k):=by
 induction M generalizing k with
 | nil=>simp at h
 | cons g M ih=>
  cases k with
  | zero=>simp[gg,List.eraseIdx]
  | succ k=>
   have:=ih k (by simpa using h);simp only[gg,List.eraseIdx_cons_succ,List.map_cons,List.sum_cons,List.getD_cons_succ]at this ⊢;omega
theorem jC(M:List Grp)(k:Nat)(h:k<M.length):jQ M=(M.getD k g0).syms.length+jQ (M.eraseIdx k):=by
 induction M generalizing k with
 | nil=>simp at h
 | cons g M ih=>
  cases k with
  | zero=>simp[jQ,List.eraseIdx]
  | succ k=>
   have:=ih k (by simpa using h);simp only[jQ,List.eraseIdx_cons_succ,List.map_cons,List.sum_cons,List.getD_cons_succ]at this ⊢;omega
theorem df(M:List Grp)(h:0<M.length):(aw M).length=M.length-1:=by
 unfold aw;rw[List.length_eraseIdx,if_pos (dZ M h)]
theorem pz(A B:List Grp):gg (A++B)=gg A+gg B:=by simp[gg]
theorem pB(A B:List Grp):jQ (A++B)=jQ A+jQ B:=by simp[jQ]
theorem IX(M:List Grp)(h:1<M.length):gg (stepG M)=gg M/\jQ (stepG M)=jQ M/\(stepG M).length=M.length-1:=by
 have h1:=mG M (least M) (dZ M (by omega));have h2:=jC M (least M) (dZ M (by omega));have hr:=df M (by omega);have h3:=mG (aw M) (least (aw M)) (dZ _ (by omega));have h4:=jC (aw M) (least (aw M)) (dZ _ (by omega));have hr2:=df (aw M) (by omega);have e1:M.getD (least M) g0=aC M:=rfl;have e2:(aw M).getD (least (aw M)) g0=aC (aw M):=rfl;have e3:M.eraseIdx (least M)=aw M:=rfl;have e4:(aw M).eraseIdx (least (aw M))=aw (aw M):=rfl;rw[e1,e3]at h1 h2;rw[e2,e4]at h3 h4;refine⟨?_,?_,?_⟩
 ·
  unfold stepG;rw[pz];have:gg [ff (aC M) (aC (aw M))]=(aC M).cnt+(aC (aw M)).cnt:=by simp[gg,ff]
  omega
 ·
  unfold stepG;rw[pB];have:jQ [ff (aC M) (aC (aw M))]=(aC M).syms.length+(aC (aw M)).syms.length:=by simp[jQ,ff]
  omega
 · unfold stepG;simp;omega
theorem bg(M:List Grp):∀g∈aw M,g∈M:=fun _ hg=>List.mem_of_mem_eraseIdx hg
theorem bz(M:List Grp)(h:0<M.length):aC M∈M:=eV M _ (dZ M h)
theorem La{n:Nat}{M:List Grp}(hw:WFL n M)(h:1<M.length):WFL n (stepG M):=by
 have hr:=df M (by omega);have ha:=hw _ (bz M (by omega));have hb:=hw _ (bg M _ (bz (aw M) (by omega)));intro g hg;simp only[stepG,List.mem_append,List.mem_singleton]at hg;rcases hg with hg|rfl
 · exact hw g (bg M _ (bg _ _ hg))
 ·
  obtain⟨a0,a1,a2,a3,a4⟩:=ha;obtain⟨b0,b1,b2,b3,b4⟩:=hb;refine⟨?_,?_,?_,?_,?_⟩
  · simp only[ff];omega
  · simp only[ff];split<;>assumption
  · simp only[ff];split<;>assumption
  ·
   intro s hs;simp only[ff,List.mem_append]at hs;rcases hs with hs|hs
   · exact a3 s hs
   · exact b3 s hs
  · simp only[ff,List.length_append];omega
theorem KT(l:List Int)(k:Nat)(hk:k<=l.length):WFL l.length (av l k):=by
 induction k with
 | zero=>intro g hg;simp[av]at hg
 | succ k ih=>
  simp only[av]
  split
  case isTrue h=>
   intro g hg;simp only[List.mem_append,List.mem_singleton]at hg;rcases hg with hg|rfl
   · exact ih (by omega) g hg
   · refine⟨by simp only;omega,by simp only;omega,by simp only;omega,?_,by simp⟩;intro s hs;simp only[List.mem_singleton]at hs;subst hs;omega
  case isFalse=>exact ih (by omega)
theorem yb(l:List Int)(C:Int)(hC:0<=C)(hl:∀i,i<l.length->l.getD i 0<=C)(k:Nat)(hk:k<=l.length):gg (av l k)<=C*k/\jQ (av l k)<=k/\(av l k).length<=k:=by
 induction k with
 | zero=>simp[av,gg,jQ]
 | succ k ih=>
  obtain⟨h1,h2,h3⟩:=ih (by omega);have hb:=hl k (by omega);have e:C*((k+1:Nat):Int)=C*(k:Int)+C:=by rw[show((k+1:Nat):Int)=(k:Int)+1 by omega,Int.mul_add,Int.mul_one]
  simp only[av]
  split
  ·
   rw[pz,pB];refine⟨?_,?_,?_⟩
   · simp only[gg,List.map_cons,List.map_nil,List.sum_cons,List.sum_nil]at h1 ⊢;omega
   · simp only[jQ,List.map_cons,List.map_nil,List.sum_cons,List.sum_nil,List.length_singleton]at h2 ⊢;omega
   · simp;omega
  · refine⟨by omega,by omega,by omega⟩
theorem bG(l:List Int)(k:Nat)(hk:k<(av l l.length).length∨k=0):WFL l.length (ay l k).1/\gg (ay l k).1=gg (av l l.length)/\jQ (ay l k).1=jQ (av l l.length)/\(ay l k).1.length=(av l l.length).length-k:=by
 induction k with
 | zero=>exact⟨KT l _ (Nat.le_refl _),rfl,rfl,rfl⟩
 | succ k ih=>
  obtain⟨h1,h2,h3,h4⟩:=ih (by omega);have hlen:1<(ay l k).1.length:=by omega
  obtain⟨t1,t2,t3⟩:=IX _ hlen;refine⟨La h1 hlen,by simp only[ay];omega,by simp only[ay];omega,by simp only[ay];omega⟩
theorem LK{n:Nat}{M:List Grp}(hw:WFL n M){g:Grp}(hg:g∈M):g.cnt<=gg M:=by
 induction M with
 | nil=>cases hg
 | cons x M ih=>
  have hx:=(hw x (by simp)).1;have hM:0<=gg M:=by
   clear ih hg;have hw':WFL n M:=fun y hy=>hw y (by simp[hy]);clear hw;induction M with
   | nil=>simp[gg]
   | cons y M ih2=>
    have:=ih2 (fun z hz=>hw' z (by simp[hz]));have hy:=(hw' y (by simp)).1;simp only[gg,List.map_cons,List.sum_cons]at this ⊢;omega
  simp only[List.mem_cons]at hg;simp only[gg,List.map_cons,List.sum_cons]at hM ih ⊢;rcases hg with rfl|hg
  · omega
  · have:=ih (fun y hy=>hw y (by simp[hy])) hg;omega
theorem Cc{n:Nat}{M:List Grp}(hw:WFL n M)(h:1<M.length):(aC M).cnt+(aC (aw M)).cnt<=gg M/\(aX M).length<=jQ M:=by
 have hr:=df M (by omega);have h1:=mG M (least M) (dZ M (by omega));have h2:=jC M (least M) (dZ M (by omega));have h4:=jC (aw M) (least (aw M)) (dZ _ (by omega));have e1:M.getD (least M) g0=aC M:=rfl;have e2:(aw M).getD (least (aw M)) g0=aC (aw M):=rfl;have e3:M.eraseIdx (least M)=aw M:=rfl;rw[e1,e3]at h1 h2;rw[e2]at h4;have hc:=LK (n:=n) (M:=aw M) (fun g hg=>hw g (bg M _ hg)) (bz (aw M) (by omega));refine⟨by omega,?_⟩;unfold aX;rw[List.length_append];omega
/-! Lengths stay small. -/
def vh(o:List Int)(B:Int):Prop:=∀i,i<o.length->0<=o.getD i 0/\o.getD i 0<=B
theorem Cr{o:List Int}{B:Int}(h:vh o B)(i:Int):vh (eB o i) (B+1):=by
 intro j hj;rw[kX]at hj;have hj':=h j hj;by_cases e:i.toNat=j
 · subst e;simp only[eB,List.getD];rw[List.getElem?_set_self hj];simp only[Option.getD_some];have:=h i.toNat hj;simp only[List.getD]at this;omega
 ·
  have:(eB o i).getD j 0=o.getD j 0:=by
   simp only[eB,List.getD];rw[List.getElem?_set_ne e]
  rw[this];omega
theorem vL{o:List Int}{B:Int}(h:vh o B)(s:List Int):vh (bump o s) (B+s.length):=by
 induction s generalizing o B with
 | nil=>intro i hi;have:=h i hi;simp only[bump,List.foldl_nil,List.length_nil];omega
 | cons i s ih=>
  have:=ih (Cr h i);intro j hj;have h2:=this j hj;simp only[List.length_cons];show 0<=(bump (eB o i) s).getD j 0/\_;refine⟨h2.1,?_⟩;have:=h2.2;show(bump (eB o i) s).getD j 0<=_;omega
theorem wL(l:List Int)(hl:∀i,i<l.length->l.getD i 0<=100000)(hn:l.length<=300)(k:Nat)(hk:k<(av l l.length).length∨k=0):vh (ay l k).2 (300*(k:Int)):=by
 induction k with
 | zero=>
  intro i hi;have:(ay l 0).2.getD i 0=0:=by
   simp only[ay,List.getD];simp only[ay,List.length_replicate]at hi;simp[hi]
  rw[this];omega
 | succ k ih=>
  have hi:=ih (by omega);obtain⟨h1,h2,h3,h4⟩:=bG l k (by omega);have ht:=(Cc h1 (by omega)).2;have hs:=(yb l 100000 (by omega) hl l.length (Nat.le_refl _)).2.1;have hb:=vL hi (aX (ay l k).1);intro i hil;have:=hb i hil;simp only[ay]at this ⊢;omega
/-! What is counted once more. -/
theorem sW(o:List Int)(i:Int)(j:Nat)(h0:0<=i)(hj:j<o.length):(eB o i).getD j 0=o.getD j 0+(if i=(j:Int)then 1 else 0):=by
 by_cases e:i=(j:Int)
 ·
  rw[if_pos e];have e2:i.toNat=j:=by omega
  simp only[eB,List.getD];rw[e2,List.getElem?_set_self hj,Option.getD_some]
 ·
  rw[if_neg e];have e2:i.toNat≠j:=by omega
  simp only[eB,List.getD];rw[List.getElem?_set_ne e2];omega
theorem jY(o s:List Int)(j:Nat)(hs:s.Nodup)(h0:∀x∈s,0<=x)(hj:j<o.length):(bump o s).getD j 0=o.getD j 0+(if (j:Int)∈s then 1 else 0):=by
 induction s generalizing o with
 | nil=>simp[bump]
 | cons x s ih=>
  show(bump (eB o x) s).getD j 0=_;rw[List.nodup_cons]at hs;rw[ih (eB o x) hs.2 (fun y hy=>h0 y (by simp[hy])) (by rw[kX];exact hj),sW o x j (h0 x (by simp)) hj];by_cases e:x=(j:Int)
  · subst e;rw[if_pos rfl,if_neg hs.1,if_pos (by simp)];omega
  ·
   rw[if_neg e];by_cases h2:(j:Int)∈s
   · rw[if_pos h2,if_pos (by simp[h2])];omega
   · rw[if_neg h2,if_neg (by simp only[List.mem_cons,not_or];exact⟨fun e2=>e e2.symm,h2⟩)];omega
/-! All symbols, each once. -/
def aT(M:List Grp):List Int:=M.flatMap Grp.syms
theorem Al(M:List Grp)(k:Nat)(h:k<M.length):(M.getD k g0 :: M.eraseIdx k).Perm M:=by
 induction M generalizing k with
 | nil=>simp at h
 | cons x M ih=>
  cases k with
  | zero=>exact List.Perm.refl _
  | succ k=>
   rw[List.getD_cons_succ,List.eraseIdx_cons_succ];exact(List.Perm.swap _ _ _).trans (List.Perm.cons x (ih k (by simpa using h)))
theorem jw(M:List Grp)(h:0<M.length):(aC M :: aw M).Perm M:=Al M _ (dZ M h)
theorem rN(M:List Grp)(h:1<M.length):(aC M :: aC (aw M) :: aw (aw M)).Perm M:=by
 have hr:=df M (by omega);exact(List.Perm.cons _ (jw (aw M) (by omega))).trans (jw M (by omega))
theorem oh{A B:List Grp}(h:A.Perm B):(aT A).Perm (aT B):=by
 induction h with
 | nil=>exact List.Perm.refl _
 | cons x _ ih=>
  simp only[aT,List.flatMap_cons]at ih ⊢;exact List.Perm.append_left _ ih
 | swap x y l=>
  simp only[aT,List.flatMap_cons];rw[←List.append_assoc,←List.append_assoc];exact List.Perm.append_right _ List.perm_append_comm
 | trans _ _ h1 h2=>exact h1.trans h2
theorem tp(M:List Grp)(h:1<M.length):(aT (stepG M)).Perm (aT M):=by
 refine List.Perm.trans ?_ (oh (rN M h));unfold stepG aT;rw[List.flatMap_append];refine List.perm_append_comm.trans ?_;simp[ff]
theorem Dl(l:List Int)(k:Nat):(aT (av l k)).Nodup/\∀x∈aT (av l k),0<=x/\x<(k:Int):=by
 induction k with
 | zero=>simp[av,aT]
 | succ k ih=>
  simp only[av]
  split
  ·
   have e:aT (av l k++[⟨l.getD k 0,(k:Int),[(k:Int)],.slice none 0 0⟩])=aT (av l k)++[(k:Int)]:=by simp[aT]
   rw[e];refine⟨?_,?_⟩
   · rw[List.nodup_append];refine⟨ih.1,by simp,?_⟩;intro x hx y hy;simp only[List.mem_singleton]at hy;subst hy;have:=(ih.2 x hx).2;omega
   ·
    intro x hx;simp only[List.mem_append,List.mem_singleton]at hx;rcases hx with hx|rfl
    · have:=ih.2 x hx;omega
    · omega
  · exact⟨ih.1,fun x hx=>by have:=ih.2 x hx;omega⟩
theorem fC(l:List Int)(k:Nat)(hk:k<(av l l.length).length∨k=0):(aT (ay l k).1).Nodup/\∀x∈aT (ay l k).1,0<=x/\x<(l.length:Int):=by
 induction k with
 | zero=>exact Dl l _
 | succ k ih=>
  have hi:=ih (by omega);have hl:=(bG l k (by omega)).2.2.2;have hp:=tp (ay l k).1 (by omega);exact⟨(hp.nodup_iff).2 hi.1,fun x hx=>hi.2 x (hp.mem_iff.1 hx)⟩
theorem ig(M:List Grp)(h:1<M.length):((aX M)++aT (aw (aw M))).Perm (aT M):=by
 refine List.Perm.trans ?_ (oh (rN M h));simp[aX,aT]
theorem ie{M:List Grp}(h:1<M.length)(hn:(aT M).Nodup):(aX M).Nodup/\∀g∈aw (aw M),∀s∈g.syms,s ∉ aX M:=by
 have h2:=((ig M h).nodup_iff).2 hn;rw[List.nodup_append]at h2;refine⟨h2.1,fun g hg s hs hm=>?_⟩;exact h2.2.2 s hm s (by simp only[aT,List.mem_flatMap];exact⟨g,hg,hs⟩) rfl
theorem jo(l:List Int)(k:Nat)(hk:k<(av l l.length).length∨k=0):vh (ay l k).2 (k:Int):=by
 induction k with
 | zero=>
  intro i hi;have:(ay l 0).2.getD i 0=0:=by
   simp only[ay,List.getD];simp only[ay,List.length_replicate]at hi;simp[hi]
  rw[this];omega
 | succ k ih=>
  have hi:=ih (by omega);have hl:=(bG l k (by omega)).2.2.2;have hf:=fC l k (by omega);have hn:=ie (M:=(ay l k).1) (by omega) hf.1;intro i hil;simp only[ay]at hil ⊢;rw[qu]at hil;have hpos:∀x∈aX (ay l k).1,0<=x:=fun x hx=>(hf.2 x ((ig _ (by omega)).mem_iff.1 (by simp[hx]))).1;rw[jY _ _ i hn.1 hpos hil];have:=hi i hil
  split<;>omega
/-! Where all come as often. -/
def GR(K:Nat)(o:List Int)(g:Grp):Prop:=g.cnt=(p2 K:Nat)/\∀s∈g.syms,o.getD s.toNat 0<=(K:Int)
def L4(K:Nat)(o:List Int)(g:Grp):Prop:=g.cnt=(p2 (K+1):Nat)/\∀s∈g.syms,o.getD s.toNat 0<=(K:Int)+1
def xu(K:Nat)(o:List Int)(g:Grp):Prop:=(p2 K:Nat)<g.cnt/\g.cnt<(p2 (K+1):Nat)/\∀s∈g.syms,o.getD s.toNat 0<=(K:Int)+1
def Lvl(K:Nat)(o:List Int)(M:List Grp):Prop:=(∀g∈M,GR K o g∨L4 K o g∨xu K o g)/\M.Pairwise (fun x y=>¬ (xu K o x/\xu K o y))
theorem zR (L : List Grp) (k j : Nat) (hj : j ≤ k) : (L.getD (iM L k) g0).cnt ≤ (L.getD j g0).cnt := by
  induction k with
  | zero => have : j = 0 := by omega
            subst this; exact Int.le_refl _
  | succ k ih =>
    simp only [iM]
    by_cases e : j = k + 1
    · subst e
      split
      · exact Int.le_refl _
      · rename_i h
        simp only [aM, Bool.or_eq_true, decide_eq_true_eq, not_or] at h
        have := h.1
        omega
    · have := ih (by omega)
      split
      · rename_i h
        simp only [aM, Bool.or_eq_true, Bool.and_eq_true, decide_eq_true_eq] at h
        omega
      · exact this
theorem tj(M:List Grp)(g:Grp)(hg:g∈M):(aC M).cnt<=g.cnt:=by
 obtain⟨i,hi,rfl⟩:=List.getElem_of_mem hg;have:=zR M (M.length-1) i (by omega);have e:M.getD i g0=M[i]:=by simp[List.getD,hi]
 rw[e]at this;exact this
theorem GU{K:Nat}{o:List Int}{M:List Grp}(h:1<M.length)(hL:Lvl K o M)(hn:(aT M).Nodup)(hx:∀x∈aT M,0<=x/\x<(o.length:Int)):Lvl K (bump o (aX M)) (stepG M)∨Lvl (K+1) (bump o (aX M)) (stepG M):=by
 have hr:=df M (by omega);obtain⟨hs1,hs2⟩:=ie h hn;have hsub:=ig M h;have hpos:∀x∈aX M,0<=x:=fun x hm=>(hx x (hsub.mem_iff.1 (by simp[hm]))).1;have ha:=bz M (by omega);have hb:=bg M _ (bz (aw M) (by omega));have hR:∀g∈aw (aw M),g∈M:=fun g hg=>bg M _ (bg _ _ hg);have hab:(aC M).cnt<=(aC (aw M)).cnt:=tj M _ hb;have hbR:∀g∈aw (aw M),(aC (aw M)).cnt<=g.cnt:=fun g hg=>tj (aw M) g (bg _ _ hg);have hp2:p2 (K+1)=p2 K*2:=jt K;have hp3:p2 (K+1+1)=p2 (K+1)*2:=jt (K+1);have hp0:=rK K;have hget:∀x,x∈aT M->(bump o (aX M)).getD x.toNat 0=o.getD x.toNat 0+(if x∈aX M then 1 else 0):=by
  intro x hm;have hb:=hx x hm;rw[jY o (aX M) x.toNat hs1 hpos (by omega)];have e:((x.toNat:Nat):Int)=x:=by omega
  rw[e]
 have hmem:∀g∈M,∀x∈g.syms,x∈aT M:=fun g hg x hxm=>by simp only[aT,List.mem_flatMap];exact⟨g,hg,hxm⟩
 have hold:∀g∈aw (aw M),∀x∈g.syms,(bump o (aX M)).getD x.toNat 0=o.getD x.toNat 0:=by
  intro g hg x hxm;rw[hget x (hmem g (hR g hg) x hxm),if_neg (hs2 g hg x hxm)];omega
 have hnew:∀x,x∈aX M->(bump o (aX M)).getD x.toNat 0=o.getD x.toNat 0+1:=by
  intro x hm;rw[hget x (hsub.mem_iff.1 (by simp[hm])),if_pos hm]
 have hpw:(aC M :: aC (aw M) :: aw (aw M)).Pairwise (fun x y=>¬ (xu K o x/\xu K o y)):=
  ((rN M h).pairwise_iff (fun{x y} hxy hyx=>hxy ⟨hyx.2,hyx.1⟩)).2 hL.2
 rw[List.pairwise_cons,List.pairwise_cons]at hpw;obtain⟨pw1,pw2,pw3⟩:=hpw;have hjc:(ff (aC M) (aC (aw M))).cnt=(aC M).cnt+(aC (aw M)).cnt:=rfl;have hjs:∀x,x∈(ff (aC M) (aC (aw M))).syms<->x∈aX M:=fun x=>Iff.rfl;by_cases hAA:GR K o (aC M)/\GR K o (aC (aw M))
 ·
  left;obtain⟨⟨a1,a2⟩,b1,b2⟩:=hAA;have hj:L4 K (bump o (aX M)) (ff (aC M) (aC (aw M))):=by
   refine⟨by rw[hjc,a1,b1,hp2];omega,fun x hm=>?_⟩;have hm2:=(hjs x).1 hm;rw[hnew x hm2];simp only[aX,List.mem_append]at hm2;rcases hm2 with hm2|hm2
   · have:=a2 x hm2;omega
   · have:=b2 x hm2;omega
  have hO:∀g∈aw (aw M),xu K (bump o (aX M)) g->xu K o g:=fun g hg hO=>⟨hO.1,hO.2.1,fun x hm=>by have:=hO.2.2 x hm;rw[hold g hg x hm]at this;exact this⟩;refine⟨fun g hg=>?_,?_⟩
  ·
   simp only[stepG,List.mem_append,List.mem_singleton]at hg;rcases hg with hg|rfl
   ·
    rcases hL.1 g (hR g hg)with h1|h1|h1
    · exact .inl ⟨h1.1,fun x hm=>by rw[hold g hg x hm];exact h1.2 x hm⟩
    · exact .inr (.inl ⟨h1.1,fun x hm=>by rw[hold g hg x hm];exact h1.2 x hm⟩)
    · exact .inr (.inr ⟨h1.1,h1.2.1,fun x hm=>by rw[hold g hg x hm];exact h1.2.2 x hm⟩)
   · exact .inr (.inl hj)
  ·
   unfold stepG;rw[List.pairwise_append];refine⟨?_,by simp,?_⟩
   · refine List.Pairwise.imp_of_mem ?_ pw3;intro x y hxm hym hxy hxy2;exact hxy ⟨hO x hxm hxy2.1,hO y hym hxy2.2⟩
   · intro x _ y hy hxy;simp only[List.mem_singleton]at hy;subst hy;have h1:=hj.1;have h2:=hxy.2.2.1;omega
 ·
  right;have hbig:((p2 K:Nat):Int)<=(aC M).cnt/\(aC M).cnt<=((p2 (K+1):Nat):Int)/\((p2 K:Nat):Int)<(aC (aw M)).cnt/\(aC (aw M)).cnt<=((p2 (K+1):Nat):Int)/\∀g∈aw (aw M),L4 K o g:=by
   rcases hL.1 _ ha with a1|a1|a1
   ·
    rcases hL.1 _ hb with b1|b1|b1
    · exact absurd ⟨a1,b1⟩ hAA
    ·
     refine⟨by rw[a1.1];omega,by rw[a1.1];omega,by rw[b1.1];omega,by rw[b1.1];omega,fun g hg=>?_⟩;have hge:=hbR g hg;rcases hL.1 g (hR g hg)with h1|h1|h1
     · have:=h1.1;have:=b1.1;omega
     · exact h1
     · have:=h1.2.1;have:=b1.1;omega
    ·
     refine⟨by rw[a1.1];omega,by rw[a1.1];omega,b1.1,by have:=b1.2.1;omega,fun g hg=>?_⟩;have hge:=hbR g hg;rcases hL.1 g (hR g hg)with h1|h1|h1
     · have:=h1.1;have:=b1.1;omega
     · exact h1
     · exact absurd ⟨b1,h1⟩ (pw2 g hg)
   ·
    rcases hL.1 _ hb with b1|b1|b1
    · have:=a1.1;have:=b1.1;omega
    ·
     refine⟨by rw[a1.1];omega,by rw[a1.1];omega,by rw[b1.1];omega,by rw[b1.1];omega,fun g hg=>?_⟩;have hge:=hbR g hg;rcases hL.1 g (hR g hg)with h1|h1|h1
     · have:=h1.1;have:=b1.1;omega
     · exact h1
     · have:=h1.2.1;have:=b1.1;omega
    · have:=a1.1;have:=b1.2.1;omega
   ·
    rcases hL.1 _ hb with b1|b1|b1
    · have:=a1.1;have:=b1.1;omega
    ·
     refine⟨by have:=a1.1;omega,by have:=a1.2.1;omega,by rw[b1.1];omega,by rw[b1.1];omega,fun g hg=>?_⟩;have hge:=hbR g hg;rcases hL.1 g (hR g hg)with h1|h1|h1
     · have:=h1.1;have:=b1.1;omega
     · exact h1
     · have:=h1.2.1;have:=b1.1;omega
    · exact absurd ⟨a1,b1⟩ (pw1 _ (by simp))
  obtain⟨q1,q2,q3,q4,q5⟩:=hbig;have hK1:∀g∈M,∀x∈g.syms,o.getD x.toNat 0<=(K:Int)+1:=by
   intro g hg x hm;rcases hL.1 g hg with h1|h1|h1
   · have:=h1.2 x hm;omega
   · exact h1.2 x hm
   · exact h1.2.2 x hm
  have hjd:∀x∈(ff (aC M) (aC (aw M))).syms,(bump o (aX M)).getD x.toNat 0<=((K+1:Nat):Int)+1:=by
   intro x hm;have hm2:=(hjs x).1 hm;rw[hnew x hm2];simp only[aX,List.mem_append]at hm2;rcases hm2 with hm2|hm2
   · have:=hK1 _ ha x hm2;omega
   · have:=hK1 _ hb x hm2;omega
  have hRA:∀g∈aw (aw M),GR (K+1) (bump o (aX M)) g:=fun g hg=>⟨(q5 g hg).1,fun x hm=>by rw[hold g hg x hm];have:=(q5 g hg).2 x hm;omega⟩;refine⟨fun g hg=>?_,?_⟩
  ·
   simp only[stepG,List.mem_append,List.mem_singleton]at hg;rcases hg with hg|rfl
   · exact .inl (hRA g hg)
   ·
    by_cases e:(ff (aC M) (aC (aw M))).cnt=((p2 (K+1+1):Nat):Int)
    · exact .inr (.inl ⟨e,hjd⟩)
    ·
     refine .inr (.inr ⟨?_,?_,hjd⟩)
     · rw[hjc];omega
     · rw[hjc]at e ⊢;omega
  ·
   unfold stepG;have hnO:∀g∈aw (aw M),¬ xu (K+1) (bump o (aX M)) g:=fun g hg hO=>by
    have h1:=(hRA g hg).1;have h2:=hO.1;omega
   rw[List.pairwise_append];refine⟨?_,by simp,?_⟩
   · refine List.Pairwise.imp_of_mem ?_ pw3;intro x y hxm _ _ hxy2;exact hnO x hxm hxy2.1
   · intro x hxm y _ hxy;exact hnO x hxm hxy.1
def KE(l:List Int):Prop:=∀i,i<l.length->l.getD i 0<=1
theorem ru(l:List Int)(h1:KE l)(k:Nat)(hk:k<=l.length):∀g∈av l k,GR 0 (List.replicate l.length 0) g:=by
 induction k with
 | zero=>intro g hg;simp[av]at hg
 | succ k ih=>
  simp only[av]
  split
  case isTrue h=>
   intro g hg;simp only[List.mem_append,List.mem_singleton]at hg;rcases hg with hg|rfl
   · exact ih (by omega) g hg
   ·
    refine⟨?_,?_⟩
    · have:=h1 k (by omega);have e:p2 0=1:=rfl;simp only;rw[e];omega
    ·
     intro s hs;simp only[List.mem_singleton]at hs;subst hs;rw[Int.toNat_natCast];have:(List.replicate l.length (0:Int)).getD k 0=0:=by simp[List.getD,show k<l.length by omega]
     rw[this];exact Int.le_refl _
  case isFalse=>exact ih (by omega)
theorem GT(l:List Int)(h1:KE l)(k:Nat)(hk:k<(av l l.length).length∨k=0):∃K,Lvl K (ay l k).2 (ay l k).1:=by
 induction k with
 | zero=>
  refine⟨0,fun g hg=>.inl (ru l h1 _ (Nat.le_refl _) g hg),?_⟩;refine List.Pairwise.imp_of_mem ?_ (List.pairwise_of_forall (R:=fun _ _=>True) (fun _ _=>trivial));intro x y hxm _ _ hxy;have:=(ru l h1 _ (Nat.le_refl _) x hxm).1;have:=hxy.1.1;omega
 | succ k ih=>
  obtain⟨K,hK⟩:=ih (by omega);have hl:=(bG l k (by omega)).2.2.2;have hf:=fC l k (by omega);rcases GU (by omega) hK hf.1 (fun x hx=>by rw[dJ];exact hf.2 x hx)with h|h
  · exact⟨K,h⟩
  · exact⟨K+1,h⟩
theorem lh(l:List Int)(k:Nat)(hk:k<(av l l.length).length∨k=0):(aT (ay l k).1).Perm (aT (av l l.length)):=by
 induction k with
 | zero=>exact List.Perm.refl _
 | succ k ih=>
  have hl:=(bG l k (by omega)).2.2.2;exact(tp (ay l k).1 (by omega)).trans (ih (by omega))
theorem tu(l:List Int)(i:Nat)(hi:i<l.length)(hn:(i:Int) ∉ aT (av l l.length))(k:Nat)(hk:k<(av l l.length).length∨k=0):(ay l k).2.getD i 0=0:=by
 induction k with
 | zero=>simp[ay,List.getD,hi]
 | succ k ih=>
  have h0:=ih (by omega);have hl:=(bG l k (by omega)).2.2.2;have hf:=fC l k (by omega);have hs:=ie (M:=(ay l k).1) (by omega) hf.1;have hsub:=ig (ay l k).1 (by omega);simp only[ay];rw[jY _ _ i hs.1 (fun x hx=>(hf.2 x (hsub.mem_iff.1 (by simp[hx]))).1) (by rw[dJ];exact hi),h0,if_neg]
  · rfl
  · intro hm;exact hn ((lh l k (by omega)).mem_iff.1 (hsub.mem_iff.1 (by simp[hm])))
theorem EM(M:List Grp)(h:∀g∈M,g.cnt=1):gg M=(M.length:Int):=by
 induction M with
 | nil=>rfl
 | cons g M ih=>
  have:=ih (fun x hx=>h x (by simp[hx]));have hg:=h g (by simp);simp only[gg,List.map_cons,List.sum_cons,List.length_cons]at this ⊢;omega
theorem BR{a b:Nat}(h:p2 a<=p2 b):a<=b:=by
 rcases Nat.lt_or_ge b a with h2|h2
 · have h3:p2 (b+1)<=p2 a:=Nat.pow_le_pow_right (by omega) (by omega);have h4:=jt b;have h5:=rK b;omega
 · exact h2
theorem MM{a b:Nat}(h:p2 a<p2 b):a<b:=by
 rcases Nat.lt_or_ge a b with h2|h2
 · exact h2
 · have h3:p2 b<=p2 a:=Nat.pow_le_pow_right (by omega) h2;omega
theorem Ho(l:List Int)(h1:KE l)(m:Nat)(hU:(av l l.length).length<=p2 m):vh (bW l) ((m:Int)+1):=by
 have hzero:∀i,i<l.length->(List.replicate l.length (0:Int)).getD i 0=0:=fun i hi=>by simp[List.getD,hi]
 intro i hi;rw[gV]at hi;unfold bW;by_cases hone:(av l l.length).length=1
 ·
  rw[if_pos hone];generalize ((av l l.length).getD 0 g0).fst.toNat=q;by_cases e:q=i
  · simp only[List.getD];rw[←e,List.getElem?_set_self (by rw[List.length_replicate,e];exact hi),Option.getD_some];omega
  · simp only[List.getD];rw[List.getElem?_set_ne e];have:=hzero i hi;simp only[List.getD]at this;omega
 ·
  rw[if_neg hone];generalize hk:(av l l.length).length-1=k;have hkU:k<(av l l.length).length∨k=0:=by omega
  have hmx:=jo l k hkU i (by rw[dJ];exact hi);by_cases hmem:(i:Int)∈aT (av l l.length)
  ·
   obtain⟨K,hK⟩:=GT l h1 k hkU;have hinv:=bG l k hkU;have hpos:0<(av l l.length).length:=by
    rcases Nat.eq_zero_or_pos (av l l.length).length with h|h
    · have:av l l.length=[]:=List.eq_nil_of_length_eq_zero h;rw[this]at hmem;simp[aT]at hmem
    · exact h
   have hlen:(ay l k).1.length=1:=by rw[hinv.2.2.2];omega
   obtain⟨g,hg⟩:=List.length_eq_one_iff.1 hlen;have hm2:=(lh l k hkU).mem_iff.2 hmem;rw[hg]at hm2 hK;have hsy:(i:Int)∈g.syms:=by simpa[aT]using hm2
   have hc:g.cnt=((av l l.length).length:Int):=by
    have h2:=hinv.2.1;rw[hg,EM (av l l.length) (fun x hx=>by have:=(ru l h1 _ (Nat.le_refl _) x hx).1;simpa[p2]using this)]at h2;simpa[gg]using h2
   have hgm:g∈[g]:=by simp
   rcases hK.1 g hgm with h|h|h
   ·
    have h3:=h.2 _ hsy;rw[Int.toNat_natCast]at h3;have h4:p2 K<=p2 m:=by have:=h.1;omega
    have:=BR h4;exact⟨hmx.1,by omega⟩
   ·
    have h3:=h.2 _ hsy;rw[Int.toNat_natCast]at h3;have h4:p2 (K+1)<=p2 m:=by have:=h.1;omega
    have:=BR h4;exact⟨hmx.1,by omega⟩
   ·
    have h3:=h.2.2 _ hsy;rw[Int.toNat_natCast]at h3;have h4:p2 K<p2 m:=by have:=h.1;omega
    have:=MM h4;exact⟨hmx.1,by omega⟩
  · rw[tu l i hi hmem k hkU];omega
/-! Counts are halved. -/
def iX(x:Int):Int:=(x+1)/2
def cS(l:List Int):List Int:=l.map iX
theorem fD(l:List Int):(cS l).length=l.length:=by simp[cS]
theorem oj(l:List Int)(i:Nat)(hi:i<l.length):(cS l).getD i 0=iX (l.getD i 0):=by simp[cS,List.getD,hi]
theorem tU(l:List Int)(h0:∀i,i<l.length->0<=l.getD i 0)(k:Nat)(hk:k<=l.length):(av (cS l) k).length=(av l k).length:=by
 induction k with
 | zero=>rfl
 | succ k ih=>
  have hh:=oj l k (by omega);have hp:=h0 k (by omega);simp only[av];by_cases h:0<l.getD k 0
  · rw[if_pos h,if_pos (by rw[hh];unfold iX;omega)];simp only[List.length_append,List.length_singleton];rw[ih (by omega)]
  · rw[if_neg h,if_neg (by rw[hh];unfold iX;omega),ih (by omega)]
def kK(l:List Int):Nat:=(l.map Int.toNat).sum
theorem yt(l:List Int)(h0:∀x∈l,0<=x):kK (cS l)<=kK l/\((∃x∈l,1<x)->kK (cS l)<kK l):=by
 induction l with
 | nil=>simp[kK,cS]
 | cons x l ih=>
  have h1:=ih (fun y hy=>h0 y (by simp[hy]));have hx:=h0 x (by simp);simp only[kK,cS,List.map_cons,List.sum_cons]at h1 ⊢;have e:(iX x).toNat<=x.toNat:=by unfold iX;omega
  refine⟨by omega,?_⟩;rintro⟨y,hy,hy1⟩;simp only[List.mem_cons]at hy;rcases hy with rfl|hy
  ·
   have:(iX y).toNat<y.toNat:=by unfold iX;omega
   omega
  · have:=h1.2 ⟨y,hy,hy1⟩;omega
def bQ(o:List Int):Nat->Int
 | 0=>0
 | k+1=>if bQ o k<o.getD k 0 then o.getD k 0 else bQ o k
def fits(o:List Int)(m:Int):Bool:=decide (bQ o o.length<=m)
theorem Ha{o:List Int}{B:Int}(hB:0<=B)(h:vh o B)(k:Nat)(hk:k<=o.length):bQ o k<=B:=by
 induction k with
 | zero=>exact hB
 | succ k ih=>
  have h1:=ih (by omega);have h2:=(h k (by omega)).2;simp only[bQ]
  split<;>assumption
theorem Bj{o:List Int}{m:Int}(hm:0<=m)(h:vh o m):fits o m=true:=by
 unfold fits;exact decide_eq_true (Ha hm h _ (Nat.le_refl _))
def sE(m:Int):Nat->List Int->List Int
 | 0,l=>bW l
 | f+1,l=>if fits (bW l) m then bW l else sE m f (cS l)
theorem xG{l:List Int}{m:Nat}(hU:(av l l.length).length<=p2 m)(hf:fits (bW l) ((m:Int)+1)=false):∃x∈l,1<x:=by
 apply Classical.byContradiction;intro hno;have h1:KE l:=by
  intro i hi;have hm:l.getD i 0∈l:=by simp[List.getD,hi]
  rcases Int.lt_or_le 1 (l.getD i 0)with h|h
  · exact absurd ⟨_,hm,h⟩ hno
  · exact h
 have:=Bj (by omega) (Ho l h1 m hU);rw[this]at hf;cases hf
end Go.Proofs.YtkpfkgoiaicgbaaGreatDoor
