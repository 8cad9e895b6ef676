/- Of what the proof is made: 5 texts, one behind the other. -/
import Derived.Test.YtbacpebljannfaaGreatDoorM11
import Derived.Deep.RegionHeld3
import Derived.BigQuiet
import Derived.Test.YtbacpebljannfaaGreatDoorM7
import Derived.Test.YtbacpebljannfaaGreatDoorM4
set_option linter.unusedSimpArgs false
set_option maxHeartbeats 1600000
namespace Go.Proofs.YtbacpebljannfaaGreatDoor
open Go.RowKit
def aZ(x y:Grp):Bool:=decide (x.cnt<y.cnt) || (decide (x.cnt=y.cnt)&&decide (x.fst<y.fst))
def bS(L:List Grp):Nat->Nat
 | 0=>0
 | k+1=>if aZ (L.getD (k+1) g0) (L.getD (bS L k) g0)then k+1 else bS L k
def least(L:List Grp):Nat:=bS L (L.length-1)
theorem tO(L:List Grp)(k:Nat):bS L k<=k:=by
 induction k with
 | zero=>exact a0a _
 | succ k ih=>simp only[bS];split<;>omega
theorem dZ(L:List Grp)(h:0<L.length):least L<L.length:=by
 have:=tO L (L.length-1);unfold least;omega
theorem oR(L:List Grp)(k:Nat):L.eraseIdx k=L.take k++L.drop (k+1):=List.eraseIdx_eq_take_drop_succ L k
theorem pO(a:Option Addr)(cap n base:Nat)(L:List Grp)(w:World)(hn:L.length=n)(h:cJ 243 w base (.slice a n cap) L)(h1:1<=n)(hm:n<=300) :
  Calls Tryz.prog 200 #[.slice a n cap] w fun e w'=>e = .returned (.int .i64 (least L:Nat))/\Below w.heap.size w w':=by
 obtain⟨g,rfl⟩:=h.somes (by omega);have HN:=af hn;have hmI:(n:Int)<=300:=by omega
 have HT:=af h;clear h hn hm;go_enter Tryz.func200,Tryz.ntmps200;go_wp2_with fail
 go_loopw [3,4] (fun b i wr=>∃k:Nat,k<n/\i = .int .i64 ((k:Int)+1)/\b = .int .i64 (bS L k:Nat)/\Below w.heap.size w wr) (fun _ i _=>n+1-(intOf i).toNat)
 case atStart=>exact⟨0,by omega,rfl,rfl,a0c _ _⟩
 case round=>
  obtain⟨k,hk,rfl,rfl,hbel⟩:=hrel;have HB:=af hbel;have HTr:=af ((ae HT).later hbel (a0a _));clear hbel;by_cases hlt:k+1<n
  ·
   have hltI:(k:Int)+1<(n:Int):=by omega
   have hle:=tO L k;obtain⟨c0,c1,_,_,_⟩:=(ae HTr).at (ae HN) (k+1) hlt;obtain⟨d0,d1,_,_,_⟩:=(ae HTr).at (ae HN) (bS L k) (by omega);have hst:Hid (bS L (k+1)=if aZ (L.getD (k+1) g0) (L.getD (bS L k) g0)then k+1 else bS L k):=rfl;have hls:Hid (∀x y:Grp,aZ x y=(decide (x.cnt<y.cnt) || (decide (x.cnt=y.cnt)&&decide (x.fst<y.fst)))):=fun _ _=>rfl;have qI:((bS L k:Nat):Int)<(n:Int):=by omega
   have hst2:Hid (bS L (k+1)=if (decide ((L.getD (k+1) g0).cnt<(L.getD (bS L k) g0).cnt) || (decide ((L.getD (k+1) g0).cnt=(L.getD (bS L k) g0).cnt)&&decide ((L.getD (k+1) g0).fst<(L.getD (bS L k) g0).fst)))then k+1 else bS L k):=rfl;clear hst hls hle;generalize bS L k=q at *
   generalize (L.getD (k+1) g0).cnt=x0 at *
   generalize (L.getD (k+1) g0).fst=x1 at *
   generalize (L.getD q g0).cnt=y0 at *
   generalize (L.getD q g0).fst=y1 at *
   by_cases h0:x0<y0
   ·
    have e0:decide (x0<y0)=true:=a0t h0;have hst3:Hid (bS L (k+1)=k+1):=by have:=ae hst2;rw[e0]at this;exact af (by simpa using this)
    go_wp2_with fail
    go_quiet (fail)
    go_wp2;go_roundw
    case rel=>exact⟨k+1,hlt,by go_num,by rw[ae hst3];go_num,a0D (ae HB) _⟩
    case measure=>simp[intOf];omega
   ·
    have e0:decide (x0<y0)=false:=a0s h0;by_cases h2:x0=y0
    ·
     subst h2;have g1:(x0 == x0)=true:=by simp
     by_cases h3:x1<y1
     ·
      have e1:decide (x1<y1)=true:=a0t h3;have hst3:Hid (bS L (k+1)=k+1):=by have:=ae hst2;rw[e0,e1]at this;exact af (by simpa using this)
      go_wp2_with fail
      go_quiet (fail)
      go_wp2;go_roundw
      case rel=>exact⟨k+1,hlt,by go_num,by rw[ae hst3];go_num,a0D (ae HB) _⟩
      case measure=>simp[intOf];omega
     ·
      have e1:decide (x1<y1)=false:=a0s h3;have hst3:Hid (bS L (k+1)=q):=by have:=ae hst2;rw[e0,e1]at this;exact af (by simpa using this)
      go_wp2_with fail
      go_quiet (fail)
      go_wp2;go_roundw
      case rel=>exact⟨k+1,hlt,by go_num,by rw[ae hst3],a0D (ae HB) _⟩
      case measure=>simp[intOf];omega
    ·
     have g1:(x0 == y0)=false:=by simpa using h2
     have hst3:Hid (bS L (k+1)=q):=by have:=ae hst2;rw[e0,a0s h2]at this;exact af (by simpa using this)
     go_wp2_with fail
     go_quiet (fail)
     go_wp2;go_roundw
     case rel=>exact⟨k+1,hlt,by go_num,by rw[ae hst3],a0D (ae HB) _⟩
     case measure=>simp[intOf];omega
  ·
   have hkn:Hid (least L=bS L k):=by
    show least L=bS L k;unfold least;rw[ae HN]
    congr 1;omega
   have hltI:¬ (k:Int)+1<(n:Int):=by omega
   go_wp2;go_ret;exact⟨aH (by rw[ae hkn]),ae HB⟩
theorem Tryz.infoTree:(Tryz.prog.info? 243).map (fun i=>(i.zero,i.size,i.bytes))=some (some (.agg #[.int .i64 0,.int .i64 0,.slice none 0 0]),3,40):=by kernel_rfl
theorem GF{t:TypeId}{x:World}{base n m:Nat}{v:Value}{l r:List Grp}(hn:l.length=n)(hm:r.length=m)(h:x.ownsRow base t 3 v (n+m) (aU l++aU r)):cJ t x base v (l++r):=by
 subst hn hm;show World.ownsRow _ _ _ _ _ (l++r).length _;rw[a0m,jt];exact h
theorem Ay(g n cap k:Nat)(hk:k<=cap)(hc:0<cap)(W:World):(Instr.slice 241 (.slice (some ⟨g,0,none⟩) n cap) none (some (.int .i64 (k:Int))) none).run Tryz.prog W = .ok (.slice (some ⟨g,0,none⟩) k cap) W:=by
 have hne:¬ cap=0:=by omega
 have hle:(k:Int)<=(cap:Int):=by omega
 have h0:(0:Int)<=(k:Int):=by omega
 go_simp
theorem Az(g n cap k:Nat)(hk:k<=n)(W:World):(Instr.slice 241 (.slice (some ⟨g,0,none⟩) n cap) (some (.int .i64 ((k:Int)))) none none).run Tryz.prog W = .ok (.slice (some ⟨g,if cap=k then 0 else k*3,none⟩) (n-k) (cap-k)) W:=by
 have hle:(k:Int)<=(n:Int):=by omega
 have h0:(0:Int)<=(k:Int):=by omega
 by_cases hc:cap=k
 · go_simp
 · go_simp
set_option maxRecDepth 100000 in
theorem rE(a:Option Addr)(cap n base ob k:Nat)(L:List Grp)(w:World)(hn:L.length=n)(h:cJ 243 w base (.slice a n cap) L)(hs:dH w ob L)(hk:k<n)(hm:n<=300) :
  Calls Tryz.prog 201 #[.slice a n cap,.int .i64 (k:Int)] w fun e w'=>(∃v,e = .returned v/\cJ 243 w' w.heap.size v (L.eraseIdx k))/\Below w.heap.size w w':=by
 obtain⟨g,rfl⟩:=h.somes (by omega);have hcap:=h.cap hn;have HN:=af hn;have hmI:(n:Int)<=300:=by omega
 have hkI:(k:Int)<(n:Int):=by omega
 have hcI:(n:Int)<=(cap:Int):=by omega
 have hcM:(cap:Int)<=9223372036854775807:=by have:=hcap.2;unfold maxLen at this;omega
 have HT:=af h;have HS:=af hs;obtain⟨i0,hi,hz0,hz1,hz2⟩:=a0w Tryz.infoTree;clear h hn hm hs hcap;obtain⟨o2,ho2⟩:∃o2,(if cap=k+1 then 0 else(k+1)*3)=o2:=⟨_,rfl⟩;have hs1:=Ay g n cap k (by omega) (by omega);have hs2:=Az g n cap (k+1) (by omega);have ek:((k+1:Nat):Int)=(k:Int)+1:=by omega
 rw[ek]at hs2;rw[ho2]at hs2;have hw1:IntKind.i64.wrap ((k:Int)+1)=(k:Int)+1:=by simp[IntKind.wrap,IntKind.bits,IntKind.signed];omega
 have HO:=af ho2;clear ho2 ek;have hT1:Hid (∀W,Below w.heap.size w W->∀j u,(aU (L.take k))[j]?=some u->W.cell? ((⟨g,0,none⟩:Addr).add j)=some u):=by
  intro W hW j u hj;exact cJ.news (ae HN) ((ae HT).later hW (a0a _)) 0 k 0 rfl (by omega) j u (by simpa using hj)
 have hT2:Hid (∀W,Below w.heap.size w W->∀j u,(aU (L.drop (k+1)))[j]?=some u->W.cell? ((⟨g,o2,none⟩:Addr).add j)=some u):=by
  intro W hW j u hj;have hN:=ae HN;by_cases hc:cap=k+1
  · have hd:L.drop (k+1)=[]:=List.drop_of_length_le (by omega);rw[hd]at hj;simp[aU]at hj
  · have ho:=ae HO;rw[a0e hc]at ho;refine cJ.news (ae HN) ((ae HT).later hW (a0a _)) (k+1) (n-(k+1)) o2 ho.symm (by omega) j u ?_;rw[a0F (by rw[a1B];omega)];exact hj
 have hO1:Hid (∀u∈aU (L.take k),u.oneCell'=true):=sH (fun g hg=>ae HS g (a12 hg));have hO2:Hid (∀u∈aU (L.drop (k+1)),u.oneCell'=true):=sH (fun g hg=>ae HS g (List.mem_of_mem_drop hg));have hL1:Hid ((aU (L.take k)).length=k*3):=by show(aU (L.take k)).length=k*3;rw[kE,a0L,ae HN];congr 1;omega
 have hL2:Hid ((aU (L.drop (k+1))).length=(n-(k+1))*3):=by show(aU (L.drop (k+1))).length=(n-(k+1))*3;rw[kE,a1B,ae HN]
 have hB0:∀N,Below w.heap.size w ((w.alloc (.cells #[] 243)).drewN N):=fun N=>a0D ((a0c _ _).alloc (a0a _) _) N;have hR0:World.ownsRow (w.alloc (.cells #[] 243)).drew w.heap.size 243 3 (.slice (some ⟨w.heap.size,0,none⟩) 0 0) 0 []:=a08 w #[] 0 (a0a _) (by unfold maxLen;omega) rfl;have hb1:Hid (0+k<=maxLen/\(0+k)*40<=140737488355328):=by show _/\_;unfold maxLen;omega
 have hb2:Hid (0+k+(n-(k+1))<=maxLen/\(0+k+(n-(k+1)))*40<=140737488355328):=by show _/\_;unfold maxLen;omega
 have hBd:Below w.heap.size w (w.alloc (.cells #[] 243)).drew:=((a0c _ _).alloc (a0a _) _).drew;have hk0:(0:Int)<=(k:Int):=by omega
 go_enter Tryz.func201,Tryz.ntmps201;go_wp2_with fail
 go_region_held3 (fun _=>True) (trivial) (first
  | (refine bE rfl (.tmp 5) (.tmp 8) 241 rfl w.heap.size 243 i0 (.agg #[.int .i64 0,.int .i64 0,.slice none 0 0]) 3 40 a2X hi hz0 hz1 hz2 rfl (a2C 2) (.slice (some ⟨w.heap.size,0,none⟩) 0 0) _ _ rfl hR0 ⟨g,0,none⟩ k cap (aU (L.take k)) rfl (ae hL1) (ae hT1 _ hBd) (ae hO1) (ae hb1).1 (ae hb1).2 hBd.size ?_;intro v1 x1 hown1 hgrow1 hnil1;clear hnil1;have hB1:Below w.heap.size w x1:=hBd.grown hgrow1 hBd.size (fun j hj=>(a0G hR0 j hj).1))
  | (refine bE rfl (.tmp 9) (.tmp 13) 241 rfl w.heap.size 243 i0 (.agg #[.int .i64 0,.int .i64 0,.slice none 0 0]) 3 40 a2X hi hz0 hz1 hz2 rfl (a2C 2) v1 _ _ rfl hown1 ⟨g,o2,none⟩ (n-(k+1)) (cap-(k+1)) (aU (L.drop (k+1))) rfl (ae hL2) (ae hT2 _ hB1) (ae hO2) (ae hb2).1 (ae hb2).2 hB1.size ?_;intro v2 x2 hown2 hgrow2 hnil2;clear hnil2;have hB2:Below w.heap.size w x2:=hB1.grown hgrow2 hB1.size (fun j hj=>(a0G hown1 j hj).1)))
 have hfin:cJ 243 x2 w.heap.size v2 (L.eraseIdx k):=by
  rw[oR];have hN:=ae HN;refine GF (n:=0+k) (m:=n-(k+1)) (by rw[a0L];omega) (by rw[a1B];omega) ?_;simpa using hown2
 obtain⟨va,vc,rfl⟩:=hfin.form;clear hown1 hown2 hgrow1 hgrow2;go_wp2;go_ret;exact⟨⟨_,rfl,hfin⟩,hB2⟩
def bare(g:Grp):Grp:=⟨g.cnt,g.fst,g.syms,.slice none 0 0⟩
def aB(l:List Int):Nat->List Grp
 | 0=>[]
 | k+1=>if 0<l.getD k 0 then aB l k++[⟨l.getD k 0,(k:Int),[(k:Int)],.slice none 0 0⟩]else aB l k
def du(a b:Grp):Grp:=⟨a.cnt+b.cnt,if b.fst<a.fst then b.fst else a.fst,a.syms++b.syms,.slice none 0 0⟩
def aE(M:List Grp):Grp:=M.getD (least M) g0
def al(M:List Grp):List Grp:=M.eraseIdx (least M)
def stepG(M:List Grp):List Grp:=al (al M)++[du (aE M) (aE (al M))]
def bg(M:List Grp):List Int:=(aE M).syms++(aE (al M)).syms
def eV(o:List Int)(i:Int):List Int:=o.set i.toNat (o.getD i.toNat 0+1)
def bump(o s:List Int):List Int:=s.foldl eV o
def ax(l:List Int):Nat->List Grp×List Int
 | 0=>(aB l l.length,List.replicate l.length 0)
 | k+1=>(stepG (ax l k).1,bump (ax l k).2 (bg (ax l k).1))
def bR(l:List Int):List Int:=if (aB l l.length).length=1 then(List.replicate l.length 0).set ((aB l l.length).getD 0 g0).fst.toNat 1 else(ax l ((aB l l.length).length-1)).2
theorem lX(o:List Int)(i:Int):(eV o i).length=o.length:=by simp[eV]
theorem ll(o s:List Int):(bump o s).length=o.length:=by
 induction s generalizing o with
 | nil=>rfl
 | cons i s ih=>show(bump (eV o i) s).length=_;rw[ih,lX]
theorem dK(l:List Int)(k:Nat):(ax l k).2.length=l.length:=by
 induction k with
 | zero=>simp[ax]
 | succ k ih=>simp only[ax];rw[ll,ih]
theorem gQ(l:List Int):(bR l).length=l.length:=by
 unfold bR
 split
 · simp
 · exact dK l _
theorem oL(o s:List Int)(k:Nat)(h:k<s.length):bump o (s.take (k+1))=eV (bump o (s.take k)) (s.getD k 0):=by
 rw[cn s k h];simp[bump]
/-! What is bare is as it was. -/
theorem rN(x y:Grp):aZ (bare x) (bare y)=aZ x y:=rfl
theorem me(L:List Grp)(k:Nat):(L.map bare).getD k g0=bare (L.getD k g0):=by
 simp only[List.getD];rw[List.getElem?_map];cases L[k]? <;> rfl
theorem xe(L:List Grp)(k:Nat):bS (L.map bare) k=bS L k:=by
 induction k with
 | zero=>rfl
 | succ k ih=>simp only[bS];rw[ih,me,me,rN]
theorem rH(L:List Grp):least (L.map bare)=least L:=by
 unfold least;rw[xe,a0P]
theorem iV(L:List Grp):aE (L.map bare)=bare (aE L):=by
 unfold aE;rw[rH,me]
theorem nn(L:List Grp):al (L.map bare)=(al L).map bare:=by
 unfold al;rw[rH,oR,oR,a0K,List.map_take,List.map_drop]
theorem uf(M:List Grp):stepG (M.map bare)=(al (al M)).map bare++[du (aE M) (aE (al M))]:=by
 unfold stepG;rw[nn,nn,iV,iV];rfl
theorem um(M:List Grp):bg (M.map bare)=bg M:=by
 unfold bg;rw[nn,iV,iV];rfl
/-! Bounds. -/
def WFg(n:Nat)(g:Grp):Prop:=0<=g.cnt/\0<=g.fst/\g.fst<(n:Int)/\(∀s∈g.syms,0<=s/\s<(n:Int))/\0<g.syms.length
def WFL(n:Nat)(M:List Grp):Prop:=∀g∈M,WFg n g
def fT(M:List Grp):Int:=(M.map Grp.cnt).sum
def ju(M:List Grp):Nat:=(M.map (fun g=>g.syms.length)).sum
theorem ft(M:List Grp)(k:Nat)(h:k<M.length):M.getD k g0∈M:=by simp[List.getD,h]
theorem nz(M:List Grp)(k:Nat)(h:k<M.length):fT M=(M.getD k g0).cnt+fT (M.eraseIdx k):=by
 induction M generalizing k with
 | nil=>simp at h
 | cons g M ih=>
  cases k with
  | zero=>simp[fT,List.eraseIdx]
  | succ k=>
   have:=ih k (by simpa using h);simp only[fT,List.eraseIdx_cons_succ,a0C,a0R,a2m]at this ⊢;omega
theorem kH(M:List Grp)(k:Nat)(h:k<M.length):ju M=(M.getD k g0).syms.length+ju (M.eraseIdx k):=by
 induction M generalizing k with
 | nil=>simp at h
 | cons g M ih=>
  cases k with
  | zero=>simp[ju,List.eraseIdx]
  | succ k=>
   have:=ih k (by simpa using h);simp only[ju,List.eraseIdx_cons_succ,a0C,a0R,a2m]at this ⊢;omega
theorem dm(M:List Grp)(h:0<M.length):(al M).length=M.length-1:=by
 unfold al;rw[List.length_eraseIdx,a0d (dZ M h)]
theorem qf(A B:List Grp):fT (A++B)=fT A+fT B:=by simp[fT]
theorem qg(A B:List Grp):ju (A++B)=ju A+ju B:=by simp[ju]
theorem Gu(M:List Grp)(h:1<M.length):fT (stepG M)=fT M/\ju (stepG M)=ju M/\(stepG M).length=M.length-1:=by
 have h1:=nz M (least M) (dZ M (by omega));have h2:=kH M (least M) (dZ M (by omega));have hr:=dm M (by omega);have h3:=nz (al M) (least (al M)) (dZ _ (by omega));have h4:=kH (al M) (least (al M)) (dZ _ (by omega));have hr2:=dm (al M) (by omega);have e1:M.getD (least M) g0=aE M:=rfl;have e2:(al M).getD (least (al M)) g0=aE (al M):=rfl;have e3:M.eraseIdx (least M)=al M:=rfl;have e4:(al M).eraseIdx (least (al M))=al (al M):=rfl;rw[e1,e3]at h1 h2;rw[e2,e4]at h3 h4;refine⟨?_,?_,?_⟩
 ·
  unfold stepG;rw[qf];have:fT [du (aE M) (aE (al M))]=(aE M).cnt+(aE (al M)).cnt:=by simp[fT,du]
  omega
 ·
  unfold stepG;rw[qg];have:ju [du (aE M) (aE (al M))]=(aE M).syms.length+(aE (al M)).syms.length:=by simp[ju,du]
  omega
 · unfold stepG;simp;omega
theorem bf(M:List Grp):∀g∈al M,g∈M:=fun _ hg=>List.mem_of_mem_eraseIdx hg
theorem bC(M:List Grp)(h:0<M.length):aE M∈M:=ft M _ (dZ M h)
theorem I0{n:Nat}{M:List Grp}(hw:WFL n M)(h:1<M.length):WFL n (stepG M):=by
 have hr:=dm M (by omega);have ha:=hw _ (bC M (by omega));have hb:=hw _ (bf M _ (bC (al M) (by omega)));intro g hg;simp only[stepG,a0X,a02]at hg;rcases hg with hg|rfl
 · exact hw g (bf M _ (bf _ _ hg))
 ·
  obtain⟨a0,a1,a2,a3,a4⟩:=ha;obtain⟨b0,b1,b2,b3,b4⟩:=hb;refine⟨?_,?_,?_,?_,?_⟩
  · simp only[du];omega
  · simp only[du];split<;>assumption
  · simp only[du];split<;>assumption
  ·
   intro s hs;simp only[du,a0X]at hs;rcases hs with hs|hs
   · exact a3 s hs
   · exact b3 s hs
  · simp only[du,a0m];omega
theorem Bz(l:List Int)(k:Nat)(hk:k<=l.length):WFL l.length (aB l k):=by
 induction k with
 | zero=>intro g hg;simp[aB]at hg
 | succ k ih=>
  simp only[aB]
  split
  case isTrue h=>
   intro g hg;simp only[a0X,a02]at hg;rcases hg with hg|rfl
   · exact ih (by omega) g hg
   · refine⟨by simp only;omega,by simp only;omega,by simp only;omega,?_,by simp⟩;intro s hs;simp only[a02]at hs;subst hs;omega
  case isFalse=>exact ih (by omega)
theorem jT(l:List Int)(C:Int)(hC:0<=C)(hl:∀i,i<l.length->l.getD i 0<=C)(k:Nat)(hk:k<=l.length):fT (aB l k)<=C*k/\ju (aB l k)<=k/\(aB l k).length<=k:=by
 induction k with
 | zero=>simp[aB,fT,ju]
 | succ k ih=>
  obtain⟨h1,h2,h3⟩:=ih (by omega);have hb:=hl k (by omega);have e:C*((k+1:Nat):Int)=C*(k:Int)+C:=by rw[show((k+1:Nat):Int)=(k:Int)+1 by omega,Int.mul_add,Int.mul_one]
  simp only[aB]
  split
  ·
   rw[qf,qg];refine⟨?_,?_,?_⟩
   · simp only[fT,a0C,a1C,a0R,a3u]at h1 ⊢;omega
   · simp only[ju,a0C,a1C,a0R,a3u,a07]at h2 ⊢;omega
   · simp;omega
  · refine⟨by omega,by omega,by omega⟩
theorem cf(l:List Int)(k:Nat)(hk:k<(aB l l.length).length∨k=0):WFL l.length (ax l k).1/\fT (ax l k).1=fT (aB l l.length)/\ju (ax l k).1=ju (aB l l.length)/\(ax l k).1.length=(aB l l.length).length-k:=by
 induction k with
 | zero=>exact⟨Bz l _ (a0a _),rfl,rfl,rfl⟩
 | succ k ih=>
  obtain⟨h1,h2,h3,h4⟩:=ih (by omega);have hlen:1<(ax l k).1.length:=by omega
  obtain⟨t1,t2,t3⟩:=Gu _ hlen;refine⟨I0 h1 hlen,by simp only[ax];omega,by simp only[ax];omega,by simp only[ax];omega⟩
theorem Ji{n:Nat}{M:List Grp}(hw:WFL n M){g:Grp}(hg:g∈M):g.cnt<=fT M:=by
 induction M with
 | nil=>cases hg
 | cons x M ih=>
  have hx:=(hw x (by simp)).1;have hM:0<=fT M:=by
   clear ih hg;have hw':WFL n M:=fun y hy=>hw y (by simp[hy]);clear hw;induction M with
   | nil=>simp[fT]
   | cons y M ih2=>
    have:=ih2 (fun z hz=>hw' z (by simp[hz]));have hy:=(hw' y (by simp)).1;simp only[fT,a0C,a0R]at this ⊢;omega
  simp only[a06]at hg;simp only[fT,a0C,a0R]at hM ih ⊢;rcases hg with rfl|hg
  · omega
  · have:=ih (fun y hy=>hw y (by simp[hy])) hg;omega
theorem vF{n:Nat}{M:List Grp}(hw:WFL n M)(h:1<M.length):(aE M).cnt+(aE (al M)).cnt<=fT M/\(bg M).length<=ju M:=by
 have hr:=dm M (by omega);have h1:=nz M (least M) (dZ M (by omega));have h2:=kH M (least M) (dZ M (by omega));have h4:=kH (al M) (least (al M)) (dZ _ (by omega));have e1:M.getD (least M) g0=aE M:=rfl;have e2:(al M).getD (least (al M)) g0=aE (al M):=rfl;have e3:M.eraseIdx (least M)=al M:=rfl;rw[e1,e3]at h1 h2;rw[e2]at h4;have hc:=Ji (n:=n) (M:=al M) (fun g hg=>hw g (bf M _ hg)) (bC (al M) (by omega));refine⟨by omega,?_⟩;unfold bg;rw[a0m];omega
/-! Lengths stay small. -/
def vq(o:List Int)(B:Int):Prop:=∀i,i<o.length->0<=o.getD i 0/\o.getD i 0<=B
theorem BQ{o:List Int}{B:Int}(h:vq o B)(i:Int):vq (eV o i) (B+1):=by
 intro j hj;rw[lX]at hj;have hj':=h j hj;by_cases e:i.toNat=j
 · subst e;simp only[eV,List.getD];rw[List.getElem?_set_self hj];simp only[a2W];have:=h i.toNat hj;simp only[List.getD]at this;omega
 ·
  have:(eV o i).getD j 0=o.getD j 0:=by
   simp only[eV,List.getD];rw[List.getElem?_set_ne e]
  rw[this];omega
theorem nK{o:List Int}{B:Int}(h:vq o B)(s:List Int):vq (bump o s) (B+s.length):=by
 induction s generalizing o B with
 | nil=>intro i hi;have:=h i hi;simp only[bump,List.foldl_nil,a01];omega
 | cons i s ih=>
  have:=ih (BQ h i);intro j hj;have h2:=this j hj;simp only[a0E];show 0<=(bump (eV o i) s).getD j 0/\_;refine⟨h2.1,?_⟩;have:=h2.2;show(bump (eV o i) s).getD j 0<=_;omega
theorem nV(l:List Int)(hl:∀i,i<l.length->l.getD i 0<=100000)(hn:l.length<=300)(k:Nat)(hk:k<(aB l l.length).length∨k=0):vq (ax l k).2 (300*(k:Int)):=by
 induction k with
 | zero=>
  intro i hi;have:(ax l 0).2.getD i 0=0:=by
   simp only[ax,List.getD];simp only[ax,a0A]at hi;simp[hi]
  rw[this];omega
 | succ k ih=>
  have hi:=ih (by omega);obtain⟨h1,h2,h3,h4⟩:=cf l k (by omega);have ht:=(vF h1 (by omega)).2;have hs:=(jT l 100000 (by omega) hl l.length (a0a _)).2.1;have hb:=nK hi (bg (ax l k).1);intro i hil;have:=hb i hil;simp only[ax]at this ⊢;omega
/-! What is counted once more. -/
theorem tf(o:List Int)(i:Int)(j:Nat)(h0:0<=i)(hj:j<o.length):(eV o i).getD j 0=o.getD j 0+(if i=(j:Int)then 1 else 0):=by
 by_cases e:i=(j:Int)
 ·
  rw[a0d e];have e2:i.toNat=j:=by omega
  simp only[eV,List.getD];rw[e2,List.getElem?_set_self hj,a2W]
 ·
  rw[a0e e];have e2:i.toNat≠j:=by omega
  simp only[eV,List.getD];rw[List.getElem?_set_ne e2];omega
theorem lk(o s:List Int)(j:Nat)(hs:s.Nodup)(h0:∀x∈s,0<=x)(hj:j<o.length):(bump o s).getD j 0=o.getD j 0+(if (j:Int)∈s then 1 else 0):=by
 induction s generalizing o with
 | nil=>simp[bump]
 | cons x s ih=>
  show(bump (eV o x) s).getD j 0=_;rw[List.nodup_cons]at hs;rw[ih (eV o x) hs.2 (fun y hy=>h0 y (by simp[hy])) (by rw[lX];exact hj),tf o x j (h0 x (by simp)) hj];by_cases e:x=(j:Int)
  · subst e;rw[a0d rfl,a0e hs.1,a0d (by simp)];omega
  ·
   rw[a0e e];by_cases h2:(j:Int)∈s
   · rw[a0d h2,a0d (by simp[h2])];omega
   · rw[a0e h2,a0e (by simp only[a06,not_or];exact⟨fun e2=>e e2.symm,h2⟩)];omega
/-! All symbols, each once. -/
def br(M:List Grp):List Int:=M.flatMap Grp.syms
theorem zZ(M:List Grp)(k:Nat)(h:k<M.length):(M.getD k g0 :: M.eraseIdx k).Perm M:=by
 induction M generalizing k with
 | nil=>simp at h
 | cons x M ih=>
  cases k with
  | zero=>exact a2g _
  | succ k=>
   rw[a2m,List.eraseIdx_cons_succ];exact(a3v _ _ _).trans (List.Perm.cons x (ih k (by simpa using h)))
theorem kB(M:List Grp)(h:0<M.length):(aE M :: al M).Perm M:=zZ M _ (dZ M h)
theorem sg(M:List Grp)(h:1<M.length):(aE M :: aE (al M) :: al (al M)).Perm M:=by
 have hr:=dm M (by omega);exact(List.Perm.cons _ (kB (al M) (by omega))).trans (kB M (by omega))
theorem oS{A B:List Grp}(h:A.Perm B):(br A).Perm (br B):=by
 induction h with
 | nil=>exact a2g _
 | cons x _ ih=>
  simp only[br,a03]at ih ⊢;exact List.Perm.append_left _ ih
 | swap x y l=>
  simp only[br,a03];rw[←a0S,←a0S];exact List.Perm.append_right _ List.perm_append_comm
 | trans _ _ h1 h2=>exact h1.trans h2
theorem tu(M:List Grp)(h:1<M.length):(br (stepG M)).Perm (br M):=by
 refine List.Perm.trans ?_ (oS (sg M h));unfold stepG br;rw[a2D];refine List.perm_append_comm.trans ?_;simp[du]
theorem Co(l:List Int)(k:Nat):(br (aB l k)).Nodup/\∀x∈br (aB l k),0<=x/\x<(k:Int):=by
 induction k with
 | zero=>simp[aB,br]
 | succ k ih=>
  simp only[aB]
  split
  ·
   have e:br (aB l k++[⟨l.getD k 0,(k:Int),[(k:Int)],.slice none 0 0⟩])=br (aB l k)++[(k:Int)]:=by simp[br]
   rw[e];refine⟨?_,?_⟩
   · rw[a3w];refine⟨ih.1,by simp,?_⟩;intro x hx y hy;simp only[a02]at hy;subst hy;have:=(ih.2 x hx).2;omega
   ·
    intro x hx;simp only[a0X,a02]at hx;rcases hx with hx|rfl
    · have:=ih.2 x hx;omega
    · omega
  · exact⟨ih.1,fun x hx=>by have:=ih.2 x hx;omega⟩
theorem gn(l:List Int)(k:Nat)(hk:k<(aB l l.length).length∨k=0):(br (ax l k).1).Nodup/\∀x∈br (ax l k).1,0<=x/\x<(l.length:Int):=by
 induction k with
 | zero=>exact Co l _
 | succ k ih=>
  have hi:=ih (by omega);have hl:=(cf l k (by omega)).2.2.2;have hp:=tu (ax l k).1 (by omega);exact⟨(hp.nodup_iff).2 hi.1,fun x hx=>hi.2 x (hp.mem_iff.1 hx)⟩
theorem iP(M:List Grp)(h:1<M.length):((bg M)++br (al (al M))).Perm (br M):=by
 refine List.Perm.trans ?_ (oS (sg M h));simp[bg,br]
theorem iO{M:List Grp}(h:1<M.length)(hn:(br M).Nodup):(bg M).Nodup/\∀g∈al (al M),∀s∈g.syms,s ∉ bg M:=by
 have h2:=((iP M h).nodup_iff).2 hn;rw[a3w]at h2;refine⟨h2.1,fun g hg s hs hm=>?_⟩;exact h2.2.2 s hm s (by simp only[br,List.mem_flatMap];exact⟨g,hg,hs⟩) rfl
theorem ko(l:List Int)(k:Nat)(hk:k<(aB l l.length).length∨k=0):vq (ax l k).2 (k:Int):=by
 induction k with
 | zero=>
  intro i hi;have:(ax l 0).2.getD i 0=0:=by
   simp only[ax,List.getD];simp only[ax,a0A]at hi;simp[hi]
  rw[this];omega
 | succ k ih=>
  have hi:=ih (by omega);have hl:=(cf l k (by omega)).2.2.2;have hf:=gn l k (by omega);have hn:=iO (M:=(ax l k).1) (by omega) hf.1;intro i hil;simp only[ax]at hil ⊢;rw[ll]at hil;have hpos:∀x∈bg (ax l k).1,0<=x:=fun x hx=>(hf.2 x ((iP _ (by omega)).mem_iff.1 (by simp[hx]))).1;rw[lk _ _ i hn.1 hpos hil];have:=hi i hil
  split<;>omega
/-! Where all come as often. -/
def Fs(K:Nat)(o:List Int)(g:Grp):Prop:=g.cnt=(p2 K:Nat)/\∀s∈g.syms,o.getD s.toNat 0<=(K:Int)
def Jz(K:Nat)(o:List Int)(g:Grp):Prop:=g.cnt=(p2 (K+1):Nat)/\∀s∈g.syms,o.getD s.toNat 0<=(K:Int)+1
def xA(K:Nat)(o:List Int)(g:Grp):Prop:=(p2 K:Nat)<g.cnt/\g.cnt<(p2 (K+1):Nat)/\∀s∈g.syms,o.getD s.toNat 0<=(K:Int)+1
def Lvl(K:Nat)(o:List Int)(M:List Grp):Prop:=(∀g∈M,Fs K o g∨Jz K o g∨xA K o g)/\M.Pairwise (fun x y=>¬ (xA K o x/\xA K o y))
theorem zC (L : List Grp) (k j : Nat) (hj : j ≤ k) : (L.getD (bS L k) g0).cnt ≤ (L.getD j g0).cnt := by
  induction k with
  | zero => have : j = 0 := by omega
            subst this; exact a2u _
  | succ k ih =>
    simp only [bS]
    by_cases e : j = k + 1
    · subst e
      split
      · exact a2u _
      · rename_i h
        simp only [aZ, a1f, a0z, not_or] at h
        have := h.1
        omega
    · have := ih (by omega)
      split
      · rename_i h
        simp only [aZ, a1f, a0n, a0z] at h
        omega
      · exact this
theorem tr(M:List Grp)(g:Grp)(hg:g∈M):(aE M).cnt<=g.cnt:=by
 obtain⟨i,hi,rfl⟩:=a15 hg;have:=zC M (M.length-1) i (by omega);have e:M.getD i g0=M[i]:=by simp[List.getD,hi]
 rw[e]at this;exact this
theorem Fu{K:Nat}{o:List Int}{M:List Grp}(h:1<M.length)(hL:Lvl K o M)(hn:(br M).Nodup)(hx:∀x∈br M,0<=x/\x<(o.length:Int)):Lvl K (bump o (bg M)) (stepG M)∨Lvl (K+1) (bump o (bg M)) (stepG M):=by
 have hr:=dm M (by omega);obtain⟨hs1,hs2⟩:=iO h hn;have hsub:=iP M h;have hpos:∀x∈bg M,0<=x:=fun x hm=>(hx x (hsub.mem_iff.1 (by simp[hm]))).1;have ha:=bC M (by omega);have hb:=bf M _ (bC (al M) (by omega));have hR:∀g∈al (al M),g∈M:=fun g hg=>bf M _ (bf _ _ hg);have hab:(aE M).cnt<=(aE (al M)).cnt:=tr M _ hb;have hbR:∀g∈al (al M),(aE (al M)).cnt<=g.cnt:=fun g hg=>tr (al M) g (bf _ _ hg);have hp2:p2 (K+1)=p2 K*2:=i7 K;have hp3:p2 (K+1+1)=p2 (K+1)*2:=i7 (K+1);have hp0:=po K;have hget:∀x,x∈br M->(bump o (bg M)).getD x.toNat 0=o.getD x.toNat 0+(if x∈bg M then 1 else 0):=by
  intro x hm;have hb:=hx x hm;rw[lk o (bg M) x.toNat hs1 hpos (by omega)];have e:((x.toNat:Nat):Int)=x:=by omega
  rw[e]
 have hmem:∀g∈M,∀x∈g.syms,x∈br M:=fun g hg x hxm=>by simp only[br,List.mem_flatMap];exact⟨g,hg,hxm⟩
 have hold:∀g∈al (al M),∀x∈g.syms,(bump o (bg M)).getD x.toNat 0=o.getD x.toNat 0:=by
  intro g hg x hxm;rw[hget x (hmem g (hR g hg) x hxm),a0e (hs2 g hg x hxm)];omega
 have hnew:∀x,x∈bg M->(bump o (bg M)).getD x.toNat 0=o.getD x.toNat 0+1:=by
  intro x hm;rw[hget x (hsub.mem_iff.1 (by simp[hm])),a0d hm]
 have hpw:(aE M :: aE (al M) :: al (al M)).Pairwise (fun x y=>¬ (xA K o x/\xA K o y)):=
  ((sg M h).pairwise_iff (fun{x y} hxy hyx=>hxy ⟨hyx.2,hyx.1⟩)).2 hL.2
 rw[List.pairwise_cons,List.pairwise_cons]at hpw;obtain⟨pw1,pw2,pw3⟩:=hpw;have hjc:(du (aE M) (aE (al M))).cnt=(aE M).cnt+(aE (al M)).cnt:=rfl;have hjs:∀x,x∈(du (aE M) (aE (al M))).syms<->x∈bg M:=fun x=>Iff.rfl;by_cases hAA:Fs K o (aE M)/\Fs K o (aE (al M))
 ·
  left;obtain⟨⟨a1,a2⟩,b1,b2⟩:=hAA;have hj:Jz K (bump o (bg M)) (du (aE M) (aE (al M))):=by
   refine⟨by rw[hjc,a1,b1,hp2];omega,fun x hm=>?_⟩;have hm2:=(hjs x).1 hm;rw[hnew x hm2];simp only[bg,a0X]at hm2;rcases hm2 with hm2|hm2
   · have:=a2 x hm2;omega
   · have:=b2 x hm2;omega
  have hO:∀g∈al (al M),xA K (bump o (bg M)) g->xA K o g:=fun g hg hO=>⟨hO.1,hO.2.1,fun x hm=>by have:=hO.2.2 x hm;rw[hold g hg x hm]at this;exact this⟩;refine⟨fun g hg=>?_,?_⟩
  ·
   simp only[stepG,a0X,a02]at hg;rcases hg with hg|rfl
   ·
    rcases hL.1 g (hR g hg)with h1|h1|h1
    · exact .inl ⟨h1.1,fun x hm=>by rw[hold g hg x hm];exact h1.2 x hm⟩
    · exact .inr (.inl ⟨h1.1,fun x hm=>by rw[hold g hg x hm];exact h1.2 x hm⟩)
    · exact .inr (.inr ⟨h1.1,h1.2.1,fun x hm=>by rw[hold g hg x hm];exact h1.2.2 x hm⟩)
   · exact .inr (.inl hj)
  ·
   unfold stepG;rw[List.pairwise_append];refine⟨?_,by simp,?_⟩
   · refine List.Pairwise.imp_of_mem ?_ pw3;intro x y hxm hym hxy hxy2;exact hxy ⟨hO x hxm hxy2.1,hO y hym hxy2.2⟩
   · intro x _ y hy hxy;simp only[a02]at hy;subst hy;have h1:=hj.1;have h2:=hxy.2.2.1;omega
 ·
  right;have hbig:((p2 K:Nat):Int)<=(aE M).cnt/\(aE M).cnt<=((p2 (K+1):Nat):Int)/\((p2 K:Nat):Int)<(aE (al M)).cnt/\(aE (al M)).cnt<=((p2 (K+1):Nat):Int)/\∀g∈al (al M),Jz K o g:=by
   rcases hL.1 _ ha with a1|a1|a1
   ·
    rcases hL.1 _ hb with b1|b1|b1
    · exact absurd ⟨a1,b1⟩ hAA
    ·
     refine⟨by rw[a1.1];omega,by rw[a1.1];omega,by rw[b1.1];omega,by rw[b1.1];omega,fun g hg=>?_⟩;have hge:=hbR g hg;rcases hL.1 g (hR g hg)with h1|h1|h1
     · have:=h1.1;have:=b1.1;omega
     · exact h1
     · have:=h1.2.1;have:=b1.1;omega
    ·
     refine⟨by rw[a1.1];omega,by rw[a1.1];omega,b1.1,by have:=b1.2.1;omega,fun g hg=>?_⟩;have hge:=hbR g hg;rcases hL.1 g (hR g hg)with h1|h1|h1
     · have:=h1.1;have:=b1.1;omega
     · exact h1
     · exact absurd ⟨b1,h1⟩ (pw2 g hg)
   ·
    rcases hL.1 _ hb with b1|b1|b1
    · have:=a1.1;have:=b1.1;omega
    ·
     refine⟨by rw[a1.1];omega,by rw[a1.1];omega,by rw[b1.1];omega,by rw[b1.1];omega,fun g hg=>?_⟩;have hge:=hbR g hg;rcases hL.1 g (hR g hg)with h1|h1|h1
     · have:=h1.1;have:=b1.1;omega
     · exact h1
     · have:=h1.2.1;have:=b1.1;omega
    · have:=a1.1;have:=b1.2.1;omega
   ·
    rcases hL.1 _ hb with b1|b1|b1
    · have:=a1.1;have:=b1.1;omega
    ·
     refine⟨by have:=a1.1;omega,by have:=a1.2.1;omega,by rw[b1.1];omega,by rw[b1.1];omega,fun g hg=>?_⟩;have hge:=hbR g hg;rcases hL.1 g (hR g hg)with h1|h1|h1
     · have:=h1.1;have:=b1.1;omega
     · exact h1
     · have:=h1.2.1;have:=b1.1;omega
    · exact absurd ⟨a1,b1⟩ (pw1 _ (by simp))
  obtain⟨q1,q2,q3,q4,q5⟩:=hbig;have hK1:∀g∈M,∀x∈g.syms,o.getD x.toNat 0<=(K:Int)+1:=by
   intro g hg x hm;rcases hL.1 g hg with h1|h1|h1
   · have:=h1.2 x hm;omega
   · exact h1.2 x hm
   · exact h1.2.2 x hm
  have hjd:∀x∈(du (aE M) (aE (al M))).syms,(bump o (bg M)).getD x.toNat 0<=((K+1:Nat):Int)+1:=by
   intro x hm;have hm2:=(hjs x).1 hm;rw[hnew x hm2];simp only[bg,a0X]at hm2;rcases hm2 with hm2|hm2
   · have:=hK1 _ ha x hm2;omega
   · have:=hK1 _ hb x hm2;omega
  have hRA:∀g∈al (al M),Fs (K+1) (bump o (bg M)) g:=fun g hg=>⟨(q5 g hg).1,fun x hm=>by rw[hold g hg x hm];have:=(q5 g hg).2 x hm;omega⟩;refine⟨fun g hg=>?_,?_⟩
  ·
   simp only[stepG,a0X,a02]at hg;rcases hg with hg|rfl
   · exact .inl (hRA g hg)
   ·
    by_cases e:(du (aE M) (aE (al M))).cnt=((p2 (K+1+1):Nat):Int)
    · exact .inr (.inl ⟨e,hjd⟩)
    ·
     refine .inr (.inr ⟨?_,?_,hjd⟩)
     · rw[hjc];omega
     · rw[hjc]at e ⊢;omega
  ·
   unfold stepG;have hnO:∀g∈al (al M),¬ xA (K+1) (bump o (bg M)) g:=fun g hg hO=>by
    have h1:=(hRA g hg).1;have h2:=hO.1;omega
   rw[List.pairwise_append];refine⟨?_,by simp,?_⟩
   · refine List.Pairwise.imp_of_mem ?_ pw3;intro x y hxm _ _ hxy2;exact hnO x hxm hxy2.1
   · intro x hxm y _ hxy;exact hnO x hxm hxy.1
def IB(l:List Int):Prop:=∀i,i<l.length->l.getD i 0<=1
theorem rR(l:List Int)(h1:IB l)(k:Nat)(hk:k<=l.length):∀g∈aB l k,Fs 0 (List.replicate l.length 0) g:=by
 induction k with
 | zero=>intro g hg;simp[aB]at hg
 | succ k ih=>
  simp only[aB]
  split
  case isTrue h=>
   intro g hg;simp only[a0X,a02]at hg;rcases hg with hg|rfl
   · exact ih (by omega) g hg
   ·
    refine⟨?_,?_⟩
    · have:=h1 k (by omega);have e:p2 0=1:=rfl;simp only;rw[e];omega
    ·
     intro s hs;simp only[a02]at hs;subst hs;rw[a0p];have:(List.replicate l.length (0:Int)).getD k 0=0:=by simp[List.getD,show k<l.length by omega]
     rw[this];exact a2u _
  case isFalse=>exact ih (by omega)
theorem Ft(l:List Int)(h1:IB l)(k:Nat)(hk:k<(aB l l.length).length∨k=0):∃K,Lvl K (ax l k).2 (ax l k).1:=by
 induction k with
 | zero=>
  refine⟨0,fun g hg=>.inl (rR l h1 _ (a0a _) g hg),?_⟩;refine List.Pairwise.imp_of_mem ?_ (List.pairwise_of_forall (R:=fun _ _=>True) (fun _ _=>trivial));intro x y hxm _ _ hxy;have:=(rR l h1 _ (a0a _) x hxm).1;have:=hxy.1.1;omega
 | succ k ih=>
  obtain⟨K,hK⟩:=ih (by omega);have hl:=(cf l k (by omega)).2.2.2;have hf:=gn l k (by omega);rcases Fu (by omega) hK hf.1 (fun x hx=>by rw[dK];exact hf.2 x hx)with h|h
  · exact⟨K,h⟩
  · exact⟨K+1,h⟩
theorem mb(l:List Int)(k:Nat)(hk:k<(aB l l.length).length∨k=0):(br (ax l k).1).Perm (br (aB l l.length)):=by
 induction k with
 | zero=>exact a2g _
 | succ k ih=>
  have hl:=(cf l k (by omega)).2.2.2;exact(tu (ax l k).1 (by omega)).trans (ih (by omega))
theorem tE(l:List Int)(i:Nat)(hi:i<l.length)(hn:(i:Int) ∉ br (aB l l.length))(k:Nat)(hk:k<(aB l l.length).length∨k=0):(ax l k).2.getD i 0=0:=by
 induction k with
 | zero=>simp[ax,List.getD,hi]
 | succ k ih=>
  have h0:=ih (by omega);have hl:=(cf l k (by omega)).2.2.2;have hf:=gn l k (by omega);have hs:=iO (M:=(ax l k).1) (by omega) hf.1;have hsub:=iP (ax l k).1 (by omega);simp only[ax];rw[lk _ _ i hs.1 (fun x hx=>(hf.2 x (hsub.mem_iff.1 (by simp[hx]))).1) (by rw[dK];exact hi),h0,a0e]
  · rfl
  · intro hm;exact hn ((mb l k (by omega)).mem_iff.1 (hsub.mem_iff.1 (by simp[hm])))
theorem DY(M:List Grp)(h:∀g∈M,g.cnt=1):fT M=(M.length:Int):=by
 induction M with
 | nil=>rfl
 | cons g M ih=>
  have:=ih (fun x hx=>h x (by simp[hx]));have hg:=h g (by simp);simp only[fT,a0C,a0R,a0E]at this ⊢;omega
theorem Br{a b:Nat}(h:p2 a<=p2 b):a<=b:=by
 rcases a1O b a with h2|h2
 · have h3:p2 (b+1)<=p2 a:=a0T (by omega) (by omega);have h4:=i7 b;have h5:=po b;omega
 · exact h2
theorem JW{a b:Nat}(h:p2 a<p2 b):a<b:=by
 rcases a1O a b with h2|h2
 · exact h2
 · have h3:p2 b<=p2 a:=a0T (by omega) h2;omega
theorem FE(l:List Int)(h1:IB l)(m:Nat)(hU:(aB l l.length).length<=p2 m):vq (bR l) ((m:Int)+1):=by
 have hzero:∀i,i<l.length->(List.replicate l.length (0:Int)).getD i 0=0:=fun i hi=>by simp[List.getD,hi]
 intro i hi;rw[gQ]at hi;unfold bR;by_cases hone:(aB l l.length).length=1
 ·
  rw[a0d hone];generalize ((aB l l.length).getD 0 g0).fst.toNat=q;by_cases e:q=i
  · simp only[List.getD];rw[←e,List.getElem?_set_self (by rw[a0A,e];exact hi),a2W];omega
  · simp only[List.getD];rw[List.getElem?_set_ne e];have:=hzero i hi;simp only[List.getD]at this;omega
 ·
  rw[a0e hone];generalize hk:(aB l l.length).length-1=k;have hkU:k<(aB l l.length).length∨k=0:=by omega
  have hmx:=ko l k hkU i (by rw[dK];exact hi);by_cases hmem:(i:Int)∈br (aB l l.length)
  ·
   obtain⟨K,hK⟩:=Ft l h1 k hkU;have hinv:=cf l k hkU;have hpos:0<(aB l l.length).length:=by
    rcases a2Y (aB l l.length).length with h|h
    · have:aB l l.length=[]:=a2t h;rw[this]at hmem;simp[br]at hmem
    · exact h
   have hlen:(ax l k).1.length=1:=by rw[hinv.2.2.2];omega
   obtain⟨g,hg⟩:=List.length_eq_one_iff.1 hlen;have hm2:=(mb l k hkU).mem_iff.2 hmem;rw[hg]at hm2 hK;have hsy:(i:Int)∈g.syms:=by simpa[br]using hm2
   have hc:g.cnt=((aB l l.length).length:Int):=by
    have h2:=hinv.2.1;rw[hg,DY (aB l l.length) (fun x hx=>by have:=(rR l h1 _ (a0a _) x hx).1;simpa[p2]using this)]at h2;simpa[fT]using h2
   have hgm:g∈[g]:=by simp
   rcases hK.1 g hgm with h|h|h
   ·
    have h3:=h.2 _ hsy;rw[a0p]at h3;have h4:p2 K<=p2 m:=by have:=h.1;omega
    have:=Br h4;exact⟨hmx.1,by omega⟩
   ·
    have h3:=h.2 _ hsy;rw[a0p]at h3;have h4:p2 (K+1)<=p2 m:=by have:=h.1;omega
    have:=Br h4;exact⟨hmx.1,by omega⟩
   ·
    have h3:=h.2.2 _ hsy;rw[a0p]at h3;have h4:p2 K<p2 m:=by have:=h.1;omega
    have:=JW h4;exact⟨hmx.1,by omega⟩
  · rw[tE l i hi hmem k hkU];omega
/-! Counts are halved. -/
def gP(x:Int):Int:=(x+1)/2
def bz(l:List Int):List Int:=l.map gP
theorem d9(l:List Int):(bz l).length=l.length:=by simp[bz]
theorem oT(l:List Int)(i:Nat)(hi:i<l.length):(bz l).getD i 0=gP (l.getD i 0):=by simp[bz,List.getD,hi]
theorem pu(l:List Int)(h0:∀i,i<l.length->0<=l.getD i 0)(k:Nat)(hk:k<=l.length):(aB (bz l) k).length=(aB l k).length:=by
 induction k with
 | zero=>rfl
 | succ k ih=>
  have hh:=oT l k (by omega);have hp:=h0 k (by omega);simp only[aB];by_cases h:0<l.getD k 0
  · rw[a0d h,a0d (by rw[hh];unfold gP;omega)];simp only[a0m,a07];rw[ih (by omega)]
  · rw[a0e h,a0e (by rw[hh];unfold gP;omega),ih (by omega)]
def iU(l:List Int):Nat:=(l.map Int.toNat).sum
theorem sF(l:List Int)(h0:∀x∈l,0<=x):iU (bz l)<=iU l/\((∃x∈l,1<x)->iU (bz l)<iU l):=by
 induction l with
 | nil=>simp[iU,bz]
 | cons x l ih=>
  have h1:=ih (fun y hy=>h0 y (by simp[hy]));have hx:=h0 x (by simp);simp only[iU,bz,a0C,a0R]at h1 ⊢;have e:(gP x).toNat<=x.toNat:=by unfold gP;omega
  refine⟨by omega,?_⟩;rintro⟨y,hy,hy1⟩;simp only[a06]at hy;rcases hy with rfl|hy
  ·
   have:(gP y).toNat<y.toNat:=by unfold gP;omega
   omega
  · have:=h1.2 ⟨y,hy,hy1⟩;omega
def bP(o:List Int):Nat->Int
 | 0=>0
 | k+1=>if bP o k<o.getD k 0 then o.getD k 0 else bP o k
def fits(o:List Int)(m:Int):Bool:=decide (bP o o.length<=m)
theorem FA{o:List Int}{B:Int}(hB:0<=B)(h:vq o B)(k:Nat)(hk:k<=o.length):bP o k<=B:=by
 induction k with
 | zero=>exact hB
 | succ k ih=>
  have h1:=ih (by omega);have h2:=(h k (by omega)).2;simp only[bP]
  split<;>assumption
theorem AR{o:List Int}{m:Int}(hm:0<=m)(h:vq o m):fits o m=true:=by
 unfold fits;exact a0t (FA hm h _ (a0a _))
def nR(m:Int):Nat->List Int->List Int
 | 0,l=>bR l
 | f+1,l=>if fits (bR l) m then bR l else nR m f (bz l)
theorem rY{l:List Int}{m:Nat}(hU:(aB l l.length).length<=p2 m)(hf:fits (bR l) ((m:Int)+1)=false):∃x∈l,1<x:=by
 apply Classical.byContradiction;intro hno;have h1:IB l:=by
  intro i hi;have hm:l.getD i 0∈l:=by simp[List.getD,hi]
  rcases a1t 1 (l.getD i 0)with h|h
  · exact absurd ⟨_,hm,h⟩ hno
  · exact h
 have:=AR (by omega) (FE l h1 m hU);rw[this]at hf;cases hf
end Go.Proofs.YtbacpebljannfaaGreatDoor
