/- Of what the proof is made: 5 texts, one behind the other. -/
import Derived.Test.YtbacpebljannfaaGreatDoorM10
import Derived.Deep.RegionHeld3
import Derived.BigQuiet
import Derived.Test.YtbacpebljannfaaGreatDoorM7
import Derived.Test.YtbacpebljannfaaGreatDoorM4
set_option linter.unusedSimpArgs false
set_option maxHeartbeats 1600000
namespace Go.Proofs.YtbacpebljannfaaGreatDoor
open Go.RowKit
def aY(x y:Grp):Bool:=decide (x.cnt<y.cnt) || (decide (x.cnt=y.cnt)&&decide (x.fst<y.fst))
def bJ(L:List Grp):Nat->Nat
 | 0=>0
 | k+1=>if aY (L.getD (k+1) g0) (L.getD (bJ L k) g0)then k+1 else bJ L k
def least(L:List Grp):Nat:=bJ L (L.length-1)
theorem sS(L:List Grp)(k:Nat):bJ L k<=k:=by
 induction k with
 | zero=>exact a0a _
 | succ k ih=>simp only[bJ];split<;>omega
theorem dQ(L:List Grp)(h:0<L.length):least L<L.length:=by
 have:=sS L (L.length-1);unfold least;omega
theorem om(L:List Grp)(k:Nat):L.eraseIdx k=L.take k++L.drop (k+1):=List.eraseIdx_eq_take_drop_succ L k
theorem pq(a:Option Addr)(cap n base:Nat)(L:List Grp)(w:World)(hn:L.length=n)(h:cq 243 w base (.slice a n cap) L)(h1:1<=n)(hm:n<=300) :
  Calls Tryz.prog 200 #[.slice a n cap] w fun e w'=>e = .returned (.int .i64 (least L:Nat))/\Below w.heap.size w w':=by
 obtain⟨g,rfl⟩:=h.somes (by omega);have HN:=af hn;have hmI:(n:Int)<=300:=by omega
 have HT:=af h;clear h hn hm;go_enter Tryz.func200,Tryz.ntmps200;go_wp2_with fail
 go_loopw [3,4] (fun b i wr=>∃k:Nat,k<n/\i = .int .i64 ((k:Int)+1)/\b = .int .i64 (bJ L k:Nat)/\Below w.heap.size w wr) (fun _ i _=>n+1-(intOf i).toNat)
 case atStart=>exact⟨0,by omega,rfl,rfl,a0c _ _⟩
 case round=>
  obtain⟨k,hk,rfl,rfl,hbel⟩:=hrel;have HB:=af hbel;have HTr:=af ((ae HT).later hbel (a0a _));clear hbel;by_cases hlt:k+1<n
  ·
   have hltI:(k:Int)+1<(n:Int):=by omega
   have hle:=sS L k;obtain⟨c0,c1,_,_,_⟩:=(ae HTr).at (ae HN) (k+1) hlt;obtain⟨d0,d1,_,_,_⟩:=(ae HTr).at (ae HN) (bJ L k) (by omega);have hst:Hid (bJ L (k+1)=if aY (L.getD (k+1) g0) (L.getD (bJ L k) g0)then k+1 else bJ L k):=rfl;have hls:Hid (∀x y:Grp,aY x y=(decide (x.cnt<y.cnt) || (decide (x.cnt=y.cnt)&&decide (x.fst<y.fst)))):=fun _ _=>rfl;have qI:((bJ L k:Nat):Int)<(n:Int):=by omega
   have hst2:Hid (bJ L (k+1)=if (decide ((L.getD (k+1) g0).cnt<(L.getD (bJ L k) g0).cnt) || (decide ((L.getD (k+1) g0).cnt=(L.getD (bJ L k) g0).cnt)&&decide ((L.getD (k+1) g0).fst<(L.getD (bJ L k) g0).fst)))then k+1 else bJ L k):=rfl;clear hst hls hle;generalize bJ L k=q at *
   generalize (L.getD (k+1) g0).cnt=x0 at *
   generalize (L.getD (k+1) g0).fst=x1 at *
   generalize (L.getD q g0).cnt=y0 at *
   generalize (L.getD q g0).fst=y1 at *
   by_cases h0:x0<y0
   ·
    have e0:decide (x0<y0)=true:=a0s h0;have hst3:Hid (bJ L (k+1)=k+1):=by have:=ae hst2;rw[e0]at this;exact af (by simpa using this)
    go_wp2_with fail
    go_quiet (fail)
    go_wp2;go_roundw
    case rel=>exact⟨k+1,hlt,by go_num,by rw[ae hst3];go_num,a0D (ae HB) _⟩
    case measure=>simp[intOf];omega
   ·
    have e0:decide (x0<y0)=false:=a0r h0;by_cases h2:x0=y0
    ·
     subst h2;have g1:(x0 == x0)=true:=by simp
     by_cases h3:x1<y1
     ·
      have e1:decide (x1<y1)=true:=a0s h3;have hst3:Hid (bJ L (k+1)=k+1):=by have:=ae hst2;rw[e0,e1]at this;exact af (by simpa using this)
      go_wp2_with fail
      go_quiet (fail)
      go_wp2;go_roundw
      case rel=>exact⟨k+1,hlt,by go_num,by rw[ae hst3];go_num,a0D (ae HB) _⟩
      case measure=>simp[intOf];omega
     ·
      have e1:decide (x1<y1)=false:=a0r h3;have hst3:Hid (bJ L (k+1)=q):=by have:=ae hst2;rw[e0,e1]at this;exact af (by simpa using this)
      go_wp2_with fail
      go_quiet (fail)
      go_wp2;go_roundw
      case rel=>exact⟨k+1,hlt,by go_num,by rw[ae hst3],a0D (ae HB) _⟩
      case measure=>simp[intOf];omega
    ·
     have g1:(x0 == y0)=false:=by simpa using h2
     have hst3:Hid (bJ L (k+1)=q):=by have:=ae hst2;rw[e0,a0r h2]at this;exact af (by simpa using this)
     go_wp2_with fail
     go_quiet (fail)
     go_wp2;go_roundw
     case rel=>exact⟨k+1,hlt,by go_num,by rw[ae hst3],a0D (ae HB) _⟩
     case measure=>simp[intOf];omega
  ·
   have hkn:Hid (least L=bJ L k):=by
    show least L=bJ L k;unfold least;rw[ae HN]
    congr 1;omega
   have hltI:¬ (k:Int)+1<(n:Int):=by omega
   go_wp2;go_ret;exact⟨aH (by rw[ae hkn]),ae HB⟩
theorem Tryz.infoTree:(Tryz.prog.info? 243).map (fun i=>(i.zero,i.size,i.bytes))=some (some (.agg #[.int .i64 0,.int .i64 0,.slice none 0 0]),3,40):=by kernel_rfl
theorem Fp{t:TypeId}{x:World}{base n m:Nat}{v:Value}{l r:List Grp}(hn:l.length=n)(hm:r.length=m)(h:x.ownsRow base t 3 v (n+m) (aS l++aS r)):cq t x base v (l++r):=by
 subst hn hm;show World.ownsRow _ _ _ _ _ (l++r).length _;rw[a0l,iW];exact h
theorem zg(g n cap k:Nat)(hk:k<=cap)(hc:0<cap)(W:World):(Instr.slice 241 (.slice (some ⟨g,0,none⟩) n cap) none (some (.int .i64 (k:Int))) none).run Tryz.prog W = .ok (.slice (some ⟨g,0,none⟩) k cap) W:=by
 have hne:¬ cap=0:=by omega
 have hle:(k:Int)<=(cap:Int):=by omega
 have h0:(0:Int)<=(k:Int):=by omega
 go_simp
theorem zh(g n cap k:Nat)(hk:k<=n)(W:World):(Instr.slice 241 (.slice (some ⟨g,0,none⟩) n cap) (some (.int .i64 ((k:Int)))) none none).run Tryz.prog W = .ok (.slice (some ⟨g,if cap=k then 0 else k*3,none⟩) (n-k) (cap-k)) W:=by
 have hle:(k:Int)<=(n:Int):=by omega
 have h0:(0:Int)<=(k:Int):=by omega
 by_cases hc:cap=k
 · go_simp
 · go_simp
set_option maxRecDepth 100000 in
theorem qR(a:Option Addr)(cap n base ob k:Nat)(L:List Grp)(w:World)(hn:L.length=n)(h:cq 243 w base (.slice a n cap) L)(hs:dz w ob L)(hk:k<n)(hm:n<=300) :
  Calls Tryz.prog 201 #[.slice a n cap,.int .i64 (k:Int)] w fun e w'=>(∃v,e = .returned v/\cq 243 w' w.heap.size v (L.eraseIdx k))/\Below w.heap.size w w':=by
 obtain⟨g,rfl⟩:=h.somes (by omega);have hcap:=h.cap hn;have HN:=af hn;have hmI:(n:Int)<=300:=by omega
 have hkI:(k:Int)<(n:Int):=by omega
 have hcI:(n:Int)<=(cap:Int):=by omega
 have hcM:(cap:Int)<=9223372036854775807:=by have:=hcap.2;unfold maxLen at this;omega
 have HT:=af h;have HS:=af hs;obtain⟨i0,hi,hz0,hz1,hz2⟩:=a0x Tryz.infoTree;clear h hn hm hs hcap;obtain⟨o2,ho2⟩:∃o2,(if cap=k+1 then 0 else(k+1)*3)=o2:=⟨_,rfl⟩;have hs1:=zg g n cap k (by omega) (by omega);have hs2:=zh g n cap (k+1) (by omega);have ek:((k+1:Nat):Int)=(k:Int)+1:=by omega
 rw[ek]at hs2;rw[ho2]at hs2;have hw1:IntKind.i64.wrap ((k:Int)+1)=(k:Int)+1:=by simp[IntKind.wrap,IntKind.bits,IntKind.signed];omega
 have HO:=af ho2;clear ho2 ek;have hT1:Hid (∀W,Below w.heap.size w W->∀j u,(aS (L.take k))[j]?=some u->W.cell? ((⟨g,0,none⟩:Addr).add j)=some u):=by
  intro W hW j u hj;exact cq.news (ae HN) ((ae HT).later hW (a0a _)) 0 k 0 rfl (by omega) j u (by simpa using hj)
 have hT2:Hid (∀W,Below w.heap.size w W->∀j u,(aS (L.drop (k+1)))[j]?=some u->W.cell? ((⟨g,o2,none⟩:Addr).add j)=some u):=by
  intro W hW j u hj;have hN:=ae HN;by_cases hc:cap=k+1
  · have hd:L.drop (k+1)=[]:=List.drop_of_length_le (by omega);rw[hd]at hj;simp[aS]at hj
  · have ho:=ae HO;rw[a0e hc]at ho;refine cq.news (ae HN) ((ae HT).later hW (a0a _)) (k+1) (n-(k+1)) o2 ho.symm (by omega) j u ?_;rw[a0C (by rw[a1c];omega)];exact hj
 have hO1:Hid (∀u∈aS (L.take k),u.oneCell'=true):=rQ (fun g hg=>ae HS g (a1S hg));have hO2:Hid (∀u∈aS (L.drop (k+1)),u.oneCell'=true):=rQ (fun g hg=>ae HS g (List.mem_of_mem_drop hg));have hL1:Hid ((aS (L.take k)).length=k*3):=by show(aS (L.take k)).length=k*3;rw[jW,a0L,ae HN];congr 1;omega
 have hL2:Hid ((aS (L.drop (k+1))).length=(n-(k+1))*3):=by show(aS (L.drop (k+1))).length=(n-(k+1))*3;rw[jW,a1c,ae HN]
 have hB0:∀N,Below w.heap.size w ((w.alloc (.cells #[] 243)).drewN N):=fun N=>a0D ((a0c _ _).alloc (a0a _) _) N;have hR0:World.ownsRow (w.alloc (.cells #[] 243)).drew w.heap.size 243 3 (.slice (some ⟨w.heap.size,0,none⟩) 0 0) 0 []:=a06 w #[] 0 (a0a _) (by unfold maxLen;omega) rfl;have hb1:Hid (0+k<=maxLen/\(0+k)*40<=140737488355328):=by show _/\_;unfold maxLen;omega
 have hb2:Hid (0+k+(n-(k+1))<=maxLen/\(0+k+(n-(k+1)))*40<=140737488355328):=by show _/\_;unfold maxLen;omega
 have hBd:Below w.heap.size w (w.alloc (.cells #[] 243)).drew:=((a0c _ _).alloc (a0a _) _).drew;have hk0:(0:Int)<=(k:Int):=by omega
 go_enter Tryz.func201,Tryz.ntmps201;go_wp2_with fail
 go_region_held3 (fun _=>True) (trivial) (first
  | (refine bz rfl (.tmp 5) (.tmp 8) 241 rfl w.heap.size 243 i0 (.agg #[.int .i64 0,.int .i64 0,.slice none 0 0]) 3 40 a2V hi hz0 hz1 hz2 rfl (a2A 2) (.slice (some ⟨w.heap.size,0,none⟩) 0 0) _ _ rfl hR0 ⟨g,0,none⟩ k cap (aS (L.take k)) rfl (ae hL1) (ae hT1 _ hBd) (ae hO1) (ae hb1).1 (ae hb1).2 hBd.size ?_;intro v1 x1 hown1 hgrow1 hnil1;clear hnil1;have hB1:Below w.heap.size w x1:=hBd.grown hgrow1 hBd.size (fun j hj=>(a0G hR0 j hj).1))
  | (refine bz rfl (.tmp 9) (.tmp 13) 241 rfl w.heap.size 243 i0 (.agg #[.int .i64 0,.int .i64 0,.slice none 0 0]) 3 40 a2V hi hz0 hz1 hz2 rfl (a2A 2) v1 _ _ rfl hown1 ⟨g,o2,none⟩ (n-(k+1)) (cap-(k+1)) (aS (L.drop (k+1))) rfl (ae hL2) (ae hT2 _ hB1) (ae hO2) (ae hb2).1 (ae hb2).2 hB1.size ?_;intro v2 x2 hown2 hgrow2 hnil2;clear hnil2;have hB2:Below w.heap.size w x2:=hB1.grown hgrow2 hB1.size (fun j hj=>(a0G hown1 j hj).1)))
 have hfin:cq 243 x2 w.heap.size v2 (L.eraseIdx k):=by
  rw[om];have hN:=ae HN;refine Fp (n:=0+k) (m:=n-(k+1)) (by rw[a0L];omega) (by rw[a1c];omega) ?_;simpa using hown2
 obtain⟨va,vc,rfl⟩:=hfin.form;clear hown1 hown2 hgrow1 hgrow2;go_wp2;go_ret;exact⟨⟨_,rfl,hfin⟩,hB2⟩
def bare(g:Grp):Grp:=⟨g.cnt,g.fst,g.syms,.slice none 0 0⟩
def az(l:List Int):Nat->List Grp
 | 0=>[]
 | k+1=>if 0<l.getD k 0 then az l k++[⟨l.getD k 0,(k:Int),[(k:Int)],.slice none 0 0⟩]else az l k
def dh(a b:Grp):Grp:=⟨a.cnt+b.cnt,if b.fst<a.fst then b.fst else a.fst,a.syms++b.syms,.slice none 0 0⟩
def aC(M:List Grp):Grp:=M.getD (least M) g0
def am(M:List Grp):List Grp:=M.eraseIdx (least M)
def stepG(M:List Grp):List Grp:=am (am M)++[dh (aC M) (aC (am M))]
def bf(M:List Grp):List Int:=(aC M).syms++(aC (am M)).syms
def eu(o:List Int)(i:Int):List Int:=o.set i.toNat (o.getD i.toNat 0+1)
def bump(o s:List Int):List Int:=s.foldl eu o
def aw(l:List Int):Nat->List Grp×List Int
 | 0=>(az l l.length,List.replicate l.length 0)
 | k+1=>(stepG (aw l k).1,bump (aw l k).2 (bf (aw l k).1))
def bI(l:List Int):List Int:=if (az l l.length).length=1 then(List.replicate l.length 0).set ((az l l.length).getD 0 g0).fst.toNat 1 else(aw l ((az l l.length).length-1)).2
theorem lz(o:List Int)(i:Int):(eu o i).length=o.length:=by simp[eu]
theorem kA(o s:List Int):(bump o s).length=o.length:=by
 induction s generalizing o with
 | nil=>rfl
 | cons i s ih=>show(bump (eu o i) s).length=_;rw[ih,lz]
theorem dD(l:List Int)(k:Nat):(aw l k).2.length=l.length:=by
 induction k with
 | zero=>simp[aw]
 | succ k ih=>simp only[aw];rw[kA,ih]
theorem gi(l:List Int):(bI l).length=l.length:=by
 unfold bI
 split
 · simp
 · exact dD l _
theorem od(o s:List Int)(k:Nat)(h:k<s.length):bump o (s.take (k+1))=eu (bump o (s.take k)) (s.getD k 0):=by
 rw[bX s k h];simp[bump]
/-! What is bare is as it was. -/
theorem qZ(x y:Grp):aY (bare x) (bare y)=aY x y:=rfl
theorem lH(L:List Grp)(k:Nat):(L.map bare).getD k g0=bare (L.getD k g0):=by
 simp only[List.getD];rw[List.getElem?_map];cases L[k]? <;> rfl
theorem vZ(L:List Grp)(k:Nat):bJ (L.map bare) k=bJ L k:=by
 induction k with
 | zero=>rfl
 | succ k ih=>simp only[bJ];rw[ih,lH,lH,qZ]
theorem qU(L:List Grp):least (L.map bare)=least L:=by
 unfold least;rw[vZ,a0P]
theorem iA(L:List Grp):aC (L.map bare)=bare (aC L):=by
 unfold aC;rw[qU,lH]
theorem mR(L:List Grp):am (L.map bare)=(am L).map bare:=by
 unfold am;rw[qU,om,om,a0J,List.map_take,List.map_drop]
theorem tp(M:List Grp):stepG (M.map bare)=(am (am M)).map bare++[dh (aC M) (aC (am M))]:=by
 unfold stepG;rw[mR,mR,iA,iA];rfl
theorem tt(M:List Grp):bf (M.map bare)=bf M:=by
 unfold bf;rw[mR,iA,iA];rfl
/-! Bounds. -/
def WFg(n:Nat)(g:Grp):Prop:=0<=g.cnt/\0<=g.fst/\g.fst<(n:Int)/\(∀s∈g.syms,0<=s/\s<(n:Int))/\0<g.syms.length
def WFL(n:Nat)(M:List Grp):Prop:=∀g∈M,WFg n g
def fs(M:List Grp):Int:=(M.map Grp.cnt).sum
def iX(M:List Grp):Nat:=(M.map (fun g=>g.syms.length)).sum
theorem eK(M:List Grp)(k:Nat)(h:k<M.length):M.getD k g0∈M:=by simp[List.getD,h]
theorem mZ(M:List Grp)(k:Nat)(h:k<M.length):fs M=(M.getD k g0).cnt+fs (M.eraseIdx k):=by
 induction M generalizing k with
 | nil=>simp at h
 | cons g M ih=>
  cases k with
  | zero=>simp[fs,List.eraseIdx]
  | succ k=>
   have:=ih k (by simpa using h);simp only[fs,List.eraseIdx_cons_succ,a0K,a0R,a2k]at this ⊢;omega
theorem jY(M:List Grp)(k:Nat)(h:k<M.length):iX M=(M.getD k g0).syms.length+iX (M.eraseIdx k):=by
 induction M generalizing k with
 | nil=>simp at h
 | cons g M ih=>
  cases k with
  | zero=>simp[iX,List.eraseIdx]
  | succ k=>
   have:=ih k (by simpa using h);simp only[iX,List.eraseIdx_cons_succ,a0K,a0R,a2k]at this ⊢;omega
theorem da(M:List Grp)(h:0<M.length):(am M).length=M.length-1:=by
 unfold am;rw[List.length_eraseIdx,a0d (dQ M h)]
theorem pD(A B:List Grp):fs (A++B)=fs A+fs B:=by simp[fs]
theorem pE(A B:List Grp):iX (A++B)=iX A+iX B:=by simp[iX]
theorem E8(M:List Grp)(h:1<M.length):fs (stepG M)=fs M/\iX (stepG M)=iX M/\(stepG M).length=M.length-1:=by
 have h1:=mZ M (least M) (dQ M (by omega));have h2:=jY M (least M) (dQ M (by omega));have hr:=da M (by omega);have h3:=mZ (am M) (least (am M)) (dQ _ (by omega));have h4:=jY (am M) (least (am M)) (dQ _ (by omega));have hr2:=da (am M) (by omega);have e1:M.getD (least M) g0=aC M:=rfl;have e2:(am M).getD (least (am M)) g0=aC (am M):=rfl;have e3:M.eraseIdx (least M)=am M:=rfl;have e4:(am M).eraseIdx (least (am M))=am (am M):=rfl;rw[e1,e3]at h1 h2;rw[e2,e4]at h3 h4;refine⟨?_,?_,?_⟩
 ·
  unfold stepG;rw[pD];have:fs [dh (aC M) (aC (am M))]=(aC M).cnt+(aC (am M)).cnt:=by simp[fs,dh]
  omega
 ·
  unfold stepG;rw[pE];have:iX [dh (aC M) (aC (am M))]=(aC M).syms.length+(aC (am M)).syms.length:=by simp[iX,dh]
  omega
 · unfold stepG;simp;omega
theorem be(M:List Grp):∀g∈am M,g∈M:=fun _ hg=>List.mem_of_mem_eraseIdx hg
theorem bv(M:List Grp)(h:0<M.length):aC M∈M:=eK M _ (dQ M h)
theorem GB{n:Nat}{M:List Grp}(hw:WFL n M)(h:1<M.length):WFL n (stepG M):=by
 have hr:=da M (by omega);have ha:=hw _ (bv M (by omega));have hb:=hw _ (be M _ (bv (am M) (by omega)));intro g hg;simp only[stepG,a0U,a00]at hg;rcases hg with hg|rfl
 · exact hw g (be M _ (be _ _ hg))
 ·
  obtain⟨a0,a1,a2,a3,a4⟩:=ha;obtain⟨b0,b1,b2,b3,b4⟩:=hb;refine⟨?_,?_,?_,?_,?_⟩
  · simp only[dh];omega
  · simp only[dh];split<;>assumption
  · simp only[dh];split<;>assumption
  ·
   intro s hs;simp only[dh,a0U]at hs;rcases hs with hs|hs
   · exact a3 s hs
   · exact b3 s hs
  · simp only[dh,a0l];omega
theorem zY(l:List Int)(k:Nat)(hk:k<=l.length):WFL l.length (az l k):=by
 induction k with
 | zero=>intro g hg;simp[az]at hg
 | succ k ih=>
  simp only[az]
  split
  case isTrue h=>
   intro g hg;simp only[a0U,a00]at hg;rcases hg with hg|rfl
   · exact ih (by omega) g hg
   · refine⟨by simp only;omega,by simp only;omega,by simp only;omega,?_,by simp⟩;intro s hs;simp only[a00]at hs;subst hs;omega
  case isFalse=>exact ih (by omega)
theorem ju(l:List Int)(C:Int)(hC:0<=C)(hl:∀i,i<l.length->l.getD i 0<=C)(k:Nat)(hk:k<=l.length):fs (az l k)<=C*k/\iX (az l k)<=k/\(az l k).length<=k:=by
 induction k with
 | zero=>simp[az,fs,iX]
 | succ k ih=>
  obtain⟨h1,h2,h3⟩:=ih (by omega);have hb:=hl k (by omega);have e:C*((k+1:Nat):Int)=C*(k:Int)+C:=by rw[show((k+1:Nat):Int)=(k:Int)+1 by omega,Int.mul_add,Int.mul_one]
  simp only[az]
  split
  ·
   rw[pD,pE];refine⟨?_,?_,?_⟩
   · simp only[fs,a0K,a1N,a0R,a3n]at h1 ⊢;omega
   · simp only[iX,a0K,a1N,a0R,a3n,a1b]at h2 ⊢;omega
   · simp;omega
  · refine⟨by omega,by omega,by omega⟩
theorem bT(l:List Int)(k:Nat)(hk:k<(az l l.length).length∨k=0):WFL l.length (aw l k).1/\fs (aw l k).1=fs (az l l.length)/\iX (aw l k).1=iX (az l l.length)/\(aw l k).1.length=(az l l.length).length-k:=by
 induction k with
 | zero=>exact⟨zY l _ (a0a _),rfl,rfl,rfl⟩
 | succ k ih=>
  obtain⟨h1,h2,h3,h4⟩:=ih (by omega);have hlen:1<(aw l k).1.length:=by omega
  obtain⟨t1,t2,t3⟩:=E8 _ hlen;refine⟨GB h1 hlen,by simp only[aw];omega,by simp only[aw];omega,by simp only[aw];omega⟩
theorem GQ{n:Nat}{M:List Grp}(hw:WFL n M){g:Grp}(hg:g∈M):g.cnt<=fs M:=by
 induction M with
 | nil=>cases hg
 | cons x M ih=>
  have hx:=(hw x (by simp)).1;have hM:0<=fs M:=by
   clear ih hg;have hw':WFL n M:=fun y hy=>hw y (by simp[hy]);clear hw;induction M with
   | nil=>simp[fs]
   | cons y M ih2=>
    have:=ih2 (fun z hz=>hw' z (by simp[hz]));have hy:=(hw' y (by simp)).1;simp only[fs,a0K,a0R]at this ⊢;omega
  simp only[a04]at hg;simp only[fs,a0K,a0R]at hM ih ⊢;rcases hg with rfl|hg
  · omega
  · have:=ih (fun y hy=>hw y (by simp[hy])) hg;omega
theorem uK{n:Nat}{M:List Grp}(hw:WFL n M)(h:1<M.length):(aC M).cnt+(aC (am M)).cnt<=fs M/\(bf M).length<=iX M:=by
 have hr:=da M (by omega);have h1:=mZ M (least M) (dQ M (by omega));have h2:=jY M (least M) (dQ M (by omega));have h4:=jY (am M) (least (am M)) (dQ _ (by omega));have e1:M.getD (least M) g0=aC M:=rfl;have e2:(am M).getD (least (am M)) g0=aC (am M):=rfl;have e3:M.eraseIdx (least M)=am M:=rfl;rw[e1,e3]at h1 h2;rw[e2]at h4;have hc:=GQ (n:=n) (M:=am M) (fun g hg=>hw g (be M _ hg)) (bv (am M) (by omega));refine⟨by omega,?_⟩;unfold bf;rw[a0l];omega
/-! Lengths stay small. -/
def uw(o:List Int)(B:Int):Prop:=∀i,i<o.length->0<=o.getD i 0/\o.getD i 0<=B
theorem Aq{o:List Int}{B:Int}(h:uw o B)(i:Int):uw (eu o i) (B+1):=by
 intro j hj;rw[lz]at hj;have hj':=h j hj;by_cases e:i.toNat=j
 · subst e;simp only[eu,List.getD];rw[List.getElem?_set_self hj];simp only[a2U];have:=h i.toNat hj;simp only[List.getD]at this;omega
 ·
  have:(eu o i).getD j 0=o.getD j 0:=by
   simp only[eu,List.getD];rw[List.getElem?_set_ne e]
  rw[this];omega
theorem nf{o:List Int}{B:Int}(h:uw o B)(s:List Int):uw (bump o s) (B+s.length):=by
 induction s generalizing o B with
 | nil=>intro i hi;have:=h i hi;simp only[bump,List.foldl_nil,a01];omega
 | cons i s ih=>
  have:=ih (Aq h i);intro j hj;have h2:=this j hj;simp only[a0E];show 0<=(bump (eu o i) s).getD j 0/\_;refine⟨h2.1,?_⟩;have:=h2.2;show(bump (eu o i) s).getD j 0<=_;omega
theorem nt(l:List Int)(hl:∀i,i<l.length->l.getD i 0<=100000)(hn:l.length<=300)(k:Nat)(hk:k<(az l l.length).length∨k=0):uw (aw l k).2 (300*(k:Int)):=by
 induction k with
 | zero=>
  intro i hi;have:(aw l 0).2.getD i 0=0:=by
   simp only[aw,List.getD];simp only[aw,a0B]at hi;simp[hi]
  rw[this];omega
 | succ k ih=>
  have hi:=ih (by omega);obtain⟨h1,h2,h3,h4⟩:=bT l k (by omega);have ht:=(uK h1 (by omega)).2;have hs:=(ju l 100000 (by omega) hl l.length (a0a _)).2.1;have hb:=nf hi (bf (aw l k).1);intro i hil;have:=hb i hil;simp only[aw]at this ⊢;omega
/-! What is counted once more. -/
theorem sw(o:List Int)(i:Int)(j:Nat)(h0:0<=i)(hj:j<o.length):(eu o i).getD j 0=o.getD j 0+(if i=(j:Int)then 1 else 0):=by
 by_cases e:i=(j:Int)
 ·
  rw[a0d e];have e2:i.toNat=j:=by omega
  simp only[eu,List.getD];rw[e2,List.getElem?_set_self hj,a2U]
 ·
  rw[a0e e];have e2:i.toNat≠j:=by omega
  simp only[eu,List.getD];rw[List.getElem?_set_ne e2];omega
theorem kz(o s:List Int)(j:Nat)(hs:s.Nodup)(h0:∀x∈s,0<=x)(hj:j<o.length):(bump o s).getD j 0=o.getD j 0+(if (j:Int)∈s then 1 else 0):=by
 induction s generalizing o with
 | nil=>simp[bump]
 | cons x s ih=>
  show(bump (eu o x) s).getD j 0=_;rw[List.nodup_cons]at hs;rw[ih (eu o x) hs.2 (fun y hy=>h0 y (by simp[hy])) (by rw[lz];exact hj),sw o x j (h0 x (by simp)) hj];by_cases e:x=(j:Int)
  · subst e;rw[a0d rfl,a0e hs.1,a0d (by simp)];omega
  ·
   rw[a0e e];by_cases h2:(j:Int)∈s
   · rw[a0d h2,a0d (by simp[h2])];omega
   · rw[a0e h2,a0e (by simp only[a04,not_or];exact⟨fun e2=>e e2.symm,h2⟩)];omega
/-! All symbols, each once. -/
def bo(M:List Grp):List Int:=M.flatMap Grp.syms
theorem yO(M:List Grp)(k:Nat)(h:k<M.length):(M.getD k g0 :: M.eraseIdx k).Perm M:=by
 induction M generalizing k with
 | nil=>simp at h
 | cons x M ih=>
  cases k with
  | zero=>exact a2c _
  | succ k=>
   rw[a2k,List.eraseIdx_cons_succ];exact(a3o _ _ _).trans (List.Perm.cons x (ih k (by simpa using h)))
theorem jS(M:List Grp)(h:0<M.length):(aC M :: am M).Perm M:=yO M _ (dQ M h)
theorem rC(M:List Grp)(h:1<M.length):(aC M :: aC (am M) :: am (am M)).Perm M:=by
 have hr:=da M (by omega);exact(List.Perm.cons _ (jS (am M) (by omega))).trans (jS M (by omega))
theorem oo{A B:List Grp}(h:A.Perm B):(bo A).Perm (bo B):=by
 induction h with
 | nil=>exact a2c _
 | cons x _ ih=>
  simp only[bo,a07]at ih ⊢;exact List.Perm.append_left _ ih
 | swap x y l=>
  simp only[bo,a07];rw[←a0W,←a0W];exact List.Perm.append_right _ List.perm_append_comm
 | trans _ _ h1 h2=>exact h1.trans h2
theorem sF(M:List Grp)(h:1<M.length):(bo (stepG M)).Perm (bo M):=by
 refine List.Perm.trans ?_ (oo (rC M h));unfold stepG bo;rw[a2B];refine List.perm_append_comm.trans ?_;simp[dh]
theorem AQ(l:List Int)(k:Nat):(bo (az l k)).Nodup/\∀x∈bo (az l k),0<=x/\x<(k:Int):=by
 induction k with
 | zero=>simp[az,bo]
 | succ k ih=>
  simp only[az]
  split
  ·
   have e:bo (az l k++[⟨l.getD k 0,(k:Int),[(k:Int)],.slice none 0 0⟩])=bo (az l k)++[(k:Int)]:=by simp[bo]
   rw[e];refine⟨?_,?_⟩
   · rw[a3p];refine⟨ih.1,by simp,?_⟩;intro x hx y hy;simp only[a00]at hy;subst hy;have:=(ih.2 x hx).2;omega
   ·
    intro x hx;simp only[a0U,a00]at hx;rcases hx with hx|rfl
    · have:=ih.2 x hx;omega
    · omega
  · exact⟨ih.1,fun x hx=>by have:=ih.2 x hx;omega⟩
theorem fJ(l:List Int)(k:Nat)(hk:k<(az l l.length).length∨k=0):(bo (aw l k).1).Nodup/\∀x∈bo (aw l k).1,0<=x/\x<(l.length:Int):=by
 induction k with
 | zero=>exact AQ l _
 | succ k ih=>
  have hi:=ih (by omega);have hl:=(bT l k (by omega)).2.2.2;have hp:=sF (aw l k).1 (by omega);exact⟨(hp.nodup_iff).2 hi.1,fun x hx=>hi.2 x (hp.mem_iff.1 hx)⟩
theorem ip(M:List Grp)(h:1<M.length):((bf M)++bo (am (am M))).Perm (bo M):=by
 refine List.Perm.trans ?_ (oo (rC M h));simp[bf,bo]
theorem io{M:List Grp}(h:1<M.length)(hn:(bo M).Nodup):(bf M).Nodup/\∀g∈am (am M),∀s∈g.syms,s ∉ bf M:=by
 have h2:=((ip M h).nodup_iff).2 hn;rw[a3p]at h2;refine⟨h2.1,fun g hg s hs hm=>?_⟩;exact h2.2.2 s hm s (by simp only[bo,List.mem_flatMap];exact⟨g,hg,hs⟩) rfl
theorem jJ(l:List Int)(k:Nat)(hk:k<(az l l.length).length∨k=0):uw (aw l k).2 (k:Int):=by
 induction k with
 | zero=>
  intro i hi;have:(aw l 0).2.getD i 0=0:=by
   simp only[aw,List.getD];simp only[aw,a0B]at hi;simp[hi]
  rw[this];omega
 | succ k ih=>
  have hi:=ih (by omega);have hl:=(bT l k (by omega)).2.2.2;have hf:=fJ l k (by omega);have hn:=io (M:=(aw l k).1) (by omega) hf.1;intro i hil;simp only[aw]at hil ⊢;rw[kA]at hil;have hpos:∀x∈bf (aw l k).1,0<=x:=fun x hx=>(hf.2 x ((ip _ (by omega)).mem_iff.1 (by simp[hx]))).1;rw[kz _ _ i hn.1 hpos hil];have:=hi i hil
  split<;>omega
/-! Where all come as often. -/
def D4(K:Nat)(o:List Int)(g:Grp):Prop:=g.cnt=(p2 K:Nat)/\∀s∈g.syms,o.getD s.toNat 0<=(K:Int)
def He(K:Nat)(o:List Int)(g:Grp):Prop:=g.cnt=(p2 (K+1):Nat)/\∀s∈g.syms,o.getD s.toNat 0<=(K:Int)+1
def wl(K:Nat)(o:List Int)(g:Grp):Prop:=(p2 K:Nat)<g.cnt/\g.cnt<(p2 (K+1):Nat)/\∀s∈g.syms,o.getD s.toNat 0<=(K:Int)+1
def Lvl(K:Nat)(o:List Int)(M:List Grp):Prop:=(∀g∈M,D4 K o g∨He K o g∨wl K o g)/\M.Pairwise (fun x y=>¬ (wl K o x/\wl K o y))
theorem yl (L : List Grp) (k j : Nat) (hj : j ≤ k) : (L.getD (bJ L k) g0).cnt ≤ (L.getD j g0).cnt := by
  induction k with
  | zero => have : j = 0 := by omega
            subst this; exact a2s _
  | succ k ih =>
    simp only [bJ]
    by_cases e : j = k + 1
    · subst e
      split
      · exact a2s _
      · rename_i h
        simp only [aY, a1s, a0F, not_or] at h
        have := h.1
        omega
    · have := ih (by omega)
      split
      · rename_i h
        simp only [aY, a1s, a0w, a0F] at h
        omega
      · exact this
theorem sD(M:List Grp)(g:Grp)(hg:g∈M):(aC M).cnt<=g.cnt:=by
 obtain⟨i,hi,rfl⟩:=a1W hg;have:=yl M (M.length-1) i (by omega);have e:M.getD i g0=M[i]:=by simp[List.getD,hi]
 rw[e]at this;exact this
theorem D6{K:Nat}{o:List Int}{M:List Grp}(h:1<M.length)(hL:Lvl K o M)(hn:(bo M).Nodup)(hx:∀x∈bo M,0<=x/\x<(o.length:Int)):Lvl K (bump o (bf M)) (stepG M)∨Lvl (K+1) (bump o (bf M)) (stepG M):=by
 have hr:=da M (by omega);obtain⟨hs1,hs2⟩:=io h hn;have hsub:=ip M h;have hpos:∀x∈bf M,0<=x:=fun x hm=>(hx x (hsub.mem_iff.1 (by simp[hm]))).1;have ha:=bv M (by omega);have hb:=be M _ (bv (am M) (by omega));have hR:∀g∈am (am M),g∈M:=fun g hg=>be M _ (be _ _ hg);have hab:(aC M).cnt<=(aC (am M)).cnt:=sD M _ hb;have hbR:∀g∈am (am M),(aC (am M)).cnt<=g.cnt:=fun g hg=>sD (am M) g (be _ _ hg);have hp2:p2 (K+1)=p2 K*2:=jQ K;have hp3:p2 (K+1+1)=p2 (K+1)*2:=jQ (K+1);have hp0:=oM K;have hget:∀x,x∈bo M->(bump o (bf M)).getD x.toNat 0=o.getD x.toNat 0+(if x∈bf M then 1 else 0):=by
  intro x hm;have hb:=hx x hm;rw[kz o (bf M) x.toNat hs1 hpos (by omega)];have e:((x.toNat:Nat):Int)=x:=by omega
  rw[e]
 have hmem:∀g∈M,∀x∈g.syms,x∈bo M:=fun g hg x hxm=>by simp only[bo,List.mem_flatMap];exact⟨g,hg,hxm⟩
 have hold:∀g∈am (am M),∀x∈g.syms,(bump o (bf M)).getD x.toNat 0=o.getD x.toNat 0:=by
  intro g hg x hxm;rw[hget x (hmem g (hR g hg) x hxm),a0e (hs2 g hg x hxm)];omega
 have hnew:∀x,x∈bf M->(bump o (bf M)).getD x.toNat 0=o.getD x.toNat 0+1:=by
  intro x hm;rw[hget x (hsub.mem_iff.1 (by simp[hm])),a0d hm]
 have hpw:(aC M :: aC (am M) :: am (am M)).Pairwise (fun x y=>¬ (wl K o x/\wl K o y)):=
  ((rC M h).pairwise_iff (fun{x y} hxy hyx=>hxy ⟨hyx.2,hyx.1⟩)).2 hL.2
 rw[List.pairwise_cons,List.pairwise_cons]at hpw;obtain⟨pw1,pw2,pw3⟩:=hpw;have hjc:(dh (aC M) (aC (am M))).cnt=(aC M).cnt+(aC (am M)).cnt:=rfl;have hjs:∀x,x∈(dh (aC M) (aC (am M))).syms<->x∈bf M:=fun x=>Iff.rfl;by_cases hAA:D4 K o (aC M)/\D4 K o (aC (am M))
 ·
  left;obtain⟨⟨a1,a2⟩,b1,b2⟩:=hAA;have hj:He K (bump o (bf M)) (dh (aC M) (aC (am M))):=by
   refine⟨by rw[hjc,a1,b1,hp2];omega,fun x hm=>?_⟩;have hm2:=(hjs x).1 hm;rw[hnew x hm2];simp only[bf,a0U]at hm2;rcases hm2 with hm2|hm2
   · have:=a2 x hm2;omega
   · have:=b2 x hm2;omega
  have hO:∀g∈am (am M),wl K (bump o (bf M)) g->wl K o g:=fun g hg hO=>⟨hO.1,hO.2.1,fun x hm=>by have:=hO.2.2 x hm;rw[hold g hg x hm]at this;exact this⟩;refine⟨fun g hg=>?_,?_⟩
  ·
   simp only[stepG,a0U,a00]at hg;rcases hg with hg|rfl
   ·
    rcases hL.1 g (hR g hg)with h1|h1|h1
    · exact .inl ⟨h1.1,fun x hm=>by rw[hold g hg x hm];exact h1.2 x hm⟩
    · exact .inr (.inl ⟨h1.1,fun x hm=>by rw[hold g hg x hm];exact h1.2 x hm⟩)
    · exact .inr (.inr ⟨h1.1,h1.2.1,fun x hm=>by rw[hold g hg x hm];exact h1.2.2 x hm⟩)
   · exact .inr (.inl hj)
  ·
   unfold stepG;rw[List.pairwise_append];refine⟨?_,by simp,?_⟩
   · refine List.Pairwise.imp_of_mem ?_ pw3;intro x y hxm hym hxy hxy2;exact hxy ⟨hO x hxm hxy2.1,hO y hym hxy2.2⟩
   · intro x _ y hy hxy;simp only[a00]at hy;subst hy;have h1:=hj.1;have h2:=hxy.2.2.1;omega
 ·
  right;have hbig:((p2 K:Nat):Int)<=(aC M).cnt/\(aC M).cnt<=((p2 (K+1):Nat):Int)/\((p2 K:Nat):Int)<(aC (am M)).cnt/\(aC (am M)).cnt<=((p2 (K+1):Nat):Int)/\∀g∈am (am M),He K o g:=by
   rcases hL.1 _ ha with a1|a1|a1
   ·
    rcases hL.1 _ hb with b1|b1|b1
    · exact absurd ⟨a1,b1⟩ hAA
    ·
     refine⟨by rw[a1.1];omega,by rw[a1.1];omega,by rw[b1.1];omega,by rw[b1.1];omega,fun g hg=>?_⟩;have hge:=hbR g hg;rcases hL.1 g (hR g hg)with h1|h1|h1
     · have:=h1.1;have:=b1.1;omega
     · exact h1
     · have:=h1.2.1;have:=b1.1;omega
    ·
     refine⟨by rw[a1.1];omega,by rw[a1.1];omega,b1.1,by have:=b1.2.1;omega,fun g hg=>?_⟩;have hge:=hbR g hg;rcases hL.1 g (hR g hg)with h1|h1|h1
     · have:=h1.1;have:=b1.1;omega
     · exact h1
     · exact absurd ⟨b1,h1⟩ (pw2 g hg)
   ·
    rcases hL.1 _ hb with b1|b1|b1
    · have:=a1.1;have:=b1.1;omega
    ·
     refine⟨by rw[a1.1];omega,by rw[a1.1];omega,by rw[b1.1];omega,by rw[b1.1];omega,fun g hg=>?_⟩;have hge:=hbR g hg;rcases hL.1 g (hR g hg)with h1|h1|h1
     · have:=h1.1;have:=b1.1;omega
     · exact h1
     · have:=h1.2.1;have:=b1.1;omega
    · have:=a1.1;have:=b1.2.1;omega
   ·
    rcases hL.1 _ hb with b1|b1|b1
    · have:=a1.1;have:=b1.1;omega
    ·
     refine⟨by have:=a1.1;omega,by have:=a1.2.1;omega,by rw[b1.1];omega,by rw[b1.1];omega,fun g hg=>?_⟩;have hge:=hbR g hg;rcases hL.1 g (hR g hg)with h1|h1|h1
     · have:=h1.1;have:=b1.1;omega
     · exact h1
     · have:=h1.2.1;have:=b1.1;omega
    · exact absurd ⟨a1,b1⟩ (pw1 _ (by simp))
  obtain⟨q1,q2,q3,q4,q5⟩:=hbig;have hK1:∀g∈M,∀x∈g.syms,o.getD x.toNat 0<=(K:Int)+1:=by
   intro g hg x hm;rcases hL.1 g hg with h1|h1|h1
   · have:=h1.2 x hm;omega
   · exact h1.2 x hm
   · exact h1.2.2 x hm
  have hjd:∀x∈(dh (aC M) (aC (am M))).syms,(bump o (bf M)).getD x.toNat 0<=((K+1:Nat):Int)+1:=by
   intro x hm;have hm2:=(hjs x).1 hm;rw[hnew x hm2];simp only[bf,a0U]at hm2;rcases hm2 with hm2|hm2
   · have:=hK1 _ ha x hm2;omega
   · have:=hK1 _ hb x hm2;omega
  have hRA:∀g∈am (am M),D4 (K+1) (bump o (bf M)) g:=fun g hg=>⟨(q5 g hg).1,fun x hm=>by rw[hold g hg x hm];have:=(q5 g hg).2 x hm;omega⟩;refine⟨fun g hg=>?_,?_⟩
  ·
   simp only[stepG,a0U,a00]at hg;rcases hg with hg|rfl
   · exact .inl (hRA g hg)
   ·
    by_cases e:(dh (aC M) (aC (am M))).cnt=((p2 (K+1+1):Nat):Int)
    · exact .inr (.inl ⟨e,hjd⟩)
    ·
     refine .inr (.inr ⟨?_,?_,hjd⟩)
     · rw[hjc];omega
     · rw[hjc]at e ⊢;omega
  ·
   unfold stepG;have hnO:∀g∈am (am M),¬ wl (K+1) (bump o (bf M)) g:=fun g hg hO=>by
    have h1:=(hRA g hg).1;have h2:=hO.1;omega
   rw[List.pairwise_append];refine⟨?_,by simp,?_⟩
   · refine List.Pairwise.imp_of_mem ?_ pw3;intro x y hxm _ _ hxy2;exact hnO x hxm hxy2.1
   · intro x hxm y _ hxy;exact hnO x hxm hxy.1
def Gf(l:List Int):Prop:=∀i,i<l.length->l.getD i 0<=1
theorem rk(l:List Int)(h1:Gf l)(k:Nat)(hk:k<=l.length):∀g∈az l k,D4 0 (List.replicate l.length 0) g:=by
 induction k with
 | zero=>intro g hg;simp[az]at hg
 | succ k ih=>
  simp only[az]
  split
  case isTrue h=>
   intro g hg;simp only[a0U,a00]at hg;rcases hg with hg|rfl
   · exact ih (by omega) g hg
   ·
    refine⟨?_,?_⟩
    · have:=h1 k (by omega);have e:p2 0=1:=rfl;simp only;rw[e];omega
    ·
     intro s hs;simp only[a00]at hs;subst hs;rw[a0y];have:(List.replicate l.length (0:Int)).getD k 0=0:=by simp[List.getD,show k<l.length by omega]
     rw[this];exact a2s _
  case isFalse=>exact ih (by omega)
theorem D5(l:List Int)(h1:Gf l)(k:Nat)(hk:k<(az l l.length).length∨k=0):∃K,Lvl K (aw l k).2 (aw l k).1:=by
 induction k with
 | zero=>
  refine⟨0,fun g hg=>.inl (rk l h1 _ (a0a _) g hg),?_⟩;refine List.Pairwise.imp_of_mem ?_ (List.pairwise_of_forall (R:=fun _ _=>True) (fun _ _=>trivial));intro x y hxm _ _ hxy;have:=(rk l h1 _ (a0a _) x hxm).1;have:=hxy.1.1;omega
 | succ k ih=>
  obtain⟨K,hK⟩:=ih (by omega);have hl:=(bT l k (by omega)).2.2.2;have hf:=fJ l k (by omega);rcases D6 (by omega) hK hf.1 (fun x hx=>by rw[dD];exact hf.2 x hx)with h|h
  · exact⟨K,h⟩
  · exact⟨K+1,h⟩
theorem lG(l:List Int)(k:Nat)(hk:k<(az l l.length).length∨k=0):(bo (aw l k).1).Perm (bo (az l l.length)):=by
 induction k with
 | zero=>exact a2c _
 | succ k ih=>
  have hl:=(bT l k (by omega)).2.2.2;exact(sF (aw l k).1 (by omega)).trans (ih (by omega))
theorem sK(l:List Int)(i:Nat)(hi:i<l.length)(hn:(i:Int) ∉ bo (az l l.length))(k:Nat)(hk:k<(az l l.length).length∨k=0):(aw l k).2.getD i 0=0:=by
 induction k with
 | zero=>simp[aw,List.getD,hi]
 | succ k ih=>
  have h0:=ih (by omega);have hl:=(bT l k (by omega)).2.2.2;have hf:=fJ l k (by omega);have hs:=io (M:=(aw l k).1) (by omega) hf.1;have hsub:=ip (aw l k).1 (by omega);simp only[aw];rw[kz _ _ i hs.1 (fun x hx=>(hf.2 x (hsub.mem_iff.1 (by simp[hx]))).1) (by rw[dD];exact hi),h0,a0e]
  · rfl
  · intro hm;exact hn ((lG l k (by omega)).mem_iff.1 (hsub.mem_iff.1 (by simp[hm])))
theorem Cl(M:List Grp)(h:∀g∈M,g.cnt=1):fs M=(M.length:Int):=by
 induction M with
 | nil=>rfl
 | cons g M ih=>
  have:=ih (fun x hx=>h x (by simp[hx]));have hg:=h g (by simp);simp only[fs,a0K,a0R,a0E]at this ⊢;omega
theorem zS{a b:Nat}(h:p2 a<=p2 b):a<=b:=by
 rcases a1U b a with h2|h2
 · have h3:p2 (b+1)<=p2 a:=a0S (by omega) (by omega);have h4:=jQ b;have h5:=oM b;omega
 · exact h2
theorem Io{a b:Nat}(h:p2 a<p2 b):a<b:=by
 rcases a1U a b with h2|h2
 · exact h2
 · have h3:p2 b<=p2 a:=a0S (by omega) h2;omega
theorem Eg(l:List Int)(h1:Gf l)(m:Nat)(hU:(az l l.length).length<=p2 m):uw (bI l) ((m:Int)+1):=by
 have hzero:∀i,i<l.length->(List.replicate l.length (0:Int)).getD i 0=0:=fun i hi=>by simp[List.getD,hi]
 intro i hi;rw[gi]at hi;unfold bI;by_cases hone:(az l l.length).length=1
 ·
  rw[a0d hone];generalize ((az l l.length).getD 0 g0).fst.toNat=q;by_cases e:q=i
  · simp only[List.getD];rw[←e,List.getElem?_set_self (by rw[a0B,e];exact hi),a2U];omega
  · simp only[List.getD];rw[List.getElem?_set_ne e];have:=hzero i hi;simp only[List.getD]at this;omega
 ·
  rw[a0e hone];generalize hk:(az l l.length).length-1=k;have hkU:k<(az l l.length).length∨k=0:=by omega
  have hmx:=jJ l k hkU i (by rw[dD];exact hi);by_cases hmem:(i:Int)∈bo (az l l.length)
  ·
   obtain⟨K,hK⟩:=D5 l h1 k hkU;have hinv:=bT l k hkU;have hpos:0<(az l l.length).length:=by
    rcases a3q (az l l.length).length with h|h
    · have:az l l.length=[]:=a2q h;rw[this]at hmem;simp[bo]at hmem
    · exact h
   have hlen:(aw l k).1.length=1:=by rw[hinv.2.2.2];omega
   obtain⟨g,hg⟩:=List.length_eq_one_iff.1 hlen;have hm2:=(lG l k hkU).mem_iff.2 hmem;rw[hg]at hm2 hK;have hsy:(i:Int)∈g.syms:=by simpa[bo]using hm2
   have hc:g.cnt=((az l l.length).length:Int):=by
    have h2:=hinv.2.1;rw[hg,Cl (az l l.length) (fun x hx=>by have:=(rk l h1 _ (a0a _) x hx).1;simpa[p2]using this)]at h2;simpa[fs]using h2
   have hgm:g∈[g]:=by simp
   rcases hK.1 g hgm with h|h|h
   ·
    have h3:=h.2 _ hsy;rw[a0y]at h3;have h4:p2 K<=p2 m:=by have:=h.1;omega
    have:=zS h4;exact⟨hmx.1,by omega⟩
   ·
    have h3:=h.2 _ hsy;rw[a0y]at h3;have h4:p2 (K+1)<=p2 m:=by have:=h.1;omega
    have:=zS h4;exact⟨hmx.1,by omega⟩
   ·
    have h3:=h.2.2 _ hsy;rw[a0y]at h3;have h4:p2 K<p2 m:=by have:=h.1;omega
    have:=Io h4;exact⟨hmx.1,by omega⟩
  · rw[sK l i hi hmem k hkU];omega
/-! Counts are halved. -/
def gh(x:Int):Int:=(x+1)/2
def br(l:List Int):List Int:=l.map gh
theorem dR(l:List Int):(br l).length=l.length:=by simp[br]
theorem ot(l:List Int)(i:Nat)(hi:i<l.length):(br l).getD i 0=gh (l.getD i 0):=by simp[br,List.getD,hi]
theorem oQ(l:List Int)(h0:∀i,i<l.length->0<=l.getD i 0)(k:Nat)(hk:k<=l.length):(az (br l) k).length=(az l k).length:=by
 induction k with
 | zero=>rfl
 | succ k ih=>
  have hh:=ot l k (by omega);have hp:=h0 k (by omega);simp only[az];by_cases h:0<l.getD k 0
  · rw[a0d h,a0d (by rw[hh];unfold gh;omega)];simp only[a0l,a1b];rw[ih (by omega)]
  · rw[a0e h,a0e (by rw[hh];unfold gh;omega),ih (by omega)]
def iz(l:List Int):Nat:=(l.map Int.toNat).sum
theorem rO(l:List Int)(h0:∀x∈l,0<=x):iz (br l)<=iz l/\((∃x∈l,1<x)->iz (br l)<iz l):=by
 induction l with
 | nil=>simp[iz,br]
 | cons x l ih=>
  have h1:=ih (fun y hy=>h0 y (by simp[hy]));have hx:=h0 x (by simp);simp only[iz,br,a0K,a0R]at h1 ⊢;have e:(gh x).toNat<=x.toNat:=by unfold gh;omega
  refine⟨by omega,?_⟩;rintro⟨y,hy,hy1⟩;simp only[a04]at hy;rcases hy with rfl|hy
  ·
   have:(gh y).toNat<y.toNat:=by unfold gh;omega
   omega
  · have:=h1.2 ⟨y,hy,hy1⟩;omega
def bG(o:List Int):Nat->Int
 | 0=>0
 | k+1=>if bG o k<o.getD k 0 then o.getD k 0 else bG o k
def fits(o:List Int)(m:Int):Bool:=decide (bG o o.length<=m)
theorem Ec{o:List Int}{B:Int}(hB:0<=B)(h:uw o B)(k:Nat)(hk:k<=o.length):bG o k<=B:=by
 induction k with
 | zero=>exact hB
 | succ k ih=>
  have h1:=ih (by omega);have h2:=(h k (by omega)).2;simp only[bG]
  split<;>assumption
theorem zv{o:List Int}{m:Int}(hm:0<=m)(h:uw o m):fits o m=true:=by
 unfold fits;exact a0s (Ec hm h _ (a0a _))
def np(m:Int):Nat->List Int->List Int
 | 0,l=>bI l
 | f+1,l=>if fits (bI l) m then bI l else np m f (br l)
theorem ru{l:List Int}{m:Nat}(hU:(az l l.length).length<=p2 m)(hf:fits (bI l) ((m:Int)+1)=false):∃x∈l,1<x:=by
 apply Classical.byContradiction;intro hno;have h1:Gf l:=by
  intro i hi;have hm:l.getD i 0∈l:=by simp[List.getD,hi]
  rcases a1q 1 (l.getD i 0)with h|h
  · exact absurd ⟨_,hm,h⟩ hno
  · exact h
 have:=zv (by omega) (Eg l h1 m hU);rw[this]at hf;cases hf
end Go.Proofs.YtbacpebljannfaaGreatDoor
