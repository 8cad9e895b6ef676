/- Of what the proof is made: 5 texts, one behind the other. -/
import Derived.Test.YtchidddpplangaaGreatDoorM12
import Derived.Deep.RegionHeld3
import Derived.BigQuiet
import Derived.Test.YtchidddpplangaaGreatDoorM9
import Derived.Test.YtchidddpplangaaGreatDoorM6
set_option maxRecDepth 100000
set_option linter.unusedSimpArgs false
set_option linter.unusedVariables false
set_option maxHeartbeats 1600000
namespace Go.Proofs.YtchidddpplangaaGreatDoor
open Go.Proofs.Tryz
open Go.RowKit
variable {B:Int}{n:Nat}{o:List Int}
def aU(x y:Grp):Bool:=decide (x.cnt<y.cnt) || (decide (x.cnt=y.cnt)&&decide (x.fst<y.fst))
def bY(L:List Grp):Nat->Nat
 | 0=>0
 | k+1=>if aU (L.getD (k+1) g0) (L.getD (bY L k) g0)then k+1 else bY L k
def least(L:List Grp):Nat:=bY L (L.length-1)
theorem vP(L:List Grp)(k:Nat):bY L k<=k:=by
 induction k with
 | zero=>exact a0a _
 | succ k ih=>simp only[bY];split<;>omega
theorem ea(L:List Grp)(h:0<L.length):least L<L.length:=by
 have:=vP L (L.length-1);unfold least;omega
theorem pM(L:List Grp)(k:Nat):L.eraseIdx k=L.take k++L.drop (k+1):=List.eraseIdx_eq_take_drop_succ L k
theorem qW(a:Option Addr)(cap n base:Nat)(L:List Grp)(w:World)(u:L.length=n)(h:cq 284 w base (.slice a n cap) L)(B:1<=n)(x:n<=300) :
  Ds 207 #[.slice a n cap] w (.int .i64 (least L:Nat)):=by
 obtain⟨g,rfl⟩:=h.somes (by omega);have o:=ae u;have y:(n:Int)<=300:=by omega
 have v:=ae h;clear h u x;go_enter func207,ntmps207;go_wp2_with fail
 go_loopw [3,4] (fun b i wr=>∃k:Nat,k<n/\i = .int .i64 ((k:Int)+1)/\b = .int .i64 (bY L k:Nat)/\Below w.heap.size w wr) (fun _ i _=>n+1-(intOf i).toNat)
 case atStart=>exact⟨0,by omega,rfl,rfl,a0c _ _⟩
 case round=>
  obtain⟨k,C,rfl,rfl,e⟩:=hrel;have j:=ae e;have l:=ae ((ab v).later e (a0a _));clear e;by_cases f:k+1<n
  .
   have m:(k:Int)+1<(n:Int):=by omega
   have r:=vP L k;obtain⟨c0,c1,_,_,_⟩:=(ab l).at (ab o) (k+1) f;obtain⟨z,A,_,_,_⟩:=(ab l).at (ab o) (bY L k) (by omega);have D:((bY L k:Nat):Int)<(n:Int):=by omega
   have d:Hid (bY L (k+1)=if (decide ((L.getD (k+1) g0).cnt<(L.getD (bY L k) g0).cnt) || (decide ((L.getD (k+1) g0).cnt=(L.getD (bY L k) g0).cnt)&&decide ((L.getD (k+1) g0).fst<(L.getD (bY L k) g0).fst)))then k+1 else bY L k):=rfl;clear r;generalize bY L k=q at *
   generalize (L.getD (k+1) g0).cnt=x0 at *
   generalize (L.getD (k+1) g0).fst=x1 at *
   generalize (L.getD q g0).cnt=y0 at *
   generalize (L.getD q g0).fst=y1 at *
   by_cases s:x0<y0
   .
    have e0:decide (x0<y0)=true:=a0u s;have c:Hid (bY L (k+1)=k+1):=by have:=ab d;rw[e0]at this;exact ae (by simpa using this)
    go_wp2_with fail
    go_quiet (fail)
    go_wp2;go_roundw
    case rel=>exact⟨k+1,f,by go_num,by rw[ab c];go_num,below_drewN (ab j) _⟩
    case measure=>simp[intOf];omega
   .
    have e0:decide (x0<y0)=false:=a0h s;by_cases h2:x0=y0
    .
     subst h2;by_cases t:x1<y1
     .
      have e1:decide (x1<y1)=true:=a0u t;have c:Hid (bY L (k+1)=k+1):=by have:=ab d;rw[e0,e1]at this;exact ae (by simpa using this)
      go_wp2_with fail
      go_quiet (fail)
      go_wp2;go_roundw
      case rel=>exact⟨k+1,f,by go_num,by rw[ab c];go_num,below_drewN (ab j) _⟩
      case measure=>simp[intOf];omega
     .
      have e1:decide (x1<y1)=false:=a0h t;have c:Hid (bY L (k+1)=q):=by have:=ab d;rw[e0,e1]at this;exact ae (by simpa using this)
      go_wp2_with fail
      go_quiet (fail)
      go_wp2;go_roundw
      case rel=>exact⟨k+1,f,by go_num,by rw[ab c],below_drewN (ab j) _⟩
      case measure=>simp[intOf];omega
    .
     have g1:(x0 == y0)=false:=by simpa using h2
     have c:Hid (bY L (k+1)=q):=by have:=ab d;rw[e0,a0h h2]at this;exact ae (by simpa using this)
     go_wp2_with fail
     go_quiet (fail)
     go_wp2;go_roundw
     case rel=>exact⟨k+1,f,by go_num,by rw[ab c],below_drewN (ab j) _⟩
     case measure=>simp[intOf];omega
  .
   have p:Hid (least L=bY L k):=by
    show least L=bY L k;unfold least;rw[ab o]
    congr 1;omega
   have m:¬ (k:Int)+1<(n:Int):=by omega
   go_wp2;go_ret;exact⟨aH (by rw[ab p]),ab j⟩
theorem Tryz.infoTree:(prog.info? 284).map (fun i=>(i.zero,i.size,i.bytes))=some (some (.agg #[.int .i64 0,.int .i64 0,.slice none 0 0]),3,40):=by kernel_rfl
theorem KP{t:TypeId}{x:World}{base m:Nat}{v:Value}{l r:List Grp}(b:l.length=n)(a:r.length=m)(h:x.ownsRow base t 3 v (n+m) (aN l++aN r)):cq t x base v (l++r):=by
 subst b a;show World.ownsRow _ _ _ _ _ (l++r).length _;rw[a0k,j5];exact h
theorem DN(g n cap k:Nat)(e:k<=cap)(d:0<cap)(W:World):(Instr.slice 282 (.slice (some ⟨g,0,none⟩) n cap) none (some (.int .i64 (k:Int))) none).run prog W = .ok (.slice (some ⟨g,0,none⟩) k cap) W:=by
 have b:¬ cap=0:=by omega
 have a:(k:Int)<=(cap:Int):=by omega
 have c:(0:Int)<=(k:Int):=by omega
 go_simp
theorem DO(g n cap k:Nat)(d:k<=n)(W:World):(Instr.slice 282 (.slice (some ⟨g,0,none⟩) n cap) (some (.int .i64 ((k:Int)))) none none).run prog W = .ok (.slice (some ⟨g,if cap=k then 0 else k*3,none⟩) (n-k) (cap-k)) W:=by
 have a:(k:Int)<=(n:Int):=by omega
 have b:(0:Int)<=(k:Int):=by omega
 by_cases c:cap=k
 . go_simp
 . go_simp
theorem tB(a:Option Addr)(cap n base ob k:Nat)(L:List Grp)(w:World)(O:L.length=n)(h:cq 284 w base (.slice a n cap) L)(T:dI w ob L)(hk:k<n)(hm:n<=300) :
  Calls prog 208 #[.slice a n cap,.int .i64 (k:Int)] w fun e w'=>(∃v,e = .returned v/\cq 284 w' w.heap.size v (L.eraseIdx k))/\Below w.heap.size w w':=by
 obtain⟨g,rfl⟩:=h.somes (by omega);have p:=h.cap O;have t:=ae O;have aa:(n:Int)<=300:=by omega
 have Y:(n:Int)<=(cap:Int):=by omega
 have Z:(cap:Int)<=9223372036854775807:=by have:=p.2;unfold maxLen at this;omega
 have Q:=ae h;have P:=ae T;obtain⟨i0,R,B,C,D⟩:=a0p Tryz.infoTree;clear h O hm T p;obtain⟨o2,ho2⟩:∃o2,(if cap=k+1 then 0 else(k+1)*3)=o2:=⟨_,rfl⟩;have ac:=DN g n cap k (by omega) (by omega);have A:=DO g n cap (k+1) (by omega);have ek:((k+1:Nat):Int)=(k:Int)+1:=by omega
 rw[ek]at A;rw[ho2]at A;have ad:IntKind.i64.wrap ((k:Int)+1)=(k:Int)+1:=by simp[IntKind.wrap,IntKind.bits,IntKind.signed];omega
 have U:=ae ho2;clear ho2 ek;have J:Hid (∀W,Below w.heap.size w W->∀j u,(aN (L.take k))[j]?=some u->W.cell? ((⟨g,0,none⟩:Addr).add j)=some u):=by
  intro W M j u o;exact cq.news (ab t) ((ab Q).later M (a0a _)) 0 k 0 rfl (by omega) j u (by simpa using o)
 have K:Hid (∀W,Below w.heap.size w W->∀j u,(aN (L.drop (k+1)))[j]?=some u->W.cell? ((⟨g,o2,none⟩:Addr).add j)=some u):=by
  intro W M j u o;have V:=ab t;by_cases X:cap=k+1
  . have hd:L.drop (k+1)=[]:=a26 (by omega);rw[hd]at o;simp[aN]at o
  . have S:=ab U;rw[a0d X]at S;refine cq.news (ab t) ((ab Q).later M (a0a _)) (k+1) (n-(k+1)) o2 S.symm (by omega) j u ?_;rw[a0x (by rw[a1b];omega)];exact o
 have H:Hid (∀u∈aN (L.take k),u.oneCell'=true):=uH (fun g N=>ab P g (a2a N));have I:Hid (∀u∈aN (L.drop (k+1)),u.oneCell'=true):=uH (fun g N=>ab P g (List.mem_of_mem_drop N));have F:Hid ((aN (L.take k)).length=k*3):=by show(aN (L.take k)).length=k*3;rw[lr,a0v,ab t];congr 1;omega
 have G:Hid ((aN (L.drop (k+1))).length=(n-(k+1))*3):=by show(aN (L.drop (k+1))).length=(n-(k+1))*3;rw[lr,a1b,ab t]
 have x:World.ownsRow (w.alloc (.cells #[] 284)).drew w.heap.size 284 3 (.slice (some ⟨w.heap.size,0,none⟩) 0 0) 0 []:=a0Y w #[] 0 (a0a _) (by unfold maxLen;omega) rfl;have y:Hid (0+k<=maxLen/\(0+k)*40<=140737488355328):=by show _/\_;unfold maxLen;omega
 have z:Hid (0+k+(n-(k+1))<=maxLen/\(0+k+(n-(k+1)))*40<=140737488355328):=by show _/\_;unfold maxLen;omega
 have l:Below w.heap.size w (w.alloc (.cells #[] 284)).drew:=((a0c _ _).alloc (a0a _) _).drew;go_enter func208,ntmps208;go_wp2_with fail
 go_region_held3 (fun _=>True) (trivial) (first
  | (refine aG rfl (.tmp 5) (.tmp 8) 282 rfl w.heap.size 284 i0 (.agg #[.int .i64 0,.int .i64 0,.slice none 0 0]) 3 40 a3G R B C D rfl (a1N 2) (.slice (some ⟨w.heap.size,0,none⟩) 0 0) _ _ rfl x ⟨g,0,none⟩ k cap (aN (L.take k)) rfl (ab F) (ab J _ l) (ab H) (ab y).1 (ab y).2 l.size ?_;intro v1 x1 b c r;clear r;have i:Below w.heap.size w x1:=l.grown c l.size (fun j o=>(a0w x j o).1))
  | (refine aG rfl (.tmp 9) (.tmp 13) 282 rfl w.heap.size 284 i0 (.agg #[.int .i64 0,.int .i64 0,.slice none 0 0]) 3 40 a3G R B C D rfl (a1N 2) v1 _ _ rfl b ⟨g,o2,none⟩ (n-(k+1)) (cap-(k+1)) (aN (L.drop (k+1))) rfl (ab G) (ab K _ i) (ab I) (ab z).1 (ab z).2 i.size ?_;intro v2 x2 f d s;clear s;have E:Below w.heap.size w x2:=i.grown d i.size (fun j o=>(a0w b j o).1)))
 have q:cq 284 x2 w.heap.size v2 (L.eraseIdx k):=by
  rw[pM];have V:=ab t;refine KP (n:=0+k) (m:=n-(k+1)) (by rw[a0v];omega) (by rw[a1b];omega) ?_;simpa using f
 obtain⟨va,vc,rfl⟩:=q.form;clear b f c d;go_wp2;go_ret;exact⟨⟨_,rfl,q⟩,E⟩
def bare(g:Grp):Grp:=⟨g.cnt,g.fst,g.syms,.slice none 0 0⟩
def ax(l:List Int):Nat->List Grp
 | 0=>[]
 | k+1=>if 0<l.getD k 0 then ax l k++[⟨l.getD k 0,(k:Int),[(k:Int)],.slice none 0 0⟩]else ax l k
def dQ(a b:Grp):Grp:=⟨a.cnt+b.cnt,if b.fst<a.fst then b.fst else a.fst,a.syms++b.syms,.slice none 0 0⟩
def ay(M:List Grp):Grp:=M.getD (least M) g0
def ao(M:List Grp):List Grp:=M.eraseIdx (least M)
def stepG(M:List Grp):List Grp:=ao (ao M)++[dQ (ay M) (ay (ao M))]
def bg(M:List Grp):List Int:=(ay M).syms++(ay (ao M)).syms
def fy(o:List Int)(i:Int):List Int:=o.set i.toNat (o.getD i.toNat 0+1)
def bump(o s:List Int):List Int:=s.foldl fy o
def aw(l:List Int):Nat->List Grp×List Int
 | 0=>(ax l l.length,List.replicate l.length 0)
 | k+1=>(stepG (aw l k).1,bump (aw l k).2 (bg (aw l k).1))
def bP(l:List Int):List Int:=if (ax l l.length).length=1 then(List.replicate l.length 0).set ((ax l l.length).getD 0 g0).fst.toNat 1 else(aw l ((ax l l.length).length-1)).2
theorem mG(o:List Int)(i:Int):(fy o i).length=o.length:=by simp[fy]
theorem oB(o s:List Int):(bump o s).length=o.length:=by
 induction s generalizing o with
 | nil=>rfl
 | cons i s ih=>show(bump (fy o i) s).length=_;rw[ih,mG]
theorem dZ(l:List Int)(k:Nat):(aw l k).2.length=l.length:=by
 induction k with
 | zero=>simp[aw]
 | succ k ih=>simp only[aw];rw[oB,ih]
theorem io(l:List Int):(bP l).length=l.length:=by
 unfold bP
 split
 . simp
 . exact dZ l _
theorem vp(o s:List Int)(k:Nat)(h:k<s.length):bump o (s.take (k+1))=fy (bump o (s.take k)) (s.getD k 0):=by
 rw[bX s k h];simp[bump]
/-! What is bare is as it was. -/
theorem tN(x y:Grp):aU (bare x) (bare y)=aU x y:=rfl
theorem mR(L:List Grp)(k:Nat):(L.map bare).getD k g0=bare (L.getD k g0):=by
 simp only[List.getD];rw[List.getElem?_map];cases L[k]? <;> rfl
theorem zC(L:List Grp)(k:Nat):bY (L.map bare) k=bY L k:=by
 induction k with
 | zero=>rfl
 | succ k ih=>simp only[bY];rw[ih,mR,mR,tN]
theorem tH(L:List Grp):least (L.map bare)=least L:=by
 unfold least;rw[zC,a0K]
theorem jE(L:List Grp):ay (L.map bare)=bare (ay L):=by
 unfold ay;rw[tH,mR]
theorem oe(L:List Grp):ao (L.map bare)=(ao L).map bare:=by
 unfold ao;rw[tH,pM,pM,a0I,List.map_take,List.map_drop]
theorem GG(M:List Grp):stepG (M.map bare)=(ao (ao M)).map bare++[dQ (ay M) (ay (ao M))]:=by
 unfold stepG;rw[oe,oe,jE,jE];rfl
theorem GM(M:List Grp):bg (M.map bare)=bg M:=by
 unfold bg;rw[oe,jE,jE];rfl
/-! Bounds. -/
def WFg(n:Nat)(g:Grp):Prop:=0<=g.cnt/\0<=g.fst/\g.fst<(n:Int)/\(∀s∈g.syms,0<=s/\s<(n:Int))/\0<g.syms.length
def WFL(n:Nat)(M:List Grp):Prop:=∀g∈M,WFg n g
def fU(M:List Grp):Int:=(M.map Grp.cnt).sum
def j6(M:List Grp):Nat:=(M.map (fun g=>g.syms.length)).sum
theorem fC(M:List Grp)(k:Nat)(h:k<M.length):M.getD k g0∈M:=by simp[List.getD,h]
theorem ov(M:List Grp)(k:Nat)(h:k<M.length):fU M=(M.getD k g0).cnt+fU (M.eraseIdx k):=by
 induction M generalizing k with
 | nil=>simp at h
 | cons g M ih=>
  cases k with
  | zero=>simp[fU,List.eraseIdx]
  | succ k=>
   have:=ih k (by simpa using h);simp only[fU,List.eraseIdx_cons_succ,a0H,a0M,a2z]at this ⊢;omega
theorem lw(M:List Grp)(k:Nat)(h:k<M.length):j6 M=(M.getD k g0).syms.length+j6 (M.eraseIdx k):=by
 induction M generalizing k with
 | nil=>simp at h
 | cons g M ih=>
  cases k with
  | zero=>simp[j6,List.eraseIdx]
  | succ k=>
   have:=ih k (by simpa using h);simp only[j6,List.eraseIdx_cons_succ,a0H,a0M,a2z]at this ⊢;omega
theorem dc(M:List Grp)(h:0<M.length):(ao M).length=M.length-1:=by
 unfold ao;rw[List.length_eraseIdx,a0e (ea M h)]
theorem rB(A B:List Grp):fU (A++B)=fU A+fU B:=by simp[fU]
theorem rC(A B:List Grp):j6 (A++B)=j6 A+j6 B:=by simp[j6]
theorem KD(M:List Grp)(h:1<M.length):fU (stepG M)=fU M/\j6 (stepG M)=j6 M/\(stepG M).length=M.length-1:=by
 have a:=ov M (least M) (ea M (by omega));have h2:=lw M (least M) (ea M (by omega));have e:=dc M (by omega);have b:=ov (ao M) (least (ao M)) (ea _ (by omega));have c:=lw (ao M) (least (ao M)) (ea _ (by omega));have d:=dc (ao M) (by omega);have e1:M.getD (least M) g0=ay M:=rfl;have e2:(ao M).getD (least (ao M)) g0=ay (ao M):=rfl;have e3:M.eraseIdx (least M)=ao M:=rfl;have e4:(ao M).eraseIdx (least (ao M))=ao (ao M):=rfl;rw[e1,e3]at a h2;rw[e2,e4]at b c;refine⟨?_,?_,?_⟩
 .
  unfold stepG;rw[rB];have:fU [dQ (ay M) (ay (ao M))]=(ay M).cnt+(ay (ao M)).cnt:=by simp[fU,dQ]
  omega
 .
  unfold stepG;rw[rC];have:j6 [dQ (ay M) (ay (ao M))]=(ay M).syms.length+(ay (ao M)).syms.length:=by simp[j6,dQ]
  omega
 . unfold stepG;simp;omega
theorem bf(M:List Grp):∀g∈ao M,g∈M:=fun _ a=>List.mem_of_mem_eraseIdx a
theorem br(M:List Grp)(h:0<M.length):ay M∈M:=fC M _ (ea M h)
theorem Mz{M:List Grp}(c:WFL n M)(h:1<M.length):WFL n (stepG M):=by
 have l:=dc M (by omega);have e:=c _ (br M (by omega));have hb:=c _ (bf M _ (br (ao M) (by omega)));intro g b;simp only[stepG,a0U,a05]at b;rcases b with b|rfl
 . exact c g (bf M _ (bf _ _ b))
 .
  obtain⟨a0,a1,a2,a3,a4⟩:=e;obtain⟨f,i,j,d,k⟩:=hb;refine⟨?_,?_,?_,?_,?_⟩
  . simp only[dQ];omega
  . simp only[dQ];split<;>assumption
  . simp only[dQ];split<;>assumption
  .
   intro s a;simp only[dQ,a0U]at a;rcases a with a|a
   . exact a3 s a
   . exact d s a
  . simp only[dQ,a0k];omega
theorem EC(l:List Int)(k:Nat)(c:k<=l.length):WFL l.length (ax l k):=by
 induction k with
 | zero=>intro g a;simp[ax]at a
 | succ k ih=>
  simp only[ax]
  split
  case isTrue h=>
   intro g a;simp only[a0U,a05]at a;rcases a with a|rfl
   . exact ih (by omega) g a
   . refine⟨by simp only;omega,by simp only;omega,by simp only;omega,?_,by simp⟩;intro s b;simp only[a05]at b;subst b;omega
  case isFalse=>exact ih (by omega)
theorem kB(l:List Int)(C:Int)(d:0<=C)(b:∀i,i<l.length->l.getD i 0<=C)(k:Nat)(f:k<=l.length):fU (ax l k)<=C*k/\j6 (ax l k)<=k/\(ax l k).length<=k:=by
 induction k with
 | zero=>simp[ax,fU,j6]
 | succ k ih=>
  obtain⟨a,h2,c⟩:=ih (by omega);have hb:=b k (by omega);have e:C*((k+1:Nat):Int)=C*(k:Int)+C:=by rw[show((k+1:Nat):Int)=(k:Int)+1 by omega,Int.mul_add,Int.mul_one]
  simp only[ax]
  split
  .
   rw[rB,rC];refine⟨?_,?_,?_⟩
   . simp only[fU,a0H,a19,a0M,a3H]at a ⊢;omega
   . simp only[j6,a0H,a19,a0M,a3H,a1n]at h2 ⊢;omega
   . simp;omega
  . refine⟨by omega,by omega,by omega⟩
theorem bU(l:List Int)(k:Nat)(e:k<(ax l l.length).length∨k=0):WFL l.length (aw l k).1/\fU (aw l k).1=fU (ax l l.length)/\j6 (aw l k).1=j6 (ax l l.length)/\(aw l k).1.length=(ax l l.length).length-k:=by
 induction k with
 | zero=>exact⟨EC l _ (a0a _),rfl,rfl,rfl⟩
 | succ k ih=>
  obtain⟨b,h2,c,d⟩:=ih (by omega);have a:1<(aw l k).1.length:=by omega
  obtain⟨t1,t2,t3⟩:=KD _ a;refine⟨Mz b a,by simp only[aw];omega,by simp only[aw];omega,by simp only[aw];omega⟩
theorem Nj{M:List Grp}(c:WFL n M){g:Grp}(a:g∈M):g.cnt<=fU M:=by
 induction M with
 | nil=>cases a
 | cons x M ih=>
  have h:=(c x (by simp)).1;have e:0<=fU M:=by
   clear ih a;have b:WFL n M:=fun y d=>c y (by simp[d]);clear c;induction M with
   | nil=>simp[fU]
   | cons y M ih2=>
    have:=ih2 (fun z f=>b z (by simp[f]));have d:=(b y (by simp)).1;simp only[fU,a0H,a0M]at this ⊢;omega
  simp only[a0Z]at a;simp only[fU,a0H,a0M]at e ih ⊢;rcases a with rfl|a
  . omega
  . have:=ih (fun y d=>c y (by simp[d])) a;omega
theorem xV{M:List Grp}(d:WFL n M)(h:1<M.length):(ay M).cnt+(ay (ao M)).cnt<=fU M/\(bg M).length<=j6 M:=by
 have f:=dc M (by omega);have a:=ov M (least M) (ea M (by omega));have h2:=lw M (least M) (ea M (by omega));have b:=lw (ao M) (least (ao M)) (ea _ (by omega));have e1:M.getD (least M) g0=ay M:=rfl;have e2:(ao M).getD (least (ao M)) g0=ay (ao M):=rfl;have e3:M.eraseIdx (least M)=ao M:=rfl;rw[e1,e3]at a h2;rw[e2]at b;have e:=Nj (n:=n) (M:=ao M) (fun g c=>d g (bf M _ c)) (br (ao M) (by omega));refine⟨by omega,?_⟩;unfold bg;rw[a0k];omega
/-! Lengths stay small. -/
def xB(o:List Int)(B:Int):Prop:=∀i,i<o.length->0<=o.getD i 0/\o.getD i 0<=B
theorem E8(h:xB o B)(i:Int):xB (fy o i) (B+1):=by
 intro j a;rw[mG]at a;have b:=h j a;by_cases e:i.toNat=j
 . subst e;simp only[fy,List.getD];rw[List.getElem?_set_self a];simp only[a1z];have:=h i.toNat a;simp only[List.getD]at this;omega
 .
  have:(fy o i).getD j 0=o.getD j 0:=by
   simp only[fy,List.getD];rw[List.getElem?_set_ne e]
  rw[this];omega
theorem sF(h:xB o B)(s:List Int):xB (bump o s) (B+s.length):=by
 induction s generalizing o B with
 | nil=>intro i a;have:=h i a;simp only[bump,List.foldl_nil,a0S];omega
 | cons i s ih=>
  have:=ih (E8 h i);intro j b;have h2:=this j b;simp only[a0E];show 0<=(bump (fy o i) s).getD j 0/\_;refine⟨h2.1,?_⟩;have:=h2.2;show(bump (fy o i) s).getD j 0<=_;omega
theorem sW(l:List Int)(d:∀i,i<l.length->l.getD i 0<=100000)(h:l.length<=300)(k:Nat)(g:k<(ax l l.length).length∨k=0):xB (aw l k).2 (300*(k:Int)):=by
 induction k with
 | zero=>
  intro i a;have:(aw l 0).2.getD i 0=0:=by
   simp only[aw,List.getD];simp only[aw,a0A]at a;simp[a]
  rw[this];omega
 | succ k ih=>
  have a:=ih (by omega);obtain⟨c,h2,e,f⟩:=bU l k (by omega);have m:=(xV c (by omega)).2;have j:=(kB l 100000 (by omega) d l.length (a0a _)).2.1;have hb:=sF a (bg (aw l k).1);intro i b;have:=hb i b;simp only[aw]at this ⊢;omega
/-! What is counted once more. -/
theorem vo(o:List Int)(i:Int)(j:Nat)(b:0<=i)(a:j<o.length):(fy o i).getD j 0=o.getD j 0+(if i=(j:Int)then 1 else 0):=by
 by_cases e:i=(j:Int)
 .
  rw[a0e e];have e2:i.toNat=j:=by omega
  simp only[fy,List.getD];rw[e2,List.getElem?_set_self a,a1z]
 .
  rw[a0d e];have e2:i.toNat≠j:=by omega
  simp only[fy,List.getD];rw[List.getElem?_set_ne e2];omega
theorem lO(o s:List Int)(j:Nat)(a:s.Nodup)(b:∀x∈s,0<=x)(c:j<o.length):(bump o s).getD j 0=o.getD j 0+(if (j:Int)∈s then 1 else 0):=by
 induction s generalizing o with
 | nil=>simp[bump]
 | cons x s ih=>
  show(bump (fy o x) s).getD j 0=_;rw[List.nodup_cons]at a;rw[ih (fy o x) a.2 (fun y d=>b y (by simp[d])) (by rw[mG];exact c),vo o x j (b x (by simp)) c];by_cases e:x=(j:Int)
  . subst e;rw[a0e rfl,a0d a.1,a0e (by simp)];omega
  .
   rw[a0d e];by_cases h2:(j:Int)∈s
   . rw[a0e h2,a0e (by simp[h2])];omega
   . rw[a0d h2,a0d (by simp only[a0Z,not_or];exact⟨fun e2=>e e2.symm,h2⟩)];omega
/-! All symbols, each once. -/
def bm(M:List Grp):List Int:=M.flatMap Grp.syms
theorem Dk(M:List Grp)(k:Nat)(h:k<M.length):(M.getD k g0 :: M.eraseIdx k).Perm M:=by
 induction M generalizing k with
 | nil=>simp at h
 | cons x M ih=>
  cases k with
  | zero=>exact a2p _
  | succ k=>
   rw[a2z,List.eraseIdx_cons_succ];exact(a3I _ _ _).trans (List.Perm.cons x (ih k (by simpa using h)))
theorem ll(M:List Grp)(h:0<M.length):(ay M :: ao M).Perm M:=Dk M _ (ea M h)
theorem uk(M:List Grp)(h:1<M.length):(ay M :: ay (ao M) :: ao (ao M)).Perm M:=by
 have a:=dc M (by omega);exact(List.Perm.cons _ (ll (ao M) (by omega))).trans (ll M (by omega))
theorem pO{A B:List Grp}(h:A.Perm B):(bm A).Perm (bm B):=by
 induction h with
 | nil=>exact a2p _
 | cons x _ ih=>
  simp only[bm,a0T]at ih ⊢;exact List.Perm.append_left _ ih
 | swap x y l=>
  simp only[bm,a0T];rw[←a0L,←a0L];exact List.Perm.append_right _ List.perm_append_comm
 | trans _ _ h1 h2=>exact h1.trans h2
theorem vD(M:List Grp)(h:1<M.length):(bm (stepG M)).Perm (bm M):=by
 refine List.Perm.trans ?_ (pO (uk M h));unfold stepG bm;rw[a2n];refine List.perm_append_comm.trans ?_;simp[dQ]
theorem Fz(l:List Int)(k:Nat):(bm (ax l k)).Nodup/\∀x∈bm (ax l k),0<=x/\x<(k:Int):=by
 induction k with
 | zero=>simp[ax,bm]
 | succ k ih=>
  simp only[ax]
  split
  .
   have e:bm (ax l k++[⟨l.getD k 0,(k:Int),[(k:Int)],.slice none 0 0⟩])=bm (ax l k)++[(k:Int)]:=by simp[bm]
   rw[e];refine⟨?_,?_⟩
   . rw[a3J];refine⟨ih.1,by simp,?_⟩;intro x a y b;simp only[a05]at b;subst b;have:=(ih.2 x a).2;omega
   .
    intro x a;simp only[a0U,a05]at a;rcases a with a|rfl
    . have:=ih.2 x a;omega
    . omega
  . exact⟨ih.1,fun x a=>by have:=ih.2 x a;omega⟩
theorem gF(l:List Int)(k:Nat)(d:k<(ax l l.length).length∨k=0):(bm (aw l k).1).Nodup/\∀x∈bm (aw l k).1,0<=x/\x<(l.length:Int):=by
 induction k with
 | zero=>exact Fz l _
 | succ k ih=>
  have a:=ih (by omega);have e:=(bU l k (by omega)).2.2.2;have b:=vD (aw l k).1 (by omega);exact⟨(b.nodup_iff).2 a.1,fun x c=>a.2 x (b.mem_iff.1 c)⟩
theorem jt(M:List Grp)(h:1<M.length):((bg M)++bm (ao (ao M))).Perm (bm M):=by
 refine List.Perm.trans ?_ (pO (uk M h));simp[bg,bm]
theorem js{M:List Grp}(h:1<M.length)(c:(bm M).Nodup):(bg M).Nodup/\∀g∈ao (ao M),∀s∈g.syms,s ∉ bg M:=by
 have h2:=((jt M h).nodup_iff).2 c;rw[a3J]at h2;refine⟨h2.1,fun g a s d b=>?_⟩;exact h2.2.2 s b s (by simp only[bm,List.mem_flatMap];exact⟨g,a,d⟩) rfl
theorem kW(l:List Int)(k:Nat)(g:k<(ax l l.length).length∨k=0):xB (aw l k).2 (k:Int):=by
 induction k with
 | zero=>
  intro i c;have:(aw l 0).2.getD i 0=0:=by
   simp only[aw,List.getD];simp only[aw,a0A]at c;simp[c]
  rw[this];omega
 | succ k ih=>
  have c:=ih (by omega);have h:=(bU l k (by omega)).2.2.2;have d:=gF l k (by omega);have e:=js (M:=(aw l k).1) (by omega) d.1;intro i a;simp only[aw]at a ⊢;rw[oB]at a;have b:∀x∈bg (aw l k).1,0<=x:=fun x f=>(d.2 x ((jt _ (by omega)).mem_iff.1 (by simp[f]))).1;rw[lO _ _ i e.1 b a];have:=c i a
  split<;>omega
/-! Where all come as often. -/
def JE(K:Nat)(o:List Int)(g:Grp):Prop:=g.cnt=(p2 K:Nat)/\∀s∈g.syms,o.getD s.toNat 0<=(K:Int)
def Nv(K:Nat)(o:List Int)(g:Grp):Prop:=g.cnt=(p2 (K+1):Nat)/\∀s∈g.syms,o.getD s.toNat 0<=(K:Int)+1
def zP(K:Nat)(o:List Int)(g:Grp):Prop:=(p2 K:Nat)<g.cnt/\g.cnt<(p2 (K+1):Nat)/\∀s∈g.syms,o.getD s.toNat 0<=(K:Int)+1
def Lvl(K:Nat)(o:List Int)(M:List Grp):Prop:=(∀g∈M,JE K o g∨Nv K o g∨zP K o g)/\M.Pairwise (fun x y=>¬ (zP K o x/\zP K o y))
theorem Cu (L : List Grp) (k j : Nat) (hj : j ≤ k) : (L.getD (bY L k) g0).cnt ≤ (L.getD j g0).cnt := by
  induction k with
  | zero => have : j = 0 := by omega
            subst this; exact a29 _
  | succ k ih =>
    simp only [bY]
    by_cases e : j = k + 1
    . subst e
      split
      . exact a29 _
      . rename_i h
        simp only [aU, a1A, a0y, not_or] at h
        have := h.1
        omega
    . have := ih (by omega)
      split
      . rename_i h
        simp only [aU, a1A, a0o, a0y] at h
        omega
      . exact this
theorem vA(M:List Grp)(g:Grp)(a:g∈M):(ay M).cnt<=g.cnt:=by
 obtain⟨i,b,rfl⟩:=a1O a;have:=Cu M (M.length-1) i (by omega);have e:M.getD i g0=M[i]:=by simp[List.getD,b]
 rw[e]at this;exact this
theorem JG{K:Nat}{M:List Grp}(h:1<M.length)(l:Lvl K o M)(Y:(bm M).Nodup)(T:∀x∈bm M,0<=x/\x<(o.length:Int)):Lvl K (bump o (bg M)) (stepG M)∨Lvl (K+1) (bump o (bg M)) (stepG M):=by
 have hr:=dc M (by omega);obtain⟨L,N⟩:=js h Y;have r:=jt M h;have F:∀x∈bg M,0<=x:=fun x f=>(T x (r.mem_iff.1 (by simp[f]))).1;have R:=br M (by omega);have hb:=bf M _ (br (ao M) (by omega));have u:∀g∈ao (ao M),g∈M:=fun g a=>bf M _ (bf _ _ a);have X:(ay M).cnt<=(ay (ao M)).cnt:=vA M _ hb;have m:∀g∈ao (ao M),(ay (ao M)).cnt<=g.cnt:=fun g a=>vA (ao M) g (bf _ _ a);have J:p2 (K+1)=p2 K*2:=lj K;have aa:p2 (K+1+1)=p2 (K+1)*2:=lj (K+1);have Z:=mg K;have p:∀x,x∈bm M->(bump o (bg M)).getD x.toNat 0=o.getD x.toNat 0+(if x∈bg M then 1 else 0):=by
  intro x f;have hb:=T x f;rw[lO o (bg M) x.toNat L F (by omega)];have e:((x.toNat:Nat):Int)=x:=by omega
  rw[e]
 have D:∀g∈M,∀x∈g.syms,x∈bm M:=fun g a x i=>by simp only[bm,List.mem_flatMap];exact⟨g,a,i⟩
 have hold:∀g∈ao (ao M),∀x∈g.syms,(bump o (bg M)).getD x.toNat 0=o.getD x.toNat 0:=by
  intro g a x i;rw[p x (D g (u g a) x i),a0d (N g a x i)];omega
 have q:∀x,x∈bg M->(bump o (bg M)).getD x.toNat 0=o.getD x.toNat 0+1:=by
  intro x f;rw[p x (r.mem_iff.1 (by simp[f])),a0e f]
 have G:(ay M :: ay (ao M) :: ao (ao M)).Pairwise (fun x y=>¬ (zP K o x/\zP K o y)):=
  ((uk M h).pairwise_iff (fun{x y} j H=>j ⟨H.2,H.1⟩)).2 l.2
 rw[List.pairwise_cons,List.pairwise_cons]at G;obtain⟨P,Q,I⟩:=G;have t:(dQ (ay M) (ay (ao M))).cnt=(ay M).cnt+(ay (ao M)).cnt:=rfl;have C:∀x,x∈(dQ (ay M) (ay (ao M))).syms<->x∈bg M:=fun x=>Iff.rfl;by_cases v:JE K o (ay M)/\JE K o (ay (ao M))
 .
  left;obtain⟨⟨a1,a2⟩,c,W⟩:=v;have S:Nv K (bump o (bg M)) (dQ (ay M) (ay (ao M))):=by
   refine⟨by rw[t,a1,c,J];omega,fun x f=>?_⟩;have d:=(C x).1 f;rw[q x d];simp only[bg,a0U]at d;rcases d with d|d
   . have:=a2 x d;omega
   . have:=W x d;omega
  have n:∀g∈ao (ao M),zP K (bump o (bg M)) g->zP K o g:=fun g a n=>⟨n.1,n.2.1,fun x f=>by have:=n.2.2 x f;rw[hold g a x f]at this;exact this⟩;refine⟨fun g a=>?_,?_⟩
  .
   simp only[stepG,a0U,a05]at a;rcases a with a|rfl
   .
    rcases l.1 g (u g a)with b|b|b
    . exact .inl ⟨b.1,fun x f=>by rw[hold g a x f];exact b.2 x f⟩
    . exact .inr (.inl ⟨b.1,fun x f=>by rw[hold g a x f];exact b.2 x f⟩)
    . exact .inr (.inr ⟨b.1,b.2.1,fun x f=>by rw[hold g a x f];exact b.2.2 x f⟩)
   . exact .inr (.inl S)
  .
   unfold stepG;rw[List.pairwise_append];refine⟨?_,by simp,?_⟩
   . refine List.Pairwise.imp_of_mem ?_ I;intro x y i O j k;exact j ⟨n x i k.1,n y O k.2⟩
   . intro x _ y U j;simp only[a05]at U;subst U;have b:=S.1;have h2:=j.2.2.1;omega
 .
  right;have A:((p2 K:Nat):Int)<=(ay M).cnt/\(ay M).cnt<=((p2 (K+1):Nat):Int)/\((p2 K:Nat):Int)<(ay (ao M)).cnt/\(ay (ao M)).cnt<=((p2 (K+1):Nat):Int)/\∀g∈ao (ao M),Nv K o g:=by
   rcases l.1 _ R with a1|a1|a1
   .
    rcases l.1 _ hb with c|c|c
    . exact absurd ⟨a1,c⟩ v
    .
     refine⟨by rw[a1.1];omega,by rw[a1.1];omega,by rw[c.1];omega,by rw[c.1];omega,fun g a=>?_⟩;have s:=m g a;rcases l.1 g (u g a)with b|b|b
     . have:=b.1;have:=c.1;omega
     . exact b
     . have:=b.2.1;have:=c.1;omega
    .
     refine⟨by rw[a1.1];omega,by rw[a1.1];omega,c.1,by have:=c.2.1;omega,fun g a=>?_⟩;have s:=m g a;rcases l.1 g (u g a)with b|b|b
     . have:=b.1;have:=c.1;omega
     . exact b
     . exact absurd ⟨c,b⟩ (Q g a)
   .
    rcases l.1 _ hb with c|c|c
    . have:=a1.1;have:=c.1;omega
    .
     refine⟨by rw[a1.1];omega,by rw[a1.1];omega,by rw[c.1];omega,by rw[c.1];omega,fun g a=>?_⟩;have s:=m g a;rcases l.1 g (u g a)with b|b|b
     . have:=b.1;have:=c.1;omega
     . exact b
     . have:=b.2.1;have:=c.1;omega
    . have:=a1.1;have:=c.2.1;omega
   .
    rcases l.1 _ hb with c|c|c
    . have:=a1.1;have:=c.1;omega
    .
     refine⟨by have:=a1.1;omega,by have:=a1.2.1;omega,by rw[c.1];omega,by rw[c.1];omega,fun g a=>?_⟩;have s:=m g a;rcases l.1 g (u g a)with b|b|b
     . have:=b.1;have:=c.1;omega
     . exact b
     . have:=b.2.1;have:=c.1;omega
    . exact absurd ⟨a1,c⟩ (P _ (by simp))
  obtain⟨q1,q2,q3,q4,V⟩:=A;have w:∀g∈M,∀x∈g.syms,o.getD x.toNat 0<=(K:Int)+1:=by
   intro g a x f;rcases l.1 g a with b|b|b
   . have:=b.2 x f;omega
   . exact b.2 x f
   . exact b.2.2 x f
  have B:∀x∈(dQ (ay M) (ay (ao M))).syms,(bump o (bg M)).getD x.toNat 0<=((K+1:Nat):Int)+1:=by
   intro x f;have d:=(C x).1 f;rw[q x d];simp only[bg,a0U]at d;rcases d with d|d
   . have:=w _ R x d;omega
   . have:=w _ hb x d;omega
  have z:∀g∈ao (ao M),JE (K+1) (bump o (bg M)) g:=fun g a=>⟨(V g a).1,fun x f=>by rw[hold g a x f];have:=(V g a).2 x f;omega⟩;refine⟨fun g a=>?_,?_⟩
  .
   simp only[stepG,a0U,a05]at a;rcases a with a|rfl
   . exact .inl (z g a)
   .
    by_cases e:(dQ (ay M) (ay (ao M))).cnt=((p2 (K+1+1):Nat):Int)
    . exact .inr (.inl ⟨e,B⟩)
    .
     refine .inr (.inr ⟨?_,?_,B⟩)
     . rw[t];omega
     . rw[t]at e ⊢;omega
  .
   unfold stepG;have E:∀g∈ao (ao M),¬ zP (K+1) (bump o (bg M)) g:=fun g a n=>by
    have b:=(z g a).1;have h2:=n.1;omega
   rw[List.pairwise_append];refine⟨?_,by simp,?_⟩
   . refine List.Pairwise.imp_of_mem ?_ I;intro x y i _ _ k;exact E x i k.1
   . intro x i y _ j;exact E x i j.1
def Md(l:List Int):Prop:=∀i,i<l.length->l.getD i 0<=1
theorem tU(l:List Int)(c:Md l)(k:Nat)(d:k<=l.length):∀g∈ax l k,JE 0 (List.replicate l.length 0) g:=by
 induction k with
 | zero=>intro g a;simp[ax]at a
 | succ k ih=>
  simp only[ax]
  split
  case isTrue h=>
   intro g a;simp only[a0U,a05]at a;rcases a with a|rfl
   . exact ih (by omega) g a
   .
    refine⟨?_,?_⟩
    . have:=c k (by omega);have e:p2 0=1:=rfl;simp only;rw[e];omega
    .
     intro s b;simp only[a05]at b;subst b;rw[a0t];have:(List.replicate l.length (0:Int)).getD k 0=0:=by simp[List.getD,show k<l.length by omega]
     rw[this];exact a29 _
  case isFalse=>exact ih (by omega)
theorem JF(l:List Int)(c:Md l)(k:Nat)(j:k<(ax l l.length).length∨k=0):∃K,Lvl K (aw l k).2 (aw l k).1:=by
 induction k with
 | zero=>
  refine⟨0,fun g f=>.inl (tU l c _ (a0a _) g f),?_⟩;refine List.Pairwise.imp_of_mem ?_ (List.pairwise_of_forall (R:=fun _ _=>True) (fun _ _=>trivial));intro x y a _ _ b;have:=(tU l c _ (a0a _) x a).1;have:=b.1.1;omega
 | succ k ih=>
  obtain⟨K,e⟩:=ih (by omega);have m:=(bU l k (by omega)).2.2.2;have d:=gF l k (by omega);rcases JG (by omega) e d.1 (fun x i=>by rw[dZ];exact d.2 x i)with h|h
  . exact⟨K,h⟩
  . exact⟨K+1,h⟩
theorem mQ(l:List Int)(k:Nat)(a:k<(ax l l.length).length∨k=0):(bm (aw l k).1).Perm (bm (ax l l.length)):=by
 induction k with
 | zero=>exact a2p _
 | succ k ih=>
  have b:=(bU l k (by omega)).2.2.2;exact(vD (aw l k).1 (by omega)).trans (ih (by omega))
theorem vG(l:List Int)(i:Nat)(c:i<l.length)(f:(i:Int) ∉ bm (ax l l.length))(k:Nat)(j:k<(ax l l.length).length∨k=0):(aw l k).2.getD i 0=0:=by
 induction k with
 | zero=>simp[aw,List.getD,c]
 | succ k ih=>
  have d:=ih (by omega);have m:=(bU l k (by omega)).2.2.2;have b:=gF l k (by omega);have g:=js (M:=(aw l k).1) (by omega) b.1;have a:=jt (aw l k).1 (by omega);simp only[aw];rw[lO _ _ i g.1 (fun x h=>(b.2 x (a.mem_iff.1 (by simp[h]))).1) (by rw[dZ];exact c),d,a0d]
  . rfl
  . intro e;exact f ((mQ l k (by omega)).mem_iff.1 (a.mem_iff.1 (by simp[e])))
theorem GV(M:List Grp)(h:∀g∈M,g.cnt=1):fU M=(M.length:Int):=by
 induction M with
 | nil=>rfl
 | cons g M ih=>
  have:=ih (fun x a=>h x (by simp[a]));have b:=h g (by simp);simp only[fU,a0H,a0M,a0E]at this ⊢;omega
theorem Ew{a b:Nat}(h:p2 a<=p2 b):a<=b:=by
 rcases a1o b a with h2|h2
 . have c:p2 (b+1)<=p2 a:=a0N (by omega) (by omega);have d:=lj b;have e:=mg b;omega
 . exact h2
theorem Ob{a b:Nat}(h:p2 a<p2 b):a<b:=by
 rcases a1o a b with h2|h2
 . exact h2
 . have c:p2 b<=p2 a:=a0N (by omega) h2;omega
theorem JS(l:List Int)(v:Md l)(m:Nat)(B:(ax l l.length).length<=p2 m):xB (bP l) ((m:Int)+1):=by
 have o:∀i,i<l.length->(List.replicate l.length (0:Int)).getD i 0=0:=fun i f=>by simp[List.getD,f]
 intro i f;rw[io]at f;unfold bP;by_cases d:(ax l l.length).length=1
 .
  rw[a0e d];generalize ((ax l l.length).getD 0 g0).fst.toNat=q;by_cases e:q=i
  . simp only[List.getD];rw[←e,List.getElem?_set_self (by rw[a0A,e];exact f),a1z];omega
  . simp only[List.getD];rw[List.getElem?_set_ne e];have:=o i f;simp only[List.getD]at this;omega
 .
  rw[a0d d];generalize D:(ax l l.length).length-1=k;have b:k<(ax l l.length).length∨k=0:=by omega
  have j:=kW l k b i (by rw[dZ];exact f);by_cases a:(i:Int)∈bm (ax l l.length)
  .
   obtain⟨K,w⟩:=JF l v k b;have c:=bU l k b;have z:0<(ax l l.length).length:=by
    rcases a2q (ax l l.length).length with h|h
    . have:ax l l.length=[]:=a2k h;rw[this]at a;simp[bm]at a
    . exact h
   have s:(aw l k).1.length=1:=by rw[c.2.2.2];omega
   obtain⟨g,y⟩:=List.length_eq_one_iff.1 s;have t:=(mQ l k b).mem_iff.2 a;rw[y]at t w;have n:(i:Int)∈g.syms:=by simpa[bm]using t
   have C:g.cnt=((ax l l.length).length:Int):=by
    have h2:=c.2.1;rw[y,GV (ax l l.length) (fun x A=>by have:=(tU l v _ (a0a _) x A).1;simpa[p2]using this)]at h2;simpa[fU]using h2
   have u:g∈[g]:=by simp
   rcases w.1 g u with h|h|h
   .
    have p:=h.2 _ n;rw[a0t]at p;have r:p2 K<=p2 m:=by have:=h.1;omega
    have:=Ew r;exact⟨j.1,by omega⟩
   .
    have p:=h.2 _ n;rw[a0t]at p;have r:p2 (K+1)<=p2 m:=by have:=h.1;omega
    have:=Ew r;exact⟨j.1,by omega⟩
   .
    have p:=h.2.2 _ n;rw[a0t]at p;have r:p2 K<p2 m:=by have:=h.1;omega
    have:=Ob r;exact⟨j.1,by omega⟩
  . rw[vG l i f a k b];omega
/-! Counts are halved. -/
def im(x:Int):Int:=(x+1)/2
def bo(l:List Int):List Int:=l.map im
theorem ee(l:List Int):(bo l).length=l.length:=by simp[bo]
theorem pR(l:List Int)(i:Nat)(a:i<l.length):(bo l).getD i 0=im (l.getD i 0):=by simp[bo,List.getD,a]
theorem qs(l:List Int)(b:∀i,i<l.length->0<=l.getD i 0)(k:Nat)(c:k<=l.length):(ax (bo l) k).length=(ax l k).length:=by
 induction k with
 | zero=>rfl
 | succ k ih=>
  have a:=pR l k (by omega);have d:=b k (by omega);simp only[ax];by_cases h:0<l.getD k 0
  . rw[a0e h,a0e (by rw[a];unfold im;omega)];simp only[a0k,a1n];rw[ih (by omega)]
  . rw[a0d h,a0d (by rw[a];unfold im;omega),ih (by omega)]
def jA(l:List Int):Nat:=(l.map Int.toNat).sum
theorem uC(l:List Int)(c:∀x∈l,0<=x):jA (bo l)<=jA l/\((∃x∈l,1<x)->jA (bo l)<jA l):=by
 induction l with
 | nil=>simp[jA,bo]
 | cons x l ih=>
  have d:=ih (fun y a=>c y (by simp[a]));have f:=c x (by simp);simp only[jA,bo,a0H,a0M]at d ⊢;have e:(im x).toNat<=x.toNat:=by unfold im;omega
  refine⟨by omega,?_⟩;rintro⟨y,a,b⟩;simp only[a0Z]at a;rcases a with rfl|a
  .
   have:(im y).toNat<y.toNat:=by unfold im;omega
   omega
  . have:=d.2 ⟨y,a,b⟩;omega
def bK(o:List Int):Nat->Int
 | 0=>0
 | k+1=>if bK o k<o.getD k 0 then o.getD k 0 else bK o k
def fits(o:List Int)(m:Int):Bool:=decide (bK o o.length<=m)
theorem JO(a:0<=B)(h:xB o B)(k:Nat)(c:k<=o.length):bK o k<=B:=by
 induction k with
 | zero=>exact a
 | succ k ih=>
  have b:=ih (by omega);have h2:=(h k (by omega)).2;simp only[bK]
  split<;>assumption
theorem Eb{m:Int}(a:0<=m)(h:xB o m):fits o m=true:=by
 unfold fits;exact a0u (JO a h _ (a0a _))
def oI(m:Int):Nat->List Int->List Int
 | 0,l=>bP l
 | f+1,l=>if fits (bP l) m then bP l else oI m f (bo l)
theorem ub{l:List Int}{m:Nat}(d:(ax l l.length).length<=p2 m)(b:fits (bP l) ((m:Int)+1)=false):∃x∈l,1<x:=by
 apply Classical.byContradiction;intro a;have c:Md l:=by
  intro i e;have f:l.getD i 0∈l:=by simp[List.getD,e]
  rcases a1v 1 (l.getD i 0)with h|h
  . exact absurd ⟨_,f,h⟩ a
  . exact h
 have:=Eb (by omega) (JS l c m d);rw[this]at b;cases b
end Go.Proofs.YtchidddpplangaaGreatDoor
