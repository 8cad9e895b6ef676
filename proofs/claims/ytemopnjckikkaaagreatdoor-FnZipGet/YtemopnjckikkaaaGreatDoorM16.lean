/- Texts. -/
import Derived.Test.YtemopnjckikkaaaGreatDoorM13
set_option linter.all false
set_option maxRecDepth 100000
set_option maxHeartbeats 1600000
namespace Go.Proofs.YtemopnjckikkaaaGreatDoor
open Go.Proofs.Tryz
open Go.RowKit
variable {B:Int}{n:Nat}{o:List Int}
def aZ(x y:Grp):Bool:=decide (x.cnt<y.cnt) || (decide (x.cnt=y.cnt)&&decide (x.fst<y.fst))
def cx(L:List Grp):Nat->Nat
 | 0=>0
 | k+1=>if aZ (L.getD (k+1) g0) (L.getD (cx L k) g0)then k+1 else cx L k
def least(L:List Grp):Nat:=cx L (L.length-1)
def xg(L:List Grp)(k:Nat):cx L k<=k:=by
 induction k with
 | zero=>exact a0a _
 | succ k ih=>simp only[cx];split<;>omega
def ew(L:List Grp)(h:0<L.length):least L<L.length:=by
 have:=xg L (L.length-1);unfold least;omega
def qH(L:List Grp)(k:Nat):L.eraseIdx k=L.take k++L.drop (k+1):=List.eraseIdx_eq_take_drop_succ L k
def rW(a:Option Addr)(cap n base:Nat)(L:List Grp)(w:World)(u:L.length=n)(h:cU 312 w base (.slice a n cap) L)(B:1<=n)(x:n<=300) :
  CD 232 #[.slice a n cap] w (.int .i64 (least L:Nat)):=by
 obtain⟨g,rfl⟩:=h.somes (by omega);have o:=af u;have y:(n:Int)<=300:=by omega
 have v:=af h;clear h u x;go_enter func232,ntmps232;go_wp2_with fail
 go_loopw [3,4] (fun b i wr=>∃k:Nat,k<n/\i = .int .i64 ((k:Int)+1)/\b = .int .i64 (cx L k:Nat)/\Below w.heap.size w wr) (fun _ i _=>n+1-(intOf i).toNat)
 case atStart=>exact⟨0,by omega,rfl,rfl,Below.refl _ _⟩
 case round=>
  obtain⟨k,C,rfl,rfl,e⟩:=hrel;have j:=af e;have l:=af (v.later e (a0a _));clear e;by_cases f:k+1<n
  .
   have m:(k:Int)+1<(n:Int):=by omega
   have r:=xg L k;obtain⟨c0,c1,_,_,_⟩:=l.at o (k+1) f;obtain⟨z,A,_,_,_⟩:=l.at o (cx L k) (by omega);have D:((cx L k:Nat):Int)<(n:Int):=by omega
   have d:Hid (cx L (k+1)=if (decide ((L.getD (k+1) g0).cnt<(L.getD (cx L k) g0).cnt) || (decide ((L.getD (k+1) g0).cnt=(L.getD (cx L k) g0).cnt)&&decide ((L.getD (k+1) g0).fst<(L.getD (cx L k) g0).fst)))then k+1 else cx L k):=rfl;clear r;generalize cx L k=q at *
   generalize (L.getD (k+1) g0).cnt=x0 at *
   generalize (L.getD (k+1) g0).fst=x1 at *
   generalize (L.getD q g0).cnt=y0 at *
   generalize (L.getD q g0).fst=y1 at *
   by_cases s:x0<y0
   .
    have e0:decide (x0<y0)=true:=a0x s;have c:Hid (cx L (k+1)=k+1):=by have:=ae d;rw[e0]at this;exact af (by simpa using this)
    go_wp2_with fail
    go_quiet (fail)
    go_wp2;go_roundw
    case rel=>exact⟨k+1,f,by go_num,by rw[ae c];go_num,below_drewN j _⟩
    case measure=>simp[intOf];omega
   .
    have e0:decide (x0<y0)=false:=a0l s;by_cases h2:x0=y0
    .
     subst h2;by_cases t:x1<y1
     .
      have e1:decide (x1<y1)=true:=a0x t;have c:Hid (cx L (k+1)=k+1):=by have:=ae d;rw[e0,e1]at this;exact af (by simpa using this)
      go_wp2_with fail
      go_quiet (fail)
      go_wp2;go_roundw
      case rel=>exact⟨k+1,f,by go_num,by rw[ae c];go_num,below_drewN j _⟩
      case measure=>simp[intOf];omega
     .
      have e1:decide (x1<y1)=false:=a0l t;have c:Hid (cx L (k+1)=q):=by have:=ae d;rw[e0,e1]at this;exact af (by simpa using this)
      go_wp2_with fail
      go_quiet (fail)
      go_wp2;go_roundw
      case rel=>exact⟨k+1,f,by go_num,by rw[ae c],below_drewN j _⟩
      case measure=>simp[intOf];omega
    .
     have g1:(x0 == y0)=false:=by simpa using h2
     have c:Hid (cx L (k+1)=q):=by have:=ae d;rw[e0,a0l h2]at this;exact af (by simpa using this)
     go_wp2_with fail
     go_quiet (fail)
     go_wp2;go_roundw
     case rel=>exact⟨k+1,f,by go_num,by rw[ae c],below_drewN j _⟩
     case measure=>simp[intOf];omega
  .
   have p:Hid (least L=cx L k):=by
    show least L=cx L k;unfold least;rw[ae o]
    congr 1;omega
   have m:¬ (k:Int)+1<(n:Int):=by omega
   go_wp2;go_ret;exact⟨aJ (by rw[ae p]),j⟩
def Tryz.infoTree:(prog.info? 312).map (fun i=>(i.zero,i.size,i.bytes))=some (some (.agg #[.int .i64 0,.int .i64 0,.slice none 0 0]),3,40):=by kernel_rfl
def Nn{t:TypeId}{x:World}{base m:Nat}{v:Value}{l r:List Grp}(b:l.length=n)(a:r.length=m)(h:x.ownsRow base t 3 v (n+m) (aR l++aR r)):cU t x base v (l++r):=by
 subst b a;show World.ownsRow _ _ _ _ _ (l++r).length _;rw[a0i,kP];exact h
def FD(g n cap k:Nat)(e:k<=cap)(d:0<cap)(W:World):(Instr.slice 310 (.slice g n cap) none (some (.int .i64 (k:Int))) none).run prog W = .ok (.slice g k cap) W:=by
 have b:¬ cap=0:=by omega
 have a:(k:Int)<=(cap:Int):=by omega
 have c:(0:Int)<=(k:Int):=by omega
 go_simp
def FE(g n cap k:Nat)(d:k<=n)(W:World):(Instr.slice 310 (.slice g n cap) (some (.int .i64 ((k:Int)))) none none).run prog W = .ok (.slice (some ⟨g,if cap=k then 0 else k*3,none⟩) (n-k) (cap-k)) W:=by
 have a:(k:Int)<=(n:Int):=by omega
 have b:(0:Int)<=(k:Int):=by omega
 by_cases c:cap=k
 . go_simp
 . go_simp
def uB(a:Option Addr)(cap n base ob k:Nat)(L:List Grp)(w:World)(O:L.length=n)(h:cU 312 w base (.slice a n cap) L)(T:dS w ob L)(hk:k<n)(hm:n<=300) :
  Calls prog 233 #[.slice a n cap,.int .i64 (k:Int)] w fun e w'=>(∃v,e = .returned v/\cU 312 w' w.heap.size v (L.eraseIdx k))/\Below w.heap.size w w':=by
 obtain⟨g,rfl⟩:=h.somes (by omega);have p:=h.cap O;have t:=af O;have aa:(n:Int)<=300:=by omega
 have Y:(n:Int)<=(cap:Int):=by omega
 have Z:(cap:Int)<=9223372036854775807:=by have:=p.2;unfold maxLen at this;omega
 have Q:=af h;have P:=af T;obtain⟨i0,R,B,C,D⟩:=a0p Tryz.infoTree;clear h O hm T p;obtain⟨o2,ho2⟩:∃o2,(if cap=k+1 then 0 else(k+1)*3)=o2:=⟨_,rfl⟩;have ab:=FD g n cap k (by omega) (by omega);have A:=FE g n cap (k+1) (by omega);have ek:((k+1:Nat):Int)=(k:Int)+1:=by omega
 rw[ek]at A;rw[ho2]at A;have ac:IntKind.i64.wrap ((k:Int)+1)=(k:Int)+1:=by simp[IntKind.wrap,IntKind.bits,IntKind.signed];omega
 have U:=af ho2;clear ho2 ek;have J:Hid (∀W,Below w.heap.size w W->∀j u,(aR (L.take k))[j]?=some u->W.cell? ((⟨g,0,none⟩:Addr).add j)=some u):=by
  intro W M j u o;exact cU.news t (Q.later M (a0a _)) 0 k 0 rfl (by omega) j u (by simpa using o)
 have K:Hid (∀W,Below w.heap.size w W->∀j u,(aR (L.drop (k+1)))[j]?=some u->W.cell? ((⟨g,o2,none⟩:Addr).add j)=some u):=by
  intro W M j u o;have V:=ae t;by_cases X:cap=k+1
  . have hd:L.drop (k+1)=[]:=List.drop_of_length_le (by omega);rw[hd]at o;simp[aR]at o
  . have S:=ae U;rw[a0d X]at S;refine cU.news t (Q.later M (a0a _)) (k+1) (n-(k+1)) o2 S.symm (by omega) j u ?_;rw[a0t (by rw[a05];omega)];exact o
 have H:Hid (∀u∈aR (L.take k),u.oneCell'=true):=vL (fun g N=>ae P g (a10 N));have I:Hid (∀u∈aR (L.drop (k+1)),u.oneCell'=true):=vL (fun g N=>ae P g (List.mem_of_mem_drop N));have F:Hid ((aR (L.take k)).length=k*3):=by show(aR (L.take k)).length=k*3;rw[lW,a0w,ae t];congr 1;omega
 have G:Hid ((aR (L.drop (k+1))).length=(n-(k+1))*3):=by show(aR (L.drop (k+1))).length=(n-(k+1))*3;rw[lW,a05,ae t]
 have x:World.ownsRow (w.alloc (.cells #[] 312)).drew w.heap.size 312 3 (.slice w.heap.size 0 0) 0 []:=a0R w #[] 0 (a0a _) (by unfold maxLen;omega) rfl;have y:Hid (0+k<=maxLen/\(0+k)*40<=140737488355328):=by show _/\_;unfold maxLen;omega
 have z:Hid (0+k+(n-(k+1))<=maxLen/\(0+k+(n-(k+1)))*40<=140737488355328):=by show _/\_;unfold maxLen;omega
 have l:Below w.heap.size w (w.alloc (.cells #[] 312)).drew:=bx.drew;go_enter func233,ntmps233;go_wp2_with fail
 go_region_held3 (fun _=>True) (trivial) (first
  | (refine aQ rfl (.tmp 5) (.tmp 8) 310 rfl w.heap.size 312 i0 (.agg #[.int .i64 0,.int .i64 0,.slice none 0 0]) 3 40 underlying310 R B C D rfl (a2g 2) (.slice w.heap.size 0 0) _ _ rfl x ⟨g,0,none⟩ k cap (aR (L.take k)) rfl F (J _ l) H y.1 y.2 l.size ?_;intro v1 x1 b c r;clear r;have i:Below w.heap.size w x1:=l.grown c l.size (fun j o=>(a0y x j o).1))
  | (refine aQ rfl (.tmp 9) (.tmp 13) 310 rfl w.heap.size 312 i0 (.agg #[.int .i64 0,.int .i64 0,.slice none 0 0]) 3 40 underlying310 R B C D rfl (a2g 2) v1 _ _ rfl b ⟨g,o2,none⟩ (n-(k+1)) (cap-(k+1)) (aR (L.drop (k+1))) rfl G (K _ i) I z.1 z.2 i.size ?_;intro v2 x2 f d s;clear s;have E:Below w.heap.size w x2:=i.grown d i.size (fun j o=>(a0y b j o).1)))
 have q:cU 312 x2 w.heap.size v2 (L.eraseIdx k):=by
  rw[qH];have V:=ae t;refine Nn (n:=0+k) (m:=n-(k+1)) (by rw[a0w];omega) (by rw[a05];omega) ?_;simpa using f
 obtain⟨va,vc,rfl⟩:=q.form;clear b f c d;go_wp2;go_ret;exact⟨⟨_,rfl,q⟩,E⟩
def bare(g:Grp):Grp:=⟨g.cnt,g.fst,g.syms,.slice none 0 0⟩
def aC(l:List Int):Nat->List Grp
 | 0=>[]
 | k+1=>if 0<l.getD k 0 then aC l k++[⟨l.getD k 0,(k:Int),[(k:Int)],.slice none 0 0⟩]else aC l k
def dY(a b:Grp):Grp:=⟨a.cnt+b.cnt,if b.fst<a.fst then b.fst else a.fst,a.syms++b.syms,.slice none 0 0⟩
def aF(M:List Grp):Grp:=M.getD (least M) g0
def au(M:List Grp):List Grp:=M.eraseIdx (least M)
def stepG(M:List Grp):List Grp:=au (au M)++[dY (aF M) (aF (au M))]
def bi(M:List Grp):List Int:=(aF M).syms++(aF (au M)).syms
def fV(o:List Int)(i:Int):List Int:=o.set i.toNat (o.getD i.toNat 0+1)
def bump(o s:List Int):List Int:=s.foldl fV o
def az(l:List Int):Nat->List Grp×List Int
 | 0=>(aC l l.length,List.replicate l.length 0)
 | k+1=>(stepG (az l k).1,bump (az l k).2 (bi (az l k).1))
def bV(l:List Int):List Int:=if (aC l l.length).length=1 then(List.replicate l.length 0).set ((aC l l.length).getD 0 g0).fst.toNat 1 else(az l ((aC l l.length).length-1)).2
def nn(o:List Int)(i:Int):(fV o i).length=o.length:=by simp[fV]
def pq(o s:List Int):(bump o s).length=o.length:=by
 induction s generalizing o with
 | nil=>rfl
 | cons i s ih=>show(bump (fV o i) s).length=_;rw[ih,nn]
def eq(l:List Int)(k:Nat):(az l k).2.length=l.length:=by
 induction k with
 | zero=>simp[az]
 | succ k ih=>simp only[az];rw[pq,ih]
def iR(l:List Int):(bV l).length=l.length:=by
 unfold bV
 split
 . simp
 . exact eq l _
def wE(o s:List Int)(k:Nat)(h:k<s.length):bump o (s.take (k+1))=fV (bump o (s.take k)) (s.getD k 0):=by
 rw[cn s k h];simp[bump]
/-! What is bare is as it was. -/
def uN(x y:Grp):aZ (bare x) (bare y)=aZ x y:=rfl
def nE(L:List Grp)(k:Nat):(L.map bare).getD k g0=bare (L.getD k g0):=by
 simp only[List.getD];rw[List.getElem?_map];cases L[k]? <;> rfl
def Bi(L:List Grp)(k:Nat):cx (L.map bare) k=cx L k:=by
 induction k with
 | zero=>rfl
 | succ k ih=>simp only[cx];rw[ih,nE,nE,uN]
def uG(L:List Grp):least (L.map bare)=least L:=by
 unfold least;rw[Bi,a0K]
def j7(L:List Grp):aF (L.map bare)=bare (aF L):=by
 unfold aF;rw[uG,nE]
def oS(L:List Grp):au (L.map bare)=(au L).map bare:=by
 unfold au;rw[uG,qH,qH,a0H,List.map_take,List.map_drop]
def Jm(M:List Grp):stepG (M.map bare)=(au (au M)).map bare++[dY (aF M) (aF (au M))]:=by
 unfold stepG;rw[oS,oS,j7,j7];rfl
def Js(M:List Grp):bi (M.map bare)=bi M:=by
 unfold bi;rw[oS,j7,j7];rfl
/-! Bounds. -/
def WFg(n:Nat)(g:Grp):Prop:=0<=g.cnt/\0<=g.fst/\g.fst<(n:Int)/\(∀s∈g.syms,0<=s/\s<(n:Int))/\0<g.syms.length
def WFL(n:Nat)(M:List Grp):Prop:=∀g∈M,WFg n g
def gF(M:List Grp):Int:=(M.map Grp.cnt).sum
def kQ(M:List Grp):Nat:=(M.map (fun g=>g.syms.length)).sum
def fY(M:List Grp)(k:Nat)(h:k<M.length):M.getD k g0∈M:=by simp[List.getD,h]
def pd(M:List Grp)(k:Nat)(h:k<M.length):gF M=(M.getD k g0).cnt+gF (M.eraseIdx k):=by
 induction M generalizing k with
 | nil=>simp at h
 | cons g M ih=>
  cases k with
  | zero=>simp[gF,List.eraseIdx]
  | succ k=>
   have:=ih k (by simpa using h);simp only[gF,List.eraseIdx_cons_succ,a0B,a0L,a2n]at this ⊢;omega
def lX(M:List Grp)(k:Nat)(h:k<M.length):kQ M=(M.getD k g0).syms.length+kQ (M.eraseIdx k):=by
 induction M generalizing k with
 | nil=>simp at h
 | cons g M ih=>
  cases k with
  | zero=>simp[kQ,List.eraseIdx]
  | succ k=>
   have:=ih k (by simpa using h);simp only[kQ,List.eraseIdx_cons_succ,a0B,a0L,a2n]at this ⊢;omega
def du(M:List Grp)(h:0<M.length):(au M).length=M.length-1:=by
 unfold au;rw[List.length_eraseIdx,a0c (ew M h)]
def sG(A B:List Grp):gF (A++B)=gF A+gF B:=by simp[gF]
def sH(A B:List Grp):kQ (A++B)=kQ A+kQ B:=by simp[kQ]
def Nb(M:List Grp)(h:1<M.length):gF (stepG M)=gF M/\kQ (stepG M)=kQ M/\(stepG M).length=M.length-1:=by
 have a:=pd M (least M) (ew M (by omega));have h2:=lX M (least M) (ew M (by omega));have e:=du M (by omega);have b:=pd (au M) (least (au M)) (ew _ (by omega));have c:=lX (au M) (least (au M)) (ew _ (by omega));have d:=du (au M) (by omega);have e1:M.getD (least M) g0=aF M:=rfl;have e2:(au M).getD (least (au M)) g0=aF (au M):=rfl;have e3:M.eraseIdx (least M)=au M:=rfl;have e4:(au M).eraseIdx (least (au M))=au (au M):=rfl;rw[e1,e3]at a h2;rw[e2,e4]at b c;refine⟨?_,?_,?_⟩
 .
  unfold stepG;rw[sG];have:gF [dY (aF M) (aF (au M))]=(aF M).cnt+(aF (au M)).cnt:=by simp[gF,dY]
  omega
 .
  unfold stepG;rw[sH];have:kQ [dY (aF M) (aF (au M))]=(aF M).syms.length+(aF (au M)).syms.length:=by simp[kQ,dY]
  omega
 . unfold stepG;simp;omega
def bh(M:List Grp):∀g∈au M,g∈M:=fun _ a=>List.mem_of_mem_eraseIdx a
def bD(M:List Grp)(h:0<M.length):aF M∈M:=fY M _ (ew M h)
def PF{M:List Grp}(c:WFL n M)(h:1<M.length):WFL n (stepG M):=by
 have l:=du M (by omega);have e:=c _ (bD M (by omega));have hb:=c _ (bh M _ (bD (au M) (by omega)));intro g b;simp only[stepG,a0X,a02]at b;rcases b with b|rfl
 . exact c g (bh M _ (bh _ _ b))
 .
  obtain⟨a0,a1,a2,a3,a4⟩:=e;obtain⟨f,i,j,d,k⟩:=hb;refine⟨?_,?_,?_,?_,?_⟩
  . simp only[dY];omega
  . simp only[dY];split<;>assumption
  . simp only[dY];split<;>assumption
  .
   intro s a;simp only[dY,a0X]at a;rcases a with a|a
   . exact a3 s a
   . exact d s a
  . simp only[dY,a0i];omega
def Gq(l:List Int)(k:Nat)(c:k<=l.length):WFL l.length (aC l k):=by
 induction k with
 | zero=>intro g a;simp[aC]at a
 | succ k ih=>
  simp only[aC]
  split
  case isTrue h=>
   intro g a;simp only[a0X,a02]at a;rcases a with a|rfl
   . exact ih (by omega) g a
   . refine⟨by simp only;omega,by simp only;omega,by simp only;omega,?_,by simp⟩;intro s b;simp only[a02]at b;subst b;omega
  case isFalse=>exact ih (by omega)
def lp(l:List Int)(C:Int)(d:0<=C)(b:∀i,i<l.length->l.getD i 0<=C)(k:Nat)(f:k<=l.length):gF (aC l k)<=C*k/\kQ (aC l k)<=k/\(aC l k).length<=k:=by
 induction k with
 | zero=>simp[aC,gF,kQ]
 | succ k ih=>
  obtain⟨a,h2,c⟩:=ih (by omega);have hb:=b k (by omega);have e:C*((k+1:Nat):Int)=C*(k:Int)+C:=by rw[show((k+1:Nat):Int)=(k:Int)+1 by omega,Int.mul_add,Int.mul_one]
  simp only[aC]
  split
  .
   rw[sG,sH];refine⟨?_,?_,?_⟩
   . simp only[gF,a0B,a1B,a0L,a28]at a ⊢;omega
   . simp only[kQ,a0B,a1B,a0L,a28,a1d]at h2 ⊢;omega
   . simp;omega
  . refine⟨by omega,by omega,by omega⟩
def cf(l:List Int)(k:Nat)(e:k<(aC l l.length).length∨k=0):WFL l.length (az l k).1/\gF (az l k).1=gF (aC l l.length)/\kQ (az l k).1=kQ (aC l l.length)/\(az l k).1.length=(aC l l.length).length-k:=by
 induction k with
 | zero=>exact⟨Gq l _ (a0a _),rfl,rfl,rfl⟩
 | succ k ih=>
  obtain⟨b,h2,c,d⟩:=ih (by omega);have a:1<(az l k).1.length:=by omega
  obtain⟨t1,t2,t3⟩:=Nb _ a;refine⟨PF b a,by simp only[az];omega,by simp only[az];omega,by simp only[az];omega⟩
def Qn{M:List Grp}(c:WFL n M){g:Grp}(a:g∈M):g.cnt<=gF M:=by
 induction M with
 | nil=>cases a
 | cons x M ih=>
  have h:=(c x (by simp)).1;have e:0<=gF M:=by
   clear ih a;have b:WFL n M:=fun y d=>c y (by simp[d]);clear c;induction M with
   | nil=>simp[gF]
   | cons y M ih2=>
    have:=ih2 (fun z f=>b z (by simp[f]));have d:=(b y (by simp)).1;simp only[gF,a0B,a0L]at this ⊢;omega
  simp only[a0V]at a;simp only[gF,a0B,a0L]at e ih ⊢;rcases a with rfl|a
  . omega
  . have:=ih (fun y d=>c y (by simp[d])) a;omega
def zq{M:List Grp}(d:WFL n M)(h:1<M.length):(aF M).cnt+(aF (au M)).cnt<=gF M/\(bi M).length<=kQ M:=by
 have f:=du M (by omega);have a:=pd M (least M) (ew M (by omega));have h2:=lX M (least M) (ew M (by omega));have b:=lX (au M) (least (au M)) (ew _ (by omega));have e1:M.getD (least M) g0=aF M:=rfl;have e2:(au M).getD (least (au M)) g0=aF (au M):=rfl;have e3:M.eraseIdx (least M)=au M:=rfl;rw[e1,e3]at a h2;rw[e2]at b;have e:=Qn (n:=n) (M:=au M) (fun g c=>d g (bh M _ c)) (bD (au M) (by omega));refine⟨by omega,?_⟩;unfold bi;rw[a0i];omega
/-! Lengths stay small. -/
def yZ(o:List Int)(B:Int):Prop:=∀i,i<o.length->0<=o.getD i 0/\o.getD i 0<=B
def GQ(h:yZ o B)(i:Int):yZ (fV o i) (B+1):=by
 intro j a;rw[nn]at a;have b:=h j a;by_cases e:i.toNat=j
 . subst e;simp only[fV,List.getD];rw[List.getElem?_set_self a];simp only[a1u];have:=h i.toNat a;simp only[List.getD]at this;omega
 .
  have:(fV o i).getD j 0=o.getD j 0:=by
   simp only[fV,List.getD];rw[List.getElem?_set_ne e]
  rw[this];omega
def tI(h:yZ o B)(s:List Int):yZ (bump o s) (B+s.length):=by
 induction s generalizing o B with
 | nil=>intro i a;have:=h i a;simp only[bump,List.foldl_nil,a0Q];omega
 | cons i s ih=>
  have:=ih (GQ h i);intro j b;have h2:=this j b;simp only[a0A];show 0<=(bump (fV o i) s).getD j 0/\_;refine⟨h2.1,?_⟩;have:=h2.2;show(bump (fV o i) s).getD j 0<=_;omega
def ue(l:List Int)(d:∀i,i<l.length->l.getD i 0<=100000)(h:l.length<=300)(k:Nat)(g:k<(aC l l.length).length∨k=0):yZ (az l k).2 (300*(k:Int)):=by
 induction k with
 | zero=>
  intro i a;have:(az l 0).2.getD i 0=0:=by
   simp only[az,List.getD];simp only[az,a0v]at a;simp[a]
  rw[this];omega
 | succ k ih=>
  have a:=ih (by omega);obtain⟨c,h2,e,f⟩:=cf l k (by omega);have m:=(zq c (by omega)).2;have j:=(lp l 100000 (by omega) d l.length (a0a _)).2.1;have hb:=tI a (bi (az l k).1);intro i b;have:=hb i b;simp only[az]at this ⊢;omega
/-! What is counted once more. -/
def wD(o:List Int)(i:Int)(j:Nat)(b:0<=i)(a:j<o.length):(fV o i).getD j 0=o.getD j 0+(if i=(j:Int)then 1 else 0):=by
 by_cases e:i=(j:Int)
 .
  rw[a0c e];have e2:i.toNat=j:=by omega
  simp only[fV,List.getD];rw[e2,List.getElem?_set_self a,a1u]
 .
  rw[a0d e];have e2:i.toNat≠j:=by omega
  simp only[fV,List.getD];rw[List.getElem?_set_ne e2];omega
def mx(o s:List Int)(j:Nat)(a:s.Nodup)(b:∀x∈s,0<=x)(c:j<o.length):(bump o s).getD j 0=o.getD j 0+(if (j:Int)∈s then 1 else 0):=by
 induction s generalizing o with
 | nil=>simp[bump]
 | cons x s ih=>
  show(bump (fV o x) s).getD j 0=_;rw[List.nodup_cons]at a;rw[ih (fV o x) a.2 (fun y d=>b y (by simp[d])) (by rw[nn];exact c),wD o x j (b x (by simp)) c];by_cases e:x=(j:Int)
  . subst e;rw[a0c rfl,a0d a.1,a0c (by simp)];omega
  .
   rw[a0d e];by_cases h2:(j:Int)∈s
   . rw[a0c h2,a0c (by simp[h2])];omega
   . rw[a0d h2,a0d (by simp only[a0V,not_or];exact⟨fun e2=>e e2.symm,h2⟩)];omega
/-! All symbols, each once. -/
def bq(M:List Grp):List Int:=M.flatMap Grp.syms
def Fb(M:List Grp)(k:Nat)(h:k<M.length):(M.getD k g0 :: M.eraseIdx k).Perm M:=by
 induction M generalizing k with
 | nil=>simp at h
 | cons x M ih=>
  cases k with
  | zero=>exact a2h _
  | succ k=>
   rw[a2n,List.eraseIdx_cons_succ];exact(a29 _ _ _).trans (List.Perm.cons x (ih k (by simpa using h)))
def lS(M:List Grp)(h:0<M.length):(aF M :: au M).Perm M:=Fb M _ (ew M h)
def vq(M:List Grp)(h:1<M.length):(aF M :: aF (au M) :: au (au M)).Perm M:=by
 have a:=du M (by omega);exact(List.Perm.cons _ (lS (au M) (by omega))).trans (lS M (by omega))
def qK{A B:List Grp}(h:A.Perm B):(bq A).Perm (bq B):=by
 induction h with
 | nil=>exact a2h _
 | cons x _ ih=>
  simp only[bq,a0W]at ih ⊢;exact List.Perm.append_left _ ih
 | swap x y l=>
  simp only[bq,a0W];rw[←a0I,←a0I];exact List.Perm.append_right _ List.perm_append_comm
 | trans _ _ h1 h2=>exact h1.trans h2
def wP(M:List Grp)(h:1<M.length):(bq (stepG M)).Perm (bq M):=by
 refine List.Perm.trans ?_ (qK (vq M h));unfold stepG bq;rw[a2u];refine List.perm_append_comm.trans ?_;simp[dY]
def H9(l:List Int)(k:Nat):(bq (aC l k)).Nodup/\∀x∈bq (aC l k),0<=x/\x<(k:Int):=by
 induction k with
 | zero=>simp[aC,bq]
 | succ k ih=>
  simp only[aC]
  split
  .
   have e:bq (aC l k++[⟨l.getD k 0,(k:Int),[(k:Int)],.slice none 0 0⟩])=bq (aC l k)++[(k:Int)]:=by simp[bq]
   rw[e];refine⟨?_,?_⟩
   . rw[a3a];refine⟨ih.1,by simp,?_⟩;intro x a y b;simp only[a02]at b;subst b;have:=(ih.2 x a).2;omega
   .
    intro x a;simp only[a0X,a02]at a;rcases a with a|rfl
    . have:=ih.2 x a;omega
    . omega
  . exact⟨ih.1,fun x a=>by have:=ih.2 x a;omega⟩
def ip(l:List Int)(k:Nat)(d:k<(aC l l.length).length∨k=0):(bq (az l k).1).Nodup/\∀x∈bq (az l k).1,0<=x/\x<(l.length:Int):=by
 induction k with
 | zero=>exact H9 l _
 | succ k ih=>
  have a:=ih (by omega);have e:=(cf l k (by omega)).2.2.2;have b:=wP (az l k).1 (by omega);exact⟨(b.nodup_iff).2 a.1,fun x c=>a.2 x (b.mem_iff.1 c)⟩
def jT(M:List Grp)(h:1<M.length):((bi M)++bq (au (au M))).Perm (bq M):=by
 refine List.Perm.trans ?_ (qK (vq M h));simp[bi,bq]
def jS{M:List Grp}(h:1<M.length)(c:(bq M).Nodup):(bi M).Nodup/\∀g∈au (au M),∀s∈g.syms,s ∉ bi M:=by
 have h2:=((jT M h).nodup_iff).2 c;rw[a3a]at h2;refine⟨h2.1,fun g a s d b=>?_⟩;exact h2.2.2 s b s (by simp only[bq,List.mem_flatMap];exact⟨g,a,d⟩) rfl
def lI(l:List Int)(k:Nat)(g:k<(aC l l.length).length∨k=0):yZ (az l k).2 (k:Int):=by
 induction k with
 | zero=>
  intro i c;have:(az l 0).2.getD i 0=0:=by
   simp only[az,List.getD];simp only[az,a0v]at c;simp[c]
  rw[this];omega
 | succ k ih=>
  have c:=ih (by omega);have h:=(cf l k (by omega)).2.2.2;have d:=ip l k (by omega);have e:=jS (M:=(az l k).1) (by omega) d.1;intro i a;simp only[az]at a ⊢;rw[pq]at a;have b:∀x∈bi (az l k).1,0<=x:=fun x f=>(d.2 x ((jT _ (by omega)).mem_iff.1 (by simp[f]))).1;rw[mx _ _ i e.1 b a];have:=c i a
  split<;>omega
/-! Where all come as often. -/
def L3(K:Nat)(o:List Int)(g:Grp):Prop:=g.cnt=(p2 K:Nat)/\∀s∈g.syms,o.getD s.toNat 0<=(K:Int)
def QF(K:Nat)(o:List Int)(g:Grp):Prop:=g.cnt=(p2 (K+1):Nat)/\∀s∈g.syms,o.getD s.toNat 0<=(K:Int)+1
def BB(K:Nat)(o:List Int)(g:Grp):Prop:=(p2 K:Nat)<g.cnt/\g.cnt<(p2 (K+1):Nat)/\∀s∈g.syms,o.getD s.toNat 0<=(K:Int)+1
def Lvl(K:Nat)(o:List Int)(M:List Grp):Prop:=(∀g∈M,L3 K o g∨QF K o g∨BB K o g)/\M.Pairwise (fun x y=>¬ (BB K o x/\BB K o y))
def EG (L : List Grp) (k j : Nat) (hj : j ≤ k) : (L.getD (cx L k) g0).cnt ≤ (L.getD j g0).cnt := by
  induction k with
  | zero => have : j = 0 := by omega
            subst this; exact a2q _
  | succ k ih =>
    simp only [cx]
    by_cases e : j = k + 1
    . subst e
      split
      . exact a2q _
      . rename_i h
        simp only [aZ, a1e, a0s, not_or] at h
        have := h.1
        omega
    . have := ih (by omega)
      split
      . rename_i h
        simp only [aZ, a1e, a0k, a0s] at h
        omega
      . exact this
def wM(M:List Grp)(g:Grp)(a:g∈M):(aF M).cnt<=g.cnt:=by
 obtain⟨i,b,rfl⟩:=a1E a;have:=EG M (M.length-1) i (by omega);have e:M.getD i g0=M[i]:=by simp[List.getD,b]
 rw[e]at this;exact this
def L9{K:Nat}{M:List Grp}(h:1<M.length)(l:Lvl K o M)(Y:(bq M).Nodup)(T:∀x∈bq M,0<=x/\x<(o.length:Int)):Lvl K (bump o (bi M)) (stepG M)∨Lvl (K+1) (bump o (bi M)) (stepG M):=by
 have hr:=du M (by omega);obtain⟨L,N⟩:=jS h Y;have r:=jT M h;have F:∀x∈bi M,0<=x:=fun x f=>(T x (r.mem_iff.1 (by simp[f]))).1;have R:=bD M (by omega);have hb:=bh M _ (bD (au M) (by omega));have u:∀g∈au (au M),g∈M:=fun g a=>bh M _ (bh _ _ a);have X:(aF M).cnt<=(aF (au M)).cnt:=wM M _ hb;have m:∀g∈au (au M),(aF (au M)).cnt<=g.cnt:=fun g a=>wM (au M) g (bh _ _ a);have J:p2 (K+1)=p2 K*2:=kh K;have aa:p2 (K+1+1)=p2 (K+1)*2:=kh (K+1);have Z:=lQ K;have p:∀x,x∈bq M->(bump o (bi M)).getD x.toNat 0=o.getD x.toNat 0+(if x∈bi M then 1 else 0):=by
  intro x f;have hb:=T x f;rw[mx o (bi M) x.toNat L F (by omega)];have e:((x.toNat:Nat):Int)=x:=by omega
  rw[e]
 have D:∀g∈M,∀x∈g.syms,x∈bq M:=fun g a x i=>by simp only[bq,List.mem_flatMap];exact⟨g,a,i⟩
 have hold:∀g∈au (au M),∀x∈g.syms,(bump o (bi M)).getD x.toNat 0=o.getD x.toNat 0:=by
  intro g a x i;rw[p x (D g (u g a) x i),a0d (N g a x i)];omega
 have q:∀x,x∈bi M->(bump o (bi M)).getD x.toNat 0=o.getD x.toNat 0+1:=by
  intro x f;rw[p x (r.mem_iff.1 (by simp[f])),a0c f]
 have G:(aF M :: aF (au M) :: au (au M)).Pairwise (fun x y=>¬ (BB K o x/\BB K o y)):=
  ((vq M h).pairwise_iff (fun{x y} j H=>j ⟨H.2,H.1⟩)).2 l.2
 rw[List.pairwise_cons,List.pairwise_cons]at G;obtain⟨P,Q,I⟩:=G;have t:(dY (aF M) (aF (au M))).cnt=(aF M).cnt+(aF (au M)).cnt:=rfl;have C:∀x,x∈(dY (aF M) (aF (au M))).syms<->x∈bi M:=fun x=>Iff.rfl;by_cases v:L3 K o (aF M)/\L3 K o (aF (au M))
 .
  left;obtain⟨⟨a1,a2⟩,c,W⟩:=v;have S:QF K (bump o (bi M)) (dY (aF M) (aF (au M))):=by
   refine⟨by rw[t,a1,c,J];omega,fun x f=>?_⟩;have d:=(C x).1 f;rw[q x d];simp only[bi,a0X]at d;rcases d with d|d
   . have:=a2 x d;omega
   . have:=W x d;omega
  have n:∀g∈au (au M),BB K (bump o (bi M)) g->BB K o g:=fun g a n=>⟨n.1,n.2.1,fun x f=>by have:=n.2.2 x f;rw[hold g a x f]at this;exact this⟩;refine⟨fun g a=>?_,?_⟩
  .
   simp only[stepG,a0X,a02]at a;rcases a with a|rfl
   .
    rcases l.1 g (u g a)with b|b|b
    . exact .inl ⟨b.1,fun x f=>by rw[hold g a x f];exact b.2 x f⟩
    . exact .inr (.inl ⟨b.1,fun x f=>by rw[hold g a x f];exact b.2 x f⟩)
    . exact .inr (.inr ⟨b.1,b.2.1,fun x f=>by rw[hold g a x f];exact b.2.2 x f⟩)
   . exact .inr (.inl S)
  .
   unfold stepG;rw[List.pairwise_append];refine⟨?_,by simp,?_⟩
   . refine List.Pairwise.imp_of_mem ?_ I;intro x y i O j k;exact j ⟨n x i k.1,n y O k.2⟩
   . intro x _ y U j;simp only[a02]at U;subst U;have b:=S.1;have h2:=j.2.2.1;omega
 .
  right;have A:((p2 K:Nat):Int)<=(aF M).cnt/\(aF M).cnt<=((p2 (K+1):Nat):Int)/\((p2 K:Nat):Int)<(aF (au M)).cnt/\(aF (au M)).cnt<=((p2 (K+1):Nat):Int)/\∀g∈au (au M),QF K o g:=by
   rcases l.1 _ R with a1|a1|a1
   .
    rcases l.1 _ hb with c|c|c
    . exact absurd ⟨a1,c⟩ v
    .
     refine⟨by rw[a1.1];omega,by rw[a1.1];omega,by rw[c.1];omega,by rw[c.1];omega,fun g a=>?_⟩;have s:=m g a;rcases l.1 g (u g a)with b|b|b
     . have:=b.1;have:=c.1;omega
     . exact b
     . have:=b.2.1;have:=c.1;omega
    .
     refine⟨by rw[a1.1];omega,by rw[a1.1];omega,c.1,by have:=c.2.1;omega,fun g a=>?_⟩;have s:=m g a;rcases l.1 g (u g a)with b|b|b
     . have:=b.1;have:=c.1;omega
     . exact b
     . exact absurd ⟨c,b⟩ (Q g a)
   .
    rcases l.1 _ hb with c|c|c
    . have:=a1.1;have:=c.1;omega
    .
     refine⟨by rw[a1.1];omega,by rw[a1.1];omega,by rw[c.1];omega,by rw[c.1];omega,fun g a=>?_⟩;have s:=m g a;rcases l.1 g (u g a)with b|b|b
     . have:=b.1;have:=c.1;omega
     . exact b
     . have:=b.2.1;have:=c.1;omega
    . have:=a1.1;have:=c.2.1;omega
   .
    rcases l.1 _ hb with c|c|c
    . have:=a1.1;have:=c.1;omega
    .
     refine⟨by have:=a1.1;omega,by have:=a1.2.1;omega,by rw[c.1];omega,by rw[c.1];omega,fun g a=>?_⟩;have s:=m g a;rcases l.1 g (u g a)with b|b|b
     . have:=b.1;have:=c.1;omega
     . exact b
     . have:=b.2.1;have:=c.1;omega
    . exact absurd ⟨a1,c⟩ (P _ (by simp))
  obtain⟨q1,q2,q3,q4,V⟩:=A;have w:∀g∈M,∀x∈g.syms,o.getD x.toNat 0<=(K:Int)+1:=by
   intro g a x f;rcases l.1 g a with b|b|b
   . have:=b.2 x f;omega
   . exact b.2 x f
   . exact b.2.2 x f
  have B:∀x∈(dY (aF M) (aF (au M))).syms,(bump o (bi M)).getD x.toNat 0<=((K+1:Nat):Int)+1:=by
   intro x f;have d:=(C x).1 f;rw[q x d];simp only[bi,a0X]at d;rcases d with d|d
   . have:=w _ R x d;omega
   . have:=w _ hb x d;omega
  have z:∀g∈au (au M),L3 (K+1) (bump o (bi M)) g:=fun g a=>⟨(V g a).1,fun x f=>by rw[hold g a x f];have:=(V g a).2 x f;omega⟩;refine⟨fun g a=>?_,?_⟩
  .
   simp only[stepG,a0X,a02]at a;rcases a with a|rfl
   . exact .inl (z g a)
   .
    by_cases e:(dY (aF M) (aF (au M))).cnt=((p2 (K+1+1):Nat):Int)
    . exact .inr (.inl ⟨e,B⟩)
    .
     refine .inr (.inr ⟨?_,?_,B⟩)
     . rw[t];omega
     . rw[t]at e ⊢;omega
  .
   unfold stepG;have E:∀g∈au (au M),¬ BB (K+1) (bump o (bi M)) g:=fun g a n=>by
    have b:=(z g a).1;have h2:=n.1;omega
   rw[List.pairwise_append];refine⟨?_,by simp,?_⟩
   . refine List.Pairwise.imp_of_mem ?_ I;intro x y i _ _ k;exact E x i k.1
   . intro x i y _ j;exact E x i j.1
def Pg(l:List Int):Prop:=∀i,i<l.length->l.getD i 0<=1
def uW(l:List Int)(c:Pg l)(k:Nat)(d:k<=l.length):∀g∈aC l k,L3 0 (List.replicate l.length 0) g:=by
 induction k with
 | zero=>intro g a;simp[aC]at a
 | succ k ih=>
  simp only[aC]
  split
  case isTrue h=>
   intro g a;simp only[a0X,a02]at a;rcases a with a|rfl
   . exact ih (by omega) g a
   .
    refine⟨?_,?_⟩
    . have:=c k (by omega);have e:p2 0=1:=rfl;simp only;rw[e];omega
    .
     intro s b;simp only[a02]at b;subst b;rw[a0n];have:(List.replicate l.length (0:Int)).getD k 0=0:=by simp[List.getD,show k<l.length by omega]
     rw[this];exact a2q _
  case isFalse=>exact ih (by omega)
def L4(l:List Int)(c:Pg l)(k:Nat)(j:k<(aC l l.length).length∨k=0):∃K,Lvl K (az l k).2 (az l k).1:=by
 induction k with
 | zero=>
  refine⟨0,fun g f=>.inl (uW l c _ (a0a _) g f),?_⟩;refine List.Pairwise.imp_of_mem ?_ (List.pairwise_of_forall (R:=fun _ _=>True) (fun _ _=>trivial));intro x y a _ _ b;have:=(uW l c _ (a0a _) x a).1;have:=b.1.1;omega
 | succ k ih=>
  obtain⟨K,e⟩:=ih (by omega);have m:=(cf l k (by omega)).2.2.2;have d:=ip l k (by omega);rcases L9 (by omega) e d.1 (fun x i=>by rw[eq];exact d.2 x i)with h|h
  . exact⟨K,h⟩
  . exact⟨K+1,h⟩
def nC(l:List Int)(k:Nat)(a:k<(aC l l.length).length∨k=0):(bq (az l k).1).Perm (bq (aC l l.length)):=by
 induction k with
 | zero=>exact a2h _
 | succ k ih=>
  have b:=(cf l k (by omega)).2.2.2;exact(wP (az l k).1 (by omega)).trans (ih (by omega))
def wT(l:List Int)(i:Nat)(c:i<l.length)(f:(i:Int) ∉ bq (aC l l.length))(k:Nat)(j:k<(aC l l.length).length∨k=0):(az l k).2.getD i 0=0:=by
 induction k with
 | zero=>simp[az,List.getD,c]
 | succ k ih=>
  have d:=ih (by omega);have m:=(cf l k (by omega)).2.2.2;have b:=ip l k (by omega);have g:=jS (M:=(az l k).1) (by omega) b.1;have a:=jT (az l k).1 (by omega);simp only[az];rw[mx _ _ i g.1 (fun x h=>(b.2 x (a.mem_iff.1 (by simp[h]))).1) (by rw[eq];exact c),d,a0d]
  . rfl
  . intro e;exact f ((nC l k (by omega)).mem_iff.1 (a.mem_iff.1 (by simp[e])))
def JB(M:List Grp)(h:∀g∈M,g.cnt=1):gF M=(M.length:Int):=by
 induction M with
 | nil=>rfl
 | cons g M ih=>
  have:=ih (fun x a=>h x (by simp[a]));have b:=h g (by simp);simp only[gF,a0B,a0L,a0A]at this ⊢;omega
def Gk{a b:Nat}(h:p2 a<=p2 b):a<=b:=by
 rcases a1i b a with h2|h2
 . have c:p2 (b+1)<=p2 a:=a0M (by omega) (by omega);have d:=kh b;have e:=lQ b;omega
 . exact h2
def Rn{a b:Nat}(h:p2 a<p2 b):a<b:=by
 rcases a1i a b with h2|h2
 . exact h2
 . have c:p2 b<=p2 a:=a0M (by omega) h2;omega
def Ml(l:List Int)(v:Pg l)(m:Nat)(B:(aC l l.length).length<=p2 m):yZ (bV l) ((m:Int)+1):=by
 have o:∀i,i<l.length->(List.replicate l.length (0:Int)).getD i 0=0:=fun i f=>by simp[List.getD,f]
 intro i f;rw[iR]at f;unfold bV;by_cases d:(aC l l.length).length=1
 .
  rw[a0c d];generalize ((aC l l.length).getD 0 g0).fst.toNat=q;by_cases e:q=i
  . simp only[List.getD];rw[←e,List.getElem?_set_self (by rw[a0v,e];exact f),a1u];omega
  . simp only[List.getD];rw[List.getElem?_set_ne e];have:=o i f;simp only[List.getD]at this;omega
 .
  rw[a0d d];generalize D:(aC l l.length).length-1=k;have b:k<(aC l l.length).length∨k=0:=by omega
  have j:=lI l k b i (by rw[eq];exact f);by_cases a:(i:Int)∈bq (aC l l.length)
  .
   obtain⟨K,w⟩:=L4 l v k b;have c:=cf l k b;have z:0<(aC l l.length).length:=by
    rcases a12 (aC l l.length).length with h|h
    . have:aC l l.length=[]:=a2a h;rw[this]at a;simp[bq]at a
    . exact h
   have s:(az l k).1.length=1:=by rw[c.2.2.2];omega
   obtain⟨g,y⟩:=List.length_eq_one_iff.1 s;have t:=(nC l k b).mem_iff.2 a;rw[y]at t w;have n:(i:Int)∈g.syms:=by simpa[bq]using t
   have C:g.cnt=((aC l l.length).length:Int):=by
    have h2:=c.2.1;rw[y,JB (aC l l.length) (fun x A=>by have:=(uW l v _ (a0a _) x A).1;simpa[p2]using this)]at h2;simpa[gF]using h2
   have u:g∈[g]:=by simp
   rcases w.1 g u with h|h|h
   .
    have p:=h.2 _ n;rw[a0n]at p;have r:p2 K<=p2 m:=by have:=h.1;omega
    have:=Gk r;exact⟨j.1,by omega⟩
   .
    have p:=h.2 _ n;rw[a0n]at p;have r:p2 (K+1)<=p2 m:=by have:=h.1;omega
    have:=Gk r;exact⟨j.1,by omega⟩
   .
    have p:=h.2.2 _ n;rw[a0n]at p;have r:p2 K<p2 m:=by have:=h.1;omega
    have:=Rn r;exact⟨j.1,by omega⟩
  . rw[wT l i f a k b];omega
/-! Counts are halved. -/
def iQ(x:Int):Int:=(x+1)/2
def bv(l:List Int):List Int:=l.map iQ
def eE(l:List Int):(bv l).length=l.length:=by simp[bv]
def qN(l:List Int)(i:Nat)(a:i<l.length):(bv l).getD i 0=iQ (l.getD i 0):=by simp[bv,List.getD,a]
def rr(l:List Int)(b:∀i,i<l.length->0<=l.getD i 0)(k:Nat)(c:k<=l.length):(aC (bv l) k).length=(aC l k).length:=by
 induction k with
 | zero=>rfl
 | succ k ih=>
  have a:=qN l k (by omega);have d:=b k (by omega);simp only[aC];by_cases h:0<l.getD k 0
  . rw[a0c h,a0c (by rw[a];unfold iQ;omega)];simp only[a0i,a1d];rw[ih (by omega)]
  . rw[a0d h,a0d (by rw[a];unfold iQ;omega),ih (by omega)]
def jY(l:List Int):Nat:=(l.map Int.toNat).sum
def vI(l:List Int)(c:∀x∈l,0<=x):jY (bv l)<=jY l/\((∃x∈l,1<x)->jY (bv l)<jY l):=by
 induction l with
 | nil=>simp[jY,bv]
 | cons x l ih=>
  have d:=ih (fun y a=>c y (by simp[a]));have f:=c x (by simp);simp only[jY,bv,a0B,a0L]at d ⊢;have e:(iQ x).toNat<=x.toNat:=by unfold iQ;omega
  refine⟨by omega,?_⟩;rintro⟨y,a,b⟩;simp only[a0V]at a;rcases a with rfl|a
  .
   have:(iQ y).toNat<y.toNat:=by unfold iQ;omega
   omega
  . have:=d.2 ⟨y,a,b⟩;omega
def bT(o:List Int):Nat->Int
 | 0=>0
 | k+1=>if bT o k<o.getD k 0 then o.getD k 0 else bT o k
def fits(o:List Int)(m:Int):Bool:=decide (bT o o.length<=m)
def Mh(a:0<=B)(h:yZ o B)(k:Nat)(c:k<=o.length):bT o k<=B:=by
 induction k with
 | zero=>exact a
 | succ k ih=>
  have b:=ih (by omega);have h2:=(h k (by omega)).2;simp only[bT]
  split<;>assumption
def FX{m:Int}(a:0<=m)(h:yZ o m):fits o m=true:=by
 unfold fits;exact a0x (Mh a h _ (a0a _))
def pB(m:Int):Nat->List Int->List Int
 | 0,l=>bV l
 | f+1,l=>if fits (bV l) m then bV l else pB m f (bv l)
def vf{l:List Int}{m:Nat}(d:(aC l l.length).length<=p2 m)(b:fits (bV l) ((m:Int)+1)=false):∃x∈l,1<x:=by
 apply Classical.byContradiction;intro a;have c:Pg l:=by
  intro i e;have f:l.getD i 0∈l:=by simp[List.getD,e]
  rcases a1q 1 (l.getD i 0)with h|h
  . exact absurd ⟨_,f,h⟩ a
  . exact h
 have:=FX (by omega) (Ml l c m d);rw[this]at b;cases b
