/- Texts. -/
import Derived.Test.YtckocaibjciplaaGreatDoorM13
set_option linter.all false
set_option maxRecDepth 100000
set_option maxHeartbeats 1600000
namespace Go.Proofs.YtckocaibjciplaaGreatDoor
open Go.Proofs.Tryz
open Go.RowKit
variable {B:Int}{n:Nat}{o:List Int}
def aZ(x y:Grp):Bool:=decide (x.cnt<y.cnt) || (decide (x.cnt=y.cnt)&&decide (x.fst<y.fst))
def cF(L:List Grp):Nat->Nat
 | 0=>0
 | k+1=>if aZ (L.getD (k+1) g0) (L.getD (cF L k) g0)then k+1 else cF L k
def least(L:List Grp):Nat:=cF L (L.length-1)
def yF(L:List Grp)(k:Nat):cF L k<=k:=by
 induction k with
 | zero=>exact a0a _
 | succ k ih=>simp only[cF];split<;>omega
def eT(L:List Grp)(h:0<L.length):least L<L.length:=by
 have:=yF L (L.length-1);unfold least;omega
def rM(L:List Grp)(k:Nat):L.eraseIdx k=L.take k++L.drop (k+1):=List.eraseIdx_eq_take_drop_succ L k
def tk(a:Option Addr)(cap n base:Nat)(L:List Grp)(w:World)(u:L.length=n)(h:cW 321 w base (.slice a n cap) L)(B:1<=n)(x:n<=300) :
  Ds 250 #[.slice a n cap] w (.int .i64 (least L:Nat)):=by
 obtain⟨g,rfl⟩:=h.somes (by omega);have o:=af u;have y:(n:Int)<=300:=by omega
 have v:=af h;clear h u x;go_enter func250,ntmps250;go_wp2_with fail
 go_loopw [3,4] (fun b i wr=>∃k:Nat,k<n/\i = .int .i64 ((k:Int)+1)/\b = .int .i64 (cF L k:Nat)/\Below w.heap.size w wr) (fun _ i _=>n+1-(intOf i).toNat)
 case atStart=>exact⟨0,by omega,rfl,rfl,a0c _ _⟩
 case round=>
  obtain⟨k,C,rfl,rfl,e⟩:=hrel;have j:=af e;have l:=af (v.later e (a0a _));clear e;by_cases f:k+1<n
  .
   have m:(k:Int)+1<(n:Int):=(by omega);have r:=yF L k;obtain⟨c0,c1,_,_,_⟩:=l.at o (k+1) f;obtain⟨z,A,_,_,_⟩:=l.at o (cF L k) (by omega);have D:((cF L k:Nat):Int)<(n:Int):=(by omega);have d:Hid (cF L (k+1)=if (decide ((L.getD (k+1) g0).cnt<(L.getD (cF L k) g0).cnt) || (decide ((L.getD (k+1) g0).cnt=(L.getD (cF L k) g0).cnt)&&decide ((L.getD (k+1) g0).fst<(L.getD (cF L k) g0).fst)))then k+1 else cF L k):=rfl;clear r;generalize cF L k=q,(L.getD (k+1) g0).cnt=x0,(L.getD (k+1) g0).fst=x1 at *;generalize (L.getD q g0).cnt=y0,(L.getD q g0).fst=y1 at *;by_cases s:x0<y0
   .
    have e0:decide (x0<y0)=true:=a0B s;have c:Hid (cF L (k+1)=k+1):=by have:=ae d;rw[e0]at this;exact af (by simpa using this)
    go_wp2_with fail
    go_quiet (fail)
    go_wp2;go_roundw
    case rel=>exact⟨k+1,f,by go_num,by rw[ae c];go_num,below_drewN j _⟩
    case measure=>simp[intOf];omega
   .
    have e0:decide (x0<y0)=false:=a0m s;by_cases h2:x0=y0
    .
     subst h2;by_cases t:x1<y1
     .
      have e1:decide (x1<y1)=true:=a0B t;have c:Hid (cF L (k+1)=k+1):=by have:=ae d;rw[e0,e1]at this;exact af (by simpa using this)
      go_wp2_with fail
      go_quiet (fail)
      go_wp2;go_roundw
      case rel=>exact⟨k+1,f,by go_num,by rw[ae c];go_num,below_drewN j _⟩
      case measure=>simp[intOf];omega
     .
      have e1:decide (x1<y1)=false:=a0m t;have c:Hid (cF L (k+1)=q):=by have:=ae d;rw[e0,e1]at this;exact af (by simpa using this)
      go_wp2_with fail
      go_quiet (fail)
      go_wp2;go_roundw
      case rel=>exact⟨k+1,f,by go_num,by rw[ae c],below_drewN j _⟩
      case measure=>simp[intOf];omega
    .
     have g1:(x0 == y0)=false:=by simpa using h2
     have c:Hid (cF L (k+1)=q):=by have:=ae d;rw[e0,a0m h2]at this;exact af (by simpa using this)
     go_wp2_with fail
     go_quiet (fail)
     go_wp2;go_roundw
     case rel=>exact⟨k+1,f,by go_num,by rw[ae c],below_drewN j _⟩
     case measure=>simp[intOf];omega
  .
   have p:Hid (least L=cF L k):=by
    show least L=cF L k;unfold least;rw[ae o]
    congr 1;omega
   have m:¬ (k:Int)+1<(n:Int):=(by omega);go_wp2;go_ret;exact⟨aK (by rw[ae p]),j⟩
def Tryz.infoTree:(prog.info? 321).map (fun i=>(i.zero,i.size,i.bytes))=some (some (.agg #[.int .i64 0,.int .i64 0,.slice none 0 0]),3,40):=by kernel_rfl
def Pn{t:TypeId}{x:World}{base m:Nat}{v:Value}{l r:List Grp}(b:l.length=n)(a:r.length=m)(h:x.ownsRow base t 3 v (n+m) (aR l++aR r)):cW t x base v (l++r):=by
 subst b a;show World.ownsRow _ _ _ _ _ (l++r).length _;rw[a0j,lp];exact h
def G9(g n cap k:Nat)(e:k<=cap)(d:0<cap)(W:World):(Instr.slice 319 (.slice g n cap) none (some (.int .i64 (k:Int))) none).run prog W = .ok (.slice g k cap) W:=by
 have b:¬ cap=0:=by omega
 have a:(k:Int)<=(cap:Int):=by omega
 have c:(0:Int)<=(k:Int):=by omega
 go_simp
def Ha(g n cap k:Nat)(d:k<=n)(W:World):(Instr.slice 319 (.slice g n cap) (some (.int .i64 ((k:Int)))) none none).run prog W = .ok (.slice (some ⟨g,if cap=k then 0 else k*3,none⟩) (n-k) (cap-k)) W:=by
 have a:(k:Int)<=(n:Int):=by omega
 have b:(0:Int)<=(k:Int):=by omega
 by_cases c:cap=k
 . go_simp
 . go_simp
def vJ(a:Option Addr)(cap n base ob k:Nat)(L:List Grp)(w:World)(O:L.length=n)(h:cW 321 w base (.slice a n cap) L)(T:d9 w ob L)(hk:k<n)(hm:n<=300) :
  Calls prog 251 #[.slice a n cap,.int .i64 (k:Int)] w fun e w'=>(∃v,e = .returned v/\cW 321 w' w.heap.size v (L.eraseIdx k))/\Below w.heap.size w w':=by
 obtain⟨g,rfl⟩:=h.somes (by omega);have p:=h.cap O;have t:=af O;have aa:(n:Int)<=300:=by omega
 have Y:(n:Int)<=(cap:Int):=by omega
 have Z:(cap:Int)<=9223372036854775807:=by have:=p.2;unfold maxLen at this;omega
 have Q:=af h;have P:=af T;obtain⟨i0,R,B,C,D⟩:=a0s Tryz.infoTree;clear h O hm T p;obtain⟨o2,ho2⟩:∃o2,(if cap=k+1 then 0 else(k+1)*3)=o2:=⟨_,rfl⟩;have ab:=G9 g n cap k (by omega) (by omega);have A:=Ha g n cap (k+1) (by omega);have ek:((k+1:Nat):Int)=(k:Int)+1:=by omega
 rw[ek]at A;rw[ho2]at A;have ac:IntKind.i64.wrap ((k:Int)+1)=(k:Int)+1:=by simp[IntKind.wrap,IntKind.bits,IntKind.signed];omega
 have U:=af ho2;clear ho2 ek;have J:Hid (∀W,Below w.heap.size w W->∀j u,(aR (L.take k))[j]?=some u->W.cell? ((⟨g,0,none⟩:Addr).add j)=some u):=by
  intro W M j u o;exact cW.news t (Q.later M (a0a _)) 0 k 0 rfl (by omega) j u (by simpa using o)
 have K:Hid (∀W,Below w.heap.size w W->∀j u,(aR (L.drop (k+1)))[j]?=some u->W.cell? ((⟨g,o2,none⟩:Addr).add j)=some u):=by
  intro W M j u o;have V:=ae t;by_cases X:cap=k+1
  . have hd:L.drop (k+1)=[]:=a3f (by omega);rw[hd]at o;simp[aR]at o
  . have S:=ae U;rw[a0e X]at S;refine cW.news t (Q.later M (a0a _)) (k+1) (n-(k+1)) o2 S.symm (by omega) j u ?_;rw[a0u (by rw[a04];omega)];exact o
 have H:Hid (∀u∈aR (L.take k),u.oneCell'=true):=wX (fun g N=>ae P g (a2j N));have I:Hid (∀u∈aR (L.drop (k+1)),u.oneCell'=true):=wX (fun g N=>ae P g (List.mem_of_mem_drop N));have F:Hid ((aR (L.take k)).length=k*3):=by show(aR (L.take k)).length=k*3;rw[mz,a0v,ae t];congr 1;omega
 have G:Hid ((aR (L.drop (k+1))).length=(n-(k+1))*3):=by show(aR (L.drop (k+1))).length=(n-(k+1))*3;rw[mz,a04,ae t]
 have x:World.ownsRow (w.alloc (.cells #[] 321)).drew w.heap.size 321 3 (.slice w.heap.size 0 0) 0 []:=a0S w #[] 0 (a0a _) (by unfold maxLen;omega) rfl;have y:Hid (0+k<=maxLen/\(0+k)*40<=140737488355328):=by show _/\_;unfold maxLen;omega
 have z:Hid (0+k+(n-(k+1))<=maxLen/\(0+k+(n-(k+1)))*40<=140737488355328):=by show _/\_;unfold maxLen;omega
 have l:Below w.heap.size w (w.alloc (.cells #[] 321)).drew:=cC.drew;go_enter func251,ntmps251;go_wp2_with fail
 go_region_held3 (fun _=>True) (trivial) (first
  | (refine aL rfl (.tmp 5) (.tmp 8) 319 rfl w.heap.size 321 i0 (.agg #[.int .i64 0,.int .i64 0,.slice none 0 0]) 3 40 a3Q R B C D rfl (a2v 2) (.slice w.heap.size 0 0) _ _ rfl x ⟨g,0,none⟩ k cap (aR (L.take k)) rfl F (J _ l) H y.1 y.2 l.size ?_;intro v1 x1 b c r;clear r;have i:Below w.heap.size w x1:=l.grown c l.size (fun j o=>(a0z x j o).1))
  | (refine aL rfl (.tmp 9) (.tmp 13) 319 rfl w.heap.size 321 i0 (.agg #[.int .i64 0,.int .i64 0,.slice none 0 0]) 3 40 a3Q R B C D rfl (a2v 2) v1 _ _ rfl b ⟨g,o2,none⟩ (n-(k+1)) (cap-(k+1)) (aR (L.drop (k+1))) rfl G (K _ i) I z.1 z.2 i.size ?_;intro v2 x2 f d s;clear s;have E:Below w.heap.size w x2:=i.grown d i.size (fun j o=>(a0z b j o).1)))
 have q:cW 321 x2 w.heap.size v2 (L.eraseIdx k):=by
  rw[rM];have V:=ae t;refine Pn (n:=0+k) (m:=n-(k+1)) (by rw[a0v];omega) (by rw[a04];omega) ?_;simpa using f
 obtain⟨va,vc,rfl⟩:=q.form;clear b f c d;go_wp2;go_ret;exact⟨⟨_,rfl,q⟩,E⟩
def bare(g:Grp):Grp:=⟨g.cnt,g.fst,g.syms,.slice none 0 0⟩
def aB(l:List Int):Nat->List Grp
 | 0=>[]
 | k+1=>if 0<l.getD k 0 then aB l k++[⟨l.getD k 0,(k:Int),[(k:Int)],.slice none 0 0⟩]else aB l k
def er(a b:Grp):Grp:=⟨a.cnt+b.cnt,if b.fst<a.fst then b.fst else a.fst,a.syms++b.syms,.slice none 0 0⟩
def aE(M:List Grp):Grp:=M.getD (least M) g0
def ar(M:List Grp):List Grp:=M.eraseIdx (least M)
def stepG(M:List Grp):List Grp:=ar (ar M)++[er (aE M) (aE (ar M))]
def bi(M:List Grp):List Int:=(aE M).syms++(aE (ar M)).syms
def gp(o:List Int)(i:Int):List Int:=o.set i.toNat (o.getD i.toNat 0+1)
def bump(o s:List Int):List Int:=s.foldl gp o
def ay(l:List Int):Nat->List Grp×List Int
 | 0=>(aB l l.length,List.replicate l.length 0)
 | k+1=>(stepG (ay l k).1,bump (ay l k).2 (bi (ay l k).1))
def bZ(l:List Int):List Int:=if (aB l l.length).length=1 then(List.replicate l.length 0).set ((aB l l.length).getD 0 g0).fst.toNat 1 else(ay l ((aB l l.length).length-1)).2
def od(o:List Int)(i:Int):(gp o i).length=o.length:=by simp[gp]
def qi(o s:List Int):(bump o s).length=o.length:=by
 induction s generalizing o with
 | nil=>rfl
 | cons i s ih=>show(bump (gp o i) s).length=_;rw[ih,od]
def eQ(l:List Int)(k:Nat):(ay l k).2.length=l.length:=by
 induction k with
 | zero=>simp[ay]
 | succ k ih=>simp only[ay];rw[qi,ih]
def jh(l:List Int):(bZ l).length=l.length:=by
 unfold bZ
 split
 . simp
 . exact eQ l _
def xW(o s:List Int)(k:Nat)(h:k<s.length):bump o (s.take (k+1))=gp (bump o (s.take k)) (s.getD k 0):=by
 rw[cz s k h];simp[bump]
/-! What is bare is as it was. -/
def vV(x y:Grp):aZ (bare x) (bare y)=aZ x y:=rfl
def ov(L:List Grp)(k:Nat):(L.map bare).getD k g0=bare (L.getD k g0):=by
 simp only[List.getD];rw[List.getElem?_map];cases L[k]? <;> rfl
def Dm(L:List Grp)(k:Nat):cF (L.map bare) k=cF L k:=by
 induction k with
 | zero=>rfl
 | succ k ih=>simp only[cF];rw[ih,ov,ov,vV]
def vO(L:List Grp):least (L.map bare)=least L:=by
 unfold least;rw[Dm,a0O]
def kG(L:List Grp):aE (L.map bare)=bare (aE L):=by
 unfold aE;rw[vO,ov]
def pL(L:List Grp):ar (L.map bare)=(ar L).map bare:=by
 unfold ar;rw[vO,rM,rM,a0J,List.map_take,List.map_drop]
def Lc(M:List Grp):stepG (M.map bare)=(ar (ar M)).map bare++[er (aE M) (aE (ar M))]:=by
 unfold stepG;rw[pL,pL,kG,kG];rfl
def Li(M:List Grp):bi (M.map bare)=bi M:=by
 unfold bi;rw[pL,kG,kG];rfl
/-! Bounds. -/
def WFg(n:Nat)(g:Grp):Prop:=0<=g.cnt/\0<=g.fst/\g.fst<(n:Int)/\(∀s∈g.syms,0<=s/\s<(n:Int))/\0<g.syms.length
def WFL(n:Nat)(M:List Grp):Prop:=∀g∈M,WFg n g
def gZ(M:List Grp):Int:=(M.map Grp.cnt).sum
def lq(M:List Grp):Nat:=(M.map (fun g=>g.syms.length)).sum
def gt(M:List Grp)(k:Nat)(h:k<M.length):M.getD k g0∈M:=by simp[List.getD,h]
def pU(M:List Grp)(k:Nat)(h:k<M.length):gZ M=(M.getD k g0).cnt+gZ (M.eraseIdx k):=by
 induction M generalizing k with
 | nil=>simp at h
 | cons g M ih=>
  cases k with
  | zero=>simp[gZ,List.eraseIdx]
  | succ k=>
   have:=ih k (by simpa using h);simp only[gZ,List.eraseIdx_cons_succ,a0D,a0N,a2F]at this ⊢;omega
def mB(M:List Grp)(k:Nat)(h:k<M.length):lq M=(M.getD k g0).syms.length+lq (M.eraseIdx k):=by
 induction M generalizing k with
 | nil=>simp at h
 | cons g M ih=>
  cases k with
  | zero=>simp[lq,List.eraseIdx]
  | succ k=>
   have:=ih k (by simpa using h);simp only[lq,List.eraseIdx_cons_succ,a0D,a0N,a2F]at this ⊢;omega
def dy(M:List Grp)(h:0<M.length):(ar M).length=M.length-1:=by
 unfold ar;rw[a3R,a0d (eT M h)]
def tS(A B:List Grp):gZ (A++B)=gZ A+gZ B:=by simp[gZ]
def tT(A B:List Grp):lq (A++B)=lq A+lq B:=by simp[lq]
def Pd(M:List Grp)(h:1<M.length):gZ (stepG M)=gZ M/\lq (stepG M)=lq M/\(stepG M).length=M.length-1:=by
 have a:=pU M (least M) (eT M (by omega));have h2:=mB M (least M) (eT M (by omega));have e:=dy M (by omega);have b:=pU (ar M) (least (ar M)) (eT _ (by omega));have c:=mB (ar M) (least (ar M)) (eT _ (by omega));have d:=dy (ar M) (by omega);have e1:M.getD (least M) g0=aE M:=rfl;have e2:(ar M).getD (least (ar M)) g0=aE (ar M):=rfl;have e3:M.eraseIdx (least M)=ar M:=rfl;have e4:(ar M).eraseIdx (least (ar M))=ar (ar M):=rfl;rw[e1,e3]at a h2;rw[e2,e4]at b c;refine⟨?_,?_,?_⟩
 .
  unfold stepG;rw[tS];have:gZ [er (aE M) (aE (ar M))]=(aE M).cnt+(aE (ar M)).cnt:=by simp[gZ,er]
  omega
 .
  unfold stepG;rw[tT];have:lq [er (aE M) (aE (ar M))]=(aE M).syms.length+(aE (ar M)).syms.length:=by simp[lq,er]
  omega
 . unfold stepG;simp;omega
def bh(M:List Grp):∀g∈ar M,g∈M:=fun _ a=>List.mem_of_mem_eraseIdx a
def bD(M:List Grp)(h:0<M.length):aE M∈M:=gt M _ (eT M h)
def Rq{M:List Grp}(c:WFL n M)(h:1<M.length):WFL n (stepG M):=by
 have l:=dy M (by omega);have e:=c _ (bD M (by omega));have hb:=c _ (bh M _ (bD (ar M) (by omega)));intro g b;simp only[stepG,a02,a09]at b;rcases b with b|rfl
 . exact c g (bh M _ (bh _ _ b))
 .
  obtain⟨a0,a1,a2,a3,a4⟩:=e;obtain⟨f,i,j,d,k⟩:=hb;refine⟨?_,?_,?_,?_,?_⟩
  . simp only[er];omega
  . simp only[er];split<;>assumption
  . simp only[er];split<;>assumption
  .
   intro s a;simp only[er,a02]at a;rcases a with a|a
   . exact a3 s a
   . exact d s a
  . simp only[er,a0j];omega
def IK(l:List Int)(k:Nat)(c:k<=l.length):WFL l.length (aB l k):=by
 induction k with
 | zero=>intro g a;simp[aB]at a
 | succ k ih=>
  simp only[aB]
  split
  case isTrue h=>
   intro g a;simp only[a02,a09]at a;rcases a with a|rfl
   . exact ih (by omega) g a
   . refine⟨by simp only;omega,by simp only;omega,by simp only;omega,?_,by simp⟩;intro s b;simp only[a09]at b;subst b;omega
  case isFalse=>exact ih (by omega)
def lM(l:List Int)(C:Int)(d:0<=C)(b:∀i,i<l.length->l.getD i 0<=C)(k:Nat)(f:k<=l.length):gZ (aB l k)<=C*k/\lq (aB l k)<=k/\(aB l k).length<=k:=by
 induction k with
 | zero=>simp[aB,gZ,lq]
 | succ k ih=>
  obtain⟨a,h2,c⟩:=ih (by omega);have hb:=b k (by omega);have e:C*((k+1:Nat):Int)=C*(k:Int)+C:=by rw[show((k+1:Nat):Int)=(k:Int)+1 by omega,Int.mul_add,Int.mul_one]
  simp only[aB]
  split
  .
   rw[tS,tT];refine⟨?_,?_,?_⟩
   . simp only[gZ,a0D,a1E,a0N,a3g]at a ⊢;omega
   . simp only[lq,a0D,a1E,a0N,a3g,a1j]at h2 ⊢;omega
   . simp;omega
  . refine⟨by omega,by omega,by omega⟩
def cn(l:List Int)(k:Nat)(e:k<(aB l l.length).length∨k=0):WFL l.length (ay l k).1/\gZ (ay l k).1=gZ (aB l l.length)/\lq (ay l k).1=lq (aB l l.length)/\(ay l k).1.length=(aB l l.length).length-k:=by
 induction k with
 | zero=>exact⟨IK l _ (a0a _),rfl,rfl,rfl⟩
 | succ k ih=>
  obtain⟨b,h2,c,d⟩:=ih (by omega);have a:1<(ay l k).1.length:=by omega
  obtain⟨t1,t2,t3⟩:=Pd _ a;refine⟨Rq b a,by simp only[ay];omega,by simp only[ay];omega,by simp only[ay];omega⟩
def Sp{M:List Grp}(c:WFL n M){g:Grp}(a:g∈M):g.cnt<=gZ M:=by
 induction M with
 | nil=>cases a
 | cons x M ih=>
  have h:=(c x (by simp)).1;have e:0<=gZ M:=by
   clear ih a;have b:WFL n M:=fun y d=>c y (by simp[d]);clear c;induction M with
   | nil=>simp[gZ]
   | cons y M ih2=>
    have:=ih2 (fun z f=>b z (by simp[f]));have d:=(b y (by simp)).1;simp only[gZ,a0D,a0N]at this ⊢;omega
  simp only[a01]at a;simp only[gZ,a0D,a0N]at e ih ⊢;rcases a with rfl|a
  . omega
  . have:=ih (fun y d=>c y (by simp[d])) a;omega
def AW{M:List Grp}(d:WFL n M)(h:1<M.length):(aE M).cnt+(aE (ar M)).cnt<=gZ M/\(bi M).length<=lq M:=by
 have f:=dy M (by omega);have a:=pU M (least M) (eT M (by omega));have h2:=mB M (least M) (eT M (by omega));have b:=mB (ar M) (least (ar M)) (eT _ (by omega));have e1:M.getD (least M) g0=aE M:=rfl;have e2:(ar M).getD (least (ar M)) g0=aE (ar M):=rfl;have e3:M.eraseIdx (least M)=ar M:=rfl;rw[e1,e3]at a h2;rw[e2]at b;have e:=Sp (n:=n) (M:=ar M) (fun g c=>d g (bh M _ c)) (bD (ar M) (by omega));refine⟨by omega,?_⟩;unfold bi;rw[a0j];omega
/-! Lengths stay small. -/
def Au(o:List Int)(B:Int):Prop:=∀i,i<o.length->0<=o.getD i 0/\o.getD i 0<=B
def Jf(h:Au o B)(i:Int):Au (gp o i) (B+1):=by
 intro j a;rw[od]at a;have b:=h j a;by_cases e:i.toNat=j
 . subst e;simp only[gp,List.getD];rw[List.getElem?_set_self a];simp only[a1G];have:=h i.toNat a;simp only[List.getD]at this;omega
 .
  have:(gp o i).getD j 0=o.getD j 0:=by
   simp only[gp,List.getD];rw[List.getElem?_set_ne e]
  rw[this];omega
def uQ(h:Au o B)(s:List Int):Au (bump o s) (B+s.length):=by
 induction s generalizing o B with
 | nil=>intro i a;have:=h i a;simp only[bump,List.foldl_nil,a0U];omega
 | cons i s ih=>
  have:=ih (Jf h i);intro j b;have h2:=this j b;simp only[a0C];show 0<=(bump (gp o i) s).getD j 0/\_;refine⟨h2.1,?_⟩;have:=h2.2;show(bump (gp o i) s).getD j 0<=_;omega
def vo(l:List Int)(d:∀i,i<l.length->l.getD i 0<=100000)(h:l.length<=300)(k:Nat)(g:k<(aB l l.length).length∨k=0):Au (ay l k).2 (300*(k:Int)):=by
 induction k with
 | zero=>
  intro i a;have:(ay l 0).2.getD i 0=0:=by
   simp only[ay,List.getD];simp only[ay,a0y]at a;simp[a]
  rw[this];omega
 | succ k ih=>
  have a:=ih (by omega);obtain⟨c,h2,e,f⟩:=cn l k (by omega);have m:=(AW c (by omega)).2;have j:=(lM l 100000 (by omega) d l.length (a0a _)).2.1;have hb:=uQ a (bi (ay l k).1);intro i b;have:=hb i b;simp only[ay]at this ⊢;omega
/-! What is counted once more. -/
def xV(o:List Int)(i:Int)(j:Nat)(b:0<=i)(a:j<o.length):(gp o i).getD j 0=o.getD j 0+(if i=(j:Int)then 1 else 0):=by
 by_cases e:i=(j:Int)
 .
  rw[a0d e];have e2:i.toNat=j:=by omega
  simp only[gp,List.getD];rw[e2,List.getElem?_set_self a,a1G]
 .
  rw[a0e e];have e2:i.toNat≠j:=by omega
  simp only[gp,List.getD];rw[List.getElem?_set_ne e2];omega
def mZ(o s:List Int)(j:Nat)(a:s.Nodup)(b:∀x∈s,0<=x)(c:j<o.length):(bump o s).getD j 0=o.getD j 0+(if (j:Int)∈s then 1 else 0):=by
 induction s generalizing o with
 | nil=>simp[bump]
 | cons x s ih=>
  show(bump (gp o x) s).getD j 0=_;rw[List.nodup_cons]at a;rw[ih (gp o x) a.2 (fun y d=>b y (by simp[d])) (by rw[od];exact c),xV o x j (b x (by simp)) c];by_cases e:x=(j:Int)
  . subst e;rw[a0d rfl,a0e a.1,a0d (by simp)];omega
  .
   rw[a0e e];by_cases h2:(j:Int)∈s
   . rw[a0d h2,a0d (by simp[h2])];omega
   . rw[a0e h2,a0e (by simp only[a01,not_or];exact⟨fun e2=>e e2.symm,h2⟩)];omega
/-! All symbols, each once. -/
def bq(M:List Grp):List Int:=M.flatMap Grp.syms
def GE(M:List Grp)(k:Nat)(h:k<M.length):(M.getD k g0 :: M.eraseIdx k).Perm M:=by
 induction M generalizing k with
 | nil=>simp at h
 | cons x M ih=>
  cases k with
  | zero=>exact a2w _
  | succ k=>
   rw[a2F,List.eraseIdx_cons_succ];exact(a3S _ _ _).trans (List.Perm.cons x (ih k (by simpa using h)))
def mt(M:List Grp)(h:0<M.length):(aE M :: ar M).Perm M:=GE M _ (eT M h)
def wE(M:List Grp)(h:1<M.length):(aE M :: aE (ar M) :: ar (ar M)).Perm M:=by
 have a:=dy M (by omega);exact(List.Perm.cons _ (mt (ar M) (by omega))).trans (mt M (by omega))
def rP{A B:List Grp}(h:A.Perm B):(bq A).Perm (bq B):=by
 induction h with
 | nil=>exact a2w _
 | cons x _ ih=>
  simp only[bq,a0Y]at ih ⊢;exact List.Perm.append_left _ ih
 | swap x y l=>
  simp only[bq,a0Y];rw[←a0K,←a0K];exact List.Perm.append_right _ List.perm_append_comm
 | trans _ _ h1 h2=>exact h1.trans h2
def yl(M:List Grp)(h:1<M.length):(bq (stepG M)).Perm (bq M):=by
 refine List.Perm.trans ?_ (rP (wE M h));unfold stepG bq;rw[a1H];refine List.perm_append_comm.trans ?_;simp[er]
def JI(l:List Int)(k:Nat):(bq (aB l k)).Nodup/\∀x∈bq (aB l k),0<=x/\x<(k:Int):=by
 induction k with
 | zero=>simp[aB,bq]
 | succ k ih=>
  simp only[aB]
  split
  .
   have e:bq (aB l k++[⟨l.getD k 0,(k:Int),[(k:Int)],.slice none 0 0⟩])=bq (aB l k)++[(k:Int)]:=by simp[bq]
   rw[e];refine⟨?_,?_⟩
   . rw[a3T];refine⟨ih.1,by simp,?_⟩;intro x a y b;simp only[a09]at b;subst b;have:=(ih.2 x a).2;omega
   .
    intro x a;simp only[a02,a09]at a;rcases a with a|rfl
    . have:=ih.2 x a;omega
    . omega
  . exact⟨ih.1,fun x a=>by have:=ih.2 x a;omega⟩
def iJ(l:List Int)(k:Nat)(d:k<(aB l l.length).length∨k=0):(bq (ay l k).1).Nodup/\∀x∈bq (ay l k).1,0<=x/\x<(l.length:Int):=by
 induction k with
 | zero=>exact JI l _
 | succ k ih=>
  have a:=ih (by omega);have e:=(cn l k (by omega)).2.2.2;have b:=yl (ay l k).1 (by omega);exact⟨(b.nodup_iff).2 a.1,fun x c=>a.2 x (b.mem_iff.1 c)⟩
def kv(M:List Grp)(h:1<M.length):((bi M)++bq (ar (ar M))).Perm (bq M):=by
 refine List.Perm.trans ?_ (rP (wE M h));simp[bi,bq]
def kp{M:List Grp}(h:1<M.length)(c:(bq M).Nodup):(bi M).Nodup/\∀g∈ar (ar M),∀s∈g.syms,s ∉ bi M:=by
 have h2:=((kv M h).nodup_iff).2 c;rw[a3T]at h2;refine⟨h2.1,fun g a s d b=>?_⟩;exact h2.2.2 s b s (by simp only[bq,List.mem_flatMap];exact⟨g,a,d⟩) rfl
def mf(l:List Int)(k:Nat)(g:k<(aB l l.length).length∨k=0):Au (ay l k).2 (k:Int):=by
 induction k with
 | zero=>
  intro i c;have:(ay l 0).2.getD i 0=0:=by
   simp only[ay,List.getD];simp only[ay,a0y]at c;simp[c]
  rw[this];omega
 | succ k ih=>
  have c:=ih (by omega);have h:=(cn l k (by omega)).2.2.2;have d:=iJ l k (by omega);have e:=kp (M:=(ay l k).1) (by omega) d.1;intro i a;simp only[ay]at a ⊢;rw[qi]at a;have b:∀x∈bi (ay l k).1,0<=x:=fun x f=>(d.2 x ((kv _ (by omega)).mem_iff.1 (by simp[f]))).1;rw[mZ _ _ i e.1 b a];have:=c i a
  split<;>omega
/-! Where all come as often. -/
def NN(K:Nat)(o:List Int)(g:Grp):Prop:=g.cnt=(p2 K:Nat)/\∀s∈g.syms,o.getD s.toNat 0<=(K:Int)
def SH(K:Nat)(o:List Int)(g:Grp):Prop:=g.cnt=(p2 (K+1):Nat)/\∀s∈g.syms,o.getD s.toNat 0<=(K:Int)+1
def DD(K:Nat)(o:List Int)(g:Grp):Prop:=(p2 K:Nat)<g.cnt/\g.cnt<(p2 (K+1):Nat)/\∀s∈g.syms,o.getD s.toNat 0<=(K:Int)+1
def Lvl(K:Nat)(o:List Int)(M:List Grp):Prop:=(∀g∈M,NN K o g∨SH K o g∨DD K o g)/\M.Pairwise (fun x y=>¬ (DD K o x/\DD K o y))
def Gh (L : List Grp) (k j : Nat) (hj : j ≤ k) : (L.getD (cF L k) g0).cnt ≤ (L.getD j g0).cnt := by
  induction k with
  | zero => have : j = 0 := by omega
            subst this; exact a2K _
  | succ k ih =>
    simp only [cF]
    by_cases e : j = k + 1
    . subst e
      split
      . exact a2K _
      . rename_i h
        simp only [aZ, a1k, a0t, not_or] at h
        have := h.1
        omega
    . have := ih (by omega)
      split
      . rename_i h
        simp only [aZ, a1k, a0l, a0t] at h
        omega
      . exact this
def yi(M:List Grp)(g:Grp)(a:g∈M):(aE M).cnt<=g.cnt:=by
 obtain⟨i,b,rfl⟩:=a1I a;have:=Gh M (M.length-1) i (by omega);have e:M.getD i g0=M[i]:=by simp[List.getD,b]
 rw[e]at this;exact this
def NP{K:Nat}{M:List Grp}(h:1<M.length)(l:Lvl K o M)(Y:(bq M).Nodup)(T:∀x∈bq M,0<=x/\x<(o.length:Int)):Lvl K (bump o (bi M)) (stepG M)∨Lvl (K+1) (bump o (bi M)) (stepG M):=by
 have hr:=dy M (by omega);obtain⟨L,N⟩:=kp h Y;have r:=kv M h;have F:∀x∈bi M,0<=x:=fun x f=>(T x (r.mem_iff.1 (by simp[f]))).1;have R:=bD M (by omega);have hb:=bh M _ (bD (ar M) (by omega));have u:∀g∈ar (ar M),g∈M:=fun g a=>bh M _ (bh _ _ a);have X:(aE M).cnt<=(aE (ar M)).cnt:=yi M _ hb;have m:∀g∈ar (ar M),(aE (ar M)).cnt<=g.cnt:=fun g a=>yi (ar M) g (bh _ _ a);have J:p2 (K+1)=p2 K*2:=kM K;have aa:p2 (K+1+1)=p2 (K+1)*2:=kM (K+1);have Z:=mr K;have p:∀x,x∈bq M->(bump o (bi M)).getD x.toNat 0=o.getD x.toNat 0+(if x∈bi M then 1 else 0):=by
  intro x f;have hb:=T x f;rw[mZ o (bi M) x.toNat L F (by omega)];have e:((x.toNat:Nat):Int)=x:=by omega
  rw[e]
 have D:∀g∈M,∀x∈g.syms,x∈bq M:=fun g a x i=>by simp only[bq,List.mem_flatMap];exact⟨g,a,i⟩
 have hold:∀g∈ar (ar M),∀x∈g.syms,(bump o (bi M)).getD x.toNat 0=o.getD x.toNat 0:=by
  intro g a x i;rw[p x (D g (u g a) x i),a0e (N g a x i)];omega
 have q:∀x,x∈bi M->(bump o (bi M)).getD x.toNat 0=o.getD x.toNat 0+1:=by
  intro x f;rw[p x (r.mem_iff.1 (by simp[f])),a0d f]
 have G:(aE M :: aE (ar M) :: ar (ar M)).Pairwise (fun x y=>¬ (DD K o x/\DD K o y)):=
  ((wE M h).pairwise_iff (fun{x y} j H=>j ⟨H.2,H.1⟩)).2 l.2
 rw[List.pairwise_cons,List.pairwise_cons]at G;obtain⟨P,Q,I⟩:=G;have t:(er (aE M) (aE (ar M))).cnt=(aE M).cnt+(aE (ar M)).cnt:=rfl;have C:∀x,x∈(er (aE M) (aE (ar M))).syms<->x∈bi M:=fun x=>Iff.rfl;by_cases v:NN K o (aE M)/\NN K o (aE (ar M))
 .
  left;obtain⟨⟨a1,a2⟩,c,W⟩:=v;have S:SH K (bump o (bi M)) (er (aE M) (aE (ar M))):=by
   refine⟨by rw[t,a1,c,J];omega,fun x f=>?_⟩;have d:=(C x).1 f;rw[q x d];simp only[bi,a02]at d;rcases d with d|d
   . have:=a2 x d;omega
   . have:=W x d;omega
  have n:∀g∈ar (ar M),DD K (bump o (bi M)) g->DD K o g:=fun g a n=>⟨n.1,n.2.1,fun x f=>by have:=n.2.2 x f;rw[hold g a x f]at this;exact this⟩;refine⟨fun g a=>?_,?_⟩
  .
   simp only[stepG,a02,a09]at a;rcases a with a|rfl
   .
    rcases l.1 g (u g a)with b|b|b
    . exact .inl ⟨b.1,fun x f=>by rw[hold g a x f];exact b.2 x f⟩
    . exact .inr (.inl ⟨b.1,fun x f=>by rw[hold g a x f];exact b.2 x f⟩)
    . exact .inr (.inr ⟨b.1,b.2.1,fun x f=>by rw[hold g a x f];exact b.2.2 x f⟩)
   . exact .inr (.inl S)
  .
   unfold stepG;rw[List.pairwise_append];refine⟨?_,by simp,?_⟩
   . refine List.Pairwise.imp_of_mem ?_ I;intro x y i O j k;exact j ⟨n x i k.1,n y O k.2⟩
   . intro x _ y U j;simp only[a09]at U;subst U;have b:=S.1;have h2:=j.2.2.1;omega
 .
  right;have A:((p2 K:Nat):Int)<=(aE M).cnt/\(aE M).cnt<=((p2 (K+1):Nat):Int)/\((p2 K:Nat):Int)<(aE (ar M)).cnt/\(aE (ar M)).cnt<=((p2 (K+1):Nat):Int)/\∀g∈ar (ar M),SH K o g:=by
   rcases l.1 _ R with a1|a1|a1
   .
    rcases l.1 _ hb with c|c|c
    . exact absurd ⟨a1,c⟩ v
    .
     refine⟨by rw[a1.1];omega,by rw[a1.1];omega,by rw[c.1];omega,by rw[c.1];omega,fun g a=>?_⟩;have s:=m g a;rcases l.1 g (u g a)with b|b|b
     . have:=b.1;have:=c.1;omega
     . exact b
     . have:=b.2.1;have:=c.1;omega
    .
     refine⟨by rw[a1.1];omega,by rw[a1.1];omega,c.1,by have:=c.2.1;omega,fun g a=>?_⟩;have s:=m g a;rcases l.1 g (u g a)with b|b|b
     . have:=b.1;have:=c.1;omega
     . exact b
     . exact absurd ⟨c,b⟩ (Q g a)
   .
    rcases l.1 _ hb with c|c|c
    . have:=a1.1;have:=c.1;omega
    .
     refine⟨by rw[a1.1];omega,by rw[a1.1];omega,by rw[c.1];omega,by rw[c.1];omega,fun g a=>?_⟩;have s:=m g a;rcases l.1 g (u g a)with b|b|b
     . have:=b.1;have:=c.1;omega
     . exact b
     . have:=b.2.1;have:=c.1;omega
    . have:=a1.1;have:=c.2.1;omega
   .
    rcases l.1 _ hb with c|c|c
    . have:=a1.1;have:=c.1;omega
    .
     refine⟨by have:=a1.1;omega,by have:=a1.2.1;omega,by rw[c.1];omega,by rw[c.1];omega,fun g a=>?_⟩;have s:=m g a;rcases l.1 g (u g a)with b|b|b
     . have:=b.1;have:=c.1;omega
     . exact b
     . have:=b.2.1;have:=c.1;omega
    . exact absurd ⟨a1,c⟩ (P _ (by simp))
  obtain⟨q1,q2,q3,q4,V⟩:=A;have w:∀g∈M,∀x∈g.syms,o.getD x.toNat 0<=(K:Int)+1:=by
   intro g a x f;rcases l.1 g a with b|b|b
   . have:=b.2 x f;omega
   . exact b.2 x f
   . exact b.2.2 x f
  have B:∀x∈(er (aE M) (aE (ar M))).syms,(bump o (bi M)).getD x.toNat 0<=((K+1:Nat):Int)+1:=by
   intro x f;have d:=(C x).1 f;rw[q x d];simp only[bi,a02]at d;rcases d with d|d
   . have:=w _ R x d;omega
   . have:=w _ hb x d;omega
  have z:∀g∈ar (ar M),NN (K+1) (bump o (bi M)) g:=fun g a=>⟨(V g a).1,fun x f=>by rw[hold g a x f];have:=(V g a).2 x f;omega⟩;refine⟨fun g a=>?_,?_⟩
  .
   simp only[stepG,a02,a09]at a;rcases a with a|rfl
   . exact .inl (z g a)
   .
    by_cases e:(er (aE M) (aE (ar M))).cnt=((p2 (K+1+1):Nat):Int)
    . exact .inr (.inl ⟨e,B⟩)
    .
     refine .inr (.inr ⟨?_,?_,B⟩)
     . rw[t];omega
     . rw[t]at e ⊢;omega
  .
   unfold stepG;have E:∀g∈ar (ar M),¬ DD (K+1) (bump o (bi M)) g:=fun g a n=>by
    have b:=(z g a).1;have h2:=n.1;omega
   rw[List.pairwise_append];refine⟨?_,by simp,?_⟩
   . refine List.Pairwise.imp_of_mem ?_ I;intro x y i _ _ k;exact E x i k.1
   . intro x i y _ j;exact E x i j.1
def QY(l:List Int):Prop:=∀i,i<l.length->l.getD i 0<=1
def wh(l:List Int)(c:QY l)(k:Nat)(d:k<=l.length):∀g∈aB l k,NN 0 (List.replicate l.length 0) g:=by
 induction k with
 | zero=>intro g a;simp[aB]at a
 | succ k ih=>
  simp only[aB]
  split
  case isTrue h=>
   intro g a;simp only[a02,a09]at a;rcases a with a|rfl
   . exact ih (by omega) g a
   .
    refine⟨?_,?_⟩
    . have:=c k (by omega);have e:p2 0=1:=rfl;simp only;rw[e];omega
    .
     intro s b;simp only[a09]at b;subst b;rw[a0o];have:(List.replicate l.length (0:Int)).getD k 0=0:=by simp[List.getD,show k<l.length by omega]
     rw[this];exact a2K _
  case isFalse=>exact ih (by omega)
def NO(l:List Int)(c:QY l)(k:Nat)(j:k<(aB l l.length).length∨k=0):∃K,Lvl K (ay l k).2 (ay l k).1:=by
 induction k with
 | zero=>
  refine⟨0,fun g f=>.inl (wh l c _ (a0a _) g f),?_⟩;refine List.Pairwise.imp_of_mem ?_ (List.pairwise_of_forall (R:=fun _ _=>True) (fun _ _=>trivial));intro x y a _ _ b;have:=(wh l c _ (a0a _) x a).1;have:=b.1.1;omega
 | succ k ih=>
  obtain⟨K,e⟩:=ih (by omega);have m:=(cn l k (by omega)).2.2.2;have d:=iJ l k (by omega);rcases NP (by omega) e d.1 (fun x i=>by rw[eQ];exact d.2 x i)with h|h
  . exact⟨K,h⟩
  . exact⟨K+1,h⟩
def ou(l:List Int)(k:Nat)(a:k<(aB l l.length).length∨k=0):(bq (ay l k).1).Perm (bq (aB l l.length)):=by
 induction k with
 | zero=>exact a2w _
 | succ k ih=>
  have b:=(cn l k (by omega)).2.2.2;exact(yl (ay l k).1 (by omega)).trans (ih (by omega))
def yt(l:List Int)(i:Nat)(c:i<l.length)(f:(i:Int) ∉ bq (aB l l.length))(k:Nat)(j:k<(aB l l.length).length∨k=0):(ay l k).2.getD i 0=0:=by
 induction k with
 | zero=>simp[ay,List.getD,c]
 | succ k ih=>
  have d:=ih (by omega);have m:=(cn l k (by omega)).2.2.2;have b:=iJ l k (by omega);have g:=kp (M:=(ay l k).1) (by omega) b.1;have a:=kv (ay l k).1 (by omega);simp only[ay];rw[mZ _ _ i g.1 (fun x h=>(b.2 x (a.mem_iff.1 (by simp[h]))).1) (by rw[eQ];exact c),d,a0e]
  . rfl
  . intro e;exact f ((ou l k (by omega)).mem_iff.1 (a.mem_iff.1 (by simp[e])))
def Lp(M:List Grp)(h:∀g∈M,g.cnt=1):gZ M=(M.length:Int):=by
 induction M with
 | nil=>rfl
 | cons g M ih=>
  have:=ih (fun x a=>h x (by simp[a]));have b:=h g (by simp);simp only[gZ,a0D,a0N,a0C]at this ⊢;omega
def IF{a b:Nat}(h:p2 a<=p2 b):a<=b:=by
 rcases a1l b a with h2|h2
 . have c:p2 (b+1)<=p2 a:=a0P (by omega) (by omega);have d:=kM b;have e:=mr b;omega
 . exact h2
def Ts{a b:Nat}(h:p2 a<p2 b):a<b:=by
 rcases a1l a b with h2|h2
 . exact h2
 . have c:p2 b<=p2 a:=a0P (by omega) h2;omega
def N9(l:List Int)(v:QY l)(m:Nat)(B:(aB l l.length).length<=p2 m):Au (bZ l) ((m:Int)+1):=by
 have o:∀i,i<l.length->(List.replicate l.length (0:Int)).getD i 0=0:=fun i f=>by simp[List.getD,f]
 intro i f;rw[jh]at f;unfold bZ;by_cases d:(aB l l.length).length=1
 .
  rw[a0d d];generalize ((aB l l.length).getD 0 g0).fst.toNat=q;by_cases e:q=i
  . simp only[List.getD];rw[←e,List.getElem?_set_self (by rw[a0y,e];exact f),a1G];omega
  . simp only[List.getD];rw[List.getElem?_set_ne e];have:=o i f;simp only[List.getD]at this;omega
 .
  rw[a0e d];generalize D:(aB l l.length).length-1=k;have b:k<(aB l l.length).length∨k=0:=by omega
  have j:=mf l k b i (by rw[eQ];exact f);by_cases a:(i:Int)∈bq (aB l l.length)
  .
   obtain⟨K,w⟩:=NO l v k b;have c:=cn l k b;have z:0<(aB l l.length).length:=by
    rcases a2l (aB l l.length).length with h|h
    . have:aB l l.length=[]:=a2r h;rw[this]at a;simp[bq]at a
    . exact h
   have s:(ay l k).1.length=1:=by rw[c.2.2.2];omega
   obtain⟨g,y⟩:=List.length_eq_one_iff.1 s;have t:=(ou l k b).mem_iff.2 a;rw[y]at t w;have n:(i:Int)∈g.syms:=by simpa[bq]using t
   have C:g.cnt=((aB l l.length).length:Int):=by
    have h2:=c.2.1;rw[y,Lp (aB l l.length) (fun x A=>by have:=(wh l v _ (a0a _) x A).1;simpa[p2]using this)]at h2;simpa[gZ]using h2
   have u:g∈[g]:=(by simp);rcases w.1 g u with h|h|h
   .
    have p:=h.2 _ n;rw[a0o]at p;have r:p2 K<=p2 m:=by have:=h.1;omega
    have:=IF r;exact⟨j.1,by omega⟩
   .
    have p:=h.2 _ n;rw[a0o]at p;have r:p2 (K+1)<=p2 m:=by have:=h.1;omega
    have:=IF r;exact⟨j.1,by omega⟩
   .
    have p:=h.2.2 _ n;rw[a0o]at p;have r:p2 K<p2 m:=by have:=h.1;omega
    have:=Ts r;exact⟨j.1,by omega⟩
  . rw[yt l i f a k b];omega
/-! Counts are halved. -/
def jg(x:Int):Int:=(x+1)/2
def bv(l:List Int):List Int:=l.map jg
def eV(l:List Int):(bv l).length=l.length:=by simp[bv]
def rS(l:List Int)(i:Nat)(a:i<l.length):(bv l).getD i 0=jg (l.getD i 0):=by simp[bv,List.getD,a]
def sH(l:List Int)(b:∀i,i<l.length->0<=l.getD i 0)(k:Nat)(c:k<=l.length):(aB (bv l) k).length=(aB l k).length:=by
 induction k with
 | zero=>rfl
 | succ k ih=>
  have a:=rS l k (by omega);have d:=b k (by omega);simp only[aB];by_cases h:0<l.getD k 0
  . rw[a0d h,a0d (by rw[a];unfold jg;omega)];simp only[a0j,a1j];rw[ih (by omega)]
  . rw[a0e h,a0e (by rw[a];unfold jg;omega),ih (by omega)]
def kC(l:List Int):Nat:=(l.map Int.toNat).sum
def wU(l:List Int)(c:∀x∈l,0<=x):kC (bv l)<=kC l/\((∃x∈l,1<x)->kC (bv l)<kC l):=by
 induction l with
 | nil=>simp[kC,bv]
 | cons x l ih=>
  have d:=ih (fun y a=>c y (by simp[a]));have f:=c x (by simp);simp only[kC,bv,a0D,a0N]at d ⊢;have e:(jg x).toNat<=x.toNat:=by unfold jg;omega
  refine⟨by omega,?_⟩;rintro⟨y,a,b⟩;simp only[a01]at a;rcases a with rfl|a
  .
   have:(jg y).toNat<y.toNat:=by unfold jg;omega
   omega
  . have:=d.2 ⟨y,a,b⟩;omega
def bX(o:List Int):Nat->Int
 | 0=>0
 | k+1=>if bX o k<o.getD k 0 then o.getD k 0 else bX o k
def fits(o:List Int)(m:Int):Bool:=decide (bX o o.length<=m)
def NY(a:0<=B)(h:Au o B)(k:Nat)(c:k<=o.length):bX o k<=B:=by
 induction k with
 | zero=>exact a
 | succ k ih=>
  have b:=ih (by omega);have h2:=(h k (by omega)).2;simp only[bX]
  split<;>assumption
def Il{m:Int}(a:0<=m)(h:Au o m):fits o m=true:=by
 unfold fits;exact a0B (NY a h _ (a0a _))
def qt(m:Int):Nat->List Int->List Int
 | 0,l=>bZ l
 | f+1,l=>if fits (bZ l) m then bZ l else qt m f (bv l)
def wn{l:List Int}{m:Nat}(d:(aB l l.length).length<=p2 m)(b:fits (bZ l) ((m:Int)+1)=false):∃x∈l,1<x:=by
 apply Classical.byContradiction;intro a;have c:QY l:=by
  intro i e;have f:l.getD i 0∈l:=by simp[List.getD,e]
  rcases a1A 1 (l.getD i 0)with h|h
  . exact absurd ⟨_,f,h⟩ a
  . exact h
 have:=Il (by omega) (N9 l c m d);rw[this]at b;cases b
