/- Of what the proof is made: 5 texts, one behind the other. -/
import Derived.Test.YtggknepmhjfohaaGreatDoorM12
import Derived.Deep.RegionHeld3
import Derived.BigQuiet
import Derived.Test.YtggknepmhjfohaaGreatDoorM8
import Derived.Test.YtggknepmhjfohaaGreatDoorM5
set_option maxRecDepth 100000
set_option linter.unusedSimpArgs false
set_option linter.unusedVariables false
set_option maxHeartbeats 1600000
namespace Go.Proofs.YtggknepmhjfohaaGreatDoor
open Go.Proofs.Tryz
open Go.RowKit
variable {B:Int}{n:Nat}{o:List Int}
def aU(x y:Grp):Bool:=decide (x.cnt<y.cnt) || (decide (x.cnt=y.cnt)&&decide (x.fst<y.fst))
def cj(L:List Grp):Nat->Nat
 | 0=>0
 | k+1=>if aU (L.getD (k+1) g0) (L.getD (cj L k) g0)then k+1 else cj L k
def least(L:List Grp):Nat:=cj L (L.length-1)
theorem uR(L:List Grp)(k:Nat):cj L k<=k:=by
 induction k with
 | zero=>exact a0a _
 | succ k ih=>simp only[cj];split<;>omega
theorem dV(L:List Grp)(h:0<L.length):least L<L.length:=by
 have:=uR L (L.length-1);unfold least;omega
theorem po(L:List Grp)(k:Nat):L.eraseIdx k=L.take k++L.drop (k+1):=List.eraseIdx_eq_take_drop_succ L k
theorem qy(a:Option Addr)(cap n base:Nat)(L:List Grp)(w:World)(u:L.length=n)(h:cJ 250 w base (.slice a n cap) L)(B:1<=n)(x:n<=300) :
  CD 201 #[.slice a n cap] w (.int .i64 (least L:Nat)):=by
 obtain⟨g,rfl⟩:=h.somes (by omega);have o:=af u;have y:(n:Int)<=300:=by omega
 have v:=af h;clear h u x;go_enter func201,ntmps201;go_wp2_with fail
 go_loopw [3,4] (fun b i wr=>∃k:Nat,k<n/\i = .int .i64 ((k:Int)+1)/\b = .int .i64 (cj L k:Nat)/\Below w.heap.size w wr) (fun _ i _=>n+1-(intOf i).toNat)
 case atStart=>exact⟨0,by omega,rfl,rfl,a0c _ _⟩
 case round=>
  obtain⟨k,C,rfl,rfl,e⟩:=hrel;have j:=af e;have l:=af ((ae v).later e (a0a _));clear e;by_cases f:k+1<n
  .
   have m:(k:Int)+1<(n:Int):=by omega
   have r:=uR L k;obtain⟨c0,c1,_,_,_⟩:=(ae l).at (ae o) (k+1) f;obtain⟨z,A,_,_,_⟩:=(ae l).at (ae o) (cj L k) (by omega);have D:((cj L k:Nat):Int)<(n:Int):=by omega
   have d:Hid (cj L (k+1)=if (decide ((L.getD (k+1) g0).cnt<(L.getD (cj L k) g0).cnt) || (decide ((L.getD (k+1) g0).cnt=(L.getD (cj L k) g0).cnt)&&decide ((L.getD (k+1) g0).fst<(L.getD (cj L k) g0).fst)))then k+1 else cj L k):=rfl;clear r;generalize cj L k=q at *
   generalize (L.getD (k+1) g0).cnt=x0 at *
   generalize (L.getD (k+1) g0).fst=x1 at *
   generalize (L.getD q g0).cnt=y0 at *
   generalize (L.getD q g0).fst=y1 at *
   by_cases s:x0<y0
   .
    have e0:decide (x0<y0)=true:=a0v s;have c:Hid (cj L (k+1)=k+1):=by have:=ae d;rw[e0]at this;exact af (by simpa using this)
    go_wp2_with fail
    go_quiet (fail)
    go_wp2;go_roundw
    case rel=>exact⟨k+1,f,by go_num,by rw[ae c];go_num,a0G (ae j) _⟩
    case measure=>simp[intOf];omega
   .
    have e0:decide (x0<y0)=false:=a0j s;by_cases h2:x0=y0
    .
     subst h2;by_cases t:x1<y1
     .
      have e1:decide (x1<y1)=true:=a0v t;have c:Hid (cj L (k+1)=k+1):=by have:=ae d;rw[e0,e1]at this;exact af (by simpa using this)
      go_wp2_with fail
      go_quiet (fail)
      go_wp2;go_roundw
      case rel=>exact⟨k+1,f,by go_num,by rw[ae c];go_num,a0G (ae j) _⟩
      case measure=>simp[intOf];omega
     .
      have e1:decide (x1<y1)=false:=a0j t;have c:Hid (cj L (k+1)=q):=by have:=ae d;rw[e0,e1]at this;exact af (by simpa using this)
      go_wp2_with fail
      go_quiet (fail)
      go_wp2;go_roundw
      case rel=>exact⟨k+1,f,by go_num,by rw[ae c],a0G (ae j) _⟩
      case measure=>simp[intOf];omega
    .
     have g1:(x0 == y0)=false:=by simpa using h2
     have c:Hid (cj L (k+1)=q):=by have:=ae d;rw[e0,a0j h2]at this;exact af (by simpa using this)
     go_wp2_with fail
     go_quiet (fail)
     go_wp2;go_roundw
     case rel=>exact⟨k+1,f,by go_num,by rw[ae c],a0G (ae j) _⟩
     case measure=>simp[intOf];omega
  .
   have p:Hid (least L=cj L k):=by
    show least L=cj L k;unfold least;rw[ae o]
    congr 1;omega
   have m:¬ (k:Int)+1<(n:Int):=by omega
   go_wp2;go_ret;exact⟨aE (by rw[ae p]),ae j⟩
theorem Tryz.infoTree:(prog.info? 250).map (fun i=>(i.zero,i.size,i.bytes))=some (some (.agg #[.int .i64 0,.int .i64 0,.slice none 0 0]),3,40):=by kernel_rfl
theorem Jf{t:TypeId}{x:World}{base m:Nat}{v:Value}{l r:List Grp}(b:l.length=n)(a:r.length=m)(h:x.ownsRow base t 3 v (n+m) (aM l++aM r)):cJ t x base v (l++r):=by
 subst b a;show World.ownsRow _ _ _ _ _ (l++r).length _;rw[a0m,jK];exact h
theorem Ct(g n cap k:Nat)(e:k<=cap)(d:0<cap)(W:World):(Instr.slice 248 (.slice (some ⟨g,0,none⟩) n cap) none (some (.int .i64 (k:Int))) none).run prog W = .ok (.slice (some ⟨g,0,none⟩) k cap) W:=by
 have b:¬ cap=0:=by omega
 have a:(k:Int)<=(cap:Int):=by omega
 have c:(0:Int)<=(k:Int):=by omega
 go_simp
theorem Cu(g n cap k:Nat)(d:k<=n)(W:World):(Instr.slice 248 (.slice (some ⟨g,0,none⟩) n cap) (some (.int .i64 ((k:Int)))) none none).run prog W = .ok (.slice (some ⟨g,if cap=k then 0 else k*3,none⟩) (n-k) (cap-k)) W:=by
 have a:(k:Int)<=(n:Int):=by omega
 have b:(0:Int)<=(k:Int):=by omega
 by_cases c:cap=k
 . go_simp
 . go_simp
theorem sK(a:Option Addr)(cap n base ob k:Nat)(L:List Grp)(w:World)(O:L.length=n)(h:cJ 250 w base (.slice a n cap) L)(T:dE w ob L)(hk:k<n)(hm:n<=300) :
  Calls prog 202 #[.slice a n cap,.int .i64 (k:Int)] w fun e w'=>(∃v,e = .returned v/\cJ 250 w' w.heap.size v (L.eraseIdx k))/\Below w.heap.size w w':=by
 obtain⟨g,rfl⟩:=h.somes (by omega);have p:=h.cap O;have t:=af O;have aa:(n:Int)<=300:=by omega
 have Y:(n:Int)<=(cap:Int):=by omega
 have Z:(cap:Int)<=9223372036854775807:=by have:=p.2;unfold maxLen at this;omega
 have Q:=af h;have P:=af T;obtain⟨i0,R,B,C,D⟩:=a0t Tryz.infoTree;clear h O hm T p;obtain⟨o2,ho2⟩:∃o2,(if cap=k+1 then 0 else(k+1)*3)=o2:=⟨_,rfl⟩;have ab:=Ct g n cap k (by omega) (by omega);have A:=Cu g n cap (k+1) (by omega);have ek:((k+1:Nat):Int)=(k:Int)+1:=by omega
 rw[ek]at A;rw[ho2]at A;have ac:IntKind.i64.wrap ((k:Int)+1)=(k:Int)+1:=by simp[IntKind.wrap,IntKind.bits,IntKind.signed];omega
 have U:=af ho2;clear ho2 ek;have J:Hid (∀W,Below w.heap.size w W->∀j u,(aM (L.take k))[j]?=some u->W.cell? ((⟨g,0,none⟩:Addr).add j)=some u):=by
  intro W M j u o;exact cJ.news (ae t) ((ae Q).later M (a0a _)) 0 k 0 rfl (by omega) j u (by simpa using o)
 have K:Hid (∀W,Below w.heap.size w W->∀j u,(aM (L.drop (k+1)))[j]?=some u->W.cell? ((⟨g,o2,none⟩:Addr).add j)=some u):=by
  intro W M j u o;have V:=ae t;by_cases X:cap=k+1
  . have hd:L.drop (k+1)=[]:=List.drop_of_length_le (by omega);rw[hd]at o;simp[aM]at o
  . have S:=ae U;rw[a0e X]at S;refine cJ.news (ae t) ((ae Q).later M (a0a _)) (k+1) (n-(k+1)) o2 S.symm (by omega) j u ?_;rw[a0F (by rw[a1l];omega)];exact o
 have H:Hid (∀u∈aM (L.take k),u.oneCell'=true):=tR (fun g N=>ae P g (a15 N));have I:Hid (∀u∈aM (L.drop (k+1)),u.oneCell'=true):=tR (fun g N=>ae P g (List.mem_of_mem_drop N));have F:Hid ((aM (L.take k)).length=k*3):=by show(aM (L.take k)).length=k*3;rw[kT,a0H,ae t];congr 1;omega
 have G:Hid ((aM (L.drop (k+1))).length=(n-(k+1))*3):=by show(aM (L.drop (k+1))).length=(n-(k+1))*3;rw[kT,a1l,ae t]
 have x:World.ownsRow (w.alloc (.cells #[] 250)).drew w.heap.size 250 3 (.slice (some ⟨w.heap.size,0,none⟩) 0 0) 0 []:=a04 w #[] 0 (a0a _) (by unfold maxLen;omega) rfl;have y:Hid (0+k<=maxLen/\(0+k)*40<=140737488355328):=by show _/\_;unfold maxLen;omega
 have z:Hid (0+k+(n-(k+1))<=maxLen/\(0+k+(n-(k+1)))*40<=140737488355328):=by show _/\_;unfold maxLen;omega
 have l:Below w.heap.size w (w.alloc (.cells #[] 250)).drew:=((a0c _ _).alloc (a0a _) _).drew;go_enter func202,ntmps202;go_wp2_with fail
 go_region_held3 (fun _=>True) (trivial) (first
  | (refine aQ rfl (.tmp 5) (.tmp 8) 248 rfl w.heap.size 250 i0 (.agg #[.int .i64 0,.int .i64 0,.slice none 0 0]) 3 40 a3B R B C D rfl (a1G 2) (.slice (some ⟨w.heap.size,0,none⟩) 0 0) _ _ rfl x ⟨g,0,none⟩ k cap (aM (L.take k)) rfl (ae F) (ae J _ l) (ae H) (ae y).1 (ae y).2 l.size ?_;intro v1 x1 b c r;clear r;have i:Below w.heap.size w x1:=l.grown c l.size (fun j o=>(a0C x j o).1))
  | (refine aQ rfl (.tmp 9) (.tmp 13) 248 rfl w.heap.size 250 i0 (.agg #[.int .i64 0,.int .i64 0,.slice none 0 0]) 3 40 a3B R B C D rfl (a1G 2) v1 _ _ rfl b ⟨g,o2,none⟩ (n-(k+1)) (cap-(k+1)) (aM (L.drop (k+1))) rfl (ae G) (ae K _ i) (ae I) (ae z).1 (ae z).2 i.size ?_;intro v2 x2 f d s;clear s;have E:Below w.heap.size w x2:=i.grown d i.size (fun j o=>(a0C b j o).1)))
 have q:cJ 250 x2 w.heap.size v2 (L.eraseIdx k):=by
  rw[po];have V:=ae t;refine Jf (n:=0+k) (m:=n-(k+1)) (by rw[a0H];omega) (by rw[a1l];omega) ?_;simpa using f
 obtain⟨va,vc,rfl⟩:=q.form;clear b f c d;go_wp2;go_ret;exact⟨⟨_,rfl,q⟩,E⟩
def bare(g:Grp):Grp:=⟨g.cnt,g.fst,g.syms,.slice none 0 0⟩
def az(l:List Int):Nat->List Grp
 | 0=>[]
 | k+1=>if 0<l.getD k 0 then az l k++[⟨l.getD k 0,(k:Int),[(k:Int)],.slice none 0 0⟩]else az l k
def dL(a b:Grp):Grp:=⟨a.cnt+b.cnt,if b.fst<a.fst then b.fst else a.fst,a.syms++b.syms,.slice none 0 0⟩
def aB(M:List Grp):Grp:=M.getD (least M) g0
def ar(M:List Grp):List Grp:=M.eraseIdx (least M)
def stepG(M:List Grp):List Grp:=ar (ar M)++[dL (aB M) (aB (ar M))]
def bf(M:List Grp):List Int:=(aB M).syms++(aB (ar M)).syms
def fu(o:List Int)(i:Int):List Int:=o.set i.toNat (o.getD i.toNat 0+1)
def bump(o s:List Int):List Int:=s.foldl fu o
def ay(l:List Int):Nat->List Grp×List Int
 | 0=>(az l l.length,List.replicate l.length 0)
 | k+1=>(stepG (ay l k).1,bump (ay l k).2 (bf (ay l k).1))
def bQ(l:List Int):List Int:=if (az l l.length).length=1 then(List.replicate l.length 0).set ((az l l.length).getD 0 g0).fst.toNat 1 else(ay l ((az l l.length).length-1)).2
theorem mh(o:List Int)(i:Int):(fu o i).length=o.length:=by simp[fu]
theorem nT(o s:List Int):(bump o s).length=o.length:=by
 induction s generalizing o with
 | nil=>rfl
 | cons i s ih=>show(bump (fu o i) s).length=_;rw[ih,mh]
theorem dT(l:List Int)(k:Nat):(ay l k).2.length=l.length:=by
 induction k with
 | zero=>simp[ay]
 | succ k ih=>simp only[ay];rw[nT,ih]
theorem hH(l:List Int):(bQ l).length=l.length:=by
 unfold bQ
 split
 . simp
 . exact dT l _
theorem uv(o s:List Int)(k:Nat)(h:k<s.length):bump o (s.take (k+1))=fu (bump o (s.take k)) (s.getD k 0):=by
 rw[ci s k h];simp[bump]
/-! What is bare is as it was. -/
theorem sV(x y:Grp):aU (bare x) (bare y)=aU x y:=rfl
theorem mu(L:List Grp)(k:Nat):(L.map bare).getD k g0=bare (L.getD k g0):=by
 simp only[List.getD];rw[List.getElem?_map];cases L[k]? <;> rfl
theorem yG(L:List Grp)(k:Nat):cj (L.map bare) k=cj L k:=by
 induction k with
 | zero=>rfl
 | succ k ih=>simp only[cj];rw[ih,mu,mu,sV]
theorem sO(L:List Grp):least (L.map bare)=least L:=by
 unfold least;rw[yG,a0N]
theorem jj(L:List Grp):aB (L.map bare)=bare (aB L):=by
 unfold aB;rw[sO,mu]
theorem nB(L:List Grp):ar (L.map bare)=(ar L).map bare:=by
 unfold ar;rw[sO,po,po,a0I,List.map_take,List.map_drop]
theorem Fs(M:List Grp):stepG (M.map bare)=(ar (ar M)).map bare++[dL (aB M) (aB (ar M))]:=by
 unfold stepG;rw[nB,nB,jj,jj];rfl
theorem Fy(M:List Grp):bf (M.map bare)=bf M:=by
 unfold bf;rw[nB,jj,jj];rfl
/-! Bounds. -/
def WFg(n:Nat)(g:Grp):Prop:=0<=g.cnt/\0<=g.fst/\g.fst<(n:Int)/\(∀s∈g.syms,0<=s/\s<(n:Int))/\0<g.syms.length
def WFL(n:Nat)(M:List Grp):Prop:=∀g∈M,WFg n g
def fT(M:List Grp):Int:=(M.map Grp.cnt).sum
def jM(M:List Grp):Nat:=(M.map (fun g=>g.syms.length)).sum
theorem fy(M:List Grp)(k:Nat)(h:k<M.length):M.getD k g0∈M:=by simp[List.getD,h]
theorem nN(M:List Grp)(k:Nat)(h:k<M.length):fT M=(M.getD k g0).cnt+fT (M.eraseIdx k):=by
 induction M generalizing k with
 | nil=>simp at h
 | cons g M ih=>
  cases k with
  | zero=>simp[fT,List.eraseIdx]
  | succ k=>
   have:=ih k (by simpa using h);simp only[fT,List.eraseIdx_cons_succ,a0B,a0P,a2p]at this ⊢;omega
theorem kV(M:List Grp)(k:Nat)(h:k<M.length):jM M=(M.getD k g0).syms.length+jM (M.eraseIdx k):=by
 induction M generalizing k with
 | nil=>simp at h
 | cons g M ih=>
  cases k with
  | zero=>simp[jM,List.eraseIdx]
  | succ k=>
   have:=ih k (by simpa using h);simp only[jM,List.eraseIdx_cons_succ,a0B,a0P,a2p]at this ⊢;omega
theorem dj(M:List Grp)(h:0<M.length):(ar M).length=M.length-1:=by
 unfold ar;rw[List.length_eraseIdx,a0d (dV M h)]
theorem qQ(A B:List Grp):fT (A++B)=fT A+fT B:=by simp[fT]
theorem qR(A B:List Grp):jM (A++B)=jM A+jM B:=by simp[jM]
theorem I4(M:List Grp)(h:1<M.length):fT (stepG M)=fT M/\jM (stepG M)=jM M/\(stepG M).length=M.length-1:=by
 have a:=nN M (least M) (dV M (by omega));have h2:=kV M (least M) (dV M (by omega));have e:=dj M (by omega);have b:=nN (ar M) (least (ar M)) (dV _ (by omega));have c:=kV (ar M) (least (ar M)) (dV _ (by omega));have d:=dj (ar M) (by omega);have e1:M.getD (least M) g0=aB M:=rfl;have e2:(ar M).getD (least (ar M)) g0=aB (ar M):=rfl;have e3:M.eraseIdx (least M)=ar M:=rfl;have e4:(ar M).eraseIdx (least (ar M))=ar (ar M):=rfl;rw[e1,e3]at a h2;rw[e2,e4]at b c;refine⟨?_,?_,?_⟩
 .
  unfold stepG;rw[qQ];have:fT [dL (aB M) (aB (ar M))]=(aB M).cnt+(aB (ar M)).cnt:=by simp[fT,dL]
  omega
 .
  unfold stepG;rw[qR];have:jM [dL (aB M) (aB (ar M))]=(aB M).syms.length+(aB (ar M)).syms.length:=by simp[jM,dL]
  omega
 . unfold stepG;simp;omega
theorem be(M:List Grp):∀g∈ar M,g∈M:=fun _ a=>List.mem_of_mem_eraseIdx a
theorem bu(M:List Grp)(h:0<M.length):aB M∈M:=fy M _ (dV M h)
theorem KP{M:List Grp}(c:WFL n M)(h:1<M.length):WFL n (stepG M):=by
 have l:=dj M (by omega);have e:=c _ (bu M (by omega));have hb:=c _ (be M _ (bu (ar M) (by omega)));intro g b;simp only[stepG,a0X,a02]at b;rcases b with b|rfl
 . exact c g (be M _ (be _ _ b))
 .
  obtain⟨a0,a1,a2,a3,a4⟩:=e;obtain⟨f,i,j,d,k⟩:=hb;refine⟨?_,?_,?_,?_,?_⟩
  . simp only[dL];omega
  . simp only[dL];split<;>assumption
  . simp only[dL];split<;>assumption
  .
   intro s a;simp only[dL,a0X]at a;rcases a with a|a
   . exact a3 s a
   . exact d s a
  . simp only[dL,a0m];omega
theorem Dx(l:List Int)(k:Nat)(c:k<=l.length):WFL l.length (az l k):=by
 induction k with
 | zero=>intro g a;simp[az]at a
 | succ k ih=>
  simp only[az]
  split
  case isTrue h=>
   intro g a;simp only[a0X,a02]at a;rcases a with a|rfl
   . exact ih (by omega) g a
   . refine⟨by simp only;omega,by simp only;omega,by simp only;omega,?_,by simp⟩;intro s b;simp only[a02]at b;subst b;omega
  case isFalse=>exact ih (by omega)
theorem j9(l:List Int)(C:Int)(d:0<=C)(b:∀i,i<l.length->l.getD i 0<=C)(k:Nat)(f:k<=l.length):fT (az l k)<=C*k/\jM (az l k)<=k/\(az l k).length<=k:=by
 induction k with
 | zero=>simp[az,fT,jM]
 | succ k ih=>
  obtain⟨a,h2,c⟩:=ih (by omega);have hb:=b k (by omega);have e:C*((k+1:Nat):Int)=C*(k:Int)+C:=by rw[show((k+1:Nat):Int)=(k:Int)+1 by omega,Int.mul_add,Int.mul_one]
  simp only[az]
  split
  .
   rw[qQ,qR];refine⟨?_,?_,?_⟩
   . simp only[fT,a0B,a1D,a0P,a3C]at a ⊢;omega
   . simp only[jM,a0B,a1D,a0P,a3C,a1g]at h2 ⊢;omega
   . simp;omega
  . refine⟨by omega,by omega,by omega⟩
theorem bZ(l:List Int)(k:Nat)(e:k<(az l l.length).length∨k=0):WFL l.length (ay l k).1/\fT (ay l k).1=fT (az l l.length)/\jM (ay l k).1=jM (az l l.length)/\(ay l k).1.length=(az l l.length).length-k:=by
 induction k with
 | zero=>exact⟨Dx l _ (a0a _),rfl,rfl,rfl⟩
 | succ k ih=>
  obtain⟨b,h2,c,d⟩:=ih (by omega);have a:1<(ay l k).1.length:=by omega
  obtain⟨t1,t2,t3⟩:=I4 _ a;refine⟨KP b a,by simp only[ay];omega,by simp only[ay];omega,by simp only[ay];omega⟩
theorem Lp{M:List Grp}(c:WFL n M){g:Grp}(a:g∈M):g.cnt<=fT M:=by
 induction M with
 | nil=>cases a
 | cons x M ih=>
  have h:=(c x (by simp)).1;have e:0<=fT M:=by
   clear ih a;have b:WFL n M:=fun y d=>c y (by simp[d]);clear c;induction M with
   | nil=>simp[fT]
   | cons y M ih2=>
    have:=ih2 (fun z f=>b z (by simp[f]));have d:=(b y (by simp)).1;simp only[fT,a0B,a0P]at this ⊢;omega
  simp only[a08]at a;simp only[fT,a0B,a0P]at e ih ⊢;rcases a with rfl|a
  . omega
  . have:=ih (fun y d=>c y (by simp[d])) a;omega
theorem wR{M:List Grp}(d:WFL n M)(h:1<M.length):(aB M).cnt+(aB (ar M)).cnt<=fT M/\(bf M).length<=jM M:=by
 have f:=dj M (by omega);have a:=nN M (least M) (dV M (by omega));have h2:=kV M (least M) (dV M (by omega));have b:=kV (ar M) (least (ar M)) (dV _ (by omega));have e1:M.getD (least M) g0=aB M:=rfl;have e2:(ar M).getD (least (ar M)) g0=aB (ar M):=rfl;have e3:M.eraseIdx (least M)=ar M:=rfl;rw[e1,e3]at a h2;rw[e2]at b;have e:=Lp (n:=n) (M:=ar M) (fun g c=>d g (be M _ c)) (bu (ar M) (by omega));refine⟨by omega,?_⟩;unfold bf;rw[a0m];omega
/-! Lengths stay small. -/
def wz(o:List Int)(B:Int):Prop:=∀i,i<o.length->0<=o.getD i 0/\o.getD i 0<=B
theorem DY(h:wz o B)(i:Int):wz (fu o i) (B+1):=by
 intro j a;rw[mh]at a;have b:=h j a;by_cases e:i.toNat=j
 . subst e;simp only[fu,List.getD];rw[List.getElem?_set_self a];simp only[a2B];have:=h i.toNat a;simp only[List.getD]at this;omega
 .
  have:(fu o i).getD j 0=o.getD j 0:=by
   simp only[fu,List.getD];rw[List.getElem?_set_ne e]
  rw[this];omega
theorem rM(h:wz o B)(s:List Int):wz (bump o s) (B+s.length):=by
 induction s generalizing o B with
 | nil=>intro i a;have:=h i a;simp only[bump,List.foldl_nil,a00];omega
 | cons i s ih=>
  have:=ih (DY h i);intro j b;have h2:=this j b;simp only[a0E];show 0<=(bump (fu o i) s).getD j 0/\_;refine⟨h2.1,?_⟩;have:=h2.2;show(bump (fu o i) s).getD j 0<=_;omega
theorem se(l:List Int)(d:∀i,i<l.length->l.getD i 0<=100000)(h:l.length<=300)(k:Nat)(g:k<(az l l.length).length∨k=0):wz (ay l k).2 (300*(k:Int)):=by
 induction k with
 | zero=>
  intro i a;have:(ay l 0).2.getD i 0=0:=by
   simp only[ay,List.getD];simp only[ay,a0w]at a;simp[a]
  rw[this];omega
 | succ k ih=>
  have a:=ih (by omega);obtain⟨c,h2,e,f⟩:=bZ l k (by omega);have m:=(wR c (by omega)).2;have j:=(j9 l 100000 (by omega) d l.length (a0a _)).2.1;have hb:=rM a (bf (ay l k).1);intro i b;have:=hb i b;simp only[ay]at this ⊢;omega
/-! What is counted once more. -/
theorem uu(o:List Int)(i:Int)(j:Nat)(b:0<=i)(a:j<o.length):(fu o i).getD j 0=o.getD j 0+(if i=(j:Int)then 1 else 0):=by
 by_cases e:i=(j:Int)
 .
  rw[a0d e];have e2:i.toNat=j:=by omega
  simp only[fu,List.getD];rw[e2,List.getElem?_set_self a,a2B]
 .
  rw[a0e e];have e2:i.toNat≠j:=by omega
  simp only[fu,List.getD];rw[List.getElem?_set_ne e2];omega
theorem ly(o s:List Int)(j:Nat)(a:s.Nodup)(b:∀x∈s,0<=x)(c:j<o.length):(bump o s).getD j 0=o.getD j 0+(if (j:Int)∈s then 1 else 0):=by
 induction s generalizing o with
 | nil=>simp[bump]
 | cons x s ih=>
  show(bump (fu o x) s).getD j 0=_;rw[List.nodup_cons]at a;rw[ih (fu o x) a.2 (fun y d=>b y (by simp[d])) (by rw[mh];exact c),uu o x j (b x (by simp)) c];by_cases e:x=(j:Int)
  . subst e;rw[a0d rfl,a0e a.1,a0d (by simp)];omega
  .
   rw[a0e e];by_cases h2:(j:Int)∈s
   . rw[a0d h2,a0d (by simp[h2])];omega
   . rw[a0e h2,a0e (by simp only[a08,not_or];exact⟨fun e2=>e e2.symm,h2⟩)];omega
/-! All symbols, each once. -/
def bm(M:List Grp):List Int:=M.flatMap Grp.syms
theorem BU(M:List Grp)(k:Nat)(h:k<M.length):(M.getD k g0 :: M.eraseIdx k).Perm M:=by
 induction M generalizing k with
 | nil=>simp at h
 | cons x M ih=>
  cases k with
  | zero=>exact a2i _
  | succ k=>
   rw[a2p,List.eraseIdx_cons_succ];exact(a3D _ _ _).trans (List.Perm.cons x (ih k (by simpa using h)))
theorem kO(M:List Grp)(h:0<M.length):(aB M :: ar M).Perm M:=BU M _ (dV M h)
theorem tt(M:List Grp)(h:1<M.length):(aB M :: aB (ar M) :: ar (ar M)).Perm M:=by
 have a:=dj M (by omega);exact(List.Perm.cons _ (kO (ar M) (by omega))).trans (kO M (by omega))
theorem pq{A B:List Grp}(h:A.Perm B):(bm A).Perm (bm B):=by
 induction h with
 | nil=>exact a2i _
 | cons x _ ih=>
  simp only[bm,a06]at ih ⊢;exact List.Perm.append_left _ ih
 | swap x y l=>
  simp only[bm,a06];rw[←a0M,←a0M];exact List.Perm.append_right _ List.perm_append_comm
 | trans _ _ h1 h2=>exact h1.trans h2
theorem uE(M:List Grp)(h:1<M.length):(bm (stepG M)).Perm (bm M):=by
 refine List.Perm.trans ?_ (pq (tt M h));unfold stepG bm;rw[a2E];refine List.perm_append_comm.trans ?_;simp[dL]
theorem Eh(l:List Int)(k:Nat):(bm (az l k)).Nodup/\∀x∈bm (az l k),0<=x/\x<(k:Int):=by
 induction k with
 | zero=>simp[az,bm]
 | succ k ih=>
  simp only[az]
  split
  .
   have e:bm (az l k++[⟨l.getD k 0,(k:Int),[(k:Int)],.slice none 0 0⟩])=bm (az l k)++[(k:Int)]:=by simp[bm]
   rw[e];refine⟨?_,?_⟩
   . rw[a3E];refine⟨ih.1,by simp,?_⟩;intro x a y b;simp only[a02]at b;subst b;have:=(ih.2 x a).2;omega
   .
    intro x a;simp only[a0X,a02]at a;rcases a with a|rfl
    . have:=ih.2 x a;omega
    . omega
  . exact⟨ih.1,fun x a=>by have:=ih.2 x a;omega⟩
theorem gx(l:List Int)(k:Nat)(d:k<(az l l.length).length∨k=0):(bm (ay l k).1).Nodup/\∀x∈bm (ay l k).1,0<=x/\x<(l.length:Int):=by
 induction k with
 | zero=>exact Eh l _
 | succ k ih=>
  have a:=ih (by omega);have e:=(bZ l k (by omega)).2.2.2;have b:=uE (ay l k).1 (by omega);exact⟨(b.nodup_iff).2 a.1,fun x c=>a.2 x (b.mem_iff.1 c)⟩
theorem ja(M:List Grp)(h:1<M.length):((bf M)++bm (ar (ar M))).Perm (bm M):=by
 refine List.Perm.trans ?_ (pq (tt M h));simp[bf,bm]
theorem i7{M:List Grp}(h:1<M.length)(c:(bm M).Nodup):(bf M).Nodup/\∀g∈ar (ar M),∀s∈g.syms,s ∉ bf M:=by
 have h2:=((ja M h).nodup_iff).2 c;rw[a3E]at h2;refine⟨h2.1,fun g a s d b=>?_⟩;exact h2.2.2 s b s (by simp only[bm,List.mem_flatMap];exact⟨g,a,d⟩) rfl
theorem kE(l:List Int)(k:Nat)(g:k<(az l l.length).length∨k=0):wz (ay l k).2 (k:Int):=by
 induction k with
 | zero=>
  intro i c;have:(ay l 0).2.getD i 0=0:=by
   simp only[ay,List.getD];simp only[ay,a0w]at c;simp[c]
  rw[this];omega
 | succ k ih=>
  have c:=ih (by omega);have h:=(bZ l k (by omega)).2.2.2;have d:=gx l k (by omega);have e:=i7 (M:=(ay l k).1) (by omega) d.1;intro i a;simp only[ay]at a ⊢;rw[nT]at a;have b:∀x∈bf (ay l k).1,0<=x:=fun x f=>(d.2 x ((ja _ (by omega)).mem_iff.1 (by simp[f]))).1;rw[ly _ _ i e.1 b a];have:=c i a
  split<;>omega
/-! Where all come as often. -/
def Ha(K:Nat)(o:List Int)(g:Grp):Prop:=g.cnt=(p2 K:Nat)/\∀s∈g.syms,o.getD s.toNat 0<=(K:Int)
def LE(K:Nat)(o:List Int)(g:Grp):Prop:=g.cnt=(p2 (K+1):Nat)/\∀s∈g.syms,o.getD s.toNat 0<=(K:Int)+1
def yV(K:Nat)(o:List Int)(g:Grp):Prop:=(p2 K:Nat)<g.cnt/\g.cnt<(p2 (K+1):Nat)/\∀s∈g.syms,o.getD s.toNat 0<=(K:Int)+1
def Lvl(K:Nat)(o:List Int)(M:List Grp):Prop:=(∀g∈M,Ha K o g∨LE K o g∨yV K o g)/\M.Pairwise (fun x y=>¬ (yV K o x/\yV K o y))
theorem Bt (L : List Grp) (k j : Nat) (hj : j ≤ k) : (L.getD (cj L k) g0).cnt ≤ (L.getD j g0).cnt := by
  induction k with
  | zero => have : j = 0 := by omega
            subst this; exact a2y _
  | succ k ih =>
    simp only [cj]
    by_cases e : j = k + 1
    . subst e
      split
      . exact a2y _
      . rename_i h
        simp only [aU, a1h, a0u, not_or] at h
        have := h.1
        omega
    . have := ih (by omega)
      split
      . rename_i h
        simp only [aU, a1h, a0l, a0u] at h
        omega
      . exact this
theorem uB(M:List Grp)(g:Grp)(a:g∈M):(aB M).cnt<=g.cnt:=by
 obtain⟨i,b,rfl⟩:=a18 a;have:=Bt M (M.length-1) i (by omega);have e:M.getD i g0=M[i]:=by simp[List.getD,b]
 rw[e]at this;exact this
theorem Hg{K:Nat}{M:List Grp}(h:1<M.length)(l:Lvl K o M)(Y:(bm M).Nodup)(T:∀x∈bm M,0<=x/\x<(o.length:Int)):Lvl K (bump o (bf M)) (stepG M)∨Lvl (K+1) (bump o (bf M)) (stepG M):=by
 have hr:=dj M (by omega);obtain⟨L,N⟩:=i7 h Y;have r:=ja M h;have F:∀x∈bf M,0<=x:=fun x f=>(T x (r.mem_iff.1 (by simp[f]))).1;have R:=bu M (by omega);have hb:=be M _ (bu (ar M) (by omega));have u:∀g∈ar (ar M),g∈M:=fun g a=>be M _ (be _ _ a);have X:(aB M).cnt<=(aB (ar M)).cnt:=uB M _ hb;have m:∀g∈ar (ar M),(aB (ar M)).cnt<=g.cnt:=fun g a=>uB (ar M) g (be _ _ a);have J:p2 (K+1)=p2 K*2:=jq K;have aa:p2 (K+1+1)=p2 (K+1)*2:=jq (K+1);have Z:=lP K;have p:∀x,x∈bm M->(bump o (bf M)).getD x.toNat 0=o.getD x.toNat 0+(if x∈bf M then 1 else 0):=by
  intro x f;have hb:=T x f;rw[ly o (bf M) x.toNat L F (by omega)];have e:((x.toNat:Nat):Int)=x:=by omega
  rw[e]
 have D:∀g∈M,∀x∈g.syms,x∈bm M:=fun g a x i=>by simp only[bm,List.mem_flatMap];exact⟨g,a,i⟩
 have hold:∀g∈ar (ar M),∀x∈g.syms,(bump o (bf M)).getD x.toNat 0=o.getD x.toNat 0:=by
  intro g a x i;rw[p x (D g (u g a) x i),a0e (N g a x i)];omega
 have q:∀x,x∈bf M->(bump o (bf M)).getD x.toNat 0=o.getD x.toNat 0+1:=by
  intro x f;rw[p x (r.mem_iff.1 (by simp[f])),a0d f]
 have G:(aB M :: aB (ar M) :: ar (ar M)).Pairwise (fun x y=>¬ (yV K o x/\yV K o y)):=
  ((tt M h).pairwise_iff (fun{x y} j H=>j ⟨H.2,H.1⟩)).2 l.2
 rw[List.pairwise_cons,List.pairwise_cons]at G;obtain⟨P,Q,I⟩:=G;have t:(dL (aB M) (aB (ar M))).cnt=(aB M).cnt+(aB (ar M)).cnt:=rfl;have C:∀x,x∈(dL (aB M) (aB (ar M))).syms<->x∈bf M:=fun x=>Iff.rfl;by_cases v:Ha K o (aB M)/\Ha K o (aB (ar M))
 .
  left;obtain⟨⟨a1,a2⟩,c,W⟩:=v;have S:LE K (bump o (bf M)) (dL (aB M) (aB (ar M))):=by
   refine⟨by rw[t,a1,c,J];omega,fun x f=>?_⟩;have d:=(C x).1 f;rw[q x d];simp only[bf,a0X]at d;rcases d with d|d
   . have:=a2 x d;omega
   . have:=W x d;omega
  have n:∀g∈ar (ar M),yV K (bump o (bf M)) g->yV K o g:=fun g a n=>⟨n.1,n.2.1,fun x f=>by have:=n.2.2 x f;rw[hold g a x f]at this;exact this⟩;refine⟨fun g a=>?_,?_⟩
  .
   simp only[stepG,a0X,a02]at a;rcases a with a|rfl
   .
    rcases l.1 g (u g a)with b|b|b
    . exact .inl ⟨b.1,fun x f=>by rw[hold g a x f];exact b.2 x f⟩
    . exact .inr (.inl ⟨b.1,fun x f=>by rw[hold g a x f];exact b.2 x f⟩)
    . exact .inr (.inr ⟨b.1,b.2.1,fun x f=>by rw[hold g a x f];exact b.2.2 x f⟩)
   . exact .inr (.inl S)
  .
   unfold stepG;rw[List.pairwise_append];refine⟨?_,by simp,?_⟩
   . refine List.Pairwise.imp_of_mem ?_ I;intro x y i O j k;exact j ⟨n x i k.1,n y O k.2⟩
   . intro x _ y U j;simp only[a02]at U;subst U;have b:=S.1;have h2:=j.2.2.1;omega
 .
  right;have A:((p2 K:Nat):Int)<=(aB M).cnt/\(aB M).cnt<=((p2 (K+1):Nat):Int)/\((p2 K:Nat):Int)<(aB (ar M)).cnt/\(aB (ar M)).cnt<=((p2 (K+1):Nat):Int)/\∀g∈ar (ar M),LE K o g:=by
   rcases l.1 _ R with a1|a1|a1
   .
    rcases l.1 _ hb with c|c|c
    . exact absurd ⟨a1,c⟩ v
    .
     refine⟨by rw[a1.1];omega,by rw[a1.1];omega,by rw[c.1];omega,by rw[c.1];omega,fun g a=>?_⟩;have s:=m g a;rcases l.1 g (u g a)with b|b|b
     . have:=b.1;have:=c.1;omega
     . exact b
     . have:=b.2.1;have:=c.1;omega
    .
     refine⟨by rw[a1.1];omega,by rw[a1.1];omega,c.1,by have:=c.2.1;omega,fun g a=>?_⟩;have s:=m g a;rcases l.1 g (u g a)with b|b|b
     . have:=b.1;have:=c.1;omega
     . exact b
     . exact absurd ⟨c,b⟩ (Q g a)
   .
    rcases l.1 _ hb with c|c|c
    . have:=a1.1;have:=c.1;omega
    .
     refine⟨by rw[a1.1];omega,by rw[a1.1];omega,by rw[c.1];omega,by rw[c.1];omega,fun g a=>?_⟩;have s:=m g a;rcases l.1 g (u g a)with b|b|b
     . have:=b.1;have:=c.1;omega
     . exact b
     . have:=b.2.1;have:=c.1;omega
    . have:=a1.1;have:=c.2.1;omega
   .
    rcases l.1 _ hb with c|c|c
    . have:=a1.1;have:=c.1;omega
    .
     refine⟨by have:=a1.1;omega,by have:=a1.2.1;omega,by rw[c.1];omega,by rw[c.1];omega,fun g a=>?_⟩;have s:=m g a;rcases l.1 g (u g a)with b|b|b
     . have:=b.1;have:=c.1;omega
     . exact b
     . have:=b.2.1;have:=c.1;omega
    . exact absurd ⟨a1,c⟩ (P _ (by simp))
  obtain⟨q1,q2,q3,q4,V⟩:=A;have w:∀g∈M,∀x∈g.syms,o.getD x.toNat 0<=(K:Int)+1:=by
   intro g a x f;rcases l.1 g a with b|b|b
   . have:=b.2 x f;omega
   . exact b.2 x f
   . exact b.2.2 x f
  have B:∀x∈(dL (aB M) (aB (ar M))).syms,(bump o (bf M)).getD x.toNat 0<=((K+1:Nat):Int)+1:=by
   intro x f;have d:=(C x).1 f;rw[q x d];simp only[bf,a0X]at d;rcases d with d|d
   . have:=w _ R x d;omega
   . have:=w _ hb x d;omega
  have z:∀g∈ar (ar M),Ha (K+1) (bump o (bf M)) g:=fun g a=>⟨(V g a).1,fun x f=>by rw[hold g a x f];have:=(V g a).2 x f;omega⟩;refine⟨fun g a=>?_,?_⟩
  .
   simp only[stepG,a0X,a02]at a;rcases a with a|rfl
   . exact .inl (z g a)
   .
    by_cases e:(dL (aB M) (aB (ar M))).cnt=((p2 (K+1+1):Nat):Int)
    . exact .inr (.inl ⟨e,B⟩)
    .
     refine .inr (.inr ⟨?_,?_,B⟩)
     . rw[t];omega
     . rw[t]at e ⊢;omega
  .
   unfold stepG;have E:∀g∈ar (ar M),¬ yV (K+1) (bump o (bf M)) g:=fun g a n=>by
    have b:=(z g a).1;have h2:=n.1;omega
   rw[List.pairwise_append];refine⟨?_,by simp,?_⟩
   . refine List.Pairwise.imp_of_mem ?_ I;intro x y i _ _ k;exact E x i k.1
   . intro x i y _ j;exact E x i j.1
def Ks(l:List Int):Prop:=∀i,i<l.length->l.getD i 0<=1
theorem tb(l:List Int)(c:Ks l)(k:Nat)(d:k<=l.length):∀g∈az l k,Ha 0 (List.replicate l.length 0) g:=by
 induction k with
 | zero=>intro g a;simp[az]at a
 | succ k ih=>
  simp only[az]
  split
  case isTrue h=>
   intro g a;simp only[a0X,a02]at a;rcases a with a|rfl
   . exact ih (by omega) g a
   .
    refine⟨?_,?_⟩
    . have:=c k (by omega);have e:p2 0=1:=rfl;simp only;rw[e];omega
    .
     intro s b;simp only[a02]at b;subst b;rw[a0p];have:(List.replicate l.length (0:Int)).getD k 0=0:=by simp[List.getD,show k<l.length by omega]
     rw[this];exact a2y _
  case isFalse=>exact ih (by omega)
theorem He(l:List Int)(c:Ks l)(k:Nat)(j:k<(az l l.length).length∨k=0):∃K,Lvl K (ay l k).2 (ay l k).1:=by
 induction k with
 | zero=>
  refine⟨0,fun g f=>.inl (tb l c _ (a0a _) g f),?_⟩;refine List.Pairwise.imp_of_mem ?_ (List.pairwise_of_forall (R:=fun _ _=>True) (fun _ _=>trivial));intro x y a _ _ b;have:=(tb l c _ (a0a _) x a).1;have:=b.1.1;omega
 | succ k ih=>
  obtain⟨K,e⟩:=ih (by omega);have m:=(bZ l k (by omega)).2.2.2;have d:=gx l k (by omega);rcases Hg (by omega) e d.1 (fun x i=>by rw[dT];exact d.2 x i)with h|h
  . exact⟨K,h⟩
  . exact⟨K+1,h⟩
theorem mt(l:List Int)(k:Nat)(a:k<(az l l.length).length∨k=0):(bm (ay l k).1).Perm (bm (az l l.length)):=by
 induction k with
 | zero=>exact a2i _
 | succ k ih=>
  have b:=(bZ l k (by omega)).2.2.2;exact(uE (ay l k).1 (by omega)).trans (ih (by omega))
theorem uI(l:List Int)(i:Nat)(c:i<l.length)(f:(i:Int) ∉ bm (az l l.length))(k:Nat)(j:k<(az l l.length).length∨k=0):(ay l k).2.getD i 0=0:=by
 induction k with
 | zero=>simp[ay,List.getD,c]
 | succ k ih=>
  have d:=ih (by omega);have m:=(bZ l k (by omega)).2.2.2;have b:=gx l k (by omega);have g:=i7 (M:=(ay l k).1) (by omega) b.1;have a:=ja (ay l k).1 (by omega);simp only[ay];rw[ly _ _ i g.1 (fun x h=>(b.2 x (a.mem_iff.1 (by simp[h]))).1) (by rw[dT];exact c),d,a0e]
  . rfl
  . intro e;exact f ((mt l k (by omega)).mem_iff.1 (a.mem_iff.1 (by simp[e])))
theorem FE(M:List Grp)(h:∀g∈M,g.cnt=1):fT M=(M.length:Int):=by
 induction M with
 | nil=>rfl
 | cons g M ih=>
  have:=ih (fun x a=>h x (by simp[a]));have b:=h g (by simp);simp only[fT,a0B,a0P,a0E]at this ⊢;omega
theorem Dr{a b:Nat}(h:p2 a<=p2 b):a<=b:=by
 rcases a1F b a with h2|h2
 . have c:p2 (b+1)<=p2 a:=a0Q (by omega) (by omega);have d:=jq b;have e:=lP b;omega
 . exact h2
theorem Mg{a b:Nat}(h:p2 a<p2 b):a<b:=by
 rcases a1F a b with h2|h2
 . exact h2
 . have c:p2 b<=p2 a:=a0Q (by omega) h2;omega
theorem Ic(l:List Int)(v:Ks l)(m:Nat)(B:(az l l.length).length<=p2 m):wz (bQ l) ((m:Int)+1):=by
 have o:∀i,i<l.length->(List.replicate l.length (0:Int)).getD i 0=0:=fun i f=>by simp[List.getD,f]
 intro i f;rw[hH]at f;unfold bQ;by_cases d:(az l l.length).length=1
 .
  rw[a0d d];generalize ((az l l.length).getD 0 g0).fst.toNat=q;by_cases e:q=i
  . simp only[List.getD];rw[←e,List.getElem?_set_self (by rw[a0w,e];exact f),a2B];omega
  . simp only[List.getD];rw[List.getElem?_set_ne e];have:=o i f;simp only[List.getD]at this;omega
 .
  rw[a0e d];generalize D:(az l l.length).length-1=k;have b:k<(az l l.length).length∨k=0:=by omega
  have j:=kE l k b i (by rw[dT];exact f);by_cases a:(i:Int)∈bm (az l l.length)
  .
   obtain⟨K,w⟩:=He l v k b;have c:=bZ l k b;have z:0<(az l l.length).length:=by
    rcases a2j (az l l.length).length with h|h
    . have:az l l.length=[]:=a2x h;rw[this]at a;simp[bm]at a
    . exact h
   have s:(ay l k).1.length=1:=by rw[c.2.2.2];omega
   obtain⟨g,y⟩:=List.length_eq_one_iff.1 s;have t:=(mt l k b).mem_iff.2 a;rw[y]at t w;have n:(i:Int)∈g.syms:=by simpa[bm]using t
   have C:g.cnt=((az l l.length).length:Int):=by
    have h2:=c.2.1;rw[y,FE (az l l.length) (fun x A=>by have:=(tb l v _ (a0a _) x A).1;simpa[p2]using this)]at h2;simpa[fT]using h2
   have u:g∈[g]:=by simp
   rcases w.1 g u with h|h|h
   .
    have p:=h.2 _ n;rw[a0p]at p;have r:p2 K<=p2 m:=by have:=h.1;omega
    have:=Dr r;exact⟨j.1,by omega⟩
   .
    have p:=h.2 _ n;rw[a0p]at p;have r:p2 (K+1)<=p2 m:=by have:=h.1;omega
    have:=Dr r;exact⟨j.1,by omega⟩
   .
    have p:=h.2.2 _ n;rw[a0p]at p;have r:p2 K<p2 m:=by have:=h.1;omega
    have:=Mg r;exact⟨j.1,by omega⟩
  . rw[uI l i f a k b];omega
/-! Counts are halved. -/
def g9(x:Int):Int:=(x+1)/2
def bo(l:List Int):List Int:=l.map g9
theorem dY(l:List Int):(bo l).length=l.length:=by simp[bo]
theorem pu(l:List Int)(i:Nat)(a:i<l.length):(bo l).getD i 0=g9 (l.getD i 0):=by simp[bo,List.getD,a]
theorem pS(l:List Int)(b:∀i,i<l.length->0<=l.getD i 0)(k:Nat)(c:k<=l.length):(az (bo l) k).length=(az l k).length:=by
 induction k with
 | zero=>rfl
 | succ k ih=>
  have a:=pu l k (by omega);have d:=b k (by omega);simp only[az];by_cases h:0<l.getD k 0
  . rw[a0d h,a0d (by rw[a];unfold g9;omega)];simp only[a0m,a1g];rw[ih (by omega)]
  . rw[a0e h,a0e (by rw[a];unfold g9;omega),ih (by omega)]
def jg(l:List Int):Nat:=(l.map Int.toNat).sum
theorem tO(l:List Int)(c:∀x∈l,0<=x):jg (bo l)<=jg l/\((∃x∈l,1<x)->jg (bo l)<jg l):=by
 induction l with
 | nil=>simp[jg,bo]
 | cons x l ih=>
  have d:=ih (fun y a=>c y (by simp[a]));have f:=c x (by simp);simp only[jg,bo,a0B,a0P]at d ⊢;have e:(g9 x).toNat<=x.toNat:=by unfold g9;omega
  refine⟨by omega,?_⟩;rintro⟨y,a,b⟩;simp only[a08]at a;rcases a with rfl|a
  .
   have:(g9 y).toNat<y.toNat:=by unfold g9;omega
   omega
  . have:=d.2 ⟨y,a,b⟩;omega
def bP(o:List Int):Nat->Int
 | 0=>0
 | k+1=>if bP o k<o.getD k 0 then o.getD k 0 else bP o k
def fits(o:List Int)(m:Int):Bool:=decide (bP o o.length<=m)
theorem H5(a:0<=B)(h:wz o B)(k:Nat)(c:k<=o.length):bP o k<=B:=by
 induction k with
 | zero=>exact a
 | succ k ih=>
  have b:=ih (by omega);have h2:=(h k (by omega)).2;simp only[bP]
  split<;>assumption
theorem CX{m:Int}(a:0<=m)(h:wz o m):fits o m=true:=by
 unfold fits;exact a0v (H5 a h _ (a0a _))
def oa(m:Int):Nat->List Int->List Int
 | 0,l=>bQ l
 | f+1,l=>if fits (bQ l) m then bQ l else oa m f (bo l)
theorem tj{l:List Int}{m:Nat}(d:(az l l.length).length<=p2 m)(b:fits (bQ l) ((m:Int)+1)=false):∃x∈l,1<x:=by
 apply Classical.byContradiction;intro a;have c:Ks l:=by
  intro i e;have f:l.getD i 0∈l:=by simp[List.getD,e]
  rcases a1u 1 (l.getD i 0)with h|h
  . exact absurd ⟨_,f,h⟩ a
  . exact h
 have:=CX (by omega) (Ic l c m d);rw[this]at b;cases b
end Go.Proofs.YtggknepmhjfohaaGreatDoor
