/- Of what the proof is made: 5 texts, one behind the other. -/
import Derived.Test.YtgmfehnnebkaoaaGreatDoorM13
import Derived.Deep.RegionHeld3
import Derived.BigQuiet
import Derived.Test.YtgmfehnnebkaoaaGreatDoorM9
import Derived.Test.YtgmfehnnebkaoaaGreatDoorM6
set_option maxRecDepth 100000
set_option linter.unusedSimpArgs false
set_option linter.unusedVariables false
set_option maxHeartbeats 1600000
namespace Go.Proofs.YtgmfehnnebkaoaaGreatDoor
open Go.Proofs.Tryz
open Go.RowKit
variable {B:Int}{n:Nat}{o:List Int}
def aT(x y:Grp):Bool:=decide (x.cnt<y.cnt) || (decide (x.cnt=y.cnt)&&decide (x.fst<y.fst))
def cf(L:List Grp):Nat->Nat
 | 0=>0
 | k+1=>if aT (L.getD (k+1) g0) (L.getD (cf L k) g0)then k+1 else cf L k
def least(L:List Grp):Nat:=cf L (L.length-1)
theorem wo(L:List Grp)(k:Nat):cf L k<=k:=by
 induction k with
 | zero=>exact a0a _
 | succ k ih=>simp only[cf];split<;>omega
theorem d9(L:List Grp)(h:0<L.length):least L<L.length:=by
 have:=wo L (L.length-1);unfold least;omega
theorem qe(L:List Grp)(k:Nat):L.eraseIdx k=L.take k++L.drop (k+1):=List.eraseIdx_eq_take_drop_succ L k
theorem rl(a:Option Addr)(cap n base:Nat)(L:List Grp)(w:World)(u:L.length=n)(h:cF 317 w base (.slice a n cap) L)(B:1<=n)(x:n<=300) :
  CD 250 #[.slice a n cap] w (.int .i64 (least L:Nat)):=by
 obtain⟨g,rfl⟩:=h.somes (by omega);have o:=af u;have y:(n:Int)<=300:=by omega
 have v:=af h;clear h u x;go_enter func250,ntmps250;go_wp2_with fail
 go_loopw [3,4] (fun b i wr=>∃k:Nat,k<n/\i = .int .i64 ((k:Int)+1)/\b = .int .i64 (cf L k:Nat)/\Below w.heap.size w wr) (fun _ i _=>n+1-(intOf i).toNat)
 case atStart=>exact⟨0,by omega,rfl,rfl,a0c _ _⟩
 case round=>
  obtain⟨k,C,rfl,rfl,e⟩:=hrel;have j:=af e;have l:=af ((ae v).later e (a0a _));clear e;by_cases f:k+1<n
  .
   have m:(k:Int)+1<(n:Int):=by omega
   have r:=wo L k;obtain⟨c0,c1,_,_,_⟩:=(ae l).at (ae o) (k+1) f;obtain⟨z,A,_,_,_⟩:=(ae l).at (ae o) (cf L k) (by omega);have D:((cf L k:Nat):Int)<(n:Int):=by omega
   have d:Hid (cf L (k+1)=if (decide ((L.getD (k+1) g0).cnt<(L.getD (cf L k) g0).cnt) || (decide ((L.getD (k+1) g0).cnt=(L.getD (cf L k) g0).cnt)&&decide ((L.getD (k+1) g0).fst<(L.getD (cf L k) g0).fst)))then k+1 else cf L k):=rfl;clear r;generalize cf L k=q at *
   generalize (L.getD (k+1) g0).cnt=x0 at *
   generalize (L.getD (k+1) g0).fst=x1 at *
   generalize (L.getD q g0).cnt=y0 at *
   generalize (L.getD q g0).fst=y1 at *
   by_cases s:x0<y0
   .
    have e0:decide (x0<y0)=true:=a0F s;have c:Hid (cf L (k+1)=k+1):=by have:=ae d;rw[e0]at this;exact af (by simpa using this)
    go_wp2_with fail
    go_quiet (fail)
    go_wp2;go_roundw
    case rel=>exact⟨k+1,f,by go_num,by rw[ae c];go_num,below_drewN (ae j) _⟩
    case measure=>simp[intOf];omega
   .
    have e0:decide (x0<y0)=false:=a0v s;by_cases h2:x0=y0
    .
     subst h2;by_cases t:x1<y1
     .
      have e1:decide (x1<y1)=true:=a0F t;have c:Hid (cf L (k+1)=k+1):=by have:=ae d;rw[e0,e1]at this;exact af (by simpa using this)
      go_wp2_with fail
      go_quiet (fail)
      go_wp2;go_roundw
      case rel=>exact⟨k+1,f,by go_num,by rw[ae c];go_num,below_drewN (ae j) _⟩
      case measure=>simp[intOf];omega
     .
      have e1:decide (x1<y1)=false:=a0v t;have c:Hid (cf L (k+1)=q):=by have:=ae d;rw[e0,e1]at this;exact af (by simpa using this)
      go_wp2_with fail
      go_quiet (fail)
      go_wp2;go_roundw
      case rel=>exact⟨k+1,f,by go_num,by rw[ae c],below_drewN (ae j) _⟩
      case measure=>simp[intOf];omega
    .
     have g1:(x0 == y0)=false:=by simpa using h2
     have c:Hid (cf L (k+1)=q):=by have:=ae d;rw[e0,a0v h2]at this;exact af (by simpa using this)
     go_wp2_with fail
     go_quiet (fail)
     go_wp2;go_roundw
     case rel=>exact⟨k+1,f,by go_num,by rw[ae c],below_drewN (ae j) _⟩
     case measure=>simp[intOf];omega
  .
   have p:Hid (least L=cf L k):=by
    show least L=cf L k;unfold least;rw[ae o]
    congr 1;omega
   have m:¬ (k:Int)+1<(n:Int):=by omega
   go_wp2;go_ret;exact⟨aJ (by rw[ae p]),ae j⟩
theorem Tryz.infoTree:(prog.info? 317).map (fun i=>(i.zero,i.size,i.bytes))=some (some (.agg #[.int .i64 0,.int .i64 0,.slice none 0 0]),3,40):=by kernel_rfl
theorem Md{t:TypeId}{x:World}{base m:Nat}{v:Value}{l r:List Grp}(b:l.length=n)(a:r.length=m)(h:x.ownsRow base t 3 v (n+m) (aO l++aO r)):cF t x base v (l++r):=by
 subst b a;show World.ownsRow _ _ _ _ _ (l++r).length _;rw[a0i,jY];exact h
theorem Er(g n cap k:Nat)(e:k<=cap)(d:0<cap)(W:World):(Instr.slice 315 (.slice (some ⟨g,0,none⟩) n cap) none (some (.int .i64 (k:Int))) none).run prog W = .ok (.slice (some ⟨g,0,none⟩) k cap) W:=by
 have b:¬ cap=0:=by omega
 have a:(k:Int)<=(cap:Int):=by omega
 have c:(0:Int)<=(k:Int):=by omega
 go_simp
theorem Es(g n cap k:Nat)(d:k<=n)(W:World):(Instr.slice 315 (.slice (some ⟨g,0,none⟩) n cap) (some (.int .i64 ((k:Int)))) none none).run prog W = .ok (.slice (some ⟨g,if cap=k then 0 else k*3,none⟩) (n-k) (cap-k)) W:=by
 have a:(k:Int)<=(n:Int):=by omega
 have b:(0:Int)<=(k:Int):=by omega
 by_cases c:cap=k
 . go_simp
 . go_simp
theorem tW(a:Option Addr)(cap n base ob k:Nat)(L:List Grp)(w:World)(O:L.length=n)(h:cF 317 w base (.slice a n cap) L)(T:dJ w ob L)(hk:k<n)(hm:n<=300) :
  Calls prog 251 #[.slice a n cap,.int .i64 (k:Int)] w fun e w'=>(∃v,e = .returned v/\cF 317 w' w.heap.size v (L.eraseIdx k))/\Below w.heap.size w w':=by
 obtain⟨g,rfl⟩:=h.somes (by omega);have p:=h.cap O;have t:=af O;have aa:(n:Int)<=300:=by omega
 have Y:(n:Int)<=(cap:Int):=by omega
 have Z:(cap:Int)<=9223372036854775807:=by have:=p.2;unfold maxLen at this;omega
 have Q:=af h;have P:=af T;obtain⟨i0,R,B,C,D⟩:=a0r Tryz.infoTree;clear h O hm T p;obtain⟨o2,ho2⟩:∃o2,(if cap=k+1 then 0 else(k+1)*3)=o2:=⟨_,rfl⟩;have ab:=Er g n cap k (by omega) (by omega);have A:=Es g n cap (k+1) (by omega);have ek:((k+1:Nat):Int)=(k:Int)+1:=by omega
 rw[ek]at A;rw[ho2]at A;have ac:IntKind.i64.wrap ((k:Int)+1)=(k:Int)+1:=by simp[IntKind.wrap,IntKind.bits,IntKind.signed];omega
 have U:=af ho2;clear ho2 ek;have J:Hid (∀W,Below w.heap.size w W->∀j u,(aO (L.take k))[j]?=some u->W.cell? ((⟨g,0,none⟩:Addr).add j)=some u):=by
  intro W M j u o;exact cF.news (ae t) ((ae Q).later M (a0a _)) 0 k 0 rfl (by omega) j u (by simpa using o)
 have K:Hid (∀W,Below w.heap.size w W->∀j u,(aO (L.drop (k+1)))[j]?=some u->W.cell? ((⟨g,o2,none⟩:Addr).add j)=some u):=by
  intro W M j u o;have V:=ae t;by_cases X:cap=k+1
  . have hd:L.drop (k+1)=[]:=a24 (by omega);rw[hd]at o;simp[aO]at o
  . have S:=ae U;rw[a0e X]at S;refine cF.news (ae t) ((ae Q).later M (a0a _)) (k+1) (n-(k+1)) o2 S.symm (by omega) j u ?_;rw[a0o (by rw[a1v];omega)];exact o
 have H:Hid (∀u∈aO (L.take k),u.oneCell'=true):=uZ (fun g N=>ae P g (a2d N));have I:Hid (∀u∈aO (L.drop (k+1)),u.oneCell'=true):=uZ (fun g N=>ae P g (List.mem_of_mem_drop N));have F:Hid ((aO (L.take k)).length=k*3):=by show(aO (L.take k)).length=k*3;rw[lw,a0z,ae t];congr 1;omega
 have G:Hid ((aO (L.drop (k+1))).length=(n-(k+1))*3):=by show(aO (L.drop (k+1))).length=(n-(k+1))*3;rw[lw,a1v,ae t]
 have x:World.ownsRow (w.alloc (.cells #[] 317)).drew w.heap.size 317 3 (.slice (some ⟨w.heap.size,0,none⟩) 0 0) 0 []:=a0Y w #[] 0 (a0a _) (by unfold maxLen;omega) rfl;have y:Hid (0+k<=maxLen/\(0+k)*40<=140737488355328):=by show _/\_;unfold maxLen;omega
 have z:Hid (0+k+(n-(k+1))<=maxLen/\(0+k+(n-(k+1)))*40<=140737488355328):=by show _/\_;unfold maxLen;omega
 have l:Below w.heap.size w (w.alloc (.cells #[] 317)).drew:=((a0c _ _).alloc (a0a _) _).drew;go_enter func251,ntmps251;go_wp2_with fail
 go_region_held3 (fun _=>True) (trivial) (first
  | (refine aX rfl (.tmp 5) (.tmp 8) 315 rfl w.heap.size 317 i0 (.agg #[.int .i64 0,.int .i64 0,.slice none 0 0]) 3 40 a3x R B C D rfl (a3y 2) (.slice (some ⟨w.heap.size,0,none⟩) 0 0) _ _ rfl x ⟨g,0,none⟩ k cap (aO (L.take k)) rfl (ae F) (ae J _ l) (ae H) (ae y).1 (ae y).2 l.size ?_;intro v1 x1 b c r;clear r;have i:Below w.heap.size w x1:=l.grown c l.size (fun j o=>(a0E x j o).1))
  | (refine aX rfl (.tmp 9) (.tmp 13) 315 rfl w.heap.size 317 i0 (.agg #[.int .i64 0,.int .i64 0,.slice none 0 0]) 3 40 a3x R B C D rfl (a3y 2) v1 _ _ rfl b ⟨g,o2,none⟩ (n-(k+1)) (cap-(k+1)) (aO (L.drop (k+1))) rfl (ae G) (ae K _ i) (ae I) (ae z).1 (ae z).2 i.size ?_;intro v2 x2 f d s;clear s;have E:Below w.heap.size w x2:=i.grown d i.size (fun j o=>(a0E b j o).1)))
 have q:cF 317 x2 w.heap.size v2 (L.eraseIdx k):=by
  rw[qe];have V:=ae t;refine Md (n:=0+k) (m:=n-(k+1)) (by rw[a0z];omega) (by rw[a1v];omega) ?_;simpa using f
 obtain⟨va,vc,rfl⟩:=q.form;clear b f c d;go_wp2;go_ret;exact⟨⟨_,rfl,q⟩,E⟩
def bare(g:Grp):Grp:=⟨g.cnt,g.fst,g.syms,.slice none 0 0⟩
def ax(l:List Int):Nat->List Grp
 | 0=>[]
 | k+1=>if 0<l.getD k 0 then ax l k++[⟨l.getD k 0,(k:Int),[(k:Int)],.slice none 0 0⟩]else ax l k
def dQ(a b:Grp):Grp:=⟨a.cnt+b.cnt,if b.fst<a.fst then b.fst else a.fst,a.syms++b.syms,.slice none 0 0⟩
def aB(M:List Grp):Grp:=M.getD (least M) g0
def am(M:List Grp):List Grp:=M.eraseIdx (least M)
def stepG(M:List Grp):List Grp:=am (am M)++[dQ (aB M) (aB (am M))]
def bg(M:List Grp):List Int:=(aB M).syms++(aB (am M)).syms
def fw(o:List Int)(i:Int):List Int:=o.set i.toNat (o.getD i.toNat 0+1)
def bump(o s:List Int):List Int:=s.foldl fw o
def aw(l:List Int):Nat->List Grp×List Int
 | 0=>(ax l l.length,List.replicate l.length 0)
 | k+1=>(stepG (aw l k).1,bump (aw l k).2 (bg (aw l k).1))
def bI(l:List Int):List Int:=if (ax l l.length).length=1 then(List.replicate l.length 0).set ((ax l l.length).getD 0 g0).fst.toNat 1 else(aw l ((ax l l.length).length-1)).2
theorem mW(o:List Int)(i:Int):(fw o i).length=o.length:=by simp[fw]
theorem oJ(o s:List Int):(bump o s).length=o.length:=by
 induction s generalizing o with
 | nil=>rfl
 | cons i s ih=>show(bump (fw o i) s).length=_;rw[ih,mW]
theorem dY(l:List Int)(k:Nat):(aw l k).2.length=l.length:=by
 induction k with
 | zero=>simp[aw]
 | succ k ih=>simp only[aw];rw[oJ,ih]
theorem io(l:List Int):(bI l).length=l.length:=by
 unfold bI
 split
 . simp
 . exact dY l _
theorem vI(o s:List Int)(k:Nat)(h:k<s.length):bump o (s.take (k+1))=fw (bump o (s.take k)) (s.getD k 0):=by
 rw[bZ s k h];simp[bump]
/-! What is bare is as it was. -/
theorem uf(x y:Grp):aT (bare x) (bare y)=aT x y:=rfl
theorem nd(L:List Grp)(k:Nat):(L.map bare).getD k g0=bare (L.getD k g0):=by
 simp only[List.getD];rw[List.getElem?_map];cases L[k]? <;> rfl
theorem Ao(L:List Grp)(k:Nat):cf (L.map bare) k=cf L k:=by
 induction k with
 | zero=>rfl
 | succ k ih=>simp only[cf];rw[ih,nd,nd,uf]
theorem tZ(L:List Grp):least (L.map bare)=least L:=by
 unfold least;rw[Ao,a0N]
theorem jt(L:List Grp):aB (L.map bare)=bare (aB L):=by
 unfold aB;rw[tZ,nd]
theorem ov(L:List Grp):am (L.map bare)=(am L).map bare:=by
 unfold am;rw[tZ,qe,qe,a0I,List.map_take,List.map_drop]
theorem Ii(M:List Grp):stepG (M.map bare)=(am (am M)).map bare++[dQ (aB M) (aB (am M))]:=by
 unfold stepG;rw[ov,ov,jt,jt];rfl
theorem Ip(M:List Grp):bg (M.map bare)=bg M:=by
 unfold bg;rw[ov,jt,jt];rfl
/-! Bounds. -/
def WFg(n:Nat)(g:Grp):Prop:=0<=g.cnt/\0<=g.fst/\g.fst<(n:Int)/\(∀s∈g.syms,0<=s/\s<(n:Int))/\0<g.syms.length
def WFL(n:Nat)(M:List Grp):Prop:=∀g∈M,WFg n g
def f8(M:List Grp):Int:=(M.map Grp.cnt).sum
def jZ(M:List Grp):Nat:=(M.map (fun g=>g.syms.length)).sum
theorem fC(M:List Grp)(k:Nat)(h:k<M.length):M.getD k g0∈M:=by simp[List.getD,h]
theorem oC(M:List Grp)(k:Nat)(h:k<M.length):f8 M=(M.getD k g0).cnt+f8 (M.eraseIdx k):=by
 induction M generalizing k with
 | nil=>simp at h
 | cons g M ih=>
  cases k with
  | zero=>simp[f8,List.eraseIdx]
  | succ k=>
   have:=ih k (by simpa using h);simp only[f8,List.eraseIdx_cons_succ,a0C,a0M,a2x]at this ⊢;omega
theorem lz(M:List Grp)(k:Nat)(h:k<M.length):jZ M=(M.getD k g0).syms.length+jZ (M.eraseIdx k):=by
 induction M generalizing k with
 | nil=>simp at h
 | cons g M ih=>
  cases k with
  | zero=>simp[jZ,List.eraseIdx]
  | succ k=>
   have:=ih k (by simpa using h);simp only[jZ,List.eraseIdx_cons_succ,a0C,a0M,a2x]at this ⊢;omega
theorem di(M:List Grp)(h:0<M.length):(am M).length=M.length-1:=by
 unfold am;rw[List.length_eraseIdx,a0d (d9 M h)]
theorem rI(A B:List Grp):f8 (A++B)=f8 A+f8 B:=by simp[f8]
theorem rJ(A B:List Grp):jZ (A++B)=jZ A+jZ B:=by simp[jZ]
theorem LW(M:List Grp)(h:1<M.length):f8 (stepG M)=f8 M/\jZ (stepG M)=jZ M/\(stepG M).length=M.length-1:=by
 have a:=oC M (least M) (d9 M (by omega));have h2:=lz M (least M) (d9 M (by omega));have e:=di M (by omega);have b:=oC (am M) (least (am M)) (d9 _ (by omega));have c:=lz (am M) (least (am M)) (d9 _ (by omega));have d:=di (am M) (by omega);have e1:M.getD (least M) g0=aB M:=rfl;have e2:(am M).getD (least (am M)) g0=aB (am M):=rfl;have e3:M.eraseIdx (least M)=am M:=rfl;have e4:(am M).eraseIdx (least (am M))=am (am M):=rfl;rw[e1,e3]at a h2;rw[e2,e4]at b c;refine⟨?_,?_,?_⟩
 .
  unfold stepG;rw[rI];have:f8 [dQ (aB M) (aB (am M))]=(aB M).cnt+(aB (am M)).cnt:=by simp[f8,dQ]
  omega
 .
  unfold stepG;rw[rJ];have:jZ [dQ (aB M) (aB (am M))]=(aB M).syms.length+(aB (am M)).syms.length:=by simp[jZ,dQ]
  omega
 . unfold stepG;simp;omega
theorem bf(M:List Grp):∀g∈am M,g∈M:=fun _ a=>List.mem_of_mem_eraseIdx a
theorem bv(M:List Grp)(h:0<M.length):aB M∈M:=fC M _ (d9 M h)
theorem Oa{M:List Grp}(c:WFL n M)(h:1<M.length):WFL n (stepG M):=by
 have l:=di M (by omega);have e:=c _ (bv M (by omega));have hb:=c _ (bf M _ (bv (am M) (by omega)));intro g b;simp only[stepG,a0V,a01]at b;rcases b with b|rfl
 . exact c g (bf M _ (bf _ _ b))
 .
  obtain⟨a0,a1,a2,a3,a4⟩:=e;obtain⟨f,i,j,d,k⟩:=hb;refine⟨?_,?_,?_,?_,?_⟩
  . simp only[dQ];omega
  . simp only[dQ];split<;>assumption
  . simp only[dQ];split<;>assumption
  .
   intro s a;simp only[dQ,a0V]at a;rcases a with a|a
   . exact a3 s a
   . exact d s a
  . simp only[dQ,a0i];omega
theorem Fq(l:List Int)(k:Nat)(c:k<=l.length):WFL l.length (ax l k):=by
 induction k with
 | zero=>intro g a;simp[ax]at a
 | succ k ih=>
  simp only[ax]
  split
  case isTrue h=>
   intro g a;simp only[a0V,a01]at a;rcases a with a|rfl
   . exact ih (by omega) g a
   . refine⟨by simp only;omega,by simp only;omega,by simp only;omega,?_,by simp⟩;intro s b;simp only[a01]at b;subst b;omega
  case isFalse=>exact ih (by omega)
theorem kI(l:List Int)(C:Int)(d:0<=C)(b:∀i,i<l.length->l.getD i 0<=C)(k:Nat)(f:k<=l.length):f8 (ax l k)<=C*k/\jZ (ax l k)<=k/\(ax l k).length<=k:=by
 induction k with
 | zero=>simp[ax,f8,jZ]
 | succ k ih=>
  obtain⟨a,h2,c⟩:=ih (by omega);have hb:=b k (by omega);have e:C*((k+1:Nat):Int)=C*(k:Int)+C:=by rw[show((k+1:Nat):Int)=(k:Int)+1 by omega,Int.mul_add,Int.mul_one]
  simp only[ax]
  split
  .
   rw[rI,rJ];refine⟨?_,?_,?_⟩
   . simp only[f8,a0C,a1I,a0M,a3z]at a ⊢;omega
   . simp only[jZ,a0C,a1I,a0M,a3z,a1j]at h2 ⊢;omega
   . simp;omega
  . refine⟨by omega,by omega,by omega⟩
theorem bW(l:List Int)(k:Nat)(e:k<(ax l l.length).length∨k=0):WFL l.length (aw l k).1/\f8 (aw l k).1=f8 (ax l l.length)/\jZ (aw l k).1=jZ (ax l l.length)/\(aw l k).1.length=(ax l l.length).length-k:=by
 induction k with
 | zero=>exact⟨Fq l _ (a0a _),rfl,rfl,rfl⟩
 | succ k ih=>
  obtain⟨b,h2,c,d⟩:=ih (by omega);have a:1<(aw l k).1.length:=by omega
  obtain⟨t1,t2,t3⟩:=LW _ a;refine⟨Oa b a,by simp only[aw];omega,by simp only[aw];omega,by simp only[aw];omega⟩
theorem OO{M:List Grp}(c:WFL n M){g:Grp}(a:g∈M):g.cnt<=f8 M:=by
 induction M with
 | nil=>cases a
 | cons x M ih=>
  have h:=(c x (by simp)).1;have e:0<=f8 M:=by
   clear ih a;have b:WFL n M:=fun y d=>c y (by simp[d]);clear c;induction M with
   | nil=>simp[f8]
   | cons y M ih2=>
    have:=ih2 (fun z f=>b z (by simp[f]));have d:=(b y (by simp)).1;simp only[f8,a0C,a0M]at this ⊢;omega
  simp only[a0U]at a;simp only[f8,a0C,a0M]at e ih ⊢;rcases a with rfl|a
  . omega
  . have:=ih (fun y d=>c y (by simp[d])) a;omega
theorem yF{M:List Grp}(d:WFL n M)(h:1<M.length):(aB M).cnt+(aB (am M)).cnt<=f8 M/\(bg M).length<=jZ M:=by
 have f:=di M (by omega);have a:=oC M (least M) (d9 M (by omega));have h2:=lz M (least M) (d9 M (by omega));have b:=lz (am M) (least (am M)) (d9 _ (by omega));have e1:M.getD (least M) g0=aB M:=rfl;have e2:(am M).getD (least (am M)) g0=aB (am M):=rfl;have e3:M.eraseIdx (least M)=am M:=rfl;rw[e1,e3]at a h2;rw[e2]at b;have e:=OO (n:=n) (M:=am M) (fun g c=>d g (bf M _ c)) (bv (am M) (by omega));refine⟨by omega,?_⟩;unfold bg;rw[a0i];omega
/-! Lengths stay small. -/
def yi(o:List Int)(B:Int):Prop:=∀i,i<o.length->0<=o.getD i 0/\o.getD i 0<=B
theorem FN(h:yi o B)(i:Int):yi (fw o i) (B+1):=by
 intro j a;rw[mW]at a;have b:=h j a;by_cases e:i.toNat=j
 . subst e;simp only[fw,List.getD];rw[List.getElem?_set_self a];simp only[a1L];have:=h i.toNat a;simp only[List.getD]at this;omega
 .
  have:(fw o i).getD j 0=o.getD j 0:=by
   simp only[fw,List.getD];rw[List.getElem?_set_ne e]
  rw[this];omega
theorem sU(h:yi o B)(s:List Int):yi (bump o s) (B+s.length):=by
 induction s generalizing o B with
 | nil=>intro i a;have:=h i a;simp only[bump,List.foldl_nil,a0R];omega
 | cons i s ih=>
  have:=ih (FN h i);intro j b;have h2:=this j b;simp only[a0A];show 0<=(bump (fw o i) s).getD j 0/\_;refine⟨h2.1,?_⟩;have:=h2.2;show(bump (fw o i) s).getD j 0<=_;omega
theorem tw(l:List Int)(d:∀i,i<l.length->l.getD i 0<=100000)(h:l.length<=300)(k:Nat)(g:k<(ax l l.length).length∨k=0):yi (aw l k).2 (300*(k:Int)):=by
 induction k with
 | zero=>
  intro i a;have:(aw l 0).2.getD i 0=0:=by
   simp only[aw,List.getD];simp only[aw,a0y]at a;simp[a]
  rw[this];omega
 | succ k ih=>
  have a:=ih (by omega);obtain⟨c,h2,e,f⟩:=bW l k (by omega);have m:=(yF c (by omega)).2;have j:=(kI l 100000 (by omega) d l.length (a0a _)).2.1;have hb:=sU a (bg (aw l k).1);intro i b;have:=hb i b;simp only[aw]at this ⊢;omega
/-! What is counted once more. -/
theorem vH(o:List Int)(i:Int)(j:Nat)(b:0<=i)(a:j<o.length):(fw o i).getD j 0=o.getD j 0+(if i=(j:Int)then 1 else 0):=by
 by_cases e:i=(j:Int)
 .
  rw[a0d e];have e2:i.toNat=j:=by omega
  simp only[fw,List.getD];rw[e2,List.getElem?_set_self a,a1L]
 .
  rw[a0e e];have e2:i.toNat≠j:=by omega
  simp only[fw,List.getD];rw[List.getElem?_set_ne e2];omega
theorem lX(o s:List Int)(j:Nat)(a:s.Nodup)(b:∀x∈s,0<=x)(c:j<o.length):(bump o s).getD j 0=o.getD j 0+(if (j:Int)∈s then 1 else 0):=by
 induction s generalizing o with
 | nil=>simp[bump]
 | cons x s ih=>
  show(bump (fw o x) s).getD j 0=_;rw[List.nodup_cons]at a;rw[ih (fw o x) a.2 (fun y d=>b y (by simp[d])) (by rw[mW];exact c),vH o x j (b x (by simp)) c];by_cases e:x=(j:Int)
  . subst e;rw[a0d rfl,a0e a.1,a0d (by simp)];omega
  .
   rw[a0e e];by_cases h2:(j:Int)∈s
   . rw[a0d h2,a0d (by simp[h2])];omega
   . rw[a0e h2,a0e (by simp only[a0U,not_or];exact⟨fun e2=>e e2.symm,h2⟩)];omega
/-! All symbols, each once. -/
def bn(M:List Grp):List Int:=M.flatMap Grp.syms
theorem D3(M:List Grp)(k:Nat)(h:k<M.length):(M.getD k g0 :: M.eraseIdx k).Perm M:=by
 induction M generalizing k with
 | nil=>simp at h
 | cons x M ih=>
  cases k with
  | zero=>exact a2t _
  | succ k=>
   rw[a2x,List.eraseIdx_cons_succ];exact(a3A _ _ _).trans (List.Perm.cons x (ih k (by simpa using h)))
theorem lq(M:List Grp)(h:0<M.length):(aB M :: am M).Perm M:=D3 M _ (d9 M h)
theorem uG(M:List Grp)(h:1<M.length):(aB M :: aB (am M) :: am (am M)).Perm M:=by
 have a:=di M (by omega);exact(List.Perm.cons _ (lq (am M) (by omega))).trans (lq M (by omega))
theorem qf{A B:List Grp}(h:A.Perm B):(bn A).Perm (bn B):=by
 induction h with
 | nil=>exact a2t _
 | cons x _ ih=>
  simp only[bn,a0S]at ih ⊢;exact List.Perm.append_left _ ih
 | swap x y l=>
  simp only[bn,a0S];rw[←a0O,←a0O];exact List.Perm.append_right _ List.perm_append_comm
 | trans _ _ h1 h2=>exact h1.trans h2
theorem vU(M:List Grp)(h:1<M.length):(bn (stepG M)).Perm (bn M):=by
 refine List.Perm.trans ?_ (qf (uG M h));unfold stepG bn;rw[a2q];refine List.perm_append_comm.trans ?_;simp[dQ]
theorem Gh(l:List Int)(k:Nat):(bn (ax l k)).Nodup/\∀x∈bn (ax l k),0<=x/\x<(k:Int):=by
 induction k with
 | zero=>simp[ax,bn]
 | succ k ih=>
  simp only[ax]
  split
  .
   have e:bn (ax l k++[⟨l.getD k 0,(k:Int),[(k:Int)],.slice none 0 0⟩])=bn (ax l k)++[(k:Int)]:=by simp[bn]
   rw[e];refine⟨?_,?_⟩
   . rw[a3B];refine⟨ih.1,by simp,?_⟩;intro x a y b;simp only[a01]at b;subst b;have:=(ih.2 x a).2;omega
   .
    intro x a;simp only[a0V,a01]at a;rcases a with a|rfl
    . have:=ih.2 x a;omega
    . omega
  . exact⟨ih.1,fun x a=>by have:=ih.2 x a;omega⟩
theorem gN(l:List Int)(k:Nat)(d:k<(ax l l.length).length∨k=0):(bn (aw l k).1).Nodup/\∀x∈bn (aw l k).1,0<=x/\x<(l.length:Int):=by
 induction k with
 | zero=>exact Gh l _
 | succ k ih=>
  have a:=ih (by omega);have e:=(bW l k (by omega)).2.2.2;have b:=vU (aw l k).1 (by omega);exact⟨(b.nodup_iff).2 a.1,fun x c=>a.2 x (b.mem_iff.1 c)⟩
theorem jj(M:List Grp)(h:1<M.length):((bg M)++bn (am (am M))).Perm (bn M):=by
 refine List.Perm.trans ?_ (qf (uG M h));simp[bg,bn]
theorem jh{M:List Grp}(h:1<M.length)(c:(bn M).Nodup):(bg M).Nodup/\∀g∈am (am M),∀s∈g.syms,s ∉ bg M:=by
 have h2:=((jj M h).nodup_iff).2 c;rw[a3B]at h2;refine⟨h2.1,fun g a s d b=>?_⟩;exact h2.2.2 s b s (by simp only[bn,List.mem_flatMap];exact⟨g,a,d⟩) rfl
theorem lh(l:List Int)(k:Nat)(g:k<(ax l l.length).length∨k=0):yi (aw l k).2 (k:Int):=by
 induction k with
 | zero=>
  intro i c;have:(aw l 0).2.getD i 0=0:=by
   simp only[aw,List.getD];simp only[aw,a0y]at c;simp[c]
  rw[this];omega
 | succ k ih=>
  have c:=ih (by omega);have h:=(bW l k (by omega)).2.2.2;have d:=gN l k (by omega);have e:=jh (M:=(aw l k).1) (by omega) d.1;intro i a;simp only[aw]at a ⊢;rw[oJ]at a;have b:∀x∈bg (aw l k).1,0<=x:=fun x f=>(d.2 x ((jj _ (by omega)).mem_iff.1 (by simp[f]))).1;rw[lX _ _ i e.1 b a];have:=c i a
  split<;>omega
/-! Where all come as often. -/
def KC(K:Nat)(o:List Int)(g:Grp):Prop:=g.cnt=(p2 K:Nat)/\∀s∈g.syms,o.getD s.toNat 0<=(K:Int)
def Pe(K:Nat)(o:List Int)(g:Grp):Prop:=g.cnt=(p2 (K+1):Nat)/\∀s∈g.syms,o.getD s.toNat 0<=(K:Int)+1
def AC(K:Nat)(o:List Int)(g:Grp):Prop:=(p2 K:Nat)<g.cnt/\g.cnt<(p2 (K+1):Nat)/\∀s∈g.syms,o.getD s.toNat 0<=(K:Int)+1
def Lvl(K:Nat)(o:List Int)(M:List Grp):Prop:=(∀g∈M,KC K o g∨Pe K o g∨AC K o g)/\M.Pairwise (fun x y=>¬ (AC K o x/\AC K o y))
theorem Dx (L : List Grp) (k j : Nat) (hj : j ≤ k) : (L.getD (cf L k) g0).cnt ≤ (L.getD j g0).cnt := by
  induction k with
  | zero => have : j = 0 := by omega
            subst this; exact a2D _
  | succ k ih =>
    simp only [cf]
    by_cases e : j = k + 1
    . subst e
      split
      . exact a2D _
      . rename_i h
        simp only [aT, a1f, a0p, not_or] at h
        have := h.1
        omega
    . have := ih (by omega)
      split
      . rename_i h
        simp only [aT, a1f, a0j, a0p] at h
        omega
      . exact this
theorem vQ(M:List Grp)(g:Grp)(a:g∈M):(aB M).cnt<=g.cnt:=by
 obtain⟨i,b,rfl⟩:=a1N a;have:=Dx M (M.length-1) i (by omega);have e:M.getD i g0=M[i]:=by simp[List.getD,b]
 rw[e]at this;exact this
theorem KE{K:Nat}{M:List Grp}(h:1<M.length)(l:Lvl K o M)(Y:(bn M).Nodup)(T:∀x∈bn M,0<=x/\x<(o.length:Int)):Lvl K (bump o (bg M)) (stepG M)∨Lvl (K+1) (bump o (bg M)) (stepG M):=by
 have hr:=di M (by omega);obtain⟨L,N⟩:=jh h Y;have r:=jj M h;have F:∀x∈bg M,0<=x:=fun x f=>(T x (r.mem_iff.1 (by simp[f]))).1;have R:=bv M (by omega);have hb:=bf M _ (bv (am M) (by omega));have u:∀g∈am (am M),g∈M:=fun g a=>bf M _ (bf _ _ a);have X:(aB M).cnt<=(aB (am M)).cnt:=vQ M _ hb;have m:∀g∈am (am M),(aB (am M)).cnt<=g.cnt:=fun g a=>vQ (am M) g (bf _ _ a);have J:p2 (K+1)=p2 K*2:=jB K;have aa:p2 (K+1+1)=p2 (K+1)*2:=jB (K+1);have Z:=qA K;have p:∀x,x∈bn M->(bump o (bg M)).getD x.toNat 0=o.getD x.toNat 0+(if x∈bg M then 1 else 0):=by
  intro x f;have hb:=T x f;rw[lX o (bg M) x.toNat L F (by omega)];have e:((x.toNat:Nat):Int)=x:=by omega
  rw[e]
 have D:∀g∈M,∀x∈g.syms,x∈bn M:=fun g a x i=>by simp only[bn,List.mem_flatMap];exact⟨g,a,i⟩
 have hold:∀g∈am (am M),∀x∈g.syms,(bump o (bg M)).getD x.toNat 0=o.getD x.toNat 0:=by
  intro g a x i;rw[p x (D g (u g a) x i),a0e (N g a x i)];omega
 have q:∀x,x∈bg M->(bump o (bg M)).getD x.toNat 0=o.getD x.toNat 0+1:=by
  intro x f;rw[p x (r.mem_iff.1 (by simp[f])),a0d f]
 have G:(aB M :: aB (am M) :: am (am M)).Pairwise (fun x y=>¬ (AC K o x/\AC K o y)):=
  ((uG M h).pairwise_iff (fun{x y} j H=>j ⟨H.2,H.1⟩)).2 l.2
 rw[List.pairwise_cons,List.pairwise_cons]at G;obtain⟨P,Q,I⟩:=G;have t:(dQ (aB M) (aB (am M))).cnt=(aB M).cnt+(aB (am M)).cnt:=rfl;have C:∀x,x∈(dQ (aB M) (aB (am M))).syms<->x∈bg M:=fun x=>Iff.rfl;by_cases v:KC K o (aB M)/\KC K o (aB (am M))
 .
  left;obtain⟨⟨a1,a2⟩,c,W⟩:=v;have S:Pe K (bump o (bg M)) (dQ (aB M) (aB (am M))):=by
   refine⟨by rw[t,a1,c,J];omega,fun x f=>?_⟩;have d:=(C x).1 f;rw[q x d];simp only[bg,a0V]at d;rcases d with d|d
   . have:=a2 x d;omega
   . have:=W x d;omega
  have n:∀g∈am (am M),AC K (bump o (bg M)) g->AC K o g:=fun g a n=>⟨n.1,n.2.1,fun x f=>by have:=n.2.2 x f;rw[hold g a x f]at this;exact this⟩;refine⟨fun g a=>?_,?_⟩
  .
   simp only[stepG,a0V,a01]at a;rcases a with a|rfl
   .
    rcases l.1 g (u g a)with b|b|b
    . exact .inl ⟨b.1,fun x f=>by rw[hold g a x f];exact b.2 x f⟩
    . exact .inr (.inl ⟨b.1,fun x f=>by rw[hold g a x f];exact b.2 x f⟩)
    . exact .inr (.inr ⟨b.1,b.2.1,fun x f=>by rw[hold g a x f];exact b.2.2 x f⟩)
   . exact .inr (.inl S)
  .
   unfold stepG;rw[List.pairwise_append];refine⟨?_,by simp,?_⟩
   . refine List.Pairwise.imp_of_mem ?_ I;intro x y i O j k;exact j ⟨n x i k.1,n y O k.2⟩
   . intro x _ y U j;simp only[a01]at U;subst U;have b:=S.1;have h2:=j.2.2.1;omega
 .
  right;have A:((p2 K:Nat):Int)<=(aB M).cnt/\(aB M).cnt<=((p2 (K+1):Nat):Int)/\((p2 K:Nat):Int)<(aB (am M)).cnt/\(aB (am M)).cnt<=((p2 (K+1):Nat):Int)/\∀g∈am (am M),Pe K o g:=by
   rcases l.1 _ R with a1|a1|a1
   .
    rcases l.1 _ hb with c|c|c
    . exact absurd ⟨a1,c⟩ v
    .
     refine⟨by rw[a1.1];omega,by rw[a1.1];omega,by rw[c.1];omega,by rw[c.1];omega,fun g a=>?_⟩;have s:=m g a;rcases l.1 g (u g a)with b|b|b
     . have:=b.1;have:=c.1;omega
     . exact b
     . have:=b.2.1;have:=c.1;omega
    .
     refine⟨by rw[a1.1];omega,by rw[a1.1];omega,c.1,by have:=c.2.1;omega,fun g a=>?_⟩;have s:=m g a;rcases l.1 g (u g a)with b|b|b
     . have:=b.1;have:=c.1;omega
     . exact b
     . exact absurd ⟨c,b⟩ (Q g a)
   .
    rcases l.1 _ hb with c|c|c
    . have:=a1.1;have:=c.1;omega
    .
     refine⟨by rw[a1.1];omega,by rw[a1.1];omega,by rw[c.1];omega,by rw[c.1];omega,fun g a=>?_⟩;have s:=m g a;rcases l.1 g (u g a)with b|b|b
     . have:=b.1;have:=c.1;omega
     . exact b
     . have:=b.2.1;have:=c.1;omega
    . have:=a1.1;have:=c.2.1;omega
   .
    rcases l.1 _ hb with c|c|c
    . have:=a1.1;have:=c.1;omega
    .
     refine⟨by have:=a1.1;omega,by have:=a1.2.1;omega,by rw[c.1];omega,by rw[c.1];omega,fun g a=>?_⟩;have s:=m g a;rcases l.1 g (u g a)with b|b|b
     . have:=b.1;have:=c.1;omega
     . exact b
     . have:=b.2.1;have:=c.1;omega
    . exact absurd ⟨a1,c⟩ (P _ (by simp))
  obtain⟨q1,q2,q3,q4,V⟩:=A;have w:∀g∈M,∀x∈g.syms,o.getD x.toNat 0<=(K:Int)+1:=by
   intro g a x f;rcases l.1 g a with b|b|b
   . have:=b.2 x f;omega
   . exact b.2 x f
   . exact b.2.2 x f
  have B:∀x∈(dQ (aB M) (aB (am M))).syms,(bump o (bg M)).getD x.toNat 0<=((K+1:Nat):Int)+1:=by
   intro x f;have d:=(C x).1 f;rw[q x d];simp only[bg,a0V]at d;rcases d with d|d
   . have:=w _ R x d;omega
   . have:=w _ hb x d;omega
  have z:∀g∈am (am M),KC (K+1) (bump o (bg M)) g:=fun g a=>⟨(V g a).1,fun x f=>by rw[hold g a x f];have:=(V g a).2 x f;omega⟩;refine⟨fun g a=>?_,?_⟩
  .
   simp only[stepG,a0V,a01]at a;rcases a with a|rfl
   . exact .inl (z g a)
   .
    by_cases e:(dQ (aB M) (aB (am M))).cnt=((p2 (K+1+1):Nat):Int)
    . exact .inr (.inl ⟨e,B⟩)
    .
     refine .inr (.inr ⟨?_,?_,B⟩)
     . rw[t];omega
     . rw[t]at e ⊢;omega
  .
   unfold stepG;have E:∀g∈am (am M),¬ AC (K+1) (bump o (bg M)) g:=fun g a n=>by
    have b:=(z g a).1;have h2:=n.1;omega
   rw[List.pairwise_append];refine⟨?_,by simp,?_⟩
   . refine List.Pairwise.imp_of_mem ?_ I;intro x y i _ _ k;exact E x i k.1
   . intro x i y _ j;exact E x i j.1
def NG(l:List Int):Prop:=∀i,i<l.length->l.getD i 0<=1
theorem ul(l:List Int)(c:NG l)(k:Nat)(d:k<=l.length):∀g∈ax l k,KC 0 (List.replicate l.length 0) g:=by
 induction k with
 | zero=>intro g a;simp[ax]at a
 | succ k ih=>
  simp only[ax]
  split
  case isTrue h=>
   intro g a;simp only[a0V,a01]at a;rcases a with a|rfl
   . exact ih (by omega) g a
   .
    refine⟨?_,?_⟩
    . have:=c k (by omega);have e:p2 0=1:=rfl;simp only;rw[e];omega
    .
     intro s b;simp only[a01]at b;subst b;rw[a0l];have:(List.replicate l.length (0:Int)).getD k 0=0:=by simp[List.getD,show k<l.length by omega]
     rw[this];exact a2D _
  case isFalse=>exact ih (by omega)
theorem KD(l:List Int)(c:NG l)(k:Nat)(j:k<(ax l l.length).length∨k=0):∃K,Lvl K (aw l k).2 (aw l k).1:=by
 induction k with
 | zero=>
  refine⟨0,fun g f=>.inl (ul l c _ (a0a _) g f),?_⟩;refine List.Pairwise.imp_of_mem ?_ (List.pairwise_of_forall (R:=fun _ _=>True) (fun _ _=>trivial));intro x y a _ _ b;have:=(ul l c _ (a0a _) x a).1;have:=b.1.1;omega
 | succ k ih=>
  obtain⟨K,e⟩:=ih (by omega);have m:=(bW l k (by omega)).2.2.2;have d:=gN l k (by omega);rcases KE (by omega) e d.1 (fun x i=>by rw[dY];exact d.2 x i)with h|h
  . exact⟨K,h⟩
  . exact⟨K+1,h⟩
theorem nc(l:List Int)(k:Nat)(a:k<(ax l l.length).length∨k=0):(bn (aw l k).1).Perm (bn (ax l l.length)):=by
 induction k with
 | zero=>exact a2t _
 | succ k ih=>
  have b:=(bW l k (by omega)).2.2.2;exact(vU (aw l k).1 (by omega)).trans (ih (by omega))
theorem vZ(l:List Int)(i:Nat)(c:i<l.length)(f:(i:Int) ∉ bn (ax l l.length))(k:Nat)(j:k<(ax l l.length).length∨k=0):(aw l k).2.getD i 0=0:=by
 induction k with
 | zero=>simp[aw,List.getD,c]
 | succ k ih=>
  have d:=ih (by omega);have m:=(bW l k (by omega)).2.2.2;have b:=gN l k (by omega);have g:=jh (M:=(aw l k).1) (by omega) b.1;have a:=jj (aw l k).1 (by omega);simp only[aw];rw[lX _ _ i g.1 (fun x h=>(b.2 x (a.mem_iff.1 (by simp[h]))).1) (by rw[dY];exact c),d,a0e]
  . rfl
  . intro e;exact f ((nc l k (by omega)).mem_iff.1 (a.mem_iff.1 (by simp[e])))
theorem Iy(M:List Grp)(h:∀g∈M,g.cnt=1):f8 M=(M.length:Int):=by
 induction M with
 | nil=>rfl
 | cons g M ih=>
  have:=ih (fun x a=>h x (by simp[a]));have b:=h g (by simp);simp only[f8,a0C,a0M,a0A]at this ⊢;omega
theorem Fg{a b:Nat}(h:p2 a<=p2 b):a<=b:=by
 rcases a1l b a with h2|h2
 . have c:p2 (b+1)<=p2 a:=a0T (by omega) (by omega);have d:=jB b;have e:=qA b;omega
 . exact h2
theorem PU{a b:Nat}(h:p2 a<p2 b):a<b:=by
 rcases a1l a b with h2|h2
 . exact h2
 . have c:p2 b<=p2 a:=a0T (by omega) h2;omega
theorem KT(l:List Int)(v:NG l)(m:Nat)(B:(ax l l.length).length<=p2 m):yi (bI l) ((m:Int)+1):=by
 have o:∀i,i<l.length->(List.replicate l.length (0:Int)).getD i 0=0:=fun i f=>by simp[List.getD,f]
 intro i f;rw[io]at f;unfold bI;by_cases d:(ax l l.length).length=1
 .
  rw[a0d d];generalize ((ax l l.length).getD 0 g0).fst.toNat=q;by_cases e:q=i
  . simp only[List.getD];rw[←e,List.getElem?_set_self (by rw[a0y,e];exact f),a1L];omega
  . simp only[List.getD];rw[List.getElem?_set_ne e];have:=o i f;simp only[List.getD]at this;omega
 .
  rw[a0e d];generalize D:(ax l l.length).length-1=k;have b:k<(ax l l.length).length∨k=0:=by omega
  have j:=lh l k b i (by rw[dY];exact f);by_cases a:(i:Int)∈bn (ax l l.length)
  .
   obtain⟨K,w⟩:=KD l v k b;have c:=bW l k b;have z:0<(ax l l.length).length:=by
    rcases a3C (ax l l.length).length with h|h
    . have:ax l l.length=[]:=a2l h;rw[this]at a;simp[bn]at a
    . exact h
   have s:(aw l k).1.length=1:=by rw[c.2.2.2];omega
   obtain⟨g,y⟩:=List.length_eq_one_iff.1 s;have t:=(nc l k b).mem_iff.2 a;rw[y]at t w;have n:(i:Int)∈g.syms:=by simpa[bn]using t
   have C:g.cnt=((ax l l.length).length:Int):=by
    have h2:=c.2.1;rw[y,Iy (ax l l.length) (fun x A=>by have:=(ul l v _ (a0a _) x A).1;simpa[p2]using this)]at h2;simpa[f8]using h2
   have u:g∈[g]:=by simp
   rcases w.1 g u with h|h|h
   .
    have p:=h.2 _ n;rw[a0l]at p;have r:p2 K<=p2 m:=by have:=h.1;omega
    have:=Fg r;exact⟨j.1,by omega⟩
   .
    have p:=h.2 _ n;rw[a0l]at p;have r:p2 (K+1)<=p2 m:=by have:=h.1;omega
    have:=Fg r;exact⟨j.1,by omega⟩
   .
    have p:=h.2.2 _ n;rw[a0l]at p;have r:p2 K<p2 m:=by have:=h.1;omega
    have:=PU r;exact⟨j.1,by omega⟩
  . rw[vZ l i f a k b];omega
/-! Counts are halved. -/
def im(x:Int):Int:=(x+1)/2
def bq(l:List Int):List Int:=l.map im
theorem ec(l:List Int):(bq l).length=l.length:=by simp[bq]
theorem qg(l:List Int)(i:Nat)(a:i<l.length):(bq l).getD i 0=im (l.getD i 0):=by simp[bq,List.getD,a]
theorem qG(l:List Int)(b:∀i,i<l.length->0<=l.getD i 0)(k:Nat)(c:k<=l.length):(ax (bq l) k).length=(ax l k).length:=by
 induction k with
 | zero=>rfl
 | succ k ih=>
  have a:=qg l k (by omega);have d:=b k (by omega);simp only[ax];by_cases h:0<l.getD k 0
  . rw[a0d h,a0d (by rw[a];unfold im;omega)];simp only[a0i,a1j];rw[ih (by omega)]
  . rw[a0e h,a0e (by rw[a];unfold im;omega),ih (by omega)]
def js(l:List Int):Nat:=(l.map Int.toNat).sum
theorem uW(l:List Int)(c:∀x∈l,0<=x):js (bq l)<=js l/\((∃x∈l,1<x)->js (bq l)<js l):=by
 induction l with
 | nil=>simp[js,bq]
 | cons x l ih=>
  have d:=ih (fun y a=>c y (by simp[a]));have f:=c x (by simp);simp only[js,bq,a0C,a0M]at d ⊢;have e:(im x).toNat<=x.toNat:=by unfold im;omega
  refine⟨by omega,?_⟩;rintro⟨y,a,b⟩;simp only[a0U]at a;rcases a with rfl|a
  .
   have:(im y).toNat<y.toNat:=by unfold im;omega
   omega
  . have:=d.2 ⟨y,a,b⟩;omega
def bG(o:List Int):Nat->Int
 | 0=>0
 | k+1=>if bG o k<o.getD k 0 then o.getD k 0 else bG o k
def fits(o:List Int)(m:Int):Bool:=decide (bG o o.length<=m)
theorem KN(a:0<=B)(h:yi o B)(k:Nat)(c:k<=o.length):bG o k<=B:=by
 induction k with
 | zero=>exact a
 | succ k ih=>
  have b:=ih (by omega);have h2:=(h k (by omega)).2;simp only[bG]
  split<;>assumption
theorem EM{m:Int}(a:0<=m)(h:yi o m):fits o m=true:=by
 unfold fits;exact a0F (KN a h _ (a0a _))
def oR(m:Int):Nat->List Int->List Int
 | 0,l=>bI l
 | f+1,l=>if fits (bI l) m then bI l else oR m f (bq l)
theorem uw{l:List Int}{m:Nat}(d:(ax l l.length).length<=p2 m)(b:fits (bI l) ((m:Int)+1)=false):∃x∈l,1<x:=by
 apply Classical.byContradiction;intro a;have c:NG l:=by
  intro i e;have f:l.getD i 0∈l:=by simp[List.getD,e]
  rcases a1u 1 (l.getD i 0)with h|h
  . exact absurd ⟨_,f,h⟩ a
  . exact h
 have:=EM (by omega) (KT l c m d);rw[this]at b;cases b
end Go.Proofs.YtgmfehnnebkaoaaGreatDoor
