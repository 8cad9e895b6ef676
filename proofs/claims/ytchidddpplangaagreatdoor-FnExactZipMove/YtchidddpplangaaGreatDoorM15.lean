/- Of what the proof is made: 5 texts, one behind the other. -/
import Derived.Test.YtchidddpplangaaGreatDoorM12
import Derived.Deep.RegionHeld3
import Derived.BigQuiet
import Derived.Test.YtchidddpplangaaGreatDoorM9
import Derived.Test.YtchidddpplangaaGreatDoorM6
set_option maxRecDepth 100000
set_option linter.unusedSimpArgs false
set_option linter.unusedVariables false
set_option maxHeartbeats 1600000
namespace Go.Proofs.YtchidddpplangaaGreatDoor
open Go.Proofs.Tryz
open Go.RowKit
variable {B:Int}{n:Nat}{o:List Int}
def aW(x y:Grp):Bool:=decide (x.cnt<y.cnt) || (decide (x.cnt=y.cnt)&&decide (x.fst<y.fst))
def ck(L:List Grp):Nat->Nat
 | 0=>0
 | k+1=>if aW (L.getD (k+1) g0) (L.getD (ck L k) g0)then k+1 else ck L k
def least(L:List Grp):Nat:=ck L (L.length-1)
theorem wk(L:List Grp)(k:Nat):ck L k<=k:=by
 induction k with
 | zero=>exact a0a _
 | succ k ih=>simp only[ck];split<;>omega
theorem eq(L:List Grp)(h:0<L.length):least L<L.length:=by
 have:=wk L (L.length-1);unfold least;omega
theorem qe(L:List Grp)(k:Nat):L.eraseIdx k=L.take k++L.drop (k+1):=a3K L k
theorem rp(a:Option Addr)(cap n base:Nat)(L:List Grp)(w:World)(u:L.length=n)(h:cF 284 w base (.slice a n cap) L)(B:1<=n)(x:n<=300) :
  Ds 207 #[.slice a n cap] w (.int .i64 (least L:Nat)):=by
 obtain⟨g,rfl⟩:=h.somes (by omega);have o:=ae u;have y:(n:Int)<=300:=by omega
 have v:=ae h;clear h u x;go_enter func207,ntmps207;go_wp2_with fail
 go_loopw [3,4] (fun b i wr=>∃k:Nat,k<n/\i = .int .i64 ((k:Int)+1)/\b = .int .i64 (ck L k:Nat)/\Below w.heap.size w wr) (fun _ i _=>n+1-(intOf i).toNat)
 case atStart=>exact⟨0,by omega,rfl,rfl,a0c _ _⟩
 case round=>
  obtain⟨k,C,rfl,rfl,e⟩:=hrel;have j:=ae e;have l:=ae ((ab v).later e (a0a _));clear e;by_cases f:k+1<n
  .
   have m:(k:Int)+1<(n:Int):=by omega
   have r:=wk L k;obtain⟨c0,c1,_,_,_⟩:=(ab l).at (ab o) (k+1) f;obtain⟨z,A,_,_,_⟩:=(ab l).at (ab o) (ck L k) (by omega);have D:((ck L k:Nat):Int)<(n:Int):=by omega
   have d:Hid (ck L (k+1)=if (decide ((L.getD (k+1) g0).cnt<(L.getD (ck L k) g0).cnt) || (decide ((L.getD (k+1) g0).cnt=(L.getD (ck L k) g0).cnt)&&decide ((L.getD (k+1) g0).fst<(L.getD (ck L k) g0).fst)))then k+1 else ck L k):=rfl;clear r;generalize ck L k=q at *
   generalize (L.getD (k+1) g0).cnt=x0 at *
   generalize (L.getD (k+1) g0).fst=x1 at *
   generalize (L.getD q g0).cnt=y0 at *
   generalize (L.getD q g0).fst=y1 at *
   by_cases s:x0<y0
   .
    have e0:decide (x0<y0)=true:=a0v s;have c:Hid (ck L (k+1)=k+1):=by have:=ab d;rw[e0]at this;exact ae (by simpa using this)
    go_wp2_with fail
    go_quiet (fail)
    go_wp2;go_roundw
    case rel=>exact⟨k+1,f,by go_num,by rw[ab c];go_num,below_drewN (ab j) _⟩
    case measure=>simp[intOf];omega
   .
    have e0:decide (x0<y0)=false:=a0h s;by_cases h2:x0=y0
    .
     subst h2;by_cases t:x1<y1
     .
      have e1:decide (x1<y1)=true:=a0v t;have c:Hid (ck L (k+1)=k+1):=by have:=ab d;rw[e0,e1]at this;exact ae (by simpa using this)
      go_wp2_with fail
      go_quiet (fail)
      go_wp2;go_roundw
      case rel=>exact⟨k+1,f,by go_num,by rw[ab c];go_num,below_drewN (ab j) _⟩
      case measure=>simp[intOf];omega
     .
      have e1:decide (x1<y1)=false:=a0h t;have c:Hid (ck L (k+1)=q):=by have:=ab d;rw[e0,e1]at this;exact ae (by simpa using this)
      go_wp2_with fail
      go_quiet (fail)
      go_wp2;go_roundw
      case rel=>exact⟨k+1,f,by go_num,by rw[ab c],below_drewN (ab j) _⟩
      case measure=>simp[intOf];omega
    .
     have g1:(x0 == y0)=false:=by simpa using h2
     have c:Hid (ck L (k+1)=q):=by have:=ab d;rw[e0,a0h h2]at this;exact ae (by simpa using this)
     go_wp2_with fail
     go_quiet (fail)
     go_wp2;go_roundw
     case rel=>exact⟨k+1,f,by go_num,by rw[ab c],below_drewN (ab j) _⟩
     case measure=>simp[intOf];omega
  .
   have p:Hid (least L=ck L k):=by
    show least L=ck L k;unfold least;rw[ab o]
    congr 1;omega
   have m:¬ (k:Int)+1<(n:Int):=by omega
   go_wp2;go_ret;exact⟨aH (by rw[ab p]),ab j⟩
theorem Tryz.infoTree:(prog.info? 284).map (fun i=>(i.zero,i.size,i.bytes))=some (some (.agg #[.int .i64 0,.int .i64 0,.slice none 0 0]),3,40):=by kernel_rfl
theorem Ls{t:TypeId}{x:World}{base m:Nat}{v:Value}{l r:List Grp}(b:l.length=n)(a:r.length=m)(h:x.ownsRow base t 3 v (n+m) (aP l++aP r)):cF t x base v (l++r):=by
 subst b a;show World.ownsRow _ _ _ _ _ (l++r).length _;rw[a0j,kg];exact h
theorem Eo(g n cap k:Nat)(e:k<=cap)(d:0<cap)(W:World):(Instr.slice 282 (.slice (some ⟨g,0,none⟩) n cap) none (some (.int .i64 (k:Int))) none).run prog W = .ok (.slice (some ⟨g,0,none⟩) k cap) W:=by
 have b:¬ cap=0:=by omega
 have a:(k:Int)<=(cap:Int):=by omega
 have c:(0:Int)<=(k:Int):=by omega
 go_simp
theorem Ep(g n cap k:Nat)(d:k<=n)(W:World):(Instr.slice 282 (.slice (some ⟨g,0,none⟩) n cap) (some (.int .i64 ((k:Int)))) none none).run prog W = .ok (.slice (some ⟨g,if cap=k then 0 else k*3,none⟩) (n-k) (cap-k)) W:=by
 have a:(k:Int)<=(n:Int):=by omega
 have b:(0:Int)<=(k:Int):=by omega
 by_cases c:cap=k
 . go_simp
 . go_simp
theorem tQ(a:Option Addr)(cap n base ob k:Nat)(L:List Grp)(w:World)(O:L.length=n)(h:cF 284 w base (.slice a n cap) L)(T:dM w ob L)(hk:k<n)(hm:n<=300) :
  Calls prog 208 #[.slice a n cap,.int .i64 (k:Int)] w fun e w'=>(∃v,e = .returned v/\cF 284 w' w.heap.size v (L.eraseIdx k))/\Below w.heap.size w w':=by
 obtain⟨g,rfl⟩:=h.somes (by omega);have p:=h.cap O;have t:=ae O;have aa:(n:Int)<=300:=by omega
 have Y:(n:Int)<=(cap:Int):=by omega
 have Z:(cap:Int)<=9223372036854775807:=by have:=p.2;unfold maxLen at this;omega
 have Q:=ae h;have P:=ae T;obtain⟨i0,R,B,C,D⟩:=a0o Tryz.infoTree;clear h O hm T p;obtain⟨o2,ho2⟩:∃o2,(if cap=k+1 then 0 else(k+1)*3)=o2:=⟨_,rfl⟩;have ac:=Eo g n cap k (by omega) (by omega);have A:=Ep g n cap (k+1) (by omega);have ek:((k+1:Nat):Int)=(k:Int)+1:=by omega
 rw[ek]at A;rw[ho2]at A;have ad:IntKind.i64.wrap ((k:Int)+1)=(k:Int)+1:=by simp[IntKind.wrap,IntKind.bits,IntKind.signed];omega
 have U:=ae ho2;clear ho2 ek;have J:Hid (∀W,Below w.heap.size w W->∀j u,(aP (L.take k))[j]?=some u->W.cell? ((⟨g,0,none⟩:Addr).add j)=some u):=by
  intro W M j u o;exact cF.news (ab t) ((ab Q).later M (a0a _)) 0 k 0 rfl (by omega) j u (by simpa using o)
 have K:Hid (∀W,Below w.heap.size w W->∀j u,(aP (L.drop (k+1)))[j]?=some u->W.cell? ((⟨g,o2,none⟩:Addr).add j)=some u):=by
  intro W M j u o;have V:=ab t;by_cases X:cap=k+1
  . have hd:L.drop (k+1)=[]:=a3J (by omega);rw[hd]at o;simp[aP]at o
  . have S:=ab U;rw[a0d X]at S;refine cF.news (ab t) ((ab Q).later M (a0a _)) (k+1) (n-(k+1)) o2 S.symm (by omega) j u ?_;rw[a0u (by rw[a04];omega)];exact o
 have H:Hid (∀u∈aP (L.take k),u.oneCell'=true):=uT (fun g N=>ab P g (a2d N));have I:Hid (∀u∈aP (L.drop (k+1)),u.oneCell'=true):=uT (fun g N=>ab P g (List.mem_of_mem_drop N));have F:Hid ((aP (L.take k)).length=k*3):=by show(aP (L.take k)).length=k*3;rw[lA,a0s,ab t];congr 1;omega
 have G:Hid ((aP (L.drop (k+1))).length=(n-(k+1))*3):=by show(aP (L.drop (k+1))).length=(n-(k+1))*3;rw[lA,a04,ab t]
 have x:World.ownsRow (w.alloc (.cells #[] 284)).drew w.heap.size 284 3 (.slice (some ⟨w.heap.size,0,none⟩) 0 0) 0 []:=a05 w #[] 0 (a0a _) (by unfold maxLen;omega) rfl;have y:Hid (0+k<=maxLen/\(0+k)*40<=140737488355328):=by show _/\_;unfold maxLen;omega
 have z:Hid (0+k+(n-(k+1))<=maxLen/\(0+k+(n-(k+1)))*40<=140737488355328):=by show _/\_;unfold maxLen;omega
 have l:Below w.heap.size w (w.alloc (.cells #[] 284)).drew:=((a0c _ _).alloc (a0a _) _).drew;go_enter func208,ntmps208;go_wp2_with fail
 go_region_held3 (fun _=>True) (trivial) (first
  | (refine aL rfl (.tmp 5) (.tmp 8) 282 rfl w.heap.size 284 i0 (.agg #[.int .i64 0,.int .i64 0,.slice none 0 0]) 3 40 a3L R B C D rfl (a1O 2) (.slice (some ⟨w.heap.size,0,none⟩) 0 0) _ _ rfl x ⟨g,0,none⟩ k cap (aP (L.take k)) rfl (ab F) (ab J _ l) (ab H) (ab y).1 (ab y).2 l.size ?_;intro v1 x1 b c r;clear r;have i:Below w.heap.size w x1:=l.grown c l.size (fun j o=>(a0y x j o).1))
  | (refine aL rfl (.tmp 9) (.tmp 13) 282 rfl w.heap.size 284 i0 (.agg #[.int .i64 0,.int .i64 0,.slice none 0 0]) 3 40 a3L R B C D rfl (a1O 2) v1 _ _ rfl b ⟨g,o2,none⟩ (n-(k+1)) (cap-(k+1)) (aP (L.drop (k+1))) rfl (ab G) (ab K _ i) (ab I) (ab z).1 (ab z).2 i.size ?_;intro v2 x2 f d s;clear s;have E:Below w.heap.size w x2:=i.grown d i.size (fun j o=>(a0y b j o).1)))
 have q:cF 284 x2 w.heap.size v2 (L.eraseIdx k):=by
  rw[qe];have V:=ab t;refine Ls (n:=0+k) (m:=n-(k+1)) (by rw[a0s];omega) (by rw[a04];omega) ?_;simpa using f
 obtain⟨va,vc,rfl⟩:=q.form;clear b f c d;go_wp2;go_ret;exact⟨⟨_,rfl,q⟩,E⟩
def bare(g:Grp):Grp:=⟨g.cnt,g.fst,g.syms,.slice none 0 0⟩
def ay(l:List Int):Nat->List Grp
 | 0=>[]
 | k+1=>if 0<l.getD k 0 then ay l k++[⟨l.getD k 0,(k:Int),[(k:Int)],.slice none 0 0⟩]else ay l k
def dW(a b:Grp):Grp:=⟨a.cnt+b.cnt,if b.fst<a.fst then b.fst else a.fst,a.syms++b.syms,.slice none 0 0⟩
def az(M:List Grp):Grp:=M.getD (least M) g0
def ap(M:List Grp):List Grp:=M.eraseIdx (least M)
def stepG(M:List Grp):List Grp:=ap (ap M)++[dW (az M) (az (ap M))]
def bh(M:List Grp):List Int:=(az M).syms++(az (ap M)).syms
def fI(o:List Int)(i:Int):List Int:=o.set i.toNat (o.getD i.toNat 0+1)
def bump(o s:List Int):List Int:=s.foldl fI o
def ax(l:List Int):Nat->List Grp×List Int
 | 0=>(ay l l.length,List.replicate l.length 0)
 | k+1=>(stepG (ax l k).1,bump (ax l k).2 (bh (ax l k).1))
def bS(l:List Int):List Int:=if (ay l l.length).length=1 then(List.replicate l.length 0).set ((ay l l.length).getD 0 g0).fst.toNat 1 else(ax l ((ay l l.length).length-1)).2
theorem mU(o:List Int)(i:Int):(fI o i).length=o.length:=by simp[fI]
theorem oN(o s:List Int):(bump o s).length=o.length:=by
 induction s generalizing o with
 | nil=>rfl
 | cons i s ih=>show(bump (fI o i) s).length=_;rw[ih,mU]
theorem eo(l:List Int)(k:Nat):(ax l k).2.length=l.length:=by
 induction k with
 | zero=>simp[ax]
 | succ k ih=>simp only[ax];rw[oN,ih]
theorem iF(l:List Int):(bS l).length=l.length:=by
 unfold bS
 split
 . simp
 . exact eo l _
theorem vF(o s:List Int)(k:Nat)(h:k<s.length):bump o (s.take (k+1))=fI (bump o (s.take k)) (s.getD k 0):=by
 rw[ci s k h];simp[bump]
/-! What is bare is as it was. -/
theorem uc(x y:Grp):aW (bare x) (bare y)=aW x y:=rfl
theorem nb(L:List Grp)(k:Nat):(L.map bare).getD k g0=bare (L.getD k g0):=by
 simp only[List.getD];rw[List.getElem?_map];cases L[k]? <;> rfl
theorem Ag(L:List Grp)(k:Nat):ck (L.map bare) k=ck L k:=by
 induction k with
 | zero=>rfl
 | succ k ih=>simp only[ck];rw[ih,nb,nb,uc]
theorem tW(L:List Grp):least (L.map bare)=least L:=by
 unfold least;rw[Ag,a0K]
theorem jN(L:List Grp):az (L.map bare)=bare (az L):=by
 unfold az;rw[tW,nb]
theorem oz(L:List Grp):ap (L.map bare)=(ap L).map bare:=by
 unfold ap;rw[tW,qe,qe,a0I,List.map_take,List.map_drop]
theorem H9(M:List Grp):stepG (M.map bare)=(ap (ap M)).map bare++[dW (az M) (az (ap M))]:=by
 unfold stepG;rw[oz,oz,jN,jN];rfl
theorem Ih(M:List Grp):bh (M.map bare)=bh M:=by
 unfold bh;rw[oz,jN,jN];rfl
/-! Bounds. -/
def WFg(n:Nat)(g:Grp):Prop:=0<=g.cnt/\0<=g.fst/\g.fst<(n:Int)/\(∀s∈g.syms,0<=s/\s<(n:Int))/\0<g.syms.length
def WFL(n:Nat)(M:List Grp):Prop:=∀g∈M,WFg n g
def gh(M:List Grp):Int:=(M.map Grp.cnt).sum
def kh(M:List Grp):Nat:=(M.map (fun g=>g.syms.length)).sum
theorem fK(M:List Grp)(k:Nat)(h:k<M.length):M.getD k g0∈M:=by simp[List.getD,h]
theorem oI(M:List Grp)(k:Nat)(h:k<M.length):gh M=(M.getD k g0).cnt+gh (M.eraseIdx k):=by
 induction M generalizing k with
 | nil=>simp at h
 | cons g M ih=>
  cases k with
  | zero=>simp[gh,List.eraseIdx]
  | succ k=>
   have:=ih k (by simpa using h);simp only[gh,List.eraseIdx_cons_succ,a0H,a0M,a2v]at this ⊢;omega
theorem lE(M:List Grp)(k:Nat)(h:k<M.length):kh M=(M.getD k g0).syms.length+kh (M.eraseIdx k):=by
 induction M generalizing k with
 | nil=>simp at h
 | cons g M ih=>
  cases k with
  | zero=>simp[kh,List.eraseIdx]
  | succ k=>
   have:=ih k (by simpa using h);simp only[kh,List.eraseIdx_cons_succ,a0H,a0M,a2v]at this ⊢;omega
theorem di(M:List Grp)(h:0<M.length):(ap M).length=M.length-1:=by
 unfold ap;rw[List.length_eraseIdx,a0e (eq M h)]
theorem rN(A B:List Grp):gh (A++B)=gh A+gh B:=by simp[gh]
theorem rO(A B:List Grp):kh (A++B)=kh A+kh B:=by simp[kh]
theorem Li(M:List Grp)(h:1<M.length):gh (stepG M)=gh M/\kh (stepG M)=kh M/\(stepG M).length=M.length-1:=by
 have a:=oI M (least M) (eq M (by omega));have h2:=lE M (least M) (eq M (by omega));have e:=di M (by omega);have b:=oI (ap M) (least (ap M)) (eq _ (by omega));have c:=lE (ap M) (least (ap M)) (eq _ (by omega));have d:=di (ap M) (by omega);have e1:M.getD (least M) g0=az M:=rfl;have e2:(ap M).getD (least (ap M)) g0=az (ap M):=rfl;have e3:M.eraseIdx (least M)=ap M:=rfl;have e4:(ap M).eraseIdx (least (ap M))=ap (ap M):=rfl;rw[e1,e3]at a h2;rw[e2,e4]at b c;refine⟨?_,?_,?_⟩
 .
  unfold stepG;rw[rN];have:gh [dW (az M) (az (ap M))]=(az M).cnt+(az (ap M)).cnt:=by simp[gh,dW]
  omega
 .
  unfold stepG;rw[rO];have:kh [dW (az M) (az (ap M))]=(az M).syms.length+(az (ap M)).syms.length:=by simp[kh,dW]
  omega
 . unfold stepG;simp;omega
theorem bg(M:List Grp):∀g∈ap M,g∈M:=fun _ a=>List.mem_of_mem_eraseIdx a
theorem bv(M:List Grp)(h:0<M.length):az M∈M:=fK M _ (eq M h)
theorem Na{M:List Grp}(c:WFL n M)(h:1<M.length):WFL n (stepG M):=by
 have l:=di M (by omega);have e:=c _ (bv M (by omega));have hb:=c _ (bg M _ (bv (ap M) (by omega)));intro g b;simp only[stepG,a0T,a07]at b;rcases b with b|rfl
 . exact c g (bg M _ (bg _ _ b))
 .
  obtain⟨a0,a1,a2,a3,a4⟩:=e;obtain⟨f,i,j,d,k⟩:=hb;refine⟨?_,?_,?_,?_,?_⟩
  . simp only[dW];omega
  . simp only[dW];split<;>assumption
  . simp only[dW];split<;>assumption
  .
   intro s a;simp only[dW,a0T]at a;rcases a with a|a
   . exact a3 s a
   . exact d s a
  . simp only[dW,a0j];omega
theorem Fj(l:List Int)(k:Nat)(c:k<=l.length):WFL l.length (ay l k):=by
 induction k with
 | zero=>intro g a;simp[ay]at a
 | succ k ih=>
  simp only[ay]
  split
  case isTrue h=>
   intro g a;simp only[a0T,a07]at a;rcases a with a|rfl
   . exact ih (by omega) g a
   . refine⟨by simp only;omega,by simp only;omega,by simp only;omega,?_,by simp⟩;intro s b;simp only[a07]at b;subst b;omega
  case isFalse=>exact ih (by omega)
theorem kK(l:List Int)(C:Int)(d:0<=C)(b:∀i,i<l.length->l.getD i 0<=C)(k:Nat)(f:k<=l.length):gh (ay l k)<=C*k/\kh (ay l k)<=k/\(ay l k).length<=k:=by
 induction k with
 | zero=>simp[ay,gh,kh]
 | succ k ih=>
  obtain⟨a,h2,c⟩:=ih (by omega);have hb:=b k (by omega);have e:C*((k+1:Nat):Int)=C*(k:Int)+C:=by rw[show((k+1:Nat):Int)=(k:Int)+1 by omega,Int.mul_add,Int.mul_one]
  simp only[ay]
  split
  .
   rw[rN,rO];refine⟨?_,?_,?_⟩
   . simp only[gh,a0H,a1X,a0M,a28]at a ⊢;omega
   . simp only[kh,a0H,a1X,a0M,a28,a1o]at h2 ⊢;omega
   . simp;omega
  . refine⟨by omega,by omega,by omega⟩
theorem cb(l:List Int)(k:Nat)(e:k<(ay l l.length).length∨k=0):WFL l.length (ax l k).1/\gh (ax l k).1=gh (ay l l.length)/\kh (ax l k).1=kh (ay l l.length)/\(ax l k).1.length=(ay l l.length).length-k:=by
 induction k with
 | zero=>exact⟨Fj l _ (a0a _),rfl,rfl,rfl⟩
 | succ k ih=>
  obtain⟨b,h2,c,d⟩:=ih (by omega);have a:1<(ax l k).1.length:=by omega
  obtain⟨t1,t2,t3⟩:=Li _ a;refine⟨Na b a,by simp only[ax];omega,by simp only[ax];omega,by simp only[ax];omega⟩
theorem NR{M:List Grp}(c:WFL n M){g:Grp}(a:g∈M):g.cnt<=gh M:=by
 induction M with
 | nil=>cases a
 | cons x M ih=>
  have h:=(c x (by simp)).1;have e:0<=gh M:=by
   clear ih a;have b:WFL n M:=fun y d=>c y (by simp[d]);clear c;induction M with
   | nil=>simp[gh]
   | cons y M ih2=>
    have:=ih2 (fun z f=>b z (by simp[f]));have d:=(b y (by simp)).1;simp only[gh,a0H,a0M]at this ⊢;omega
  simp only[a0U]at a;simp only[gh,a0H,a0M]at e ih ⊢;rcases a with rfl|a
  . omega
  . have:=ih (fun y d=>c y (by simp[d])) a;omega
theorem yC{M:List Grp}(d:WFL n M)(h:1<M.length):(az M).cnt+(az (ap M)).cnt<=gh M/\(bh M).length<=kh M:=by
 have f:=di M (by omega);have a:=oI M (least M) (eq M (by omega));have h2:=lE M (least M) (eq M (by omega));have b:=lE (ap M) (least (ap M)) (eq _ (by omega));have e1:M.getD (least M) g0=az M:=rfl;have e2:(ap M).getD (least (ap M)) g0=az (ap M):=rfl;have e3:M.eraseIdx (least M)=ap M:=rfl;rw[e1,e3]at a h2;rw[e2]at b;have e:=NR (n:=n) (M:=ap M) (fun g c=>d g (bg M _ c)) (bv (ap M) (by omega));refine⟨by omega,?_⟩;unfold bh;rw[a0j];omega
/-! Lengths stay small. -/
def yd(o:List Int)(B:Int):Prop:=∀i,i<o.length->0<=o.getD i 0/\o.getD i 0<=B
theorem FK(h:yd o B)(i:Int):yd (fI o i) (B+1):=by
 intro j a;rw[mU]at a;have b:=h j a;by_cases e:i.toNat=j
 . subst e;simp only[fI,List.getD];rw[List.getElem?_set_self a];simp only[a1x];have:=h i.toNat a;simp only[List.getD]at this;omega
 .
  have:(fI o i).getD j 0=o.getD j 0:=by
   simp only[fI,List.getD];rw[List.getElem?_set_ne e]
  rw[this];omega
theorem sT(h:yd o B)(s:List Int):yd (bump o s) (B+s.length):=by
 induction s generalizing o B with
 | nil=>intro i a;have:=h i a;simp only[bump,List.foldl_nil,a0S];omega
 | cons i s ih=>
  have:=ih (FK h i);intro j b;have h2:=this j b;simp only[a0D];show 0<=(bump (fI o i) s).getD j 0/\_;refine⟨h2.1,?_⟩;have:=h2.2;show(bump (fI o i) s).getD j 0<=_;omega
theorem tr(l:List Int)(d:∀i,i<l.length->l.getD i 0<=100000)(h:l.length<=300)(k:Nat)(g:k<(ay l l.length).length∨k=0):yd (ax l k).2 (300*(k:Int)):=by
 induction k with
 | zero=>
  intro i a;have:(ax l 0).2.getD i 0=0:=by
   simp only[ax,List.getD];simp only[ax,a0x]at a;simp[a]
  rw[this];omega
 | succ k ih=>
  have a:=ih (by omega);obtain⟨c,h2,e,f⟩:=cb l k (by omega);have m:=(yC c (by omega)).2;have j:=(kK l 100000 (by omega) d l.length (a0a _)).2.1;have hb:=sT a (bh (ax l k).1);intro i b;have:=hb i b;simp only[ax]at this ⊢;omega
/-! What is counted once more. -/
theorem vE(o:List Int)(i:Int)(j:Nat)(b:0<=i)(a:j<o.length):(fI o i).getD j 0=o.getD j 0+(if i=(j:Int)then 1 else 0):=by
 by_cases e:i=(j:Int)
 .
  rw[a0e e];have e2:i.toNat=j:=by omega
  simp only[fI,List.getD];rw[e2,List.getElem?_set_self a,a1x]
 .
  rw[a0d e];have e2:i.toNat≠j:=by omega
  simp only[fI,List.getD];rw[List.getElem?_set_ne e2];omega
theorem lX(o s:List Int)(j:Nat)(a:s.Nodup)(b:∀x∈s,0<=x)(c:j<o.length):(bump o s).getD j 0=o.getD j 0+(if (j:Int)∈s then 1 else 0):=by
 induction s generalizing o with
 | nil=>simp[bump]
 | cons x s ih=>
  show(bump (fI o x) s).getD j 0=_;rw[List.nodup_cons]at a;rw[ih (fI o x) a.2 (fun y d=>b y (by simp[d])) (by rw[mU];exact c),vE o x j (b x (by simp)) c];by_cases e:x=(j:Int)
  . subst e;rw[a0e rfl,a0d a.1,a0e (by simp)];omega
  .
   rw[a0d e];by_cases h2:(j:Int)∈s
   . rw[a0e h2,a0e (by simp[h2])];omega
   . rw[a0d h2,a0d (by simp only[a0U,not_or];exact⟨fun e2=>e e2.symm,h2⟩)];omega
/-! All symbols, each once. -/
def bo(M:List Grp):List Int:=M.flatMap Grp.syms
theorem DZ(M:List Grp)(k:Nat)(h:k<M.length):(M.getD k g0 :: M.eraseIdx k).Perm M:=by
 induction M generalizing k with
 | nil=>simp at h
 | cons x M ih=>
  cases k with
  | zero=>exact a2l _
  | succ k=>
   rw[a2v,List.eraseIdx_cons_succ];exact(a3M _ _ _).trans (List.Perm.cons x (ih k (by simpa using h)))
theorem lv(M:List Grp)(h:0<M.length):(az M :: ap M).Perm M:=DZ M _ (eq M h)
theorem uB(M:List Grp)(h:1<M.length):(az M :: az (ap M) :: ap (ap M)).Perm M:=by
 have a:=di M (by omega);exact(List.Perm.cons _ (lv (ap M) (by omega))).trans (lv M (by omega))
theorem qg{A B:List Grp}(h:A.Perm B):(bo A).Perm (bo B):=by
 induction h with
 | nil=>exact a2l _
 | cons x _ ih=>
  simp only[bo,a0V]at ih ⊢;exact List.Perm.append_left _ ih
 | swap x y l=>
  simp only[bo,a0V];rw[←a0L,←a0L];exact List.Perm.append_right _ List.perm_append_comm
 | trans _ _ h1 h2=>exact h1.trans h2
theorem vU(M:List Grp)(h:1<M.length):(bo (stepG M)).Perm (bo M):=by
 refine List.Perm.trans ?_ (qg (uB M h));unfold stepG bo;rw[a12];refine List.perm_append_comm.trans ?_;simp[dW]
theorem Gd(l:List Int)(k:Nat):(bo (ay l k)).Nodup/\∀x∈bo (ay l k),0<=x/\x<(k:Int):=by
 induction k with
 | zero=>simp[ay,bo]
 | succ k ih=>
  simp only[ay]
  split
  .
   have e:bo (ay l k++[⟨l.getD k 0,(k:Int),[(k:Int)],.slice none 0 0⟩])=bo (ay l k)++[(k:Int)]:=by simp[bo]
   rw[e];refine⟨?_,?_⟩
   . rw[a3N];refine⟨ih.1,by simp,?_⟩;intro x a y b;simp only[a07]at b;subst b;have:=(ih.2 x a).2;omega
   .
    intro x a;simp only[a0T,a07]at a;rcases a with a|rfl
    . have:=ih.2 x a;omega
    . omega
  . exact⟨ih.1,fun x a=>by have:=ih.2 x a;omega⟩
theorem gW(l:List Int)(k:Nat)(d:k<(ay l l.length).length∨k=0):(bo (ax l k).1).Nodup/\∀x∈bo (ax l k).1,0<=x/\x<(l.length:Int):=by
 induction k with
 | zero=>exact Gd l _
 | succ k ih=>
  have a:=ih (by omega);have e:=(cb l k (by omega)).2.2.2;have b:=vU (ax l k).1 (by omega);exact⟨(b.nodup_iff).2 a.1,fun x c=>a.2 x (b.mem_iff.1 c)⟩
theorem jE(M:List Grp)(h:1<M.length):((bh M)++bo (ap (ap M))).Perm (bo M):=by
 refine List.Perm.trans ?_ (qg (uB M h));simp[bh,bo]
theorem jC{M:List Grp}(h:1<M.length)(c:(bo M).Nodup):(bh M).Nodup/\∀g∈ap (ap M),∀s∈g.syms,s ∉ bh M:=by
 have h2:=((jE M h).nodup_iff).2 c;rw[a3N]at h2;refine⟨h2.1,fun g a s d b=>?_⟩;exact h2.2.2 s b s (by simp only[bo,List.mem_flatMap];exact⟨g,a,d⟩) rfl
theorem lj(l:List Int)(k:Nat)(g:k<(ay l l.length).length∨k=0):yd (ax l k).2 (k:Int):=by
 induction k with
 | zero=>
  intro i c;have:(ax l 0).2.getD i 0=0:=by
   simp only[ax,List.getD];simp only[ax,a0x]at c;simp[c]
  rw[this];omega
 | succ k ih=>
  have c:=ih (by omega);have h:=(cb l k (by omega)).2.2.2;have d:=gW l k (by omega);have e:=jC (M:=(ax l k).1) (by omega) d.1;intro i a;simp only[ax]at a ⊢;rw[oN]at a;have b:∀x∈bh (ax l k).1,0<=x:=fun x f=>(d.2 x ((jE _ (by omega)).mem_iff.1 (by simp[f]))).1;rw[lX _ _ i e.1 b a];have:=c i a
  split<;>omega
/-! Where all come as often. -/
def Kd(K:Nat)(o:List Int)(g:Grp):Prop:=g.cnt=(p2 K:Nat)/\∀s∈g.syms,o.getD s.toNat 0<=(K:Int)
def N9(K:Nat)(o:List Int)(g:Grp):Prop:=g.cnt=(p2 (K+1):Nat)/\∀s∈g.syms,o.getD s.toNat 0<=(K:Int)+1
def Av(K:Nat)(o:List Int)(g:Grp):Prop:=(p2 K:Nat)<g.cnt/\g.cnt<(p2 (K+1):Nat)/\∀s∈g.syms,o.getD s.toNat 0<=(K:Int)+1
def Lvl(K:Nat)(o:List Int)(M:List Grp):Prop:=(∀g∈M,Kd K o g∨N9 K o g∨Av K o g)/\M.Pairwise (fun x y=>¬ (Av K o x/\Av K o y))
theorem Dx (L : List Grp) (k j : Nat) (hj : j ≤ k) : (L.getD (ck L k) g0).cnt ≤ (L.getD j g0).cnt := by
  induction k with
  | zero => have : j = 0 := by omega
            subst this; exact a29 _
  | succ k ih =>
    simp only [ck]
    by_cases e : j = k + 1
    . subst e
      split
      . exact a29 _
      . rename_i h
        simp only [aW, a1y, a0w, not_or] at h
        have := h.1
        omega
    . have := ih (by omega)
      split
      . rename_i h
        simp only [aW, a1y, a0n, a0w] at h
        omega
      . exact this
theorem vS(M:List Grp)(g:Grp)(a:g∈M):(az M).cnt<=g.cnt:=by
 obtain⟨i,b,rfl⟩:=a1z a;have:=Dx M (M.length-1) i (by omega);have e:M.getD i g0=M[i]:=by simp[List.getD,b]
 rw[e]at this;exact this
theorem Kf{K:Nat}{M:List Grp}(h:1<M.length)(l:Lvl K o M)(Y:(bo M).Nodup)(T:∀x∈bo M,0<=x/\x<(o.length:Int)):Lvl K (bump o (bh M)) (stepG M)∨Lvl (K+1) (bump o (bh M)) (stepG M):=by
 have hr:=di M (by omega);obtain⟨L,N⟩:=jC h Y;have r:=jE M h;have F:∀x∈bh M,0<=x:=fun x f=>(T x (r.mem_iff.1 (by simp[f]))).1;have R:=bv M (by omega);have hb:=bg M _ (bv (ap M) (by omega));have u:∀g∈ap (ap M),g∈M:=fun g a=>bg M _ (bg _ _ a);have X:(az M).cnt<=(az (ap M)).cnt:=vS M _ hb;have m:∀g∈ap (ap M),(az (ap M)).cnt<=g.cnt:=fun g a=>vS (ap M) g (bg _ _ a);have J:p2 (K+1)=p2 K*2:=lr K;have aa:p2 (K+1+1)=p2 (K+1)*2:=lr (K+1);have Z:=mw K;have p:∀x,x∈bo M->(bump o (bh M)).getD x.toNat 0=o.getD x.toNat 0+(if x∈bh M then 1 else 0):=by
  intro x f;have hb:=T x f;rw[lX o (bh M) x.toNat L F (by omega)];have e:((x.toNat:Nat):Int)=x:=by omega
  rw[e]
 have D:∀g∈M,∀x∈g.syms,x∈bo M:=fun g a x i=>by simp only[bo,List.mem_flatMap];exact⟨g,a,i⟩
 have hold:∀g∈ap (ap M),∀x∈g.syms,(bump o (bh M)).getD x.toNat 0=o.getD x.toNat 0:=by
  intro g a x i;rw[p x (D g (u g a) x i),a0d (N g a x i)];omega
 have q:∀x,x∈bh M->(bump o (bh M)).getD x.toNat 0=o.getD x.toNat 0+1:=by
  intro x f;rw[p x (r.mem_iff.1 (by simp[f])),a0e f]
 have G:(az M :: az (ap M) :: ap (ap M)).Pairwise (fun x y=>¬ (Av K o x/\Av K o y)):=
  ((uB M h).pairwise_iff (fun{x y} j H=>j ⟨H.2,H.1⟩)).2 l.2
 rw[List.pairwise_cons,List.pairwise_cons]at G;obtain⟨P,Q,I⟩:=G;have t:(dW (az M) (az (ap M))).cnt=(az M).cnt+(az (ap M)).cnt:=rfl;have C:∀x,x∈(dW (az M) (az (ap M))).syms<->x∈bh M:=fun x=>Iff.rfl;by_cases v:Kd K o (az M)/\Kd K o (az (ap M))
 .
  left;obtain⟨⟨a1,a2⟩,c,W⟩:=v;have S:N9 K (bump o (bh M)) (dW (az M) (az (ap M))):=by
   refine⟨by rw[t,a1,c,J];omega,fun x f=>?_⟩;have d:=(C x).1 f;rw[q x d];simp only[bh,a0T]at d;rcases d with d|d
   . have:=a2 x d;omega
   . have:=W x d;omega
  have n:∀g∈ap (ap M),Av K (bump o (bh M)) g->Av K o g:=fun g a n=>⟨n.1,n.2.1,fun x f=>by have:=n.2.2 x f;rw[hold g a x f]at this;exact this⟩;refine⟨fun g a=>?_,?_⟩
  .
   simp only[stepG,a0T,a07]at a;rcases a with a|rfl
   .
    rcases l.1 g (u g a)with b|b|b
    . exact .inl ⟨b.1,fun x f=>by rw[hold g a x f];exact b.2 x f⟩
    . exact .inr (.inl ⟨b.1,fun x f=>by rw[hold g a x f];exact b.2 x f⟩)
    . exact .inr (.inr ⟨b.1,b.2.1,fun x f=>by rw[hold g a x f];exact b.2.2 x f⟩)
   . exact .inr (.inl S)
  .
   unfold stepG;rw[List.pairwise_append];refine⟨?_,by simp,?_⟩
   . refine List.Pairwise.imp_of_mem ?_ I;intro x y i O j k;exact j ⟨n x i k.1,n y O k.2⟩
   . intro x _ y U j;simp only[a07]at U;subst U;have b:=S.1;have h2:=j.2.2.1;omega
 .
  right;have A:((p2 K:Nat):Int)<=(az M).cnt/\(az M).cnt<=((p2 (K+1):Nat):Int)/\((p2 K:Nat):Int)<(az (ap M)).cnt/\(az (ap M)).cnt<=((p2 (K+1):Nat):Int)/\∀g∈ap (ap M),N9 K o g:=by
   rcases l.1 _ R with a1|a1|a1
   .
    rcases l.1 _ hb with c|c|c
    . exact absurd ⟨a1,c⟩ v
    .
     refine⟨by rw[a1.1];omega,by rw[a1.1];omega,by rw[c.1];omega,by rw[c.1];omega,fun g a=>?_⟩;have s:=m g a;rcases l.1 g (u g a)with b|b|b
     . have:=b.1;have:=c.1;omega
     . exact b
     . have:=b.2.1;have:=c.1;omega
    .
     refine⟨by rw[a1.1];omega,by rw[a1.1];omega,c.1,by have:=c.2.1;omega,fun g a=>?_⟩;have s:=m g a;rcases l.1 g (u g a)with b|b|b
     . have:=b.1;have:=c.1;omega
     . exact b
     . exact absurd ⟨c,b⟩ (Q g a)
   .
    rcases l.1 _ hb with c|c|c
    . have:=a1.1;have:=c.1;omega
    .
     refine⟨by rw[a1.1];omega,by rw[a1.1];omega,by rw[c.1];omega,by rw[c.1];omega,fun g a=>?_⟩;have s:=m g a;rcases l.1 g (u g a)with b|b|b
     . have:=b.1;have:=c.1;omega
     . exact b
     . have:=b.2.1;have:=c.1;omega
    . have:=a1.1;have:=c.2.1;omega
   .
    rcases l.1 _ hb with c|c|c
    . have:=a1.1;have:=c.1;omega
    .
     refine⟨by have:=a1.1;omega,by have:=a1.2.1;omega,by rw[c.1];omega,by rw[c.1];omega,fun g a=>?_⟩;have s:=m g a;rcases l.1 g (u g a)with b|b|b
     . have:=b.1;have:=c.1;omega
     . exact b
     . have:=b.2.1;have:=c.1;omega
    . exact absurd ⟨a1,c⟩ (P _ (by simp))
  obtain⟨q1,q2,q3,q4,V⟩:=A;have w:∀g∈M,∀x∈g.syms,o.getD x.toNat 0<=(K:Int)+1:=by
   intro g a x f;rcases l.1 g a with b|b|b
   . have:=b.2 x f;omega
   . exact b.2 x f
   . exact b.2.2 x f
  have B:∀x∈(dW (az M) (az (ap M))).syms,(bump o (bh M)).getD x.toNat 0<=((K+1:Nat):Int)+1:=by
   intro x f;have d:=(C x).1 f;rw[q x d];simp only[bh,a0T]at d;rcases d with d|d
   . have:=w _ R x d;omega
   . have:=w _ hb x d;omega
  have z:∀g∈ap (ap M),Kd (K+1) (bump o (bh M)) g:=fun g a=>⟨(V g a).1,fun x f=>by rw[hold g a x f];have:=(V g a).2 x f;omega⟩;refine⟨fun g a=>?_,?_⟩
  .
   simp only[stepG,a0T,a07]at a;rcases a with a|rfl
   . exact .inl (z g a)
   .
    by_cases e:(dW (az M) (az (ap M))).cnt=((p2 (K+1+1):Nat):Int)
    . exact .inr (.inl ⟨e,B⟩)
    .
     refine .inr (.inr ⟨?_,?_,B⟩)
     . rw[t];omega
     . rw[t]at e ⊢;omega
  .
   unfold stepG;have E:∀g∈ap (ap M),¬ Av (K+1) (bump o (bh M)) g:=fun g a n=>by
    have b:=(z g a).1;have h2:=n.1;omega
   rw[List.pairwise_append];refine⟨?_,by simp,?_⟩
   . refine List.Pairwise.imp_of_mem ?_ I;intro x y i _ _ k;exact E x i k.1
   . intro x i y _ j;exact E x i j.1
def MH(l:List Int):Prop:=∀i,i<l.length->l.getD i 0<=1
theorem ui(l:List Int)(c:MH l)(k:Nat)(d:k<=l.length):∀g∈ay l k,Kd 0 (List.replicate l.length 0) g:=by
 induction k with
 | zero=>intro g a;simp[ay]at a
 | succ k ih=>
  simp only[ay]
  split
  case isTrue h=>
   intro g a;simp only[a0T,a07]at a;rcases a with a|rfl
   . exact ih (by omega) g a
   .
    refine⟨?_,?_⟩
    . have:=c k (by omega);have e:p2 0=1:=rfl;simp only;rw[e];omega
    .
     intro s b;simp only[a07]at b;subst b;rw[a0p];have:(List.replicate l.length (0:Int)).getD k 0=0:=by simp[List.getD,show k<l.length by omega]
     rw[this];exact a29 _
  case isFalse=>exact ih (by omega)
theorem Ke(l:List Int)(c:MH l)(k:Nat)(j:k<(ay l l.length).length∨k=0):∃K,Lvl K (ax l k).2 (ax l k).1:=by
 induction k with
 | zero=>
  refine⟨0,fun g f=>.inl (ui l c _ (a0a _) g f),?_⟩;refine List.Pairwise.imp_of_mem ?_ (List.pairwise_of_forall (R:=fun _ _=>True) (fun _ _=>trivial));intro x y a _ _ b;have:=(ui l c _ (a0a _) x a).1;have:=b.1.1;omega
 | succ k ih=>
  obtain⟨K,e⟩:=ih (by omega);have m:=(cb l k (by omega)).2.2.2;have d:=gW l k (by omega);rcases Kf (by omega) e d.1 (fun x i=>by rw[eo];exact d.2 x i)with h|h
  . exact⟨K,h⟩
  . exact⟨K+1,h⟩
theorem na(l:List Int)(k:Nat)(a:k<(ay l l.length).length∨k=0):(bo (ax l k).1).Perm (bo (ay l l.length)):=by
 induction k with
 | zero=>exact a2l _
 | succ k ih=>
  have b:=(cb l k (by omega)).2.2.2;exact(vU (ax l k).1 (by omega)).trans (ih (by omega))
theorem vY(l:List Int)(i:Nat)(c:i<l.length)(f:(i:Int) ∉ bo (ay l l.length))(k:Nat)(j:k<(ay l l.length).length∨k=0):(ax l k).2.getD i 0=0:=by
 induction k with
 | zero=>simp[ax,List.getD,c]
 | succ k ih=>
  have d:=ih (by omega);have m:=(cb l k (by omega)).2.2.2;have b:=gW l k (by omega);have g:=jC (M:=(ax l k).1) (by omega) b.1;have a:=jE (ax l k).1 (by omega);simp only[ax];rw[lX _ _ i g.1 (fun x h=>(b.2 x (a.mem_iff.1 (by simp[h]))).1) (by rw[eo];exact c),d,a0d]
  . rfl
  . intro e;exact f ((na l k (by omega)).mem_iff.1 (a.mem_iff.1 (by simp[e])))
theorem Ip(M:List Grp)(h:∀g∈M,g.cnt=1):gh M=(M.length:Int):=by
 induction M with
 | nil=>rfl
 | cons g M ih=>
  have:=ih (fun x a=>h x (by simp[a]));have b:=h g (by simp);simp only[gh,a0H,a0M,a0D]at this ⊢;omega
theorem Fe{a b:Nat}(h:p2 a<=p2 b):a<=b:=by
 rcases a1k b a with h2|h2
 . have c:p2 (b+1)<=p2 a:=a0N (by omega) (by omega);have d:=lr b;have e:=mw b;omega
 . exact h2
theorem OO{a b:Nat}(h:p2 a<p2 b):a<b:=by
 rcases a1k a b with h2|h2
 . exact h2
 . have c:p2 b<=p2 a:=a0N (by omega) h2;omega
theorem Ks(l:List Int)(v:MH l)(m:Nat)(B:(ay l l.length).length<=p2 m):yd (bS l) ((m:Int)+1):=by
 have o:∀i,i<l.length->(List.replicate l.length (0:Int)).getD i 0=0:=fun i f=>by simp[List.getD,f]
 intro i f;rw[iF]at f;unfold bS;by_cases d:(ay l l.length).length=1
 .
  rw[a0e d];generalize ((ay l l.length).getD 0 g0).fst.toNat=q;by_cases e:q=i
  . simp only[List.getD];rw[←e,List.getElem?_set_self (by rw[a0x,e];exact f),a1x];omega
  . simp only[List.getD];rw[List.getElem?_set_ne e];have:=o i f;simp only[List.getD]at this;omega
 .
  rw[a0d d];generalize D:(ay l l.length).length-1=k;have b:k<(ay l l.length).length∨k=0:=by omega
  have j:=lj l k b i (by rw[eo];exact f);by_cases a:(i:Int)∈bo (ay l l.length)
  .
   obtain⟨K,w⟩:=Ke l v k b;have c:=cb l k b;have z:0<(ay l l.length).length:=by
    rcases a2m (ay l l.length).length with h|h
    . have:ay l l.length=[]:=a2A h;rw[this]at a;simp[bo]at a
    . exact h
   have s:(ax l k).1.length=1:=by rw[c.2.2.2];omega
   obtain⟨g,y⟩:=List.length_eq_one_iff.1 s;have t:=(na l k b).mem_iff.2 a;rw[y]at t w;have n:(i:Int)∈g.syms:=by simpa[bo]using t
   have C:g.cnt=((ay l l.length).length:Int):=by
    have h2:=c.2.1;rw[y,Ip (ay l l.length) (fun x A=>by have:=(ui l v _ (a0a _) x A).1;simpa[p2]using this)]at h2;simpa[gh]using h2
   have u:g∈[g]:=by simp
   rcases w.1 g u with h|h|h
   .
    have p:=h.2 _ n;rw[a0p]at p;have r:p2 K<=p2 m:=by have:=h.1;omega
    have:=Fe r;exact⟨j.1,by omega⟩
   .
    have p:=h.2 _ n;rw[a0p]at p;have r:p2 (K+1)<=p2 m:=by have:=h.1;omega
    have:=Fe r;exact⟨j.1,by omega⟩
   .
    have p:=h.2.2 _ n;rw[a0p]at p;have r:p2 K<p2 m:=by have:=h.1;omega
    have:=OO r;exact⟨j.1,by omega⟩
  . rw[vY l i f a k b];omega
/-! Counts are halved. -/
def iE(x:Int):Int:=(x+1)/2
def bq(l:List Int):List Int:=l.map iE
theorem eE(l:List Int):(bq l).length=l.length:=by simp[bq]
theorem qj(l:List Int)(i:Nat)(a:i<l.length):(bq l).getD i 0=iE (l.getD i 0):=by simp[bq,List.getD,a]
theorem qJ(l:List Int)(b:∀i,i<l.length->0<=l.getD i 0)(k:Nat)(c:k<=l.length):(ay (bq l) k).length=(ay l k).length:=by
 induction k with
 | zero=>rfl
 | succ k ih=>
  have a:=qj l k (by omega);have d:=b k (by omega);simp only[ay];by_cases h:0<l.getD k 0
  . rw[a0e h,a0e (by rw[a];unfold iE;omega)];simp only[a0j,a1o];rw[ih (by omega)]
  . rw[a0d h,a0d (by rw[a];unfold iE;omega),ih (by omega)]
def jJ(l:List Int):Nat:=(l.map Int.toNat).sum
theorem uO(l:List Int)(c:∀x∈l,0<=x):jJ (bq l)<=jJ l/\((∃x∈l,1<x)->jJ (bq l)<jJ l):=by
 induction l with
 | nil=>simp[jJ,bq]
 | cons x l ih=>
  have d:=ih (fun y a=>c y (by simp[a]));have f:=c x (by simp);simp only[jJ,bq,a0H,a0M]at d ⊢;have e:(iE x).toNat<=x.toNat:=by unfold iE;omega
  refine⟨by omega,?_⟩;rintro⟨y,a,b⟩;simp only[a0U]at a;rcases a with rfl|a
  .
   have:(iE y).toNat<y.toNat:=by unfold iE;omega
   omega
  . have:=d.2 ⟨y,a,b⟩;omega
def bR(o:List Int):Nat->Int
 | 0=>0
 | k+1=>if bR o k<o.getD k 0 then o.getD k 0 else bR o k
def fits(o:List Int)(m:Int):Bool:=decide (bR o o.length<=m)
theorem Kn(a:0<=B)(h:yd o B)(k:Nat)(c:k<=o.length):bR o k<=B:=by
 induction k with
 | zero=>exact a
 | succ k ih=>
  have b:=ih (by omega);have h2:=(h k (by omega)).2;simp only[bR]
  split<;>assumption
theorem EJ{m:Int}(a:0<=m)(h:yd o m):fits o m=true:=by
 unfold fits;exact a0v (Kn a h _ (a0a _))
def oV(m:Int):Nat->List Int->List Int
 | 0,l=>bS l
 | f+1,l=>if fits (bS l) m then bS l else oV m f (bq l)
theorem uq{l:List Int}{m:Nat}(d:(ay l l.length).length<=p2 m)(b:fits (bS l) ((m:Int)+1)=false):∃x∈l,1<x:=by
 apply Classical.byContradiction;intro a;have c:MH l:=by
  intro i e;have f:l.getD i 0∈l:=by simp[List.getD,e]
  rcases a1u 1 (l.getD i 0)with h|h
  . exact absurd ⟨_,f,h⟩ a
  . exact h
 have:=EJ (by omega) (Ks l c m d);rw[this]at b;cases b
end Go.Proofs.YtchidddpplangaaGreatDoor
