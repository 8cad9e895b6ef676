/- Of what the proof is made: 6 texts, one behind the other. -/
import Derived.Test.YtkdlcomfpffhhaaGreatDoorM6
import Derived.Test.YtkdlcomfpffhhaaGreatDoorM8
import Derived.Lib.AppendZerosOnto
import Derived.Test.YtkdlcomfpffhhaaGreatDoorM11
import Derived.Deep.RegionHeld3
import Derived.BigQuiet
import Derived.Test.YtkdlcomfpffhhaaGreatDoorM5
set_option maxRecDepth 100000
set_option linter.unusedSimpArgs false
set_option linter.unusedVariables false
set_option maxHeartbeats 1600000
namespace Go.Proofs.YtkdlcomfpffhhaaGreatDoor
open Go.Proofs.Tryz
open Go.RowKit Go.Lib
theorem nF:(prog.info? 3).map (fun i=>(i.zero,i.size,i.bytes))=some (some (Value.int .i64 0),1,8):=by kernel_rfl
theorem AL(n:Nat)(w:World)(q:n<=100000) :
  Calls prog 206 #[.slice none 0 0,.int .i64 (n:Nat)] w fun e w'=>∃v,e = .returned v/\(∃c,v = .slice none 0 c∨v = .slice (some ⟨w.heap.size,0,none⟩) 0 c)/\w'.ownsRow w.heap.size 3 1 v 0 []/\Below w.heap.size w w':=by
 obtain⟨i0,i,b,d,a⟩:=a0s nF;have p:(n:Int)<=100000:=by omega
 by_cases k:n=0
 . subst k;clear b d a i;go_enter func206,ntmps206;go_wp2;go_ret;exact⟨_,rfl,⟨0,.inl rfl⟩,a1x _ _ _ _,a0c _ _⟩
 .
  have hold:(Builtin.firstCells i0.size 0 (.slice none 0 0)).run prog w.drew = .ok ([]:List Value).toArray w.drew:=run_firstCells_none w.drew i0.size 0 0 0;have g:=af (fun ty=>Lib.run_append_grow_zeros w 146 3 ty 3 i0 (Value.int .i64 0) .i64 .i64 a0L a2N i b none 0 0 [] hold n (by omega) (by rw[d];decide) (by omega) (by omega) (by rw[a];omega) (growslice_fits (by omega) (by rw[a];omega)));rw[a0B]at g;have h:n<=grownCap w n 0 3:=grownCap_ge w _ _ _;have f:grownCap w n 0 3<=maxLen:=a3H w n 0 _ (by unfold maxLen;omega);generalize grownCap w n 0 3=G at *
  have j:Hid ((([]:List Value).toArray++Builtin.zeroCells ((Value.int .i64 0):Value).cells n++Builtin.zeroCells ((Value.int .i64 0):Value).cells (G-n)).size=G*1):=by
   show _=_;simp only[a28,a2T];have e:((Value.int .i64 0):Value).cells.size=1:=rfl;rw[e];simp;omega
  generalize (([]:List Value).toArray++Builtin.zeroCells ((Value.int .i64 0):Value).cells n++Builtin.zeroCells ((Value.int .i64 0):Value).cells (G-n))=cur at *
  have m:(1:Int)<=(n:Int):=by omega
  have o:¬ G=0:=by omega
  have l:=af f;clear hold b d a i f h k;go_enter func206,ntmps206;go_wp2_with (at_builtin;refine Lib.wpList_append_run _ rfl _ _ _ _ rfl _ _ rfl rfl _ _ (ae g _) ?_);go_ret;refine⟨_,rfl,⟨G,.inr rfl⟩,World.ownsRow_made w.drew cur G (a0a _) (ae l) (ae j),((a0c _ _).drew).alloc (a0a _) _⟩
def jC(w:World)(p ob:Nat)(R:List (Value×List Value)):Prop:=∀j,j<R.length->w.cell? ⟨p,j,none⟩=some (R.getD j (.slice none 0 0,[])).1/\∃n,w.ownsRow ob 3 1 (R.getD j (.slice none 0 0,[])).1 n (R.getD j (.slice none 0 0,[])).2/\(∀u∈(R.getD j (.slice none 0 0,[])).2,u.oneCell'=true)
def cw(x:Value×List Value):Nat:=x.2.length/1
def aS(R:List (Value×List Value)):Nat:=(R.map cw).sum
def ff(R:List (Value×List Value)):List Value:=R.flatMap Prod.snd
theorem oe(R:List (Value×List Value))(k:Nat)(h:k<R.length):R.take (k+1)=R.take k++[R.getD k (.slice none 0 0,[])]:=by
 rw[a1i h]
 congr 2
 simp[List.getD,h]
theorem km(R:List (Value×List Value))(k:Nat)(h:k<R.length):aS (R.take (k+1))=aS (R.take k)+cw (R.getD k (.slice none 0 0,[])):=by
 rw[oe R k h];simp[aS]
theorem qD(R:List (Value×List Value))(k:Nat)(h:k<R.length):ff (R.take (k+1))=ff (R.take k)++(R.getD k (.slice none 0 0,[])).2:=by
 rw[oe R k h];simp[ff]
theorem mg(R:List (Value×List Value))(k:Nat):aS (R.take k)<=aS R:=by
 have e0:∀A B:List (Value×List Value),aS (A++B)=aS A+aS B:=fun A B=>by simp[aS]
 have e:=e0 (R.take k) (R.drop k);rw[a13]at e;omega
theorem jC.later{w w':World}{p ob:Nat}{R:List (Value×List Value)}(h:jC w p ob R)(hb:Below w.heap.size w w'):jC w' p ob R:=by
 intro j i;obtain⟨d,n,h2,f⟩:=h j i;refine⟨(hb.cell (p:=⟨p,j,none⟩) (World.block_lt_of_cell? w ⟨p,j,none⟩ d)).trans d,n,?_,f⟩;refine⟨h2.1,?_⟩;rcases h2.2 with k|⟨g,cap,b,e,c,a,rest⟩
 . exact .inl k
 . exact .inr ⟨g,cap,b,e,c,(hb.block g (Array.getElem?_eq_some_iff.1 a).1).trans a,rest⟩
theorem jC.form{w:World}{p ob:Nat}{R:List (Value×List Value)}(h:jC w p ob R)(j:Nat)(i:j<R.length):∃a c,(R.getD j (.slice none 0 0,[])).1 = .slice a (cw (R.getD j (.slice none 0 0,[]))) c/\w.ownsRow ob 3 1 (.slice a (cw (R.getD j (.slice none 0 0,[]))) c) (cw (R.getD j (.slice none 0 0,[]))) (R.getD j (.slice none 0 0,[])).2/\(∀u∈(R.getD j (.slice none 0 0,[])).2,u.oneCell'=true):=by
 obtain⟨_,n,h2,d⟩:=h j i;have k:cw (R.getD j (.slice none 0 0,[]))=n:=by
  unfold cw;rw[h2.1];omega
 rw[k];rcases h2.2 with⟨e,e0⟩|⟨g,cap,f,e,_⟩
 . subst e0;exact⟨none,0,e,by have b:=h2;rw[e]at b;exact b,d⟩
 . exact⟨_,cap,e,by have b:=h2;rw[e]at b;exact b,d⟩
theorem D8(p ob m c:Nat)(R:List (Value×List Value))(w:World)(hm:R.length=m)(W:1<=m)(I:m<=1000)(h:jC w p ob R)(Z:aS R<=100000) :
  Calls prog 172 #[.slice (some ⟨p,0,none⟩) m c] w fun e w'=>∃v,e = .returned v/\w'.ownsRow w.heap.size 3 1 v (aS R) (ff R)/\Below w.heap.size w w':=by
 obtain⟨i0,hi,Q,S,T⟩:=a0s nF;have ad:(m:Int)<=1000:=by omega
 have t:=af (a0b hm (a0b W I));have J:=af Z;have H:=af h;have K:=af (fun n hn=>AL n w hn);clear hm W I Z h;go_enter func172,ntmps172;go_wp2_with fail
 go_loop [3,5,11] (fun s _ i=>∃k:Nat,k<=m/\i = .int .i64 k/\s = .int .i64 (aS (R.take k):Nat)) (fun _ _ i=>m-(intOf i).toNat)
 case atStart=>exact⟨0,a0h _,rfl,rfl⟩
 case round=>
  obtain⟨k,M,rfl,rfl⟩:=hrel;have HK:=af M;by_cases d:k<m
  .
   have E:=ae H k (by rw[(ae t).1];exact d);obtain⟨a,c1,e,_,_⟩:=(ae H).form k (by rw[(ae t).1];exact d);have c0:=E.1;rw[e]at c0;have o:=af (km R k (by rw[(ae t).1];exact d));have C:=mg R (k+1);have aa:(aS (R.take k):Int)+(cw (R.getD k (.slice none 0 0,[])):Int)<=100000:=by have:=ae o;have:=ae J;omega
   clear E e C M;generalize cw (R.getD k (.slice none 0 0,[]))=q at *
   generalize aS (R.take k)=s at *
   go_wp2
   go_round
   case rel=>exact⟨k+1,by have:=ae HK;omega,by go_num,by rw[ae o];go_num⟩
   case measure=>simp[intOf];omega
  .
   obtain rfl:k=m:=by omega
   have r:R.take k=R:=a0D (by rw[(ae t).1];exact a0a _);rw[r];have ac:(aS R:Int)<=100000:=by have:=ae J;omega
   have U:Hid (aS R<=100000):=by show _<=_;have:=ae J;omega
   clear r M d;generalize X:aS R=N at *
   have z:=af X;clear X;go_wp2_with fail;refine(ae K N (ae U)).mono ?_;rintro e x1 ⟨v,rfl,⟨cg,D⟩,ho,hb⟩;have B:∃a,v = .slice a 0 cg:=by
    rcases D with D|D
    . exact⟨_,D⟩
    . exact⟨_,D⟩
   obtain⟨va,rfl⟩:=B;clear D;go_wp2_with fail
   go_loopw [6,8,27] (fun s _ i wr=>∃j:Nat,j<=k/\i = .int .i64 j/\wr.ownsRow w.heap.size 3 1 s (aS (R.take j)) (ff (R.take j))/\Below w.heap.size w wr) (fun _ _ i _=>k-(intOf i).toNat)
   case atStart=>exact⟨0,a0h _,rfl,ho,hb⟩
   case round=>
    obtain⟨j,Y,rfl,hq,f⟩:=hrel;clear ho hb;have HJ:=af Y;have G:=f.size;by_cases d:j<k
    .
     have A:=(ae H).later f;have E:=A j (by rw[(ae t).1];exact d);obtain⟨a,c1,e,y,u⟩:=A.form j (by rw[(ae t).1];exact d);have c0:=E.1;rw[e]at c0;have o:=af (km R j (by rw[(ae t).1];exact d));have P:=af (qD R j (by rw[(ae t).1];exact d));have C:=mg R (j+1);have F:Hid (aS (R.take j)+cw (R.getD j (.slice none 0 0,[]))<=maxLen/\(aS (R.take j)+cw (R.getD j (.slice none 0 0,[])))*8<=140737488355328):=by
      have:=ae o;have:=ae z;have:=ae U;show _/\_;unfold maxLen;omega
     have V:=af (a0b y u);clear E e C Y A y u;generalize cw (R.getD j (.slice none 0 0,[]))=q at *
     generalize (R.getD j (.slice none 0 0,[])).2=xs at *
     go_wp2_with (at_builtin;refine nj _ rfl _ _ 146 rfl w.heap.size 3 i0 (Value.int .i64 0) 1 8 a0L hi Q S T rfl (by decide) _ _ _ rfl hq _ ob q xs rfl (ae V).1 (ae V).2 (ae F).1 (ae F).2 G ?_;intro v' x2 x l);have L:Below w.heap.size w x2:=f.grown l G (fun b h=>(a0p hq b h).1);rw[←ae o,←ae P]at x;clear l hq f;go_wp2;go_roundw
     case rel=>exact⟨j+1,by have:=ae HJ;omega,by go_num,x,L⟩
     case measure=>simp[intOf];omega
    .
     obtain rfl:j=k:=by omega
     have r:R.take j=R:=a0D (by rw[(ae t).1];exact a0a _);rw[r,ae z]at hq;have O:∃a c,u6 = .slice a N c:=by
      rcases hq.2 with⟨e,e0⟩|⟨g,cap,ab,e,_⟩
      . subst e0;exact⟨_,_,e⟩
      . exact⟨_,_,e⟩
     obtain⟨qa,qc,rfl⟩:=O;clear r;go_wp2;go_ret;exact⟨_,rfl,by rw[ae z];exact hq,f⟩
end Go.Proofs.YtkdlcomfpffhhaaGreatDoor
namespace Go.Proofs.YtkdlcomfpffhhaaGreatDoor
open Go.Proofs.Tryz
open Go.RowKit
variable {B:Int}{n:Nat}{o:List Int}
def uH(x y:Grp):Bool:=decide (x.cnt<y.cnt) || (decide (x.cnt=y.cnt)&&decide (x.fst<y.fst))
def bX(L:List Grp):Nat->Nat
 | 0=>0
 | k+1=>if uH (L.getD (k+1) g0) (L.getD (bX L k) g0)then k+1 else bX L k
def least(L:List Grp):Nat:=bX L (L.length-1)
theorem uG(L:List Grp)(k:Nat):bX L k<=k:=by
 induction k with
 | zero=>exact a0a _
 | succ k ih=>simp only[bX];split<;>omega
theorem dF(L:List Grp)(h:0<L.length):least L<L.length:=by
 have:=uG L (L.length-1);unfold least;omega
theorem oG(L:List Grp)(k:Nat):L.eraseIdx k=L.take k++L.drop (k+1):=List.eraseIdx_eq_take_drop_succ L k
theorem pU(a:Option Addr)(cap n base:Nat)(L:List Grp)(w:World)(u:L.length=n)(h:de 354 w base (.slice a n cap) L)(B:1<=n)(x:n<=300) :
  CD 277 #[.slice a n cap] w (.int .i64 (least L:Nat)):=by
 obtain⟨g,rfl⟩:=h.somes (by omega);have o:=af u;have y:(n:Int)<=300:=by omega
 have v:=af h;clear h u x;go_enter func277,ntmps277;go_wp2_with fail
 go_loopw [3,4] (fun b i wr=>∃k:Nat,k<n/\i = .int .i64 ((k:Int)+1)/\b = .int .i64 (bX L k:Nat)/\Below w.heap.size w wr) (fun _ i _=>n+1-(intOf i).toNat)
 case atStart=>exact⟨0,by omega,rfl,rfl,a0c _ _⟩
 case round=>
  obtain⟨k,C,rfl,rfl,e⟩:=hrel;have j:=af e;have l:=af ((ae v).later e (a0a _));clear e;by_cases f:k+1<n
  .
   have m:(k:Int)+1<(n:Int):=by omega
   have r:=uG L k;obtain⟨c0,c1,_,_,_⟩:=(ae l).at (ae o) (k+1) f;obtain⟨z,A,_,_,_⟩:=(ae l).at (ae o) (bX L k) (by omega);have D:((bX L k:Nat):Int)<(n:Int):=by omega
   have d:Hid (bX L (k+1)=if (decide ((L.getD (k+1) g0).cnt<(L.getD (bX L k) g0).cnt) || (decide ((L.getD (k+1) g0).cnt=(L.getD (bX L k) g0).cnt)&&decide ((L.getD (k+1) g0).fst<(L.getD (bX L k) g0).fst)))then k+1 else bX L k):=rfl;clear r;generalize bX L k=q at *
   generalize (L.getD (k+1) g0).cnt=x0 at *
   generalize (L.getD (k+1) g0).fst=x1 at *
   generalize (L.getD q g0).cnt=y0 at *
   generalize (L.getD q g0).fst=y1 at *
   by_cases s:x0<y0
   .
    have e0:decide (x0<y0)=true:=a0w s;have c:Hid (bX L (k+1)=k+1):=by have:=ae d;rw[e0]at this;exact af (by simpa using this)
    go_wp2_with fail
    go_quiet (fail)
    go_wp2;go_roundw
    case rel=>exact⟨k+1,f,by go_num,by rw[ae c];go_num,below_drewN (ae j) _⟩
    case measure=>simp[intOf];omega
   .
    have e0:decide (x0<y0)=false:=a0j s;by_cases h2:x0=y0
    .
     subst h2;by_cases t:x1<y1
     .
      have e1:decide (x1<y1)=true:=a0w t;have c:Hid (bX L (k+1)=k+1):=by have:=ae d;rw[e0,e1]at this;exact af (by simpa using this)
      go_wp2_with fail
      go_quiet (fail)
      go_wp2;go_roundw
      case rel=>exact⟨k+1,f,by go_num,by rw[ae c];go_num,below_drewN (ae j) _⟩
      case measure=>simp[intOf];omega
     .
      have e1:decide (x1<y1)=false:=a0j t;have c:Hid (bX L (k+1)=q):=by have:=ae d;rw[e0,e1]at this;exact af (by simpa using this)
      go_wp2_with fail
      go_quiet (fail)
      go_wp2;go_roundw
      case rel=>exact⟨k+1,f,by go_num,by rw[ae c],below_drewN (ae j) _⟩
      case measure=>simp[intOf];omega
    .
     have g1:(x0 == y0)=false:=by simpa using h2
     have c:Hid (bX L (k+1)=q):=by have:=ae d;rw[e0,a0j h2]at this;exact af (by simpa using this)
     go_wp2_with fail
     go_quiet (fail)
     go_wp2;go_roundw
     case rel=>exact⟨k+1,f,by go_num,by rw[ae c],below_drewN (ae j) _⟩
     case measure=>simp[intOf];omega
  .
   have p:Hid (least L=bX L k):=by
    show least L=bX L k;unfold least;rw[ae o]
    congr 1;omega
   have m:¬ (k:Int)+1<(n:Int):=by omega
   go_wp2;go_ret;exact⟨aO (by rw[ae p]),ae j⟩
theorem Tryz.infoTree:(prog.info? 354).map (fun i=>(i.zero,i.size,i.bytes))=some (some (.agg #[.int .i64 0,.int .i64 0,.slice none 0 0]),3,40):=by kernel_rfl
theorem J6{t:TypeId}{x:World}{base m:Nat}{v:Value}{l r:List Grp}(b:l.length=n)(a:r.length=m)(h:x.ownsRow base t 3 v (n+m) (aQ l++aQ r)):de t x base v (l++r):=by
 subst b a;show World.ownsRow _ _ _ _ _ (l++r).length _;rw[a0o,mj];exact h
theorem Cg(g n cap k:Nat)(e:k<=cap)(d:0<cap)(W:World):(Instr.slice 352 (.slice (some ⟨g,0,none⟩) n cap) none (some (.int .i64 (k:Int))) none).run prog W = .ok (.slice (some ⟨g,0,none⟩) k cap) W:=by
 have b:¬ cap=0:=by omega
 have a:(k:Int)<=(cap:Int):=by omega
 have c:(0:Int)<=(k:Int):=by omega
 go_simp
theorem Ch(g n cap k:Nat)(d:k<=n)(W:World):(Instr.slice 352 (.slice (some ⟨g,0,none⟩) n cap) (some (.int .i64 ((k:Int)))) none none).run prog W = .ok (.slice (some ⟨g,if cap=k then 0 else k*3,none⟩) (n-k) (cap-k)) W:=by
 have a:(k:Int)<=(n:Int):=by omega
 have b:(0:Int)<=(k:Int):=by omega
 by_cases c:cap=k
 . go_simp
 . go_simp
theorem rT(a:Option Addr)(cap n base ob k:Nat)(L:List Grp)(w:World)(O:L.length=n)(h:de 354 w base (.slice a n cap) L)(T:jb w ob L)(hk:k<n)(hm:n<=300) :
  Calls prog 278 #[.slice a n cap,.int .i64 (k:Int)] w fun e w'=>(∃v,e = .returned v/\de 354 w' w.heap.size v (L.eraseIdx k))/\Below w.heap.size w w':=by
 obtain⟨g,rfl⟩:=h.somes (by omega);have p:=h.cap O;have t:=af O;have aa:(n:Int)<=300:=by omega
 have Y:(n:Int)<=(cap:Int):=by omega
 have Z:(cap:Int)<=9223372036854775807:=by have:=p.2;unfold maxLen at this;omega
 have Q:=af h;have P:=af T;obtain⟨i0,R,B,C,D⟩:=a0s Tryz.infoTree;clear h O hm T p;obtain⟨o2,ho2⟩:∃o2,(if cap=k+1 then 0 else(k+1)*3)=o2:=⟨_,rfl⟩;have ab:=Cg g n cap k (by omega) (by omega);have A:=Ch g n cap (k+1) (by omega);have ek:((k+1:Nat):Int)=(k:Int)+1:=by omega
 rw[ek]at A;rw[ho2]at A;have ac:IntKind.i64.wrap ((k:Int)+1)=(k:Int)+1:=by simp[IntKind.wrap,IntKind.bits,IntKind.signed];omega
 have U:=af ho2;clear ho2 ek;have J:Hid (∀W,Below w.heap.size w W->∀j u,(aQ (L.take k))[j]?=some u->W.cell? ((⟨g,0,none⟩:Addr).add j)=some u):=by
  intro W M j u o;exact de.news (ae t) ((ae Q).later M (a0a _)) 0 k 0 rfl (by omega) j u (by simpa using o)
 have K:Hid (∀W,Below w.heap.size w W->∀j u,(aQ (L.drop (k+1)))[j]?=some u->W.cell? ((⟨g,o2,none⟩:Addr).add j)=some u):=by
  intro W M j u o;have V:=ae t;by_cases X:cap=k+1
  . have hd:L.drop (k+1)=[]:=a2p (by omega);rw[hd]at o;simp[aQ]at o
  . have S:=ae U;rw[a0d X]at S;refine de.news (ae t) ((ae Q).later M (a0a _)) (k+1) (n-(k+1)) o2 S.symm (by omega) j u ?_;rw[a0D (by rw[a01];omega)];exact o
 have H:Hid (∀u∈aQ (L.take k),u.oneCell'=true):=te (fun g N=>ae P g (a19 N));have I:Hid (∀u∈aQ (L.drop (k+1)),u.oneCell'=true):=te (fun g N=>ae P g (List.mem_of_mem_drop N));have F:Hid ((aQ (L.take k)).length=k*3):=by show(aQ (L.take k)).length=k*3;rw[nd,a0t,ae t];congr 1;omega
 have G:Hid ((aQ (L.drop (k+1))).length=(n-(k+1))*3):=by show(aQ (L.drop (k+1))).length=(n-(k+1))*3;rw[nd,a01,ae t]
 have x:World.ownsRow (w.alloc (.cells #[] 354)).drew w.heap.size 354 3 (.slice (some ⟨w.heap.size,0,none⟩) 0 0) 0 []:=a0P w #[] 0 (a0a _) (by unfold maxLen;omega) rfl;have y:Hid (0+k<=maxLen/\(0+k)*40<=140737488355328):=by show _/\_;unfold maxLen;omega
 have z:Hid (0+k+(n-(k+1))<=maxLen/\(0+k+(n-(k+1)))*40<=140737488355328):=by show _/\_;unfold maxLen;omega
 have l:Below w.heap.size w (w.alloc (.cells #[] 354)).drew:=((a0c _ _).alloc (a0a _) _).drew;go_enter func278,ntmps278;go_wp2_with fail
 go_region_held3 (fun _=>True) (trivial) (first
  | (refine ak rfl (.tmp 5) (.tmp 8) 352 rfl w.heap.size 354 i0 (.agg #[.int .i64 0,.int .i64 0,.slice none 0 0]) 3 40 a3Q R B C D rfl (a1V 2) (.slice (some ⟨w.heap.size,0,none⟩) 0 0) _ _ rfl x ⟨g,0,none⟩ k cap (aQ (L.take k)) rfl (ae F) (ae J _ l) (ae H) (ae y).1 (ae y).2 l.size ?_;intro v1 x1 b c r;clear r;have i:Below w.heap.size w x1:=l.grown c l.size (fun j o=>(a0p x j o).1))
  | (refine ak rfl (.tmp 9) (.tmp 13) 352 rfl w.heap.size 354 i0 (.agg #[.int .i64 0,.int .i64 0,.slice none 0 0]) 3 40 a3Q R B C D rfl (a1V 2) v1 _ _ rfl b ⟨g,o2,none⟩ (n-(k+1)) (cap-(k+1)) (aQ (L.drop (k+1))) rfl (ae G) (ae K _ i) (ae I) (ae z).1 (ae z).2 i.size ?_;intro v2 x2 f d s;clear s;have E:Below w.heap.size w x2:=i.grown d i.size (fun j o=>(a0p b j o).1)))
 have q:de 354 x2 w.heap.size v2 (L.eraseIdx k):=by
  rw[oG];have V:=ae t;refine J6 (n:=0+k) (m:=n-(k+1)) (by rw[a0t];omega) (by rw[a01];omega) ?_;simpa using f
 obtain⟨va,vc,rfl⟩:=q.form;clear b f c d;go_wp2;go_ret;exact⟨⟨_,rfl,q⟩,E⟩
def bare(g:Grp):Grp:=⟨g.cnt,g.fst,g.syms,.slice none 0 0⟩
def aC(l:List Int):Nat->List Grp
 | 0=>[]
 | k+1=>if 0<l.getD k 0 then aC l k++[⟨l.getD k 0,(k:Int),[(k:Int)],.slice none 0 0⟩]else aC l k
def dD(a b:Grp):Grp:=⟨a.cnt+b.cnt,if b.fst<a.fst then b.fst else a.fst,a.syms++b.syms,.slice none 0 0⟩
def aB(M:List Grp):Grp:=M.getD (least M) g0
def au(M:List Grp):List Grp:=M.eraseIdx (least M)
def stepG(M:List Grp):List Grp:=au (au M)++[dD (aB M) (aB (au M))]
def aX(M:List Grp):List Int:=(aB M).syms++(aB (au M)).syms
def fj(o:List Int)(i:Int):List Int:=o.set i.toNat (o.getD i.toNat 0+1)
def bump(o s:List Int):List Int:=s.foldl fj o
def aF(l:List Int):Nat->List Grp×List Int
 | 0=>(aC l l.length,List.replicate l.length 0)
 | k+1=>(stepG (aF l k).1,bump (aF l k).2 (aX (aF l k).1))
def cB(l:List Int):List Int:=if (aC l l.length).length=1 then(List.replicate l.length 0).set ((aC l l.length).getD 0 g0).fst.toNat 1 else(aF l ((aC l l.length).length-1)).2
theorem lu(o:List Int)(i:Int):(fj o i).length=o.length:=by simp[fj]
theorem rj(o s:List Int):(bump o s).length=o.length:=by
 induction s generalizing o with
 | nil=>rfl
 | cons i s ih=>show(bump (fj o i) s).length=_;rw[ih,lu]
theorem dU(l:List Int)(k:Nat):(aF l k).2.length=l.length:=by
 induction k with
 | zero=>simp[aF]
 | succ k ih=>simp only[aF];rw[rj,ih]
theorem iq(l:List Int):(cB l).length=l.length:=by
 unfold cB
 split
 . simp
 . exact dU l _
theorem D4(o s:List Int)(k:Nat)(h:k<s.length):bump o (s.take (k+1))=fj (bump o (s.take k)) (s.getD k 0):=by
 rw[dy s k h];simp[bump]
/-! What is bare is as it was. -/
theorem Bm(x y:Grp):uH (bare x) (bare y)=uH x y:=rfl
theorem lA(L:List Grp)(k:Nat):(L.map bare).getD k g0=bare (L.getD k g0):=by
 simp only[List.getD];rw[List.getElem?_map];cases L[k]? <;> rfl
theorem yh(L:List Grp)(k:Nat):bX (L.map bare) k=bX L k:=by
 induction k with
 | zero=>rfl
 | succ k ih=>simp only[bX];rw[ih,lA,lA,Bm]
theorem rY(L:List Grp):least (L.map bare)=least L:=by
 unfold least;rw[yh,a1l]
theorem iM(L:List Grp):aB (L.map bare)=bare (aB L):=by
 unfold aB;rw[rY,lA]
theorem mW(L:List Grp):au (L.map bare)=(au L).map bare:=by
 unfold au;rw[rY,oG,oG,a1d,List.map_take,List.map_drop]
theorem FP(M:List Grp):stepG (M.map bare)=(au (au M)).map bare++[dD (aB M) (aB (au M))]:=by
 unfold stepG;rw[mW,mW,iM,iM];rfl
theorem FW(M:List Grp):aX (M.map bare)=aX M:=by
 unfold aX;rw[mW,iM,iM];rfl
/-! Bounds. -/
def WFg(n:Nat)(g:Grp):Prop:=0<=g.cnt/\0<=g.fst/\g.fst<(n:Int)/\(∀s∈g.syms,0<=s/\s<(n:Int))/\0<g.syms.length
def WFL(n:Nat)(M:List Grp):Prop:=∀g∈M,WFg n g
def fw(M:List Grp):Int:=(M.map Grp.cnt).sum
def ja(M:List Grp):Nat:=(M.map (fun g=>g.syms.length)).sum
theorem xF(M:List Grp)(k:Nat)(h:k<M.length):M.getD k g0∈M:=by simp[List.getD,h]
theorem nh(M:List Grp)(k:Nat)(h:k<M.length):fw M=(M.getD k g0).cnt+fw (M.eraseIdx k):=by
 induction M generalizing k with
 | nil=>simp at h
 | cons g M ih=>
  cases k with
  | zero=>simp[fw,List.eraseIdx]
  | succ k=>
   have:=ih k (by simpa using h);simp only[fw,List.eraseIdx_cons_succ,a0K,a0V,a2Z]at this ⊢;omega
theorem j8(M:List Grp)(k:Nat)(h:k<M.length):ja M=(M.getD k g0).syms.length+ja (M.eraseIdx k):=by
 induction M generalizing k with
 | nil=>simp at h
 | cons g M ih=>
  cases k with
  | zero=>simp[ja,List.eraseIdx]
  | succ k=>
   have:=ih k (by simpa using h);simp only[ja,List.eraseIdx_cons_succ,a0K,a0V,a2Z]at this ⊢;omega
theorem dj(M:List Grp)(h:0<M.length):(au M).length=M.length-1:=by
 unfold au;rw[List.length_eraseIdx,a0e (dF M h)]
theorem qk(A B:List Grp):fw (A++B)=fw A+fw B:=by simp[fw]
theorem ql(A B:List Grp):ja (A++B)=ja A+ja B:=by simp[ja]
theorem JP(M:List Grp)(h:1<M.length):fw (stepG M)=fw M/\ja (stepG M)=ja M/\(stepG M).length=M.length-1:=by
 have a:=nh M (least M) (dF M (by omega));have h2:=j8 M (least M) (dF M (by omega));have e:=dj M (by omega);have b:=nh (au M) (least (au M)) (dF _ (by omega));have c:=j8 (au M) (least (au M)) (dF _ (by omega));have d:=dj (au M) (by omega);have e1:M.getD (least M) g0=aB M:=rfl;have e2:(au M).getD (least (au M)) g0=aB (au M):=rfl;have e3:M.eraseIdx (least M)=au M:=rfl;have e4:(au M).eraseIdx (least (au M))=au (au M):=rfl;rw[e1,e3]at a h2;rw[e2,e4]at b c;refine⟨?_,?_,?_⟩
 .
  unfold stepG;rw[qk];have:fw [dD (aB M) (aB (au M))]=(aB M).cnt+(aB (au M)).cnt:=by simp[fw,dD]
  omega
 .
  unfold stepG;rw[ql];have:ja [dD (aB M) (aB (au M))]=(aB M).syms.length+(aB (au M)).syms.length:=by simp[ja,dD]
  omega
 . unfold stepG;simp;omega
theorem bj(M:List Grp):∀g∈au M,g∈M:=fun _ a=>List.mem_of_mem_eraseIdx a
theorem bP(M:List Grp)(h:0<M.length):aB M∈M:=xF M _ (dF M h)
theorem Mf{M:List Grp}(c:WFL n M)(h:1<M.length):WFL n (stepG M):=by
 have l:=dj M (by omega);have e:=c _ (bP M (by omega));have hb:=c _ (bj M _ (bP (au M) (by omega)));intro g b;simp only[stepG,a1j,a1g]at b;rcases b with b|rfl
 . exact c g (bj M _ (bj _ _ b))
 .
  obtain⟨a0,a1,a2,a3,a4⟩:=e;obtain⟨f,i,j,d,k⟩:=hb;refine⟨?_,?_,?_,?_,?_⟩
  . simp only[dD];omega
  . simp only[dD];split<;>assumption
  . simp only[dD];split<;>assumption
  .
   intro s a;simp only[dD,a1j]at a;rcases a with a|a
   . exact a3 s a
   . exact d s a
  . simp only[dD,a0o];omega
theorem Dw(l:List Int)(k:Nat)(c:k<=l.length):WFL l.length (aC l k):=by
 induction k with
 | zero=>intro g a;simp[aC]at a
 | succ k ih=>
  simp only[aC]
  split
  case isTrue h=>
   intro g a;simp only[a1j,a1g]at a;rcases a with a|rfl
   . exact ih (by omega) g a
   . refine⟨by simp only;omega,by simp only;omega,by simp only;omega,?_,by simp⟩;intro s b;simp only[a1g]at b;subst b;omega
  case isFalse=>exact ih (by omega)
theorem kZ(l:List Int)(C:Int)(d:0<=C)(b:∀i,i<l.length->l.getD i 0<=C)(k:Nat)(f:k<=l.length):fw (aC l k)<=C*k/\ja (aC l k)<=k/\(aC l k).length<=k:=by
 induction k with
 | zero=>simp[aC,fw,ja]
 | succ k ih=>
  obtain⟨a,h2,c⟩:=ih (by omega);have hb:=b k (by omega);have e:C*((k+1:Nat):Int)=C*(k:Int)+C:=by rw[show((k+1:Nat):Int)=(k:Int)+1 by omega,Int.mul_add,Int.mul_one]
  simp only[aC]
  split
  .
   rw[qk,ql];refine⟨?_,?_,?_⟩
   . simp only[fw,a0K,a2Q,a0V,List.sum_nil]at a ⊢;omega
   . simp only[ja,a0K,a2Q,a0V,List.sum_nil,a1R]at h2 ⊢;omega
   . simp;omega
  . refine⟨by omega,by omega,by omega⟩
theorem cX(l:List Int)(k:Nat)(e:k<(aC l l.length).length∨k=0):WFL l.length (aF l k).1/\fw (aF l k).1=fw (aC l l.length)/\ja (aF l k).1=ja (aC l l.length)/\(aF l k).1.length=(aC l l.length).length-k:=by
 induction k with
 | zero=>exact⟨Dw l _ (a0a _),rfl,rfl,rfl⟩
 | succ k ih=>
  obtain⟨b,h2,c,d⟩:=ih (by omega);have a:1<(aF l k).1.length:=by omega
  obtain⟨t1,t2,t3⟩:=JP _ a;refine⟨Mf b a,by simp only[aF];omega,by simp only[aF];omega,by simp only[aF];omega⟩
theorem MZ{M:List Grp}(c:WFL n M){g:Grp}(a:g∈M):g.cnt<=fw M:=by
 induction M with
 | nil=>cases a
 | cons x M ih=>
  have h:=(c x (by simp)).1;have e:0<=fw M:=by
   clear ih a;have b:WFL n M:=fun y d=>c y (by simp[d]);clear c;induction M with
   | nil=>simp[fw]
   | cons y M ih2=>
    have:=ih2 (fun z f=>b z (by simp[f]));have d:=(b y (by simp)).1;simp only[fw,a0K,a0V]at this ⊢;omega
  simp only[a1h]at a;simp only[fw,a0K,a0V]at e ih ⊢;rcases a with rfl|a
  . omega
  . have:=ih (fun y d=>c y (by simp[d])) a;omega
theorem DD{M:List Grp}(d:WFL n M)(h:1<M.length):(aB M).cnt+(aB (au M)).cnt<=fw M/\(aX M).length<=ja M:=by
 have f:=dj M (by omega);have a:=nh M (least M) (dF M (by omega));have h2:=j8 M (least M) (dF M (by omega));have b:=j8 (au M) (least (au M)) (dF _ (by omega));have e1:M.getD (least M) g0=aB M:=rfl;have e2:(au M).getD (least (au M)) g0=aB (au M):=rfl;have e3:M.eraseIdx (least M)=au M:=rfl;rw[e1,e3]at a h2;rw[e2]at b;have e:=MZ (n:=n) (M:=au M) (fun g c=>d g (bj M _ c)) (bP (au M) (by omega));refine⟨by omega,?_⟩;unfold aX;rw[a0o];omega
/-! Lengths stay small. -/
def wj(o:List Int)(B:Int):Prop:=∀i,i<o.length->0<=o.getD i 0/\o.getD i 0<=B
theorem D3(h:wj o B)(i:Int):wj (fj o i) (B+1):=by
 intro j a;rw[lu]at a;have b:=h j a;by_cases e:i.toNat=j
 . subst e;simp only[fj,List.getD];rw[List.getElem?_set_self a];simp only[a1q];have:=h i.toNat a;simp only[List.getD]at this;omega
 .
  have:(fj o i).getD j 0=o.getD j 0:=by
   simp only[fj,List.getD];rw[List.getElem?_set_ne e]
  rw[this];omega
theorem wU(h:wj o B)(s:List Int):wj (bump o s) (B+s.length):=by
 induction s generalizing o B with
 | nil=>intro i a;have:=h i a;simp only[bump,List.foldl_nil,a04];omega
 | cons i s ih=>
  have:=ih (D3 h i);intro j b;have h2:=this j b;simp only[a0J];show 0<=(bump (fj o i) s).getD j 0/\_;refine⟨h2.1,?_⟩;have:=h2.2;show(bump (fj o i) s).getD j 0<=_;omega
theorem Ir(l:List Int)(d:∀i,i<l.length->l.getD i 0<=100000)(h:l.length<=300)(k:Nat)(g:k<(aC l l.length).length∨k=0):wj (aF l k).2 (300*(k:Int)):=by
 induction k with
 | zero=>
  intro i a;have:(aF l 0).2.getD i 0=0:=by
   simp only[aF,List.getD];simp only[aF,a0A]at a;simp[a]
  rw[this];omega
 | succ k ih=>
  have a:=ih (by omega);obtain⟨c,h2,e,f⟩:=cX l k (by omega);have m:=(DD c (by omega)).2;have j:=(kZ l 100000 (by omega) d l.length (a0a _)).2.1;have hb:=wU a (aX (aF l k).1);intro i b;have:=hb i b;simp only[aF]at this ⊢;omega
/-! What is counted once more. -/
theorem tX(o:List Int)(i:Int)(j:Nat)(b:0<=i)(a:j<o.length):(fj o i).getD j 0=o.getD j 0+(if i=(j:Int)then 1 else 0):=by
 by_cases e:i=(j:Int)
 .
  rw[a0e e];have e2:i.toNat=j:=by omega
  simp only[fj,List.getD];rw[e2,List.getElem?_set_self a,a1q]
 .
  rw[a0d e];have e2:i.toNat≠j:=by omega
  simp only[fj,List.getD];rw[List.getElem?_set_ne e2];omega
theorem kC(o s:List Int)(j:Nat)(a:s.Nodup)(b:∀x∈s,0<=x)(c:j<o.length):(bump o s).getD j 0=o.getD j 0+(if (j:Int)∈s then 1 else 0):=by
 induction s generalizing o with
 | nil=>simp[bump]
 | cons x s ih=>
  show(bump (fj o x) s).getD j 0=_;rw[List.nodup_cons]at a;rw[ih (fj o x) a.2 (fun y d=>b y (by simp[d])) (by rw[lu];exact c),tX o x j (b x (by simp)) c];by_cases e:x=(j:Int)
  . subst e;rw[a0e rfl,a0d a.1,a0e (by simp)];omega
  .
   rw[a0d e];by_cases h2:(j:Int)∈s
   . rw[a0e h2,a0e (by simp[h2])];omega
   . rw[a0d h2,a0d (by simp only[a1h,not_or];exact⟨fun e2=>e e2.symm,h2⟩)];omega
/-! All symbols, each once. -/
def bq(M:List Grp):List Int:=M.flatMap Grp.syms
theorem BC(M:List Grp)(k:Nat)(h:k<M.length):(M.getD k g0 :: M.eraseIdx k).Perm M:=by
 induction M generalizing k with
 | nil=>simp at h
 | cons x M ih=>
  cases k with
  | zero=>exact List.Perm.refl _
  | succ k=>
   rw[a2Z,List.eraseIdx_cons_succ];exact(List.Perm.swap _ _ _).trans (List.Perm.cons x (ih k (by simpa using h)))
theorem sH(M:List Grp)(h:0<M.length):(aB M :: au M).Perm M:=BC M _ (dF M h)
theorem sJ(M:List Grp)(h:1<M.length):(aB M :: aB (au M) :: au (au M)).Perm M:=by
 have a:=dj M (by omega);exact(List.Perm.cons _ (sH (au M) (by omega))).trans (sH M (by omega))
theorem um{A B:List Grp}(h:A.Perm B):(bq A).Perm (bq B):=by
 induction h with
 | nil=>exact List.Perm.refl _
 | cons x _ ih=>
  simp only[bq,a1c]at ih ⊢;exact List.Perm.append_left _ ih
 | swap x y l=>
  simp only[bq,a1c];rw[←a0U,←a0U];exact List.Perm.append_right _ List.perm_append_comm
 | trans _ _ h1 h2=>exact h1.trans h2
theorem un(M:List Grp)(h:1<M.length):(bq (stepG M)).Perm (bq M):=by
 refine List.Perm.trans ?_ (um (sJ M h));unfold stepG bq;rw[a3b];refine List.perm_append_comm.trans ?_;simp[dD]
theorem Eo(l:List Int)(k:Nat):(bq (aC l k)).Nodup/\∀x∈bq (aC l k),0<=x/\x<(k:Int):=by
 induction k with
 | zero=>simp[aC,bq]
 | succ k ih=>
  simp only[aC]
  split
  .
   have e:bq (aC l k++[⟨l.getD k 0,(k:Int),[(k:Int)],.slice none 0 0⟩])=bq (aC l k)++[(k:Int)]:=by simp[bq]
   rw[e];refine⟨?_,?_⟩
   . rw[List.nodup_append];refine⟨ih.1,by simp,?_⟩;intro x a y b;simp only[a1g]at b;subst b;have:=(ih.2 x a).2;omega
   .
    intro x a;simp only[a1j,a1g]at a;rcases a with a|rfl
    . have:=ih.2 x a;omega
    . omega
  . exact⟨ih.1,fun x a=>by have:=ih.2 x a;omega⟩
theorem gZ(l:List Int)(k:Nat)(d:k<(aC l l.length).length∨k=0):(bq (aF l k).1).Nodup/\∀x∈bq (aF l k).1,0<=x/\x<(l.length:Int):=by
 induction k with
 | zero=>exact Eo l _
 | succ k ih=>
  have a:=ih (by omega);have e:=(cX l k (by omega)).2.2.2;have b:=un (aF l k).1 (by omega);exact⟨(b.nodup_iff).2 a.1,fun x c=>a.2 x (b.mem_iff.1 c)⟩
theorem iE(M:List Grp)(h:1<M.length):((aX M)++bq (au (au M))).Perm (bq M):=by
 refine List.Perm.trans ?_ (um (sJ M h));simp[aX,bq]
theorem iD{M:List Grp}(h:1<M.length)(c:(bq M).Nodup):(aX M).Nodup/\∀g∈au (au M),∀s∈g.syms,s ∉ aX M:=by
 have h2:=((iE M h).nodup_iff).2 c;rw[List.nodup_append]at h2;refine⟨h2.1,fun g a s d b=>?_⟩;exact h2.2.2 s b s (by simp only[bq,List.mem_flatMap];exact⟨g,a,d⟩) rfl
theorem jN(l:List Int)(k:Nat)(g:k<(aC l l.length).length∨k=0):wj (aF l k).2 (k:Int):=by
 induction k with
 | zero=>
  intro i c;have:(aF l 0).2.getD i 0=0:=by
   simp only[aF,List.getD];simp only[aF,a0A]at c;simp[c]
  rw[this];omega
 | succ k ih=>
  have c:=ih (by omega);have h:=(cX l k (by omega)).2.2.2;have d:=gZ l k (by omega);have e:=iD (M:=(aF l k).1) (by omega) d.1;intro i a;simp only[aF]at a ⊢;rw[rj]at a;have b:∀x∈aX (aF l k).1,0<=x:=fun x f=>(d.2 x ((iE _ (by omega)).mem_iff.1 (by simp[f]))).1;rw[kC _ _ i e.1 b a];have:=c i a
  split<;>omega
/-! Where all come as often. -/
def IM(K:Nat)(o:List Int)(g:Grp):Prop:=g.cnt=(p2 K:Nat)/\∀s∈g.syms,o.getD s.toNat 0<=(K:Int)
def Nf(K:Nat)(o:List Int)(g:Grp):Prop:=g.cnt=(p2 (K+1):Nat)/\∀s∈g.syms,o.getD s.toNat 0<=(K:Int)+1
def yw(K:Nat)(o:List Int)(g:Grp):Prop:=(p2 K:Nat)<g.cnt/\g.cnt<(p2 (K+1):Nat)/\∀s∈g.syms,o.getD s.toNat 0<=(K:Int)+1
def Lvl(K:Nat)(o:List Int)(M:List Grp):Prop:=(∀g∈M,IM K o g∨Nf K o g∨yw K o g)/\M.Pairwise (fun x y=>¬ (yw K o x/\yw K o y))
theorem Bi (L : List Grp) (k j : Nat) (hj : j ≤ k) : (L.getD (bX L k) g0).cnt ≤ (L.getD j g0).cnt := by
  induction k with
  | zero => have : j = 0 := by omega
            subst this; exact a26 _
  | succ k ih =>
    simp only [bX]
    by_cases e : j = k + 1
    . subst e
      split
      . exact a26 _
      . rename_i h
        simp only [uH, a1U, a0E, not_or] at h
        have := h.1
        omega
    . have := ih (by omega)
      split
      . rename_i h
        simp only [uH, a1U, a0n, a0E] at h
        omega
      . exact this
theorem uk(M:List Grp)(g:Grp)(a:g∈M):(aB M).cnt<=g.cnt:=by
 obtain⟨i,b,rfl⟩:=a2b a;have:=Bi M (M.length-1) i (by omega);have e:M.getD i g0=M[i]:=by simp[List.getD,b]
 rw[e]at this;exact this
theorem IQ{K:Nat}{M:List Grp}(h:1<M.length)(l:Lvl K o M)(Y:(bq M).Nodup)(T:∀x∈bq M,0<=x/\x<(o.length:Int)):Lvl K (bump o (aX M)) (stepG M)∨Lvl (K+1) (bump o (aX M)) (stepG M):=by
 have hr:=dj M (by omega);obtain⟨L,N⟩:=iD h Y;have r:=iE M h;have F:∀x∈aX M,0<=x:=fun x f=>(T x (r.mem_iff.1 (by simp[f]))).1;have R:=bP M (by omega);have hb:=bj M _ (bP (au M) (by omega));have u:∀g∈au (au M),g∈M:=fun g a=>bj M _ (bj _ _ a);have X:(aB M).cnt<=(aB (au M)).cnt:=uk M _ hb;have m:∀g∈au (au M),(aB (au M)).cnt<=g.cnt:=fun g a=>uk (au M) g (bj _ _ a);have J:p2 (K+1)=p2 K*2:=lM K;have aa:p2 (K+1+1)=p2 (K+1)*2:=lM (K+1);have Z:=kS K;have p:∀x,x∈bq M->(bump o (aX M)).getD x.toNat 0=o.getD x.toNat 0+(if x∈aX M then 1 else 0):=by
  intro x f;have hb:=T x f;rw[kC o (aX M) x.toNat L F (by omega)];have e:((x.toNat:Nat):Int)=x:=by omega
  rw[e]
 have D:∀g∈M,∀x∈g.syms,x∈bq M:=fun g a x i=>by simp only[bq,List.mem_flatMap];exact⟨g,a,i⟩
 have hold:∀g∈au (au M),∀x∈g.syms,(bump o (aX M)).getD x.toNat 0=o.getD x.toNat 0:=by
  intro g a x i;rw[p x (D g (u g a) x i),a0d (N g a x i)];omega
 have q:∀x,x∈aX M->(bump o (aX M)).getD x.toNat 0=o.getD x.toNat 0+1:=by
  intro x f;rw[p x (r.mem_iff.1 (by simp[f])),a0e f]
 have G:(aB M :: aB (au M) :: au (au M)).Pairwise (fun x y=>¬ (yw K o x/\yw K o y)):=
  ((sJ M h).pairwise_iff (fun{x y} j H=>j ⟨H.2,H.1⟩)).2 l.2
 rw[List.pairwise_cons,List.pairwise_cons]at G;obtain⟨P,Q,I⟩:=G;have t:(dD (aB M) (aB (au M))).cnt=(aB M).cnt+(aB (au M)).cnt:=rfl;have C:∀x,x∈(dD (aB M) (aB (au M))).syms<->x∈aX M:=fun x=>Iff.rfl;by_cases v:IM K o (aB M)/\IM K o (aB (au M))
 .
  left;obtain⟨⟨a1,a2⟩,c,W⟩:=v;have S:Nf K (bump o (aX M)) (dD (aB M) (aB (au M))):=by
   refine⟨by rw[t,a1,c,J];omega,fun x f=>?_⟩;have d:=(C x).1 f;rw[q x d];simp only[aX,a1j]at d;rcases d with d|d
   . have:=a2 x d;omega
   . have:=W x d;omega
  have n:∀g∈au (au M),yw K (bump o (aX M)) g->yw K o g:=fun g a n=>⟨n.1,n.2.1,fun x f=>by have:=n.2.2 x f;rw[hold g a x f]at this;exact this⟩;refine⟨fun g a=>?_,?_⟩
  .
   simp only[stepG,a1j,a1g]at a;rcases a with a|rfl
   .
    rcases l.1 g (u g a)with b|b|b
    . exact .inl ⟨b.1,fun x f=>by rw[hold g a x f];exact b.2 x f⟩
    . exact .inr (.inl ⟨b.1,fun x f=>by rw[hold g a x f];exact b.2 x f⟩)
    . exact .inr (.inr ⟨b.1,b.2.1,fun x f=>by rw[hold g a x f];exact b.2.2 x f⟩)
   . exact .inr (.inl S)
  .
   unfold stepG;rw[List.pairwise_append];refine⟨?_,by simp,?_⟩
   . refine List.Pairwise.imp_of_mem ?_ I;intro x y i O j k;exact j ⟨n x i k.1,n y O k.2⟩
   . intro x _ y U j;simp only[a1g]at U;subst U;have b:=S.1;have h2:=j.2.2.1;omega
 .
  right;have A:((p2 K:Nat):Int)<=(aB M).cnt/\(aB M).cnt<=((p2 (K+1):Nat):Int)/\((p2 K:Nat):Int)<(aB (au M)).cnt/\(aB (au M)).cnt<=((p2 (K+1):Nat):Int)/\∀g∈au (au M),Nf K o g:=by
   rcases l.1 _ R with a1|a1|a1
   .
    rcases l.1 _ hb with c|c|c
    . exact absurd ⟨a1,c⟩ v
    .
     refine⟨by rw[a1.1];omega,by rw[a1.1];omega,by rw[c.1];omega,by rw[c.1];omega,fun g a=>?_⟩;have s:=m g a;rcases l.1 g (u g a)with b|b|b
     . have:=b.1;have:=c.1;omega
     . exact b
     . have:=b.2.1;have:=c.1;omega
    .
     refine⟨by rw[a1.1];omega,by rw[a1.1];omega,c.1,by have:=c.2.1;omega,fun g a=>?_⟩;have s:=m g a;rcases l.1 g (u g a)with b|b|b
     . have:=b.1;have:=c.1;omega
     . exact b
     . exact absurd ⟨c,b⟩ (Q g a)
   .
    rcases l.1 _ hb with c|c|c
    . have:=a1.1;have:=c.1;omega
    .
     refine⟨by rw[a1.1];omega,by rw[a1.1];omega,by rw[c.1];omega,by rw[c.1];omega,fun g a=>?_⟩;have s:=m g a;rcases l.1 g (u g a)with b|b|b
     . have:=b.1;have:=c.1;omega
     . exact b
     . have:=b.2.1;have:=c.1;omega
    . have:=a1.1;have:=c.2.1;omega
   .
    rcases l.1 _ hb with c|c|c
    . have:=a1.1;have:=c.1;omega
    .
     refine⟨by have:=a1.1;omega,by have:=a1.2.1;omega,by rw[c.1];omega,by rw[c.1];omega,fun g a=>?_⟩;have s:=m g a;rcases l.1 g (u g a)with b|b|b
     . have:=b.1;have:=c.1;omega
     . exact b
     . have:=b.2.1;have:=c.1;omega
    . exact absurd ⟨a1,c⟩ (P _ (by simp))
  obtain⟨q1,q2,q3,q4,V⟩:=A;have w:∀g∈M,∀x∈g.syms,o.getD x.toNat 0<=(K:Int)+1:=by
   intro g a x f;rcases l.1 g a with b|b|b
   . have:=b.2 x f;omega
   . exact b.2 x f
   . exact b.2.2 x f
  have B:∀x∈(dD (aB M) (aB (au M))).syms,(bump o (aX M)).getD x.toNat 0<=((K+1:Nat):Int)+1:=by
   intro x f;have d:=(C x).1 f;rw[q x d];simp only[aX,a1j]at d;rcases d with d|d
   . have:=w _ R x d;omega
   . have:=w _ hb x d;omega
  have z:∀g∈au (au M),IM (K+1) (bump o (aX M)) g:=fun g a=>⟨(V g a).1,fun x f=>by rw[hold g a x f];have:=(V g a).2 x f;omega⟩;refine⟨fun g a=>?_,?_⟩
  .
   simp only[stepG,a1j,a1g]at a;rcases a with a|rfl
   . exact .inl (z g a)
   .
    by_cases e:(dD (aB M) (aB (au M))).cnt=((p2 (K+1+1):Nat):Int)
    . exact .inr (.inl ⟨e,B⟩)
    .
     refine .inr (.inr ⟨?_,?_,B⟩)
     . rw[t];omega
     . rw[t]at e ⊢;omega
  .
   unfold stepG;have E:∀g∈au (au M),¬ yw (K+1) (bump o (aX M)) g:=fun g a n=>by
    have b:=(z g a).1;have h2:=n.1;omega
   rw[List.pairwise_append];refine⟨?_,by simp,?_⟩
   . refine List.Pairwise.imp_of_mem ?_ I;intro x y i _ _ k;exact E x i k.1
   . intro x i y _ j;exact E x i j.1
def LE(l:List Int):Prop:=∀i,i<l.length->l.getD i 0<=1
theorem sk(l:List Int)(c:LE l)(k:Nat)(d:k<=l.length):∀g∈aC l k,IM 0 (List.replicate l.length 0) g:=by
 induction k with
 | zero=>intro g a;simp[aC]at a
 | succ k ih=>
  simp only[aC]
  split
  case isTrue h=>
   intro g a;simp only[a1j,a1g]at a;rcases a with a|rfl
   . exact ih (by omega) g a
   .
    refine⟨?_,?_⟩
    . have:=c k (by omega);have e:p2 0=1:=rfl;simp only;rw[e];omega
    .
     intro s b;simp only[a1g]at b;subst b;rw[a0x];have:(List.replicate l.length (0:Int)).getD k 0=0:=by simp[List.getD,show k<l.length by omega]
     rw[this];exact a26 _
  case isFalse=>exact ih (by omega)
theorem IP(l:List Int)(c:LE l)(k:Nat)(j:k<(aC l l.length).length∨k=0):∃K,Lvl K (aF l k).2 (aF l k).1:=by
 induction k with
 | zero=>
  refine⟨0,fun g f=>.inl (sk l c _ (a0a _) g f),?_⟩;refine List.Pairwise.imp_of_mem ?_ (List.pairwise_of_forall (R:=fun _ _=>True) (fun _ _=>trivial));intro x y a _ _ b;have:=(sk l c _ (a0a _) x a).1;have:=b.1.1;omega
 | succ k ih=>
  obtain⟨K,e⟩:=ih (by omega);have m:=(cX l k (by omega)).2.2.2;have d:=gZ l k (by omega);rcases IQ (by omega) e d.1 (fun x i=>by rw[dU];exact d.2 x i)with h|h
  . exact⟨K,h⟩
  . exact⟨K+1,h⟩
theorem lz(l:List Int)(k:Nat)(a:k<(aC l l.length).length∨k=0):(bq (aF l k).1).Perm (bq (aC l l.length)):=by
 induction k with
 | zero=>exact List.Perm.refl _
 | succ k ih=>
  have b:=(cX l k (by omega)).2.2.2;exact(un (aF l k).1 (by omega)).trans (ih (by omega))
theorem ut(l:List Int)(i:Nat)(c:i<l.length)(f:(i:Int) ∉ bq (aC l l.length))(k:Nat)(j:k<(aC l l.length).length∨k=0):(aF l k).2.getD i 0=0:=by
 induction k with
 | zero=>simp[aF,List.getD,c]
 | succ k ih=>
  have d:=ih (by omega);have m:=(cX l k (by omega)).2.2.2;have b:=gZ l k (by omega);have g:=iD (M:=(aF l k).1) (by omega) b.1;have a:=iE (aF l k).1 (by omega);simp only[aF];rw[kC _ _ i g.1 (fun x h=>(b.2 x (a.mem_iff.1 (by simp[h]))).1) (by rw[dU];exact c),d,a0d]
  . rfl
  . intro e;exact f ((lz l k (by omega)).mem_iff.1 (a.mem_iff.1 (by simp[e])))
theorem F9(M:List Grp)(h:∀g∈M,g.cnt=1):fw M=(M.length:Int):=by
 induction M with
 | nil=>rfl
 | cons g M ih=>
  have:=ih (fun x a=>h x (by simp[a]));have b:=h g (by simp);simp only[fw,a0K,a0V,a0J]at this ⊢;omega
theorem Dq{a b:Nat}(h:p2 a<=p2 b):a<=b:=by
 rcases a1z b a with h2|h2
 . have c:p2 (b+1)<=p2 a:=a0W (by omega) (by omega);have d:=lM b;have e:=kS b;omega
 . exact h2
theorem N0{a b:Nat}(h:p2 a<p2 b):a<b:=by
 rcases a1z a b with h2|h2
 . exact h2
 . have c:p2 b<=p2 a:=a0W (by omega) h2;omega
theorem I7(l:List Int)(v:LE l)(m:Nat)(B:(aC l l.length).length<=p2 m):wj (cB l) ((m:Int)+1):=by
 have o:∀i,i<l.length->(List.replicate l.length (0:Int)).getD i 0=0:=fun i f=>by simp[List.getD,f]
 intro i f;rw[iq]at f;unfold cB;by_cases d:(aC l l.length).length=1
 .
  rw[a0e d];generalize ((aC l l.length).getD 0 g0).fst.toNat=q;by_cases e:q=i
  . simp only[List.getD];rw[←e,List.getElem?_set_self (by rw[a0A,e];exact f),a1q];omega
  . simp only[List.getD];rw[List.getElem?_set_ne e];have:=o i f;simp only[List.getD]at this;omega
 .
  rw[a0d d];generalize D:(aC l l.length).length-1=k;have b:k<(aC l l.length).length∨k=0:=by omega
  have j:=jN l k b i (by rw[dU];exact f);by_cases a:(i:Int)∈bq (aC l l.length)
  .
   obtain⟨K,w⟩:=IP l v k b;have c:=cX l k b;have z:0<(aC l l.length).length:=by
    rcases a2E (aC l l.length).length with h|h
    . have:aC l l.length=[]:=a1P h;rw[this]at a;simp[bq]at a
    . exact h
   have s:(aF l k).1.length=1:=by rw[c.2.2.2];omega
   obtain⟨g,y⟩:=List.length_eq_one_iff.1 s;have t:=(lz l k b).mem_iff.2 a;rw[y]at t w;have n:(i:Int)∈g.syms:=by simpa[bq]using t
   have C:g.cnt=((aC l l.length).length:Int):=by
    have h2:=c.2.1;rw[y,F9 (aC l l.length) (fun x A=>by have:=(sk l v _ (a0a _) x A).1;simpa[p2]using this)]at h2;simpa[fw]using h2
   have u:g∈[g]:=by simp
   rcases w.1 g u with h|h|h
   .
    have p:=h.2 _ n;rw[a0x]at p;have r:p2 K<=p2 m:=by have:=h.1;omega
    have:=Dq r;exact⟨j.1,by omega⟩
   .
    have p:=h.2 _ n;rw[a0x]at p;have r:p2 (K+1)<=p2 m:=by have:=h.1;omega
    have:=Dq r;exact⟨j.1,by omega⟩
   .
    have p:=h.2.2 _ n;rw[a0x]at p;have r:p2 K<p2 m:=by have:=h.1;omega
    have:=N0 r;exact⟨j.1,by omega⟩
  . rw[ut l i f a k b];omega
/-! Counts are halved. -/
def iO(x:Int):Int:=(x+1)/2
def b9(l:List Int):List Int:=l.map iO
theorem fW(l:List Int):(b9 l).length=l.length:=by simp[b9]
theorem oK(l:List Int)(i:Nat)(a:i<l.length):(b9 l).getD i 0=iO (l.getD i 0):=by simp[b9,List.getD,a]
theorem uT(l:List Int)(b:∀i,i<l.length->0<=l.getD i 0)(k:Nat)(c:k<=l.length):(aC (b9 l) k).length=(aC l k).length:=by
 induction k with
 | zero=>rfl
 | succ k ih=>
  have a:=oK l k (by omega);have d:=b k (by omega);simp only[aC];by_cases h:0<l.getD k 0
  . rw[a0e h,a0e (by rw[a];unfold iO;omega)];simp only[a0o,a1R];rw[ih (by omega)]
  . rw[a0d h,a0d (by rw[a];unfold iO;omega),ih (by omega)]
def lY(l:List Int):Nat:=(l.map Int.toNat).sum
theorem zq(l:List Int)(c:∀x∈l,0<=x):lY (b9 l)<=lY l/\((∃x∈l,1<x)->lY (b9 l)<lY l):=by
 induction l with
 | nil=>simp[lY,b9]
 | cons x l ih=>
  have d:=ih (fun y a=>c y (by simp[a]));have f:=c x (by simp);simp only[lY,b9,a0K,a0V]at d ⊢;have e:(iO x).toNat<=x.toNat:=by unfold iO;omega
  refine⟨by omega,?_⟩;rintro⟨y,a,b⟩;simp only[a1h]at a;rcases a with rfl|a
  .
   have:(iO y).toNat<y.toNat:=by unfold iO;omega
   omega
  . have:=d.2 ⟨y,a,b⟩;omega
def dO(o:List Int):Nat->Int
 | 0=>0
 | k+1=>if dO o k<o.getD k 0 then o.getD k 0 else dO o k
def fits(o:List Int)(m:Int):Bool:=decide (dO o o.length<=m)
theorem I2(a:0<=B)(h:wj o B)(k:Nat)(c:k<=o.length):dO o k<=B:=by
 induction k with
 | zero=>exact a
 | succ k ih=>
  have b:=ih (by omega);have h2:=(h k (by omega)).2;simp only[dO]
  split<;>assumption
theorem KS{m:Int}(a:0<=m)(h:wj o m):fits o m=true:=by
 unfold fits;exact a0w (I2 a h _ (a0a _))
def vO(m:Int):Nat->List Int->List Int
 | 0,l=>cB l
 | f+1,l=>if fits (cB l) m then cB l else vO m f (b9 l)
theorem yF{l:List Int}{m:Nat}(d:(aC l l.length).length<=p2 m)(b:fits (cB l) ((m:Int)+1)=false):∃x∈l,1<x:=by
 apply Classical.byContradiction;intro a;have c:LE l:=by
  intro i e;have f:l.getD i 0∈l:=by simp[List.getD,e]
  rcases a1G 1 (l.getD i 0)with h|h
  . exact absurd ⟨_,f,h⟩ a
  . exact h
 have:=KS (by omega) (I7 l c m d);rw[this]at b;cases b
end Go.Proofs.YtkdlcomfpffhhaaGreatDoor
