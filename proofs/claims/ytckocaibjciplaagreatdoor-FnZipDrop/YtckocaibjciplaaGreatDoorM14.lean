/- Texts. -/
import Derived.Test.YtckocaibjciplaaGreatDoorM9
set_option linter.all false
set_option maxRecDepth 100000
set_option maxHeartbeats 1600000
namespace Go.Proofs.YtckocaibjciplaaGreatDoor
open Go.Proofs.Tryz
open Go.RowKit Go.Lib
variable {R:List (Value×List Value)}{ob p:Nat}{w:World}
def qx:(prog.info? 3).map (fun i=>(i.zero,i.size,i.bytes))=some (some (Value.int .i64 0),1,8):=by kernel_rfl
def FU(n:Nat)(w:World)(q:n<=100000) :
  Calls prog 196 #[.slice none 0 0,n] w fun e w'=>∃v,e = .returned v/\(∃c,v = .slice none 0 c∨v = .slice w.heap.size 0 c)/\w'.ownsRow w.heap.size 3 1 v 0 []/\Below w.heap.size w w':=by
 obtain⟨i0,i,b,d,a⟩:=a0s qx;have p:(n:Int)<=100000:=by omega
 by_cases k:n=0
 . subst k;clear b d a i;go_enter func196,ntmps196;go_wp2;go_ret;exact⟨_,rfl,⟨0,.inl rfl⟩,a1c _ _ _ _,a0c _ _⟩
 .
  have hold:(Builtin.firstCells i0.size 0 (.slice none 0 0)).run prog w.drew = .ok ([]:List Value).toArray w.drew:=run_firstCells_none w.drew i0.size 0 0 0;have g:=af (fun ty=>Lib.run_append_grow_zeros w 122 3 ty 3 i0 (Value.int .i64 0) .i64 .i64 a0F a2f i b none 0 0 [] hold n (by omega) (by rw[d];decide) (by omega) (by omega) (by rw[a];omega) (a3J (by omega) (by rw[a];omega)));rw[a0H]at g;have h:n<=grownCap w n 0 3:=grownCap_ge w _ _ _;have f:grownCap w n 0 3<=maxLen:=grownCap_le_maxLen w n 0 _ (by unfold maxLen;omega);generalize grownCap w n 0 3=G at *;have j:Hid ((([]:List Value).toArray++Builtin.zeroCells ((Value.int .i64 0):Value).cells n++Builtin.zeroCells ((Value.int .i64 0):Value).cells (G-n)).size=G*1):=by
   show _=_;simp only[a2t,size_zeroCells];have e:((Value.int .i64 0):Value).cells.size=1:=rfl;rw[e];simp;omega
  generalize (([]:List Value).toArray++Builtin.zeroCells ((Value.int .i64 0):Value).cells n++Builtin.zeroCells ((Value.int .i64 0):Value).cells (G-n))=cur at *;have m:(1:Int)<=(n:Int):=by omega
  have o:¬ G=0:=by omega
  have l:=af f;clear hold b d a i f h k;go_enter func196,ntmps196;go_wp2_with (at_builtin;refine Lib.wpList_append_run _ rfl _ _ _ _ rfl _ _ rfl rfl _ _ (g _) ?_);go_ret;refine⟨_,rfl,⟨G,.inr rfl⟩,World.ownsRow_made w.drew cur G (a0a _) l j,((a0c _ _).drew).alloc (a0a _) _⟩
def jJ(w:World)(p ob:Nat)(R:List (Value×List Value)):Prop:=∀j,j<R.length->w.cell? ⟨p,j,none⟩=some (R.getD j (.slice none 0 0,[])).1/\∃n,w.ownsRow ob 3 1 (R.getD j (.slice none 0 0,[])).1 n (R.getD j (.slice none 0 0,[])).2/\(∀u∈(R.getD j (.slice none 0 0,[])).2,u.oneCell'=true)
def cM(x:Value×List Value):Nat:=x.2.length/1
def aQ(R:List (Value×List Value)):Nat:=(R.map cM).sum
def dz(R:List (Value×List Value)):List Value:=R.flatMap Prod.snd
def qZ(R:List (Value×List Value))(k:Nat)(h:k<R.length):R.take (k+1)=R.take k++[R.getD k (.slice none 0 0,[])]:=by
 rw[a1f h]
 congr 2
 simp[List.getD,h]
def mN(R:List (Value×List Value))(k:Nat)(h:k<R.length):aQ (R.take (k+1))=aQ (R.take k)+cM (R.getD k (.slice none 0 0,[])):=by
 rw[qZ R k h];simp[aQ]
def ul(R:List (Value×List Value))(k:Nat)(h:k<R.length):dz (R.take (k+1))=dz (R.take k)++(R.getD k (.slice none 0 0,[])).2:=by
 rw[qZ R k h];simp[dz]
def pd(R:List (Value×List Value))(k:Nat):aQ (R.take k)<=aQ R:=by
 have e0:∀A B:List (Value×List Value),aQ (A++B)=aQ A+aQ B:=fun A B=>by simp[aQ]
 have e:=e0 (R.take k) (R.drop k);rw[a1P]at e;omega
def jJ.later{w':World}(h:jJ w p ob R)(hb:Below w.heap.size w w'):jJ w' p ob R:=by
 intro j i;obtain⟨d,n,h2,f⟩:=h j i;refine⟨(hb.cell (p:=⟨p,j,none⟩) (World.block_lt_of_cell? w ⟨p,j,none⟩ d)).trans d,n,?_,f⟩;refine⟨h2.1,?_⟩;rcases h2.2 with k|⟨g,cap,b,e,c,a,rest⟩
 . exact .inl k
 . exact .inr ⟨g,cap,b,e,c,(hb.block g (Array.getElem?_eq_some_iff.1 a).1).trans a,rest⟩
def jJ.form(h:jJ w p ob R)(j:Nat)(i:j<R.length):∃a c,(R.getD j (.slice none 0 0,[])).1 = .slice a (cM (R.getD j (.slice none 0 0,[]))) c/\w.ownsRow ob 3 1 (.slice a (cM (R.getD j (.slice none 0 0,[]))) c) (cM (R.getD j (.slice none 0 0,[]))) (R.getD j (.slice none 0 0,[])).2/\(∀u∈(R.getD j (.slice none 0 0,[])).2,u.oneCell'=true):=by
 obtain⟨_,n,h2,d⟩:=h j i;have k:cM (R.getD j (.slice none 0 0,[]))=n:=by
  unfold cM;rw[h2.1];omega
 rw[k];rcases h2.2 with⟨e,e0⟩|⟨g,cap,f,e,_⟩
 . subst e0;exact⟨none,0,e,by have b:=h2;rw[e]at b;exact b,d⟩
 . exact⟨_,cap,e,by have b:=h2;rw[e]at b;exact b,d⟩
def rI(p ob m c:Nat)(R:List (Value×List Value))(w:World)(hm:R.length=m)(W:1<=m)(I:m<=1000)(h:jJ w p ob R)(Z:aQ R<=100000) :
  Calls prog 162 #[.slice p m c] w fun e w'=>∃v,e = .returned v/\w'.ownsRow w.heap.size 3 1 v (aQ R) (dz R)/\Below w.heap.size w w':=by
 obtain⟨i0,hi,Q,S,T⟩:=a0s qx;have ad:(m:Int)<=1000:=by omega
 have t:=af (a0b hm (a0b W I));have J:=af Z;have H:=af h;have K:=af (fun n hn=>FU n w hn);clear hm W I Z h;go_enter func162,ntmps162;go_wp2_with fail
 go_loop [3,5,11] (fun s _ i=>∃k:Nat,k<=m/\i = .int .i64 k/\s = .int .i64 (aQ (R.take k):Nat)) (fun _ _ i=>m-(intOf i).toNat)
 case atStart=>exact⟨0,a0g _,rfl,rfl⟩
 case round=>
  obtain⟨k,M,rfl,rfl⟩:=hrel;have HK:=af M;by_cases d:k<m
  .
   have E:=ae H k (by rw[t.1];exact d);obtain⟨a,c1,e,_,_⟩:=H.form k (by rw[t.1];exact d);have c0:=E.1;rw[e]at c0;have o:=af (mN R k (by rw[t.1];exact d));have C:=pd R (k+1);have aa:(aQ (R.take k):Int)+(cM (R.getD k (.slice none 0 0,[])):Int)<=100000:=by have:=ae o;have:=ae J;omega
   clear E e C M;generalize cM (R.getD k (.slice none 0 0,[]))=q,aQ (R.take k)=s at *;go_wp2
   go_round
   case rel=>exact⟨k+1,by have:=ae HK;omega,by go_num,by rw[ae o];go_num⟩
   case measure=>simp[intOf];omega
  .
   obtain rfl:k=m:=by omega
   have r:R.take k=R:=a0u (by rw[t.1];exact a0a _);rw[r];have ac:(aQ R:Int)<=100000:=by have:=ae J;omega
   have U:Hid (aQ R<=100000):=by show _<=_;have:=ae J;omega
   clear r M d;generalize X:aQ R=N at *;have z:=af X;clear X;go_wp2_with fail;apply(K N (ae U)).mono;rintro e x1⟨v,rfl,⟨cg,D⟩,ho,hb⟩;have B:∃a,v = .slice a 0 cg:=by
    rcases D with D|D
    . exact⟨_,D⟩
    . exact⟨_,D⟩
   obtain⟨va,rfl⟩:=B;clear D;go_wp2_with fail
   go_loopw [6,8,27] (fun s _ i wr=>∃j:Nat,j<=k/\i = .int .i64 j/\wr.ownsRow w.heap.size 3 1 s (aQ (R.take j)) (dz (R.take j))/\Below w.heap.size w wr) (fun _ _ i _=>k-(intOf i).toNat)
   case atStart=>exact⟨0,a0g _,rfl,ho,hb⟩
   case round=>
    obtain⟨j,Y,rfl,hq,f⟩:=hrel;clear ho hb;have HJ:=af Y;have G:=f.size;by_cases d:j<k
    .
     have A:=H.later f;have E:=A j (by rw[t.1];exact d);obtain⟨a,c1,e,y,u⟩:=A.form j (by rw[t.1];exact d);have c0:=E.1;rw[e]at c0;have o:=af (mN R j (by rw[t.1];exact d));have P:=af (ul R j (by rw[t.1];exact d));have C:=pd R (j+1);have F:Hid (aQ (R.take j)+cM (R.getD j (.slice none 0 0,[]))<=maxLen/\(aQ (R.take j)+cM (R.getD j (.slice none 0 0,[])))*8<=140737488355328):=by
      have:=ae o;have:=ae z;have:=ae U;show _/\_;unfold maxLen;omega
     have V:=af (a0b y u);clear E e C Y A y u;generalize cM (R.getD j (.slice none 0 0,[]))=q,(R.getD j (.slice none 0 0,[])).2=xs at *;go_wp2_with (at_builtin;refine kz _ rfl _ _ 122 rfl w.heap.size 3 i0 (Value.int .i64 0) 1 8 a0F hi Q S T rfl (by decide) _ _ _ rfl hq _ ob q xs rfl V.1 V.2 F.1 F.2 G ?_;intro v' x2 x l);have L:Below w.heap.size w x2:=f.grown l G (fun b h=>(a0z hq b h).1);rw[←ae o,←ae P]at x;clear l hq f;go_wp2;go_roundw
     case rel=>exact⟨j+1,by have:=ae HJ;omega,by go_num,x,L⟩
     case measure=>simp[intOf];omega
    .
     obtain rfl:j=k:=by omega
     have r:R.take j=R:=a0u (by rw[t.1];exact a0a _);rw[r,ae z]at hq;have O:∃a c,u6 = .slice a N c:=by
      rcases hq.2 with⟨e,e0⟩|⟨g,cap,ab,e,_⟩
      . subst e0;exact⟨_,_,e⟩
      . exact⟨_,_,e⟩
     obtain⟨qa,qc,rfl⟩:=O;clear r;go_wp2;go_ret;exact⟨_,rfl,by rw[ae z];exact hq,f⟩
def nl:(prog.info? 159).map (fun i=>(i.zero,i.size,i.bytes))=some (some (.agg #[.int .i64 0,.int .i64 0]),2,16):=by kernel_rfl
def zY(n:Nat)(w:World)(q:n<=100000) :
  Calls prog 173 #[.slice none 0 0,n] w fun e w'=>∃v,e = .returned v/\(∃c,v = .slice none 0 c∨v = .slice w.heap.size 0 c)/\w'.ownsRow w.heap.size 159 2 v 0 []/\Below w.heap.size w w':=by
 obtain⟨i0,i,b,d,a⟩:=a0s nl;have p:(n:Int)<=100000:=by omega
 by_cases k:n=0
 . subst k;clear b d a i;go_enter func173,ntmps173;go_wp2;go_ret;exact⟨_,rfl,⟨0,.inl rfl⟩,a1c _ _ _ _,a0c _ _⟩
 .
  have hold:(Builtin.firstCells i0.size 0 (.slice none 0 0)).run prog w.drew = .ok ([]:List Value).toArray w.drew:=run_firstCells_none w.drew i0.size 0 0 0;have g:=af (fun ty=>Lib.run_append_grow_zeros w 156 3 ty 159 i0 (.agg #[.int .i64 0,.int .i64 0]) .i64 .i64 a1x a2f i b none 0 0 [] hold n (by omega) (by rw[d];decide) (by omega) (by omega) (by rw[a];omega) (a3J (by omega) (by rw[a];omega)));rw[a0H]at g;have h:n<=grownCap w n 0 159:=grownCap_ge w _ _ _;have f:grownCap w n 0 159<=maxLen:=grownCap_le_maxLen w n 0 _ (by unfold maxLen;omega);generalize grownCap w n 0 159=G at *;have j:Hid ((([]:List Value).toArray++Builtin.zeroCells ((Value.agg #[.int .i64 0,.int .i64 0]):Value).cells n++Builtin.zeroCells ((Value.agg #[.int .i64 0,.int .i64 0]):Value).cells (G-n)).size=G*2):=by
   show _=_;simp only[a2t,size_zeroCells];have e:((Value.agg #[.int .i64 0,.int .i64 0]):Value).cells.size=2:=rfl;rw[e];simp;omega
  generalize (([]:List Value).toArray++Builtin.zeroCells ((Value.agg #[.int .i64 0,.int .i64 0]):Value).cells n++Builtin.zeroCells ((Value.agg #[.int .i64 0,.int .i64 0]):Value).cells (G-n))=cur at *;have m:(1:Int)<=(n:Int):=by omega
  have o:¬ G=0:=by omega
  have l:=af f;clear hold b d a i f h k;go_enter func173,ntmps173;go_wp2_with (at_builtin;refine Lib.wpList_append_run _ rfl _ _ _ _ rfl _ _ rfl rfl _ _ (g _) ?_);go_ret;refine⟨_,rfl,⟨G,.inr rfl⟩,World.ownsRow_made w.drew cur G (a0a _) l j,((a0c _ _).drew).alloc (a0a _) _⟩
def iE(w:World)(p ob:Nat)(R:List (Value×List Value)):Prop:=∀j,j<R.length->w.cell? ⟨p,j,none⟩=some (R.getD j (.slice none 0 0,[])).1/\∃n,w.ownsRow ob 159 2 (R.getD j (.slice none 0 0,[])).1 n (R.getD j (.slice none 0 0,[])).2/\(∀u∈(R.getD j (.slice none 0 0,[])).2,u.oneCell'=true)
def ce(x:Value×List Value):Nat:=x.2.length/2
def aM(R:List (Value×List Value)):Nat:=(R.map ce).sum
def eH(R:List (Value×List Value)):List Value:=R.flatMap Prod.snd
def nP(R:List (Value×List Value))(k:Nat)(h:k<R.length):R.take (k+1)=R.take k++[R.getD k (.slice none 0 0,[])]:=by
 rw[a1f h]
 congr 2
 simp[List.getD,h]
def kP(R:List (Value×List Value))(k:Nat)(h:k<R.length):aM (R.take (k+1))=aM (R.take k)+ce (R.getD k (.slice none 0 0,[])):=by
 rw[nP R k h];simp[aM]
def qY(R:List (Value×List Value))(k:Nat)(h:k<R.length):eH (R.take (k+1))=eH (R.take k)++(R.getD k (.slice none 0 0,[])).2:=by
 rw[nP R k h];simp[eH]
def mM(R:List (Value×List Value))(k:Nat):aM (R.take k)<=aM R:=by
 have e0:∀A B:List (Value×List Value),aM (A++B)=aM A+aM B:=fun A B=>by simp[aM]
 have e:=e0 (R.take k) (R.drop k);rw[a1P]at e;omega
def iE.later{w':World}(h:iE w p ob R)(hb:Below w.heap.size w w'):iE w' p ob R:=by
 intro j i;obtain⟨d,n,h2,f⟩:=h j i;refine⟨(hb.cell (p:=⟨p,j,none⟩) (World.block_lt_of_cell? w ⟨p,j,none⟩ d)).trans d,n,?_,f⟩;refine⟨h2.1,?_⟩;rcases h2.2 with k|⟨g,cap,b,e,c,a,rest⟩
 . exact .inl k
 . exact .inr ⟨g,cap,b,e,c,(hb.block g (Array.getElem?_eq_some_iff.1 a).1).trans a,rest⟩
def iE.form(h:iE w p ob R)(j:Nat)(i:j<R.length):∃a c,(R.getD j (.slice none 0 0,[])).1 = .slice a (ce (R.getD j (.slice none 0 0,[]))) c/\w.ownsRow ob 159 2 (.slice a (ce (R.getD j (.slice none 0 0,[]))) c) (ce (R.getD j (.slice none 0 0,[]))) (R.getD j (.slice none 0 0,[])).2/\(∀u∈(R.getD j (.slice none 0 0,[])).2,u.oneCell'=true):=by
 obtain⟨_,n,h2,d⟩:=h j i;have k:ce (R.getD j (.slice none 0 0,[]))=n:=by
  unfold ce;rw[h2.1];omega
 rw[k];rcases h2.2 with⟨e,e0⟩|⟨g,cap,f,e,_⟩
 . subst e0;exact⟨none,0,e,by have b:=h2;rw[e]at b;exact b,d⟩
 . exact⟨_,cap,e,by have b:=h2;rw[e]at b;exact b,d⟩
def BF(p ob m c:Nat)(R:List (Value×List Value))(w:World)(hm:R.length=m)(W:1<=m)(I:m<=1000)(h:iE w p ob R)(Z:aM R<=100000) :
  Calls prog 143 #[.slice p m c] w fun e w'=>∃v,e = .returned v/\w'.ownsRow w.heap.size 159 2 v (aM R) (eH R)/\Below w.heap.size w w':=by
 obtain⟨i0,hi,Q,S,T⟩:=a0s nl;have ad:(m:Int)<=1000:=by omega
 have t:=af (a0b hm (a0b W I));have J:=af Z;have H:=af h;have K:=af (fun n hn=>zY n w hn);clear hm W I Z h;go_enter func143,ntmps143;go_wp2_with fail
 go_loop [3,5,11] (fun s _ i=>∃k:Nat,k<=m/\i = .int .i64 k/\s = .int .i64 (aM (R.take k):Nat)) (fun _ _ i=>m-(intOf i).toNat)
 case atStart=>exact⟨0,a0g _,rfl,rfl⟩
 case round=>
  obtain⟨k,M,rfl,rfl⟩:=hrel;have HK:=af M;by_cases d:k<m
  .
   have E:=ae H k (by rw[t.1];exact d);obtain⟨a,c1,e,_,_⟩:=H.form k (by rw[t.1];exact d);have c0:=E.1;rw[e]at c0;have o:=af (kP R k (by rw[t.1];exact d));have C:=mM R (k+1);have aa:(aM (R.take k):Int)+(ce (R.getD k (.slice none 0 0,[])):Int)<=100000:=by have:=ae o;have:=ae J;omega
   clear E e C M;generalize ce (R.getD k (.slice none 0 0,[]))=q,aM (R.take k)=s at *;go_wp2
   go_round
   case rel=>exact⟨k+1,by have:=ae HK;omega,by go_num,by rw[ae o];go_num⟩
   case measure=>simp[intOf];omega
  .
   obtain rfl:k=m:=by omega
   have r:R.take k=R:=a0u (by rw[t.1];exact a0a _);rw[r];have ac:(aM R:Int)<=100000:=by have:=ae J;omega
   have U:Hid (aM R<=100000):=by show _<=_;have:=ae J;omega
   clear r M d;generalize X:aM R=N at *;have z:=af X;clear X;go_wp2_with fail;apply(K N (ae U)).mono;rintro e x1⟨v,rfl,⟨cg,D⟩,ho,hb⟩;have B:∃a,v = .slice a 0 cg:=by
    rcases D with D|D
    . exact⟨_,D⟩
    . exact⟨_,D⟩
   obtain⟨va,rfl⟩:=B;clear D;go_wp2_with fail
   go_loopw [6,8,27] (fun s _ i wr=>∃j:Nat,j<=k/\i = .int .i64 j/\wr.ownsRow w.heap.size 159 2 s (aM (R.take j)) (eH (R.take j))/\Below w.heap.size w wr) (fun _ _ i _=>k-(intOf i).toNat)
   case atStart=>exact⟨0,a0g _,rfl,ho,hb⟩
   case round=>
    obtain⟨j,Y,rfl,hq,f⟩:=hrel;clear ho hb;have HJ:=af Y;have G:=f.size;by_cases d:j<k
    .
     have A:=H.later f;have E:=A j (by rw[t.1];exact d);obtain⟨a,c1,e,y,u⟩:=A.form j (by rw[t.1];exact d);have c0:=E.1;rw[e]at c0;have o:=af (kP R j (by rw[t.1];exact d));have P:=af (qY R j (by rw[t.1];exact d));have C:=mM R (j+1);have F:Hid (aM (R.take j)+ce (R.getD j (.slice none 0 0,[]))<=maxLen/\(aM (R.take j)+ce (R.getD j (.slice none 0 0,[])))*16<=140737488355328):=by
      have:=ae o;have:=ae z;have:=ae U;show _/\_;unfold maxLen;omega
     have V:=af (a0b y u);clear E e C Y A y u;generalize ce (R.getD j (.slice none 0 0,[]))=q,(R.getD j (.slice none 0 0,[])).2=xs at *;go_wp2_with (at_builtin;refine kz _ rfl _ _ 156 rfl w.heap.size 159 i0 (Value.agg #[.int .i64 0,.int .i64 0]) 2 16 a1x hi Q S T rfl (by decide) _ _ _ rfl hq _ ob q xs rfl V.1 V.2 F.1 F.2 G ?_;intro v' x2 x l);have L:Below w.heap.size w x2:=f.grown l G (fun b h=>(a0z hq b h).1);rw[←ae o,←ae P]at x;clear l hq f;go_wp2;go_roundw
     case rel=>exact⟨j+1,by have:=ae HJ;omega,by go_num,x,L⟩
     case measure=>simp[intOf];omega
    .
     obtain rfl:j=k:=by omega
     have r:R.take j=R:=a0u (by rw[t.1];exact a0a _);rw[r,ae z]at hq;have O:∃a c,u6 = .slice a N c:=by
      rcases hq.2 with⟨e,e0⟩|⟨g,cap,ab,e,_⟩
      . subst e0;exact⟨_,_,e⟩
      . exact⟨_,_,e⟩
     obtain⟨qa,qc,rfl⟩:=O;clear r;go_wp2;go_ret;exact⟨_,rfl,by rw[ae z];exact hq,f⟩
