/- Of what the proof is made: 2 texts, one behind the other. -/
import Derived.Test.YtggknepmhjfohaaGreatDoorM6
import Derived.Test.YtggknepmhjfohaaGreatDoorM8
import Derived.Lib.AppendZerosOnto
set_option maxRecDepth 100000
set_option linter.unusedSimpArgs false
set_option linter.unusedVariables false
set_option maxHeartbeats 1600000
namespace Go.Proofs.YtggknepmhjfohaaGreatDoor
open Go.Proofs.Tryz
open Go.RowKit Go.Lib
variable {R:List (Value×List Value)}{ob p:Nat}{w:World}
theorem oh:(prog.info? 3).map (fun i=>(i.zero,i.size,i.bytes))=some (some (Value.int .i64 0),1,8):=by kernel_rfl
theorem AX(n:Nat)(w:World)(q:n<=100000) :
  Calls prog 155 #[.slice none 0 0,.int .i64 (n:Nat)] w fun e w'=>∃v,e = .returned v/\(∃c,v = .slice none 0 c∨v = .slice (some ⟨w.heap.size,0,none⟩) 0 c)/\w'.ownsRow w.heap.size 3 1 v 0 []/\Below w.heap.size w w':=by
 obtain⟨i0,i,b,d,a⟩:=a0t oh;have p:(n:Int)<=100000:=by omega
 by_cases k:n=0
 . subst k;clear b d a i;go_enter func155,ntmps155;go_wp2;go_ret;exact⟨_,rfl,⟨0,.inl rfl⟩,a05 _ _ _ _,a0c _ _⟩
 .
  have hold:(Builtin.firstCells i0.size 0 (.slice none 0 0)).run prog w.drew = .ok ([]:List Value).toArray w.drew:=run_firstCells_none w.drew i0.size 0 0 0;have g:=af (fun ty=>Lib.run_append_grow_zeros w 56 3 ty 3 i0 (Value.int .i64 0) .i64 .i64 a0D a1X i b none 0 0 [] hold n (by omega) (by rw[d];decide) (by omega) (by omega) (by rw[a];omega) (a3w (by omega) (by rw[a];omega)));rw[a0J]at g;have h:n<=grownCap w n 0 3:=grownCap_ge w _ _ _;have f:grownCap w n 0 3<=maxLen:=grownCap_le_maxLen w n 0 _ (by unfold maxLen;omega);generalize grownCap w n 0 3=G at *
  have j:Hid ((([]:List Value).toArray++Builtin.zeroCells ((Value.int .i64 0):Value).cells n++Builtin.zeroCells ((Value.int .i64 0):Value).cells (G-n)).size=G*1):=by
   show _=_;simp only[a2f,size_zeroCells];have e:((Value.int .i64 0):Value).cells.size=1:=rfl;rw[e];simp;omega
  generalize (([]:List Value).toArray++Builtin.zeroCells ((Value.int .i64 0):Value).cells n++Builtin.zeroCells ((Value.int .i64 0):Value).cells (G-n))=cur at *
  have m:(1:Int)<=(n:Int):=by omega
  have o:¬ G=0:=by omega
  have l:=af f;clear hold b d a i f h k;go_enter func155,ntmps155;go_wp2_with (at_builtin;refine Lib.wpList_append_run _ rfl _ _ _ _ rfl _ _ rfl rfl _ _ (ae g _) ?_);go_ret;refine⟨_,rfl,⟨G,.inr rfl⟩,World.ownsRow_made w.drew cur G (a0a _) (ae l) (ae j),((a0c _ _).drew).alloc (a0a _) _⟩
def iC(w:World)(p ob:Nat)(R:List (Value×List Value)):Prop:=∀j,j<R.length->w.cell? ⟨p,j,none⟩=some (R.getD j (.slice none 0 0,[])).1/\∃n,w.ownsRow ob 3 1 (R.getD j (.slice none 0 0,[])).1 n (R.getD j (.slice none 0 0,[])).2/\(∀u∈(R.getD j (.slice none 0 0,[])).2,u.oneCell'=true)
def cw(x:Value×List Value):Nat:=x.2.length/1
def aK(R:List (Value×List Value)):Nat:=(R.map cw).sum
def dk(R:List (Value×List Value)):List Value:=R.flatMap Prod.snd
theorem oK(R:List (Value×List Value))(k:Nat)(h:k<R.length):R.take (k+1)=R.take k++[R.getD k (.slice none 0 0,[])]:=by
 rw[a1e h]
 congr 2
 simp[List.getD,h]
theorem lk(R:List (Value×List Value))(k:Nat)(h:k<R.length):aK (R.take (k+1))=aK (R.take k)+cw (R.getD k (.slice none 0 0,[])):=by
 rw[oK R k h];simp[aK]
theorem ri(R:List (Value×List Value))(k:Nat)(h:k<R.length):dk (R.take (k+1))=dk (R.take k)++(R.getD k (.slice none 0 0,[])).2:=by
 rw[oK R k h];simp[dk]
theorem mU(R:List (Value×List Value))(k:Nat):aK (R.take k)<=aK R:=by
 have e0:∀A B:List (Value×List Value),aK (A++B)=aK A+aK B:=fun A B=>by simp[aK]
 have e:=e0 (R.take k) (R.drop k);rw[a2D]at e;omega
theorem iC.later{w':World}(h:iC w p ob R)(hb:Below w.heap.size w w'):iC w' p ob R:=by
 intro j i;obtain⟨d,n,h2,f⟩:=h j i;refine⟨(hb.cell (p:=⟨p,j,none⟩) (World.block_lt_of_cell? w ⟨p,j,none⟩ d)).trans d,n,?_,f⟩;refine⟨h2.1,?_⟩;rcases h2.2 with k|⟨g,cap,b,e,c,a,rest⟩
 . exact .inl k
 . exact .inr ⟨g,cap,b,e,c,(hb.block g (Array.getElem?_eq_some_iff.1 a).1).trans a,rest⟩
theorem iC.form(h:iC w p ob R)(j:Nat)(i:j<R.length):∃a c,(R.getD j (.slice none 0 0,[])).1 = .slice a (cw (R.getD j (.slice none 0 0,[]))) c/\w.ownsRow ob 3 1 (.slice a (cw (R.getD j (.slice none 0 0,[]))) c) (cw (R.getD j (.slice none 0 0,[]))) (R.getD j (.slice none 0 0,[])).2/\(∀u∈(R.getD j (.slice none 0 0,[])).2,u.oneCell'=true):=by
 obtain⟨_,n,h2,d⟩:=h j i;have k:cw (R.getD j (.slice none 0 0,[]))=n:=by
  unfold cw;rw[h2.1];omega
 rw[k];rcases h2.2 with⟨e,e0⟩|⟨g,cap,f,e,_⟩
 . subst e0;exact⟨none,0,e,by have b:=h2;rw[e]at b;exact b,d⟩
 . exact⟨_,cap,e,by have b:=h2;rw[e]at b;exact b,d⟩
theorem pi(p ob m c:Nat)(R:List (Value×List Value))(w:World)(hm:R.length=m)(W:1<=m)(I:m<=1000)(h:iC w p ob R)(Z:aK R<=100000) :
  Calls prog 114 #[.slice (some ⟨p,0,none⟩) m c] w fun e w'=>∃v,e = .returned v/\w'.ownsRow w.heap.size 3 1 v (aK R) (dk R)/\Below w.heap.size w w':=by
 obtain⟨i0,hi,Q,S,T⟩:=a0t oh;have ad:(m:Int)<=1000:=by omega
 have t:=af (a0b hm (a0b W I));have J:=af Z;have H:=af h;have K:=af (fun n hn=>AX n w hn);clear hm W I Z h;go_enter func114,ntmps114;go_wp2_with fail
 go_loop [3,5,11] (fun s _ i=>∃k:Nat,k<=m/\i = .int .i64 k/\s = .int .i64 (aK (R.take k):Nat)) (fun _ _ i=>m-(intOf i).toNat)
 case atStart=>exact⟨0,a0g _,rfl,rfl⟩
 case round=>
  obtain⟨k,M,rfl,rfl⟩:=hrel;have HK:=af M;by_cases d:k<m
  .
   have E:=ae H k (by rw[(ae t).1];exact d);obtain⟨a,c1,e,_,_⟩:=(ae H).form k (by rw[(ae t).1];exact d);have c0:=E.1;rw[e]at c0;have o:=af (lk R k (by rw[(ae t).1];exact d));have C:=mU R (k+1);have aa:(aK (R.take k):Int)+(cw (R.getD k (.slice none 0 0,[])):Int)<=100000:=by have:=ae o;have:=ae J;omega
   clear E e C M;generalize cw (R.getD k (.slice none 0 0,[]))=q at *
   generalize aK (R.take k)=s at *
   go_wp2
   go_round
   case rel=>exact⟨k+1,by have:=ae HK;omega,by go_num,by rw[ae o];go_num⟩
   case measure=>simp[intOf];omega
  .
   obtain rfl:k=m:=by omega
   have r:R.take k=R:=a0F (by rw[(ae t).1];exact a0a _);rw[r];have ac:(aK R:Int)<=100000:=by have:=ae J;omega
   have U:Hid (aK R<=100000):=by show _<=_;have:=ae J;omega
   clear r M d;generalize X:aK R=N at *
   have z:=af X;clear X;go_wp2_with fail;refine(ae K N (ae U)).mono ?_;rintro e x1 ⟨v,rfl,⟨cg,D⟩,ho,hb⟩;have B:∃a,v = .slice a 0 cg:=by
    rcases D with D|D
    . exact⟨_,D⟩
    . exact⟨_,D⟩
   obtain⟨va,rfl⟩:=B;clear D;go_wp2_with fail
   go_loopw [6,8,27] (fun s _ i wr=>∃j:Nat,j<=k/\i = .int .i64 j/\wr.ownsRow w.heap.size 3 1 s (aK (R.take j)) (dk (R.take j))/\Below w.heap.size w wr) (fun _ _ i _=>k-(intOf i).toNat)
   case atStart=>exact⟨0,a0g _,rfl,ho,hb⟩
   case round=>
    obtain⟨j,Y,rfl,hq,f⟩:=hrel;clear ho hb;have HJ:=af Y;have G:=f.size;by_cases d:j<k
    .
     have A:=(ae H).later f;have E:=A j (by rw[(ae t).1];exact d);obtain⟨a,c1,e,y,u⟩:=A.form j (by rw[(ae t).1];exact d);have c0:=E.1;rw[e]at c0;have o:=af (lk R j (by rw[(ae t).1];exact d));have P:=af (ri R j (by rw[(ae t).1];exact d));have C:=mU R (j+1);have F:Hid (aK (R.take j)+cw (R.getD j (.slice none 0 0,[]))<=maxLen/\(aK (R.take j)+cw (R.getD j (.slice none 0 0,[])))*8<=140737488355328):=by
      have:=ae o;have:=ae z;have:=ae U;show _/\_;unfold maxLen;omega
     have V:=af (a0b y u);clear E e C Y A y u;generalize cw (R.getD j (.slice none 0 0,[]))=q at *
     generalize (R.getD j (.slice none 0 0,[])).2=xs at *
     go_wp2_with (at_builtin;refine jd _ rfl _ _ 56 rfl w.heap.size 3 i0 (Value.int .i64 0) 1 8 a0D hi Q S T rfl (by decide) _ _ _ rfl hq _ ob q xs rfl (ae V).1 (ae V).2 (ae F).1 (ae F).2 G ?_;intro v' x2 x l);have L:Below w.heap.size w x2:=f.grown l G (fun b h=>(a0C hq b h).1);rw[←ae o,←ae P]at x;clear l hq f;go_wp2;go_roundw
     case rel=>exact⟨j+1,by have:=ae HJ;omega,by go_num,x,L⟩
     case measure=>simp[intOf];omega
    .
     obtain rfl:j=k:=by omega
     have r:R.take j=R:=a0F (by rw[(ae t).1];exact a0a _);rw[r,ae z]at hq;have O:∃a c,u6 = .slice a N c:=by
      rcases hq.2 with⟨e,e0⟩|⟨g,cap,ab,e,_⟩
      . subst e0;exact⟨_,_,e⟩
      . exact⟨_,_,e⟩
     obtain⟨qa,qc,rfl⟩:=O;clear r;go_wp2;go_ret;exact⟨_,rfl,by rw[ae z];exact hq,f⟩
theorem lC:(prog.info? 82).map (fun i=>(i.zero,i.size,i.bytes))=some (some (.agg #[.int .i64 0,.int .i64 0]),2,16):=by kernel_rfl
theorem vV(n:Nat)(w:World)(q:n<=100000) :
  Calls prog 125 #[.slice none 0 0,.int .i64 (n:Nat)] w fun e w'=>∃v,e = .returned v/\(∃c,v = .slice none 0 c∨v = .slice (some ⟨w.heap.size,0,none⟩) 0 c)/\w'.ownsRow w.heap.size 82 2 v 0 []/\Below w.heap.size w w':=by
 obtain⟨i0,i,b,d,a⟩:=a0t lC;have p:(n:Int)<=100000:=by omega
 by_cases k:n=0
 . subst k;clear b d a i;go_enter func125,ntmps125;go_wp2;go_ret;exact⟨_,rfl,⟨0,.inl rfl⟩,a05 _ _ _ _,a0c _ _⟩
 .
  have hold:(Builtin.firstCells i0.size 0 (.slice none 0 0)).run prog w.drew = .ok ([]:List Value).toArray w.drew:=run_firstCells_none w.drew i0.size 0 0 0;have g:=af (fun ty=>Lib.run_append_grow_zeros w 79 3 ty 82 i0 (.agg #[.int .i64 0,.int .i64 0]) .i64 .i64 a1s a1X i b none 0 0 [] hold n (by omega) (by rw[d];decide) (by omega) (by omega) (by rw[a];omega) (a3w (by omega) (by rw[a];omega)));rw[a0J]at g;have h:n<=grownCap w n 0 82:=grownCap_ge w _ _ _;have f:grownCap w n 0 82<=maxLen:=grownCap_le_maxLen w n 0 _ (by unfold maxLen;omega);generalize grownCap w n 0 82=G at *
  have j:Hid ((([]:List Value).toArray++Builtin.zeroCells ((Value.agg #[.int .i64 0,.int .i64 0]):Value).cells n++Builtin.zeroCells ((Value.agg #[.int .i64 0,.int .i64 0]):Value).cells (G-n)).size=G*2):=by
   show _=_;simp only[a2f,size_zeroCells];have e:((Value.agg #[.int .i64 0,.int .i64 0]):Value).cells.size=2:=rfl;rw[e];simp;omega
  generalize (([]:List Value).toArray++Builtin.zeroCells ((Value.agg #[.int .i64 0,.int .i64 0]):Value).cells n++Builtin.zeroCells ((Value.agg #[.int .i64 0,.int .i64 0]):Value).cells (G-n))=cur at *
  have m:(1:Int)<=(n:Int):=by omega
  have o:¬ G=0:=by omega
  have l:=af f;clear hold b d a i f h k;go_enter func125,ntmps125;go_wp2_with (at_builtin;refine Lib.wpList_append_run _ rfl _ _ _ _ rfl _ _ rfl rfl _ _ (ae g _) ?_);go_ret;refine⟨_,rfl,⟨G,.inr rfl⟩,World.ownsRow_made w.drew cur G (a0a _) (ae l) (ae j),((a0c _ _).drew).alloc (a0a _) _⟩
def gt(w:World)(p ob:Nat)(R:List (Value×List Value)):Prop:=∀j,j<R.length->w.cell? ⟨p,j,none⟩=some (R.getD j (.slice none 0 0,[])).1/\∃n,w.ownsRow ob 82 2 (R.getD j (.slice none 0 0,[])).1 n (R.getD j (.slice none 0 0,[])).2/\(∀u∈(R.getD j (.slice none 0 0,[])).2,u.oneCell'=true)
def bS(x:Value×List Value):Nat:=x.2.length/2
def aH(R:List (Value×List Value)):Nat:=(R.map bS).sum
def dQ(R:List (Value×List Value)):List Value:=R.flatMap Prod.snd
theorem lV(R:List (Value×List Value))(k:Nat)(h:k<R.length):R.take (k+1)=R.take k++[R.getD k (.slice none 0 0,[])]:=by
 rw[a1e h]
 congr 2
 simp[List.getD,h]
theorem ju(R:List (Value×List Value))(k:Nat)(h:k<R.length):aH (R.take (k+1))=aH (R.take k)+bS (R.getD k (.slice none 0 0,[])):=by
 rw[lV R k h];simp[aH]
theorem oJ(R:List (Value×List Value))(k:Nat)(h:k<R.length):dQ (R.take (k+1))=dQ (R.take k)++(R.getD k (.slice none 0 0,[])).2:=by
 rw[lV R k h];simp[dQ]
theorem lj(R:List (Value×List Value))(k:Nat):aH (R.take k)<=aH R:=by
 have e0:∀A B:List (Value×List Value),aH (A++B)=aH A+aH B:=fun A B=>by simp[aH]
 have e:=e0 (R.take k) (R.drop k);rw[a2D]at e;omega
theorem gt.later{w':World}(h:gt w p ob R)(hb:Below w.heap.size w w'):gt w' p ob R:=by
 intro j i;obtain⟨d,n,h2,f⟩:=h j i;refine⟨(hb.cell (p:=⟨p,j,none⟩) (World.block_lt_of_cell? w ⟨p,j,none⟩ d)).trans d,n,?_,f⟩;refine⟨h2.1,?_⟩;rcases h2.2 with k|⟨g,cap,b,e,c,a,rest⟩
 . exact .inl k
 . exact .inr ⟨g,cap,b,e,c,(hb.block g (Array.getElem?_eq_some_iff.1 a).1).trans a,rest⟩
theorem gt.form(h:gt w p ob R)(j:Nat)(i:j<R.length):∃a c,(R.getD j (.slice none 0 0,[])).1 = .slice a (bS (R.getD j (.slice none 0 0,[]))) c/\w.ownsRow ob 82 2 (.slice a (bS (R.getD j (.slice none 0 0,[]))) c) (bS (R.getD j (.slice none 0 0,[]))) (R.getD j (.slice none 0 0,[])).2/\(∀u∈(R.getD j (.slice none 0 0,[])).2,u.oneCell'=true):=by
 obtain⟨_,n,h2,d⟩:=h j i;have k:bS (R.getD j (.slice none 0 0,[]))=n:=by
  unfold bS;rw[h2.1];omega
 rw[k];rcases h2.2 with⟨e,e0⟩|⟨g,cap,f,e,_⟩
 . subst e0;exact⟨none,0,e,by have b:=h2;rw[e]at b;exact b,d⟩
 . exact⟨_,cap,e,by have b:=h2;rw[e]at b;exact b,d⟩
theorem xy(p ob m c:Nat)(R:List (Value×List Value))(w:World)(hm:R.length=m)(W:1<=m)(I:m<=1000)(h:gt w p ob R)(Z:aH R<=100000) :
  Calls prog 98 #[.slice (some ⟨p,0,none⟩) m c] w fun e w'=>∃v,e = .returned v/\w'.ownsRow w.heap.size 82 2 v (aH R) (dQ R)/\Below w.heap.size w w':=by
 obtain⟨i0,hi,Q,S,T⟩:=a0t lC;have ad:(m:Int)<=1000:=by omega
 have t:=af (a0b hm (a0b W I));have J:=af Z;have H:=af h;have K:=af (fun n hn=>vV n w hn);clear hm W I Z h;go_enter func98,ntmps98;go_wp2_with fail
 go_loop [3,5,11] (fun s _ i=>∃k:Nat,k<=m/\i = .int .i64 k/\s = .int .i64 (aH (R.take k):Nat)) (fun _ _ i=>m-(intOf i).toNat)
 case atStart=>exact⟨0,a0g _,rfl,rfl⟩
 case round=>
  obtain⟨k,M,rfl,rfl⟩:=hrel;have HK:=af M;by_cases d:k<m
  .
   have E:=ae H k (by rw[(ae t).1];exact d);obtain⟨a,c1,e,_,_⟩:=(ae H).form k (by rw[(ae t).1];exact d);have c0:=E.1;rw[e]at c0;have o:=af (ju R k (by rw[(ae t).1];exact d));have C:=lj R (k+1);have aa:(aH (R.take k):Int)+(bS (R.getD k (.slice none 0 0,[])):Int)<=100000:=by have:=ae o;have:=ae J;omega
   clear E e C M;generalize bS (R.getD k (.slice none 0 0,[]))=q at *
   generalize aH (R.take k)=s at *
   go_wp2
   go_round
   case rel=>exact⟨k+1,by have:=ae HK;omega,by go_num,by rw[ae o];go_num⟩
   case measure=>simp[intOf];omega
  .
   obtain rfl:k=m:=by omega
   have r:R.take k=R:=a0F (by rw[(ae t).1];exact a0a _);rw[r];have ac:(aH R:Int)<=100000:=by have:=ae J;omega
   have U:Hid (aH R<=100000):=by show _<=_;have:=ae J;omega
   clear r M d;generalize X:aH R=N at *
   have z:=af X;clear X;go_wp2_with fail;refine(ae K N (ae U)).mono ?_;rintro e x1 ⟨v,rfl,⟨cg,D⟩,ho,hb⟩;have B:∃a,v = .slice a 0 cg:=by
    rcases D with D|D
    . exact⟨_,D⟩
    . exact⟨_,D⟩
   obtain⟨va,rfl⟩:=B;clear D;go_wp2_with fail
   go_loopw [6,8,27] (fun s _ i wr=>∃j:Nat,j<=k/\i = .int .i64 j/\wr.ownsRow w.heap.size 82 2 s (aH (R.take j)) (dQ (R.take j))/\Below w.heap.size w wr) (fun _ _ i _=>k-(intOf i).toNat)
   case atStart=>exact⟨0,a0g _,rfl,ho,hb⟩
   case round=>
    obtain⟨j,Y,rfl,hq,f⟩:=hrel;clear ho hb;have HJ:=af Y;have G:=f.size;by_cases d:j<k
    .
     have A:=(ae H).later f;have E:=A j (by rw[(ae t).1];exact d);obtain⟨a,c1,e,y,u⟩:=A.form j (by rw[(ae t).1];exact d);have c0:=E.1;rw[e]at c0;have o:=af (ju R j (by rw[(ae t).1];exact d));have P:=af (oJ R j (by rw[(ae t).1];exact d));have C:=lj R (j+1);have F:Hid (aH (R.take j)+bS (R.getD j (.slice none 0 0,[]))<=maxLen/\(aH (R.take j)+bS (R.getD j (.slice none 0 0,[])))*16<=140737488355328):=by
      have:=ae o;have:=ae z;have:=ae U;show _/\_;unfold maxLen;omega
     have V:=af (a0b y u);clear E e C Y A y u;generalize bS (R.getD j (.slice none 0 0,[]))=q at *
     generalize (R.getD j (.slice none 0 0,[])).2=xs at *
     go_wp2_with (at_builtin;refine jd _ rfl _ _ 79 rfl w.heap.size 82 i0 (Value.agg #[.int .i64 0,.int .i64 0]) 2 16 a1s hi Q S T rfl (by decide) _ _ _ rfl hq _ ob q xs rfl (ae V).1 (ae V).2 (ae F).1 (ae F).2 G ?_;intro v' x2 x l);have L:Below w.heap.size w x2:=f.grown l G (fun b h=>(a0C hq b h).1);rw[←ae o,←ae P]at x;clear l hq f;go_wp2;go_roundw
     case rel=>exact⟨j+1,by have:=ae HJ;omega,by go_num,x,L⟩
     case measure=>simp[intOf];omega
    .
     obtain rfl:j=k:=by omega
     have r:R.take j=R:=a0F (by rw[(ae t).1];exact a0a _);rw[r,ae z]at hq;have O:∃a c,u6 = .slice a N c:=by
      rcases hq.2 with⟨e,e0⟩|⟨g,cap,ab,e,_⟩
      . subst e0;exact⟨_,_,e⟩
      . exact⟨_,_,e⟩
     obtain⟨qa,qc,rfl⟩:=O;clear r;go_wp2;go_ret;exact⟨_,rfl,by rw[ae z];exact hq,f⟩
end Go.Proofs.YtggknepmhjfohaaGreatDoor
