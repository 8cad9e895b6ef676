/- Of what the proof is made: 2 texts, one behind the other. -/
import Derived.Test.YtllhielelnfpaaaGreatDoorM9
set_option maxRecDepth 100000
set_option linter.unusedSimpArgs false
set_option linter.unusedVariables false
set_option maxHeartbeats 1600000
namespace Go.Proofs.YtllhielelnfpaaaGreatDoor
open Go.Proofs.Tryz
open Go.RowKit Go.Lib
variable {R:List (Value×List Value)}{ob p:Nat}{w:World}
theorem oL:(prog.info? 3).map (fun i=>(i.zero,i.size,i.bytes))=some (some (Value.int .i64 0),1,8):=by kernel_rfl
theorem Cm(n:Nat)(w:World)(q:n<=100000) :
  Calls prog 225 #[.slice none 0 0,.int .i64 (n:Nat)] w fun e w'=>∃v,e = .returned v/\(∃c,v = .slice none 0 c∨v = .slice (some ⟨w.heap.size,0,none⟩) 0 c)/\w'.ownsRow w.heap.size 3 1 v 0 []/\Below w.heap.size w w':=by
 obtain⟨i0,i,b,d,a⟩:=a0p oL;have p:(n:Int)<=100000:=by omega
 by_cases k:n=0
 . subst k;clear b d a i;go_enter func225,ntmps225;go_wp2;go_ret;exact⟨_,rfl,⟨0,.inl rfl⟩,a06 _ _ _ _,a0c _ _⟩
 .
  have hold:(Builtin.firstCells i0.size 0 (.slice none 0 0)).run prog w.drew = .ok ([]:List Value).toArray w.drew:=run_firstCells_none w.drew i0.size 0 0 0;have g:=ae (fun ty=>Lib.run_append_grow_zeros w 140 3 ty 3 i0 (Value.int .i64 0) .i64 .i64 a0C a18 i b none 0 0 [] hold n (by omega) (by rw[d];decide) (by omega) (by omega) (by rw[a];omega) (a3A (by omega) (by rw[a];omega)));rw[a0G]at g;have h:n<=grownCap w n 0 3:=grownCap_ge w _ _ _;have f:grownCap w n 0 3<=maxLen:=grownCap_le_maxLen w n 0 _ (by unfold maxLen;omega);generalize grownCap w n 0 3=G at *
  have j:Hid ((([]:List Value).toArray++Builtin.zeroCells ((Value.int .i64 0):Value).cells n++Builtin.zeroCells ((Value.int .i64 0):Value).cells (G-n)).size=G*1):=by
   show _=_;simp only[a2i,size_zeroCells];have e:((Value.int .i64 0):Value).cells.size=1:=rfl;rw[e];simp;omega
  generalize (([]:List Value).toArray++Builtin.zeroCells ((Value.int .i64 0):Value).cells n++Builtin.zeroCells ((Value.int .i64 0):Value).cells (G-n))=cur at *
  have m:(1:Int)<=n:=by omega
  have o:¬ G=0:=by omega
  have l:=ae f;clear hold b d a i f h k;go_enter func225,ntmps225;go_wp2_with (at_builtin;refine Lib.wpList_append_run _ rfl _ _ _ _ rfl _ _ rfl rfl _ _ (ab g _) ?_);go_ret;refine⟨_,rfl,⟨G,.inr rfl⟩,World.ownsRow_made w.drew cur G (a0a _) (ab l) (ab j),((a0c _ _).drew).alloc (a0a _) _⟩
def iQ(w:World)(p ob:Nat)(R:List (Value×List Value)):Prop:=∀j,j<R.length->w.cell? ⟨p,j,none⟩=some (R.getD j (.slice none 0 0,[])).1/\∃n,w.ownsRow ob 3 1 (R.getD j (.slice none 0 0,[])).1 n (R.getD j (.slice none 0 0,[])).2/\(∀u∈(R.getD j (.slice none 0 0,[])).2,u.oneCell'=true)
def ci(x:Value×List Value):Nat:=x.2.length/1
def aM(R:List (Value×List Value)):Nat:=(R.map ci).sum
def dc(R:List (Value×List Value)):List Value:=R.flatMap Prod.snd
theorem pn(R:List (Value×List Value))(k:Nat)(h:k<R.length):R.take (k+1)=R.take k++[R.getD k (.slice none 0 0,[])]:=by
 rw[a1e h]
 congr 2
 simp[List.getD,h]
theorem lC(R:List (Value×List Value))(k:Nat)(h:k<R.length):aM (R.take (k+1))=aM (R.take k)+ci (R.getD k (.slice none 0 0,[])):=by
 rw[pn R k h];simp[aM]
theorem rR(R:List (Value×List Value))(k:Nat)(h:k<R.length):dc (R.take (k+1))=dc (R.take k)++(R.getD k (.slice none 0 0,[])).2:=by
 rw[pn R k h];simp[dc]
theorem nw(R:List (Value×List Value))(k:Nat):aM (R.take k)<=aM R:=by
 have e0:∀A B:List (Value×List Value),aM (A++B)=aM A+aM B:=fun A B=>by simp[aM]
 have e:=e0 (R.take k) (R.drop k);rw[a1u]at e;omega
theorem iQ.later{w':World}(h:iQ w p ob R)(hb:Below w.heap.size w w'):iQ w' p ob R:=by
 intro j i;obtain⟨d,n,h2,f⟩:=h j i;refine⟨(hb.cell (p:=⟨p,j,none⟩) (World.block_lt_of_cell? w ⟨p,j,none⟩ d)).trans d,n,?_,f⟩;refine⟨h2.1,?_⟩;rcases h2.2 with k|⟨g,cap,b,e,c,a,rest⟩
 . exact .inl k
 . exact .inr ⟨g,cap,b,e,c,(hb.block g (Array.getElem?_eq_some_iff.1 a).1).trans a,rest⟩
theorem iQ.form(h:iQ w p ob R)(j:Nat)(i:j<R.length):∃a c,(R.getD j (.slice none 0 0,[])).1 = .slice a (ci (R.getD j (.slice none 0 0,[]))) c/\w.ownsRow ob 3 1 (.slice a (ci (R.getD j (.slice none 0 0,[]))) c) (ci (R.getD j (.slice none 0 0,[]))) (R.getD j (.slice none 0 0,[])).2/\(∀u∈(R.getD j (.slice none 0 0,[])).2,u.oneCell'=true):=by
 obtain⟨_,n,h2,d⟩:=h j i;have k:ci (R.getD j (.slice none 0 0,[]))=n:=by
  unfold ci;rw[h2.1];omega
 rw[k];rcases h2.2 with⟨e,e0⟩|⟨g,cap,f,e,_⟩
 . subst e0;exact⟨none,0,e,by have b:=h2;rw[e]at b;exact b,d⟩
 . exact⟨_,cap,e,by have b:=h2;rw[e]at b;exact b,d⟩
theorem pH(p ob m c:Nat)(R:List (Value×List Value))(w:World)(hm:R.length=m)(W:1<=m)(I:m<=1000)(h:iQ w p ob R)(Z:aM R<=100000) :
  Calls prog 195 #[.slice (some ⟨p,0,none⟩) m c] w fun e w'=>∃v,e = .returned v/\w'.ownsRow w.heap.size 3 1 v (aM R) (dc R)/\Below w.heap.size w w':=by
 obtain⟨i0,hi,Q,S,T⟩:=a0p oL;have al:(m:Int)<=1000:=by omega
 have t:=ae (a0b hm (a0b W I));have J:=ae Z;have H:=ae h;have K:=ae (fun n hn=>Cm n w hn);clear hm W I Z h;go_enter func195,ntmps195;go_wp2_with fail
 go_loop [3,5,11] (fun s _ i=>∃k:Nat,k<=m/\i = .int .i64 k/\s = .int .i64 (aM (R.take k):Nat)) (fun _ _ i=>m-(intOf i).toNat)
 case atStart=>exact⟨0,a0g _,rfl,rfl⟩
 case round=>
  obtain⟨k,M,rfl,rfl⟩:=hrel;have HK:=ae M;by_cases d:k<m
  .
   have E:=ab H k (by rw[(ab t).1];exact d);obtain⟨a,c1,e,_,_⟩:=(ab H).form k (by rw[(ab t).1];exact d);have c0:=E.1;rw[e]at c0;have o:=ae (lC R k (by rw[(ab t).1];exact d));have C:=nw R (k+1);have aa:(aM (R.take k):Int)+(ci (R.getD k (.slice none 0 0,[])):Int)<=100000:=by have:=ab o;have:=ab J;omega
   clear E e C M;generalize ci (R.getD k (.slice none 0 0,[]))=q at *
   generalize aM (R.take k)=s at *
   go_wp2
   go_round
   case rel=>exact⟨k+1,by have:=ab HK;omega,by go_num,by rw[ab o];go_num⟩
   case measure=>simp[intOf];omega
  .
   obtain rfl:k=m:=by omega
   have r:R.take k=R:=a0s (by rw[(ab t).1];exact a0a _);rw[r];have ad:(aM R:Int)<=100000:=by have:=ab J;omega
   have U:Hid (aM R<=100000):=by show _<=_;have:=ab J;omega
   clear r M d;generalize X:aM R=N at *
   have z:=ae X;clear X;go_wp2_with fail;refine(ab K N (ab U)).mono ?_;rintro e x1 ⟨v,rfl,⟨cg,D⟩,ho,hb⟩;have B:∃a,v = .slice a 0 cg:=by
    rcases D with D|D
    . exact⟨_,D⟩
    . exact⟨_,D⟩
   obtain⟨va,rfl⟩:=B;clear D;go_wp2_with fail
   go_loopw [6,8,27] (fun s _ i wr=>∃j:Nat,j<=k/\i = .int .i64 j/\wr.ownsRow w.heap.size 3 1 s (aM (R.take j)) (dc (R.take j))/\Below w.heap.size w wr) (fun _ _ i _=>k-(intOf i).toNat)
   case atStart=>exact⟨0,a0g _,rfl,ho,hb⟩
   case round=>
    obtain⟨j,Y,rfl,hq,f⟩:=hrel;clear ho hb;have HJ:=ae Y;have G:=f.size;by_cases d:j<k
    .
     have A:=(ab H).later f;have E:=A j (by rw[(ab t).1];exact d);obtain⟨a,c1,e,y,u⟩:=A.form j (by rw[(ab t).1];exact d);have c0:=E.1;rw[e]at c0;have o:=ae (lC R j (by rw[(ab t).1];exact d));have P:=ae (rR R j (by rw[(ab t).1];exact d));have C:=nw R (j+1);have F:Hid (aM (R.take j)+ci (R.getD j (.slice none 0 0,[]))<=maxLen/\(aM (R.take j)+ci (R.getD j (.slice none 0 0,[])))*8<=140737488355328):=by
      have:=ab o;have:=ab z;have:=ab U;show _/\_;unfold maxLen;omega
     have V:=ae (a0b y u);clear E e C Y A y u;generalize ci (R.getD j (.slice none 0 0,[]))=q at *
     generalize (R.getD j (.slice none 0 0,[])).2=xs at *
     go_wp2_with (at_builtin;refine ju _ rfl _ _ 140 rfl w.heap.size 3 i0 (Value.int .i64 0) 1 8 a0C hi Q S T rfl (by decide) _ _ _ rfl hq _ ob q xs rfl (ab V).1 (ab V).2 (ab F).1 (ab F).2 G ?_;intro v' x2 x l);have L:Below w.heap.size w x2:=f.grown l G (fun b h=>(a0B hq b h).1);rw[<-ab o,<-ab P]at x;clear l hq f;go_wp2;go_roundw
     case rel=>exact⟨j+1,by have:=ab HJ;omega,by go_num,x,L⟩
     case measure=>simp[intOf];omega
    .
     obtain rfl:j=k:=by omega
     have r:R.take j=R:=a0s (by rw[(ab t).1];exact a0a _);rw[r,ab z]at hq;have O:∃a c,u6 = .slice a N c:=by
      rcases hq.2 with⟨e,e0⟩|⟨g,cap,ac,e,_⟩
      . subst e0;exact⟨_,_,e⟩
      . exact⟨_,_,e⟩
     obtain⟨qa,qc,rfl⟩:=O;clear r;go_wp2;go_ret;exact⟨_,rfl,by rw[ab z];exact hq,f⟩
theorem lU:(prog.info? 174).map (fun i=>(i.zero,i.size,i.bytes))=some (some (.agg #[.int .i64 0,.int .i64 0]),2,16):=by kernel_rfl
theorem xe(n:Nat)(w:World)(q:n<=100000) :
  Calls prog 206 #[.slice none 0 0,.int .i64 (n:Nat)] w fun e w'=>∃v,e = .returned v/\(∃c,v = .slice none 0 c∨v = .slice (some ⟨w.heap.size,0,none⟩) 0 c)/\w'.ownsRow w.heap.size 174 2 v 0 []/\Below w.heap.size w w':=by
 obtain⟨i0,i,b,d,a⟩:=a0p lU;have p:(n:Int)<=100000:=by omega
 by_cases k:n=0
 . subst k;clear b d a i;go_enter func206,ntmps206;go_wp2;go_ret;exact⟨_,rfl,⟨0,.inl rfl⟩,a06 _ _ _ _,a0c _ _⟩
 .
  have hold:(Builtin.firstCells i0.size 0 (.slice none 0 0)).run prog w.drew = .ok ([]:List Value).toArray w.drew:=run_firstCells_none w.drew i0.size 0 0 0;have g:=ae (fun ty=>Lib.run_append_grow_zeros w 171 3 ty 174 i0 (.agg #[.int .i64 0,.int .i64 0]) .i64 .i64 a1p a18 i b none 0 0 [] hold n (by omega) (by rw[d];decide) (by omega) (by omega) (by rw[a];omega) (a3A (by omega) (by rw[a];omega)));rw[a0G]at g;have h:n<=grownCap w n 0 174:=grownCap_ge w _ _ _;have f:grownCap w n 0 174<=maxLen:=grownCap_le_maxLen w n 0 _ (by unfold maxLen;omega);generalize grownCap w n 0 174=G at *
  have j:Hid ((([]:List Value).toArray++Builtin.zeroCells ((Value.agg #[.int .i64 0,.int .i64 0]):Value).cells n++Builtin.zeroCells ((Value.agg #[.int .i64 0,.int .i64 0]):Value).cells (G-n)).size=G*2):=by
   show _=_;simp only[a2i,size_zeroCells];have e:((Value.agg #[.int .i64 0,.int .i64 0]):Value).cells.size=2:=rfl;rw[e];simp;omega
  generalize (([]:List Value).toArray++Builtin.zeroCells ((Value.agg #[.int .i64 0,.int .i64 0]):Value).cells n++Builtin.zeroCells ((Value.agg #[.int .i64 0,.int .i64 0]):Value).cells (G-n))=cur at *
  have m:(1:Int)<=n:=by omega
  have o:¬ G=0:=by omega
  have l:=ae f;clear hold b d a i f h k;go_enter func206,ntmps206;go_wp2_with (at_builtin;refine Lib.wpList_append_run _ rfl _ _ _ _ rfl _ _ rfl rfl _ _ (ab g _) ?_);go_ret;refine⟨_,rfl,⟨G,.inr rfl⟩,World.ownsRow_made w.drew cur G (a0a _) (ab l) (ab j),((a0c _ _).drew).alloc (a0a _) _⟩
def gJ(w:World)(p ob:Nat)(R:List (Value×List Value)):Prop:=∀j,j<R.length->w.cell? ⟨p,j,none⟩=some (R.getD j (.slice none 0 0,[])).1/\∃n,w.ownsRow ob 174 2 (R.getD j (.slice none 0 0,[])).1 n (R.getD j (.slice none 0 0,[])).2/\(∀u∈(R.getD j (.slice none 0 0,[])).2,u.oneCell'=true)
def bR(x:Value×List Value):Nat:=x.2.length/2
def aJ(R:List (Value×List Value)):Nat:=(R.map bR).sum
def dZ(R:List (Value×List Value)):List Value:=R.flatMap Prod.snd
theorem mq(R:List (Value×List Value))(k:Nat)(h:k<R.length):R.take (k+1)=R.take k++[R.getD k (.slice none 0 0,[])]:=by
 rw[a1e h]
 congr 2
 simp[List.getD,h]
theorem jJ(R:List (Value×List Value))(k:Nat)(h:k<R.length):aJ (R.take (k+1))=aJ (R.take k)+bR (R.getD k (.slice none 0 0,[])):=by
 rw[mq R k h];simp[aJ]
theorem pm(R:List (Value×List Value))(k:Nat)(h:k<R.length):dZ (R.take (k+1))=dZ (R.take k)++(R.getD k (.slice none 0 0,[])).2:=by
 rw[mq R k h];simp[dZ]
theorem lB(R:List (Value×List Value))(k:Nat):aJ (R.take k)<=aJ R:=by
 have e0:∀A B:List (Value×List Value),aJ (A++B)=aJ A+aJ B:=fun A B=>by simp[aJ]
 have e:=e0 (R.take k) (R.drop k);rw[a1u]at e;omega
theorem gJ.later{w':World}(h:gJ w p ob R)(hb:Below w.heap.size w w'):gJ w' p ob R:=by
 intro j i;obtain⟨d,n,h2,f⟩:=h j i;refine⟨(hb.cell (p:=⟨p,j,none⟩) (World.block_lt_of_cell? w ⟨p,j,none⟩ d)).trans d,n,?_,f⟩;refine⟨h2.1,?_⟩;rcases h2.2 with k|⟨g,cap,b,e,c,a,rest⟩
 . exact .inl k
 . exact .inr ⟨g,cap,b,e,c,(hb.block g (Array.getElem?_eq_some_iff.1 a).1).trans a,rest⟩
theorem gJ.form(h:gJ w p ob R)(j:Nat)(i:j<R.length):∃a c,(R.getD j (.slice none 0 0,[])).1 = .slice a (bR (R.getD j (.slice none 0 0,[]))) c/\w.ownsRow ob 174 2 (.slice a (bR (R.getD j (.slice none 0 0,[]))) c) (bR (R.getD j (.slice none 0 0,[]))) (R.getD j (.slice none 0 0,[])).2/\(∀u∈(R.getD j (.slice none 0 0,[])).2,u.oneCell'=true):=by
 obtain⟨_,n,h2,d⟩:=h j i;have k:bR (R.getD j (.slice none 0 0,[]))=n:=by
  unfold bR;rw[h2.1];omega
 rw[k];rcases h2.2 with⟨e,e0⟩|⟨g,cap,f,e,_⟩
 . subst e0;exact⟨none,0,e,by have b:=h2;rw[e]at b;exact b,d⟩
 . exact⟨_,cap,e,by have b:=h2;rw[e]at b;exact b,d⟩
theorem yJ(p ob m c:Nat)(R:List (Value×List Value))(w:World)(hm:R.length=m)(W:1<=m)(I:m<=1000)(h:gJ w p ob R)(Z:aJ R<=100000) :
  Calls prog 162 #[.slice (some ⟨p,0,none⟩) m c] w fun e w'=>∃v,e = .returned v/\w'.ownsRow w.heap.size 174 2 v (aJ R) (dZ R)/\Below w.heap.size w w':=by
 obtain⟨i0,hi,Q,S,T⟩:=a0p lU;have al:(m:Int)<=1000:=by omega
 have t:=ae (a0b hm (a0b W I));have J:=ae Z;have H:=ae h;have K:=ae (fun n hn=>xe n w hn);clear hm W I Z h;go_enter func162,ntmps162;go_wp2_with fail
 go_loop [3,5,11] (fun s _ i=>∃k:Nat,k<=m/\i = .int .i64 k/\s = .int .i64 (aJ (R.take k):Nat)) (fun _ _ i=>m-(intOf i).toNat)
 case atStart=>exact⟨0,a0g _,rfl,rfl⟩
 case round=>
  obtain⟨k,M,rfl,rfl⟩:=hrel;have HK:=ae M;by_cases d:k<m
  .
   have E:=ab H k (by rw[(ab t).1];exact d);obtain⟨a,c1,e,_,_⟩:=(ab H).form k (by rw[(ab t).1];exact d);have c0:=E.1;rw[e]at c0;have o:=ae (jJ R k (by rw[(ab t).1];exact d));have C:=lB R (k+1);have aa:(aJ (R.take k):Int)+(bR (R.getD k (.slice none 0 0,[])):Int)<=100000:=by have:=ab o;have:=ab J;omega
   clear E e C M;generalize bR (R.getD k (.slice none 0 0,[]))=q at *
   generalize aJ (R.take k)=s at *
   go_wp2
   go_round
   case rel=>exact⟨k+1,by have:=ab HK;omega,by go_num,by rw[ab o];go_num⟩
   case measure=>simp[intOf];omega
  .
   obtain rfl:k=m:=by omega
   have r:R.take k=R:=a0s (by rw[(ab t).1];exact a0a _);rw[r];have ad:(aJ R:Int)<=100000:=by have:=ab J;omega
   have U:Hid (aJ R<=100000):=by show _<=_;have:=ab J;omega
   clear r M d;generalize X:aJ R=N at *
   have z:=ae X;clear X;go_wp2_with fail;refine(ab K N (ab U)).mono ?_;rintro e x1 ⟨v,rfl,⟨cg,D⟩,ho,hb⟩;have B:∃a,v = .slice a 0 cg:=by
    rcases D with D|D
    . exact⟨_,D⟩
    . exact⟨_,D⟩
   obtain⟨va,rfl⟩:=B;clear D;go_wp2_with fail
   go_loopw [6,8,27] (fun s _ i wr=>∃j:Nat,j<=k/\i = .int .i64 j/\wr.ownsRow w.heap.size 174 2 s (aJ (R.take j)) (dZ (R.take j))/\Below w.heap.size w wr) (fun _ _ i _=>k-(intOf i).toNat)
   case atStart=>exact⟨0,a0g _,rfl,ho,hb⟩
   case round=>
    obtain⟨j,Y,rfl,hq,f⟩:=hrel;clear ho hb;have HJ:=ae Y;have G:=f.size;by_cases d:j<k
    .
     have A:=(ab H).later f;have E:=A j (by rw[(ab t).1];exact d);obtain⟨a,c1,e,y,u⟩:=A.form j (by rw[(ab t).1];exact d);have c0:=E.1;rw[e]at c0;have o:=ae (jJ R j (by rw[(ab t).1];exact d));have P:=ae (pm R j (by rw[(ab t).1];exact d));have C:=lB R (j+1);have F:Hid (aJ (R.take j)+bR (R.getD j (.slice none 0 0,[]))<=maxLen/\(aJ (R.take j)+bR (R.getD j (.slice none 0 0,[])))*16<=140737488355328):=by
      have:=ab o;have:=ab z;have:=ab U;show _/\_;unfold maxLen;omega
     have V:=ae (a0b y u);clear E e C Y A y u;generalize bR (R.getD j (.slice none 0 0,[]))=q at *
     generalize (R.getD j (.slice none 0 0,[])).2=xs at *
     go_wp2_with (at_builtin;refine ju _ rfl _ _ 171 rfl w.heap.size 174 i0 (Value.agg #[.int .i64 0,.int .i64 0]) 2 16 a1p hi Q S T rfl (by decide) _ _ _ rfl hq _ ob q xs rfl (ab V).1 (ab V).2 (ab F).1 (ab F).2 G ?_;intro v' x2 x l);have L:Below w.heap.size w x2:=f.grown l G (fun b h=>(a0B hq b h).1);rw[<-ab o,<-ab P]at x;clear l hq f;go_wp2;go_roundw
     case rel=>exact⟨j+1,by have:=ab HJ;omega,by go_num,x,L⟩
     case measure=>simp[intOf];omega
    .
     obtain rfl:j=k:=by omega
     have r:R.take j=R:=a0s (by rw[(ab t).1];exact a0a _);rw[r,ab z]at hq;have O:∃a c,u6 = .slice a N c:=by
      rcases hq.2 with⟨e,e0⟩|⟨g,cap,ac,e,_⟩
      . subst e0;exact⟨_,_,e⟩
      . exact⟨_,_,e⟩
     obtain⟨qa,qc,rfl⟩:=O;clear r;go_wp2;go_ret;exact⟨_,rfl,by rw[ab z];exact hq,f⟩
end Go.Proofs.YtllhielelnfpaaaGreatDoor
