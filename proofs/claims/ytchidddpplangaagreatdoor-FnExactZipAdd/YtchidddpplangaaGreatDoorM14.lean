/- Of what the proof is made: 2 texts, one behind the other. -/
import Derived.Test.YtchidddpplangaaGreatDoorM7
import Derived.Test.YtchidddpplangaaGreatDoorM9
import Derived.Lib.AppendZerosOnto
set_option maxRecDepth 100000
set_option linter.unusedSimpArgs false
set_option linter.unusedVariables false
set_option maxHeartbeats 1600000
namespace Go.Proofs.YtchidddpplangaaGreatDoor
open Go.Proofs.Tryz
open Go.RowKit Go.Lib
variable {R:List (Value×List Value)}{ob p:Nat}{w:World}
theorem oJ:(prog.info? 3).map (fun i=>(i.zero,i.size,i.bytes))=some (some (Value.int .i64 0),1,8):=by kernel_rfl
theorem Cf(n:Nat)(w:World)(q:n<=100000) :
  Calls prog 211 #[.slice none 0 0,.int .i64 (n:Nat)] w fun e w'=>∃v,e = .returned v/\(∃c,v = .slice none 0 c∨v = .slice (some ⟨w.heap.size,0,none⟩) 0 c)/\w'.ownsRow w.heap.size 3 1 v 0 []/\Below w.heap.size w w':=by
 obtain⟨i0,i,b,d,a⟩:=a0p oJ;have p:(n:Int)<=100000:=by omega
 by_cases k:n=0
 . subst k;clear b d a i;go_enter func211,ntmps211;go_wp2;go_ret;exact⟨_,rfl,⟨0,.inl rfl⟩,a04 _ _ _ _,a0c _ _⟩
 .
  have hold:(Builtin.firstCells i0.size 0 (.slice none 0 0)).run prog w.drew = .ok ([]:List Value).toArray w.drew:=run_firstCells_none w.drew i0.size 0 0 0;have g:=ae (fun ty=>Lib.run_append_grow_zeros w 137 3 ty 3 i0 (Value.int .i64 0) .i64 .i64 a0D a1f i b none 0 0 [] hold n (by omega) (by rw[d];decide) (by omega) (by omega) (by rw[a];omega) (a3B (by omega) (by rw[a];omega)));rw[a0G]at g;have h:n<=grownCap w n 0 3:=grownCap_ge w _ _ _;have f:grownCap w n 0 3<=maxLen:=grownCap_le_maxLen w n 0 _ (by unfold maxLen;omega);generalize grownCap w n 0 3=G at *
  have j:Hid ((([]:List Value).toArray++Builtin.zeroCells ((Value.int .i64 0):Value).cells n++Builtin.zeroCells ((Value.int .i64 0):Value).cells (G-n)).size=G*1):=by
   show _=_;simp only[a2l,size_zeroCells];have e:((Value.int .i64 0):Value).cells.size=1:=rfl;rw[e];simp;omega
  generalize (([]:List Value).toArray++Builtin.zeroCells ((Value.int .i64 0):Value).cells n++Builtin.zeroCells ((Value.int .i64 0):Value).cells (G-n))=cur at *
  have m:(1:Int)<=(n:Int):=by omega
  have o:¬ G=0:=by omega
  have l:=ae f;clear hold b d a i f h k;go_enter func211,ntmps211;go_wp2_with (at_builtin;refine Lib.wpList_append_run _ rfl _ _ _ _ rfl _ _ rfl rfl _ _ (ab g _) ?_);go_ret;refine⟨_,rfl,⟨G,.inr rfl⟩,World.ownsRow_made w.drew cur G (a0a _) (ab l) (ab j),((a0c _ _).drew).alloc (a0a _) _⟩
def iO(w:World)(p ob:Nat)(R:List (Value×List Value)):Prop:=∀j,j<R.length->w.cell? ⟨p,j,none⟩=some (R.getD j (.slice none 0 0,[])).1/\∃n,w.ownsRow ob 3 1 (R.getD j (.slice none 0 0,[])).1 n (R.getD j (.slice none 0 0,[])).2/\(∀u∈(R.getD j (.slice none 0 0,[])).2,u.oneCell'=true)
def cj(x:Value×List Value):Nat:=x.2.length/1
def aM(R:List (Value×List Value)):Nat:=(R.map cj).sum
def de(R:List (Value×List Value)):List Value:=R.flatMap Prod.snd
theorem pj(R:List (Value×List Value))(k:Nat)(h:k<R.length):R.take (k+1)=R.take k++[R.getD k (.slice none 0 0,[])]:=by
 rw[a1e h]
 congr 2
 simp[List.getD,h]
theorem lF(R:List (Value×List Value))(k:Nat)(h:k<R.length):aM (R.take (k+1))=aM (R.take k)+cj (R.getD k (.slice none 0 0,[])):=by
 rw[pj R k h];simp[aM]
theorem rP(R:List (Value×List Value))(k:Nat)(h:k<R.length):de (R.take (k+1))=de (R.take k)++(R.getD k (.slice none 0 0,[])).2:=by
 rw[pj R k h];simp[de]
theorem nv(R:List (Value×List Value))(k:Nat):aM (R.take k)<=aM R:=by
 have e0:∀A B:List (Value×List Value),aM (A++B)=aM A+aM B:=fun A B=>by simp[aM]
 have e:=e0 (R.take k) (R.drop k);rw[a1H]at e;omega
theorem iO.later{w':World}(h:iO w p ob R)(hb:Below w.heap.size w w'):iO w' p ob R:=by
 intro j i;obtain⟨d,n,h2,f⟩:=h j i;refine⟨(hb.cell (p:=⟨p,j,none⟩) (World.block_lt_of_cell? w ⟨p,j,none⟩ d)).trans d,n,?_,f⟩;refine⟨h2.1,?_⟩;rcases h2.2 with k|⟨g,cap,b,e,c,a,rest⟩
 . exact .inl k
 . exact .inr ⟨g,cap,b,e,c,(hb.block g (Array.getElem?_eq_some_iff.1 a).1).trans a,rest⟩
theorem iO.form(h:iO w p ob R)(j:Nat)(i:j<R.length):∃a c,(R.getD j (.slice none 0 0,[])).1 = .slice a (cj (R.getD j (.slice none 0 0,[]))) c/\w.ownsRow ob 3 1 (.slice a (cj (R.getD j (.slice none 0 0,[]))) c) (cj (R.getD j (.slice none 0 0,[]))) (R.getD j (.slice none 0 0,[])).2/\(∀u∈(R.getD j (.slice none 0 0,[])).2,u.oneCell'=true):=by
 obtain⟨_,n,h2,d⟩:=h j i;have k:cj (R.getD j (.slice none 0 0,[]))=n:=by
  unfold cj;rw[h2.1];omega
 rw[k];rcases h2.2 with⟨e,e0⟩|⟨g,cap,f,e,_⟩
 . subst e0;exact⟨none,0,e,by have b:=h2;rw[e]at b;exact b,d⟩
 . exact⟨_,cap,e,by have b:=h2;rw[e]at b;exact b,d⟩
theorem pF(p ob m c:Nat)(R:List (Value×List Value))(w:World)(hm:R.length=m)(W:1<=m)(I:m<=1000)(h:iO w p ob R)(Z:aM R<=100000) :
  Calls prog 181 #[.slice (some ⟨p,0,none⟩) m c] w fun e w'=>∃v,e = .returned v/\w'.ownsRow w.heap.size 3 1 v (aM R) (de R)/\Below w.heap.size w w':=by
 obtain⟨i0,hi,Q,S,T⟩:=a0p oJ;have al:(m:Int)<=1000:=by omega
 have t:=ae (a0b hm (a0b W I));have J:=ae Z;have H:=ae h;have K:=ae (fun n hn=>Cf n w hn);clear hm W I Z h;go_enter func181,ntmps181;go_wp2_with fail
 go_loop [3,5,11] (fun s _ i=>∃k:Nat,k<=m/\i = .int .i64 k/\s = .int .i64 (aM (R.take k):Nat)) (fun _ _ i=>m-(intOf i).toNat)
 case atStart=>exact⟨0,a0g _,rfl,rfl⟩
 case round=>
  obtain⟨k,M,rfl,rfl⟩:=hrel;have HK:=ae M;by_cases d:k<m
  .
   have E:=ab H k (by rw[(ab t).1];exact d);obtain⟨a,c1,e,_,_⟩:=(ab H).form k (by rw[(ab t).1];exact d);have c0:=E.1;rw[e]at c0;have o:=ae (lF R k (by rw[(ab t).1];exact d));have C:=nv R (k+1);have aa:(aM (R.take k):Int)+(cj (R.getD k (.slice none 0 0,[])):Int)<=100000:=by have:=ab o;have:=ab J;omega
   clear E e C M;generalize cj (R.getD k (.slice none 0 0,[]))=q at *
   generalize aM (R.take k)=s at *
   go_wp2
   go_round
   case rel=>exact⟨k+1,by have:=ab HK;omega,by go_num,by rw[ab o];go_num⟩
   case measure=>simp[intOf];omega
  .
   obtain rfl:k=m:=by omega
   have r:R.take k=R:=a0x (by rw[(ab t).1];exact a0a _);rw[r];have ad:(aM R:Int)<=100000:=by have:=ab J;omega
   have U:Hid (aM R<=100000):=by show _<=_;have:=ab J;omega
   clear r M d;generalize X:aM R=N at *
   have z:=ae X;clear X;go_wp2_with fail;refine(ab K N (ab U)).mono ?_;rintro e x1 ⟨v,rfl,⟨cg,D⟩,ho,hb⟩;have B:∃a,v = .slice a 0 cg:=by
    rcases D with D|D
    . exact⟨_,D⟩
    . exact⟨_,D⟩
   obtain⟨va,rfl⟩:=B;clear D;go_wp2_with fail
   go_loopw [6,8,27] (fun s _ i wr=>∃j:Nat,j<=k/\i = .int .i64 j/\wr.ownsRow w.heap.size 3 1 s (aM (R.take j)) (de (R.take j))/\Below w.heap.size w wr) (fun _ _ i _=>k-(intOf i).toNat)
   case atStart=>exact⟨0,a0g _,rfl,ho,hb⟩
   case round=>
    obtain⟨j,Y,rfl,hq,f⟩:=hrel;clear ho hb;have HJ:=ae Y;have G:=f.size;by_cases d:j<k
    .
     have A:=(ab H).later f;have E:=A j (by rw[(ab t).1];exact d);obtain⟨a,c1,e,y,u⟩:=A.form j (by rw[(ab t).1];exact d);have c0:=E.1;rw[e]at c0;have o:=ae (lF R j (by rw[(ab t).1];exact d));have P:=ae (rP R j (by rw[(ab t).1];exact d));have C:=nv R (j+1);have F:Hid (aM (R.take j)+cj (R.getD j (.slice none 0 0,[]))<=maxLen/\(aM (R.take j)+cj (R.getD j (.slice none 0 0,[])))*8<=140737488355328):=by
      have:=ab o;have:=ab z;have:=ab U;show _/\_;unfold maxLen;omega
     have V:=ae (a0b y u);clear E e C Y A y u;generalize cj (R.getD j (.slice none 0 0,[]))=q at *
     generalize (R.getD j (.slice none 0 0,[])).2=xs at *
     go_wp2_with (at_builtin;refine jv _ rfl _ _ 137 rfl w.heap.size 3 i0 (Value.int .i64 0) 1 8 a0D hi Q S T rfl (by decide) _ _ _ rfl hq _ ob q xs rfl (ab V).1 (ab V).2 (ab F).1 (ab F).2 G ?_;intro v' x2 x l);have L:Below w.heap.size w x2:=f.grown l G (fun b h=>(a0w hq b h).1);rw[←ab o,←ab P]at x;clear l hq f;go_wp2;go_roundw
     case rel=>exact⟨j+1,by have:=ab HJ;omega,by go_num,x,L⟩
     case measure=>simp[intOf];omega
    .
     obtain rfl:j=k:=by omega
     have r:R.take j=R:=a0x (by rw[(ab t).1];exact a0a _);rw[r,ab z]at hq;have O:∃a c,u6 = .slice a N c:=by
      rcases hq.2 with⟨e,e0⟩|⟨g,cap,ac,e,_⟩
      . subst e0;exact⟨_,_,e⟩
      . exact⟨_,_,e⟩
     obtain⟨qa,qc,rfl⟩:=O;clear r;go_wp2;go_ret;exact⟨_,rfl,by rw[ab z];exact hq,f⟩
theorem lU:(prog.info? 185).map (fun i=>(i.zero,i.size,i.bytes))=some (some (.agg #[.int .i64 0,.int .i64 0]),2,16):=by kernel_rfl
theorem wX(n:Nat)(w:World)(q:n<=100000) :
  Calls prog 192 #[.slice none 0 0,.int .i64 (n:Nat)] w fun e w'=>∃v,e = .returned v/\(∃c,v = .slice none 0 c∨v = .slice (some ⟨w.heap.size,0,none⟩) 0 c)/\w'.ownsRow w.heap.size 185 2 v 0 []/\Below w.heap.size w w':=by
 obtain⟨i0,i,b,d,a⟩:=a0p lU;have p:(n:Int)<=100000:=by omega
 by_cases k:n=0
 . subst k;clear b d a i;go_enter func192,ntmps192;go_wp2;go_ret;exact⟨_,rfl,⟨0,.inl rfl⟩,a04 _ _ _ _,a0c _ _⟩
 .
  have hold:(Builtin.firstCells i0.size 0 (.slice none 0 0)).run prog w.drew = .ok ([]:List Value).toArray w.drew:=run_firstCells_none w.drew i0.size 0 0 0;have g:=ae (fun ty=>Lib.run_append_grow_zeros w 182 3 ty 185 i0 (.agg #[.int .i64 0,.int .i64 0]) .i64 .i64 a1p a1f i b none 0 0 [] hold n (by omega) (by rw[d];decide) (by omega) (by omega) (by rw[a];omega) (a3B (by omega) (by rw[a];omega)));rw[a0G]at g;have h:n<=grownCap w n 0 185:=grownCap_ge w _ _ _;have f:grownCap w n 0 185<=maxLen:=grownCap_le_maxLen w n 0 _ (by unfold maxLen;omega);generalize grownCap w n 0 185=G at *
  have j:Hid ((([]:List Value).toArray++Builtin.zeroCells ((Value.agg #[.int .i64 0,.int .i64 0]):Value).cells n++Builtin.zeroCells ((Value.agg #[.int .i64 0,.int .i64 0]):Value).cells (G-n)).size=G*2):=by
   show _=_;simp only[a2l,size_zeroCells];have e:((Value.agg #[.int .i64 0,.int .i64 0]):Value).cells.size=2:=rfl;rw[e];simp;omega
  generalize (([]:List Value).toArray++Builtin.zeroCells ((Value.agg #[.int .i64 0,.int .i64 0]):Value).cells n++Builtin.zeroCells ((Value.agg #[.int .i64 0,.int .i64 0]):Value).cells (G-n))=cur at *
  have m:(1:Int)<=(n:Int):=by omega
  have o:¬ G=0:=by omega
  have l:=ae f;clear hold b d a i f h k;go_enter func192,ntmps192;go_wp2_with (at_builtin;refine Lib.wpList_append_run _ rfl _ _ _ _ rfl _ _ rfl rfl _ _ (ab g _) ?_);go_ret;refine⟨_,rfl,⟨G,.inr rfl⟩,World.ownsRow_made w.drew cur G (a0a _) (ab l) (ab j),((a0c _ _).drew).alloc (a0a _) _⟩
def gz(w:World)(p ob:Nat)(R:List (Value×List Value)):Prop:=∀j,j<R.length->w.cell? ⟨p,j,none⟩=some (R.getD j (.slice none 0 0,[])).1/\∃n,w.ownsRow ob 185 2 (R.getD j (.slice none 0 0,[])).1 n (R.getD j (.slice none 0 0,[])).2/\(∀u∈(R.getD j (.slice none 0 0,[])).2,u.oneCell'=true)
def bR(x:Value×List Value):Nat:=x.2.length/2
def aK(R:List (Value×List Value)):Nat:=(R.map bR).sum
def dY(R:List (Value×List Value)):List Value:=R.flatMap Prod.snd
theorem mq(R:List (Value×List Value))(k:Nat)(h:k<R.length):R.take (k+1)=R.take k++[R.getD k (.slice none 0 0,[])]:=by
 rw[a1e h]
 congr 2
 simp[List.getD,h]
theorem jM(R:List (Value×List Value))(k:Nat)(h:k<R.length):aK (R.take (k+1))=aK (R.take k)+bR (R.getD k (.slice none 0 0,[])):=by
 rw[mq R k h];simp[aK]
theorem pi(R:List (Value×List Value))(k:Nat)(h:k<R.length):dY (R.take (k+1))=dY (R.take k)++(R.getD k (.slice none 0 0,[])).2:=by
 rw[mq R k h];simp[dY]
theorem lE(R:List (Value×List Value))(k:Nat):aK (R.take k)<=aK R:=by
 have e0:∀A B:List (Value×List Value),aK (A++B)=aK A+aK B:=fun A B=>by simp[aK]
 have e:=e0 (R.take k) (R.drop k);rw[a1H]at e;omega
theorem gz.later{w':World}(h:gz w p ob R)(hb:Below w.heap.size w w'):gz w' p ob R:=by
 intro j i;obtain⟨d,n,h2,f⟩:=h j i;refine⟨(hb.cell (p:=⟨p,j,none⟩) (World.block_lt_of_cell? w ⟨p,j,none⟩ d)).trans d,n,?_,f⟩;refine⟨h2.1,?_⟩;rcases h2.2 with k|⟨g,cap,b,e,c,a,rest⟩
 . exact .inl k
 . exact .inr ⟨g,cap,b,e,c,(hb.block g (Array.getElem?_eq_some_iff.1 a).1).trans a,rest⟩
theorem gz.form(h:gz w p ob R)(j:Nat)(i:j<R.length):∃a c,(R.getD j (.slice none 0 0,[])).1 = .slice a (bR (R.getD j (.slice none 0 0,[]))) c/\w.ownsRow ob 185 2 (.slice a (bR (R.getD j (.slice none 0 0,[]))) c) (bR (R.getD j (.slice none 0 0,[]))) (R.getD j (.slice none 0 0,[])).2/\(∀u∈(R.getD j (.slice none 0 0,[])).2,u.oneCell'=true):=by
 obtain⟨_,n,h2,d⟩:=h j i;have k:bR (R.getD j (.slice none 0 0,[]))=n:=by
  unfold bR;rw[h2.1];omega
 rw[k];rcases h2.2 with⟨e,e0⟩|⟨g,cap,f,e,_⟩
 . subst e0;exact⟨none,0,e,by have b:=h2;rw[e]at b;exact b,d⟩
 . exact⟨_,cap,e,by have b:=h2;rw[e]at b;exact b,d⟩
theorem yE(p ob m c:Nat)(R:List (Value×List Value))(w:World)(hm:R.length=m)(W:1<=m)(I:m<=1000)(h:gz w p ob R)(Z:aK R<=100000) :
  Calls prog 147 #[.slice (some ⟨p,0,none⟩) m c] w fun e w'=>∃v,e = .returned v/\w'.ownsRow w.heap.size 185 2 v (aK R) (dY R)/\Below w.heap.size w w':=by
 obtain⟨i0,hi,Q,S,T⟩:=a0p lU;have al:(m:Int)<=1000:=by omega
 have t:=ae (a0b hm (a0b W I));have J:=ae Z;have H:=ae h;have K:=ae (fun n hn=>wX n w hn);clear hm W I Z h;go_enter func147,ntmps147;go_wp2_with fail
 go_loop [3,5,11] (fun s _ i=>∃k:Nat,k<=m/\i = .int .i64 k/\s = .int .i64 (aK (R.take k):Nat)) (fun _ _ i=>m-(intOf i).toNat)
 case atStart=>exact⟨0,a0g _,rfl,rfl⟩
 case round=>
  obtain⟨k,M,rfl,rfl⟩:=hrel;have HK:=ae M;by_cases d:k<m
  .
   have E:=ab H k (by rw[(ab t).1];exact d);obtain⟨a,c1,e,_,_⟩:=(ab H).form k (by rw[(ab t).1];exact d);have c0:=E.1;rw[e]at c0;have o:=ae (jM R k (by rw[(ab t).1];exact d));have C:=lE R (k+1);have aa:(aK (R.take k):Int)+(bR (R.getD k (.slice none 0 0,[])):Int)<=100000:=by have:=ab o;have:=ab J;omega
   clear E e C M;generalize bR (R.getD k (.slice none 0 0,[]))=q at *
   generalize aK (R.take k)=s at *
   go_wp2
   go_round
   case rel=>exact⟨k+1,by have:=ab HK;omega,by go_num,by rw[ab o];go_num⟩
   case measure=>simp[intOf];omega
  .
   obtain rfl:k=m:=by omega
   have r:R.take k=R:=a0x (by rw[(ab t).1];exact a0a _);rw[r];have ad:(aK R:Int)<=100000:=by have:=ab J;omega
   have U:Hid (aK R<=100000):=by show _<=_;have:=ab J;omega
   clear r M d;generalize X:aK R=N at *
   have z:=ae X;clear X;go_wp2_with fail;refine(ab K N (ab U)).mono ?_;rintro e x1 ⟨v,rfl,⟨cg,D⟩,ho,hb⟩;have B:∃a,v = .slice a 0 cg:=by
    rcases D with D|D
    . exact⟨_,D⟩
    . exact⟨_,D⟩
   obtain⟨va,rfl⟩:=B;clear D;go_wp2_with fail
   go_loopw [6,8,27] (fun s _ i wr=>∃j:Nat,j<=k/\i = .int .i64 j/\wr.ownsRow w.heap.size 185 2 s (aK (R.take j)) (dY (R.take j))/\Below w.heap.size w wr) (fun _ _ i _=>k-(intOf i).toNat)
   case atStart=>exact⟨0,a0g _,rfl,ho,hb⟩
   case round=>
    obtain⟨j,Y,rfl,hq,f⟩:=hrel;clear ho hb;have HJ:=ae Y;have G:=f.size;by_cases d:j<k
    .
     have A:=(ab H).later f;have E:=A j (by rw[(ab t).1];exact d);obtain⟨a,c1,e,y,u⟩:=A.form j (by rw[(ab t).1];exact d);have c0:=E.1;rw[e]at c0;have o:=ae (jM R j (by rw[(ab t).1];exact d));have P:=ae (pi R j (by rw[(ab t).1];exact d));have C:=lE R (j+1);have F:Hid (aK (R.take j)+bR (R.getD j (.slice none 0 0,[]))<=maxLen/\(aK (R.take j)+bR (R.getD j (.slice none 0 0,[])))*16<=140737488355328):=by
      have:=ab o;have:=ab z;have:=ab U;show _/\_;unfold maxLen;omega
     have V:=ae (a0b y u);clear E e C Y A y u;generalize bR (R.getD j (.slice none 0 0,[]))=q at *
     generalize (R.getD j (.slice none 0 0,[])).2=xs at *
     go_wp2_with (at_builtin;refine jv _ rfl _ _ 182 rfl w.heap.size 185 i0 (Value.agg #[.int .i64 0,.int .i64 0]) 2 16 a1p hi Q S T rfl (by decide) _ _ _ rfl hq _ ob q xs rfl (ab V).1 (ab V).2 (ab F).1 (ab F).2 G ?_;intro v' x2 x l);have L:Below w.heap.size w x2:=f.grown l G (fun b h=>(a0w hq b h).1);rw[←ab o,←ab P]at x;clear l hq f;go_wp2;go_roundw
     case rel=>exact⟨j+1,by have:=ab HJ;omega,by go_num,x,L⟩
     case measure=>simp[intOf];omega
    .
     obtain rfl:j=k:=by omega
     have r:R.take j=R:=a0x (by rw[(ab t).1];exact a0a _);rw[r,ab z]at hq;have O:∃a c,u6 = .slice a N c:=by
      rcases hq.2 with⟨e,e0⟩|⟨g,cap,ac,e,_⟩
      . subst e0;exact⟨_,_,e⟩
      . exact⟨_,_,e⟩
     obtain⟨qa,qc,rfl⟩:=O;clear r;go_wp2;go_ret;exact⟨_,rfl,by rw[ab z];exact hq,f⟩
end Go.Proofs.YtchidddpplangaaGreatDoor
