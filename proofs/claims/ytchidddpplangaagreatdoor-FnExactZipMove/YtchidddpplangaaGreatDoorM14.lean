/- Of what the proof is made: 3 texts, one behind the other. -/
import Derived.Test.YtchidddpplangaaGreatDoorM7
import Derived.Test.YtchidddpplangaaGreatDoorM9
import Derived.Lib.AppendZerosOnto
set_option maxRecDepth 100000
set_option linter.unusedSimpArgs false
set_option linter.unusedVariables false
set_option maxHeartbeats 1600000
namespace Go.Proofs.YtchidddpplangaaGreatDoor
open Go.Proofs.Tryz
open Go.RowKit Go.Lib
variable {R:List (Value×List Value)}{ob p:Nat}{w w':World}
theorem oW:(prog.info? 3).map (fun i=>(i.zero,i.size,i.bytes))=some (some (Value.int .i64 0),1,8):=by kernel_rfl
theorem Dh(n:Nat)(w:World)(q:n<=100000) :
  Calls prog 211 #[.slice none 0 0,.int .i64 (n:Nat)] w fun e w'=>∃v,e = .returned v/\(∃c,v = .slice none 0 c∨v = .slice (some ⟨w.heap.size,0,none⟩) 0 c)/\w'.ownsRow w.heap.size 3 1 v 0 []/\Below w.heap.size w w':=by
 obtain⟨i0,i,b,d,a⟩:=a0o oW;have p:(n:Int)<=100000:=by omega
 by_cases k:n=0
 . subst k;clear b d a i;go_enter func211,ntmps211;go_wp2;go_ret;exact⟨_,rfl,⟨0,.inl rfl⟩,a00 _ _ _ _,a0c _ _⟩
 .
  have hold:(Builtin.firstCells i0.size 0 (.slice none 0 0)).run prog w.drew = .ok ([]:List Value).toArray w.drew:=a3E w.drew i0.size 0 0 0;have g:=ae (fun ty=>Lib.run_append_grow_zeros w 137 3 ty 3 i0 (Value.int .i64 0) .i64 .i64 a0C a1U i b none 0 0 [] hold n (by omega) (by rw[d];decide) (by omega) (by omega) (by rw[a];omega) (a22 (by omega) (by rw[a];omega)));rw[a0G]at g;have h:n<=grownCap w n 0 3:=grownCap_ge w _ _ _;have f:grownCap w n 0 3<=maxLen:=a3C w n 0 _ (by unfold maxLen;omega);generalize grownCap w n 0 3=G at *
  have j:Hid ((([]:List Value).toArray++Builtin.zeroCells ((Value.int .i64 0):Value).cells n++Builtin.zeroCells ((Value.int .i64 0):Value).cells (G-n)).size=G*1):=by
   show _=_;simp only[a2c,size_zeroCells];have e:((Value.int .i64 0):Value).cells.size=1:=rfl;rw[e];simp;omega
  generalize (([]:List Value).toArray++Builtin.zeroCells ((Value.int .i64 0):Value).cells n++Builtin.zeroCells ((Value.int .i64 0):Value).cells (G-n))=cur at *
  have m:(1:Int)<=(n:Int):=by omega
  have o:¬ G=0:=by omega
  have l:=ae f;clear hold b d a i f h k;go_enter func211,ntmps211;go_wp2_with (at_builtin;refine Lib.wpList_append_run _ rfl _ _ _ _ rfl _ _ rfl rfl _ _ (ab g _) ?_);go_ret;refine⟨_,rfl,⟨G,.inr rfl⟩,World.ownsRow_made w.drew cur G (a0a _) (ab l) (ab j),((a0c _ _).drew).alloc (a0a _) _⟩
def i6(w:World)(p ob:Nat)(R:List (Value×List Value)):Prop:=∀j,j<R.length->w.cell? ⟨p,j,none⟩=some (R.getD j (.slice none 0 0,[])).1/\∃n,w.ownsRow ob 3 1 (R.getD j (.slice none 0 0,[])).1 n (R.getD j (.slice none 0 0,[])).2/\(∀u∈(R.getD j (.slice none 0 0,[])).2,u.oneCell'=true)
def cw(x:Value×List Value):Nat:=x.2.length/1
def aO(R:List (Value×List Value)):Nat:=(R.map cw).sum
def dj(R:List (Value×List Value)):List Value:=R.flatMap Prod.snd
theorem pD(R:List (Value×List Value))(k:Nat)(h:k<R.length):R.take (k+1)=R.take k++[R.getD k (.slice none 0 0,[])]:=by
 rw[a1b h]
 congr 2
 simp[List.getD,h]
theorem lO(R:List (Value×List Value))(k:Nat)(h:k<R.length):aO (R.take (k+1))=aO (R.take k)+cw (R.getD k (.slice none 0 0,[])):=by
 rw[pD R k h];simp[aO]
theorem sd(R:List (Value×List Value))(k:Nat)(h:k<R.length):dj (R.take (k+1))=dj (R.take k)++(R.getD k (.slice none 0 0,[])).2:=by
 rw[pD R k h];simp[dj]
theorem nO(R:List (Value×List Value))(k:Nat):aO (R.take k)<=aO R:=by
 have e0:∀A B:List (Value×List Value),aO (A++B)=aO A+aO B:=fun A B=>by simp[aO]
 have e:=e0 (R.take k) (R.drop k);rw[a1n]at e;omega
theorem i6.later(h:i6 w p ob R)(hb:Below w.heap.size w w'):i6 w' p ob R:=by
 intro j i;obtain⟨d,n,h2,f⟩:=h j i;refine⟨(hb.cell (p:=⟨p,j,none⟩) (World.block_lt_of_cell? w ⟨p,j,none⟩ d)).trans d,n,?_,f⟩;refine⟨h2.1,?_⟩;rcases h2.2 with k|⟨g,cap,b,e,c,a,rest⟩
 . exact .inl k
 . exact .inr ⟨g,cap,b,e,c,(hb.block g (Array.getElem?_eq_some_iff.1 a).1).trans a,rest⟩
theorem i6.form(h:i6 w p ob R)(j:Nat)(i:j<R.length):∃a c,(R.getD j (.slice none 0 0,[])).1 = .slice a (cw (R.getD j (.slice none 0 0,[]))) c/\w.ownsRow ob 3 1 (.slice a (cw (R.getD j (.slice none 0 0,[]))) c) (cw (R.getD j (.slice none 0 0,[]))) (R.getD j (.slice none 0 0,[])).2/\(∀u∈(R.getD j (.slice none 0 0,[])).2,u.oneCell'=true):=by
 obtain⟨_,n,h2,d⟩:=h j i;have k:cw (R.getD j (.slice none 0 0,[]))=n:=by
  unfold cw;rw[h2.1];omega
 rw[k];rcases h2.2 with⟨e,e0⟩|⟨g,cap,f,e,_⟩
 . subst e0;exact⟨none,0,e,by have b:=h2;rw[e]at b;exact b,d⟩
 . exact⟨_,cap,e,by have b:=h2;rw[e]at b;exact b,d⟩
theorem pV(p ob m c:Nat)(R:List (Value×List Value))(w:World)(hm:R.length=m)(W:1<=m)(I:m<=1000)(h:i6 w p ob R)(Z:aO R<=100000) :
  Calls prog 181 #[.slice (some ⟨p,0,none⟩) m c] w fun e w'=>∃v,e = .returned v/\w'.ownsRow w.heap.size 3 1 v (aO R) (dj R)/\Below w.heap.size w w':=by
 obtain⟨i0,hi,Q,S,T⟩:=a0o oW;have al:(m:Int)<=1000:=by omega
 have t:=ae (a0b hm (a0b W I));have J:=ae Z;have H:=ae h;have K:=ae (fun n hn=>Dh n w hn);clear hm W I Z h;go_enter func181,ntmps181;go_wp2_with fail
 go_loop [3,5,11] (fun s _ i=>∃k:Nat,k<=m/\i = .int .i64 k/\s = .int .i64 (aO (R.take k):Nat)) (fun _ _ i=>m-(intOf i).toNat)
 case atStart=>exact⟨0,a0g _,rfl,rfl⟩
 case round=>
  obtain⟨k,M,rfl,rfl⟩:=hrel;have HK:=ae M;by_cases d:k<m
  .
   have E:=ab H k (by rw[(ab t).1];exact d);obtain⟨a,c1,e,_,_⟩:=(ab H).form k (by rw[(ab t).1];exact d);have c0:=E.1;rw[e]at c0;have o:=ae (lO R k (by rw[(ab t).1];exact d));have C:=nO R (k+1);have aa:(aO (R.take k):Int)+(cw (R.getD k (.slice none 0 0,[])):Int)<=100000:=by have:=ab o;have:=ab J;omega
   clear E e C M;generalize cw (R.getD k (.slice none 0 0,[]))=q at *
   generalize aO (R.take k)=s at *
   go_wp2
   go_round
   case rel=>exact⟨k+1,by have:=ab HK;omega,by go_num,by rw[ab o];go_num⟩
   case measure=>simp[intOf];omega
  .
   obtain rfl:k=m:=by omega
   have r:R.take k=R:=a0u (by rw[(ab t).1];exact a0a _);rw[r];have ad:(aO R:Int)<=100000:=by have:=ab J;omega
   have U:Hid (aO R<=100000):=by show _<=_;have:=ab J;omega
   clear r M d;generalize X:aO R=N at *
   have z:=ae X;clear X;go_wp2_with fail;refine(ab K N (ab U)).mono ?_;rintro e x1 ⟨v,rfl,⟨cg,D⟩,ho,hb⟩;have B:∃a,v = .slice a 0 cg:=by
    rcases D with D|D
    . exact⟨_,D⟩
    . exact⟨_,D⟩
   obtain⟨va,rfl⟩:=B;clear D;go_wp2_with fail
   go_loopw [6,8,27] (fun s _ i wr=>∃j:Nat,j<=k/\i = .int .i64 j/\wr.ownsRow w.heap.size 3 1 s (aO (R.take j)) (dj (R.take j))/\Below w.heap.size w wr) (fun _ _ i _=>k-(intOf i).toNat)
   case atStart=>exact⟨0,a0g _,rfl,ho,hb⟩
   case round=>
    obtain⟨j,Y,rfl,hq,f⟩:=hrel;clear ho hb;have HJ:=ae Y;have G:=f.size;by_cases d:j<k
    .
     have A:=(ab H).later f;have E:=A j (by rw[(ab t).1];exact d);obtain⟨a,c1,e,y,u⟩:=A.form j (by rw[(ab t).1];exact d);have c0:=E.1;rw[e]at c0;have o:=ae (lO R j (by rw[(ab t).1];exact d));have P:=ae (sd R j (by rw[(ab t).1];exact d));have C:=nO R (j+1);have F:Hid (aO (R.take j)+cw (R.getD j (.slice none 0 0,[]))<=maxLen/\(aO (R.take j)+cw (R.getD j (.slice none 0 0,[])))*8<=140737488355328):=by
      have:=ab o;have:=ab z;have:=ab U;show _/\_;unfold maxLen;omega
     have V:=ae (a0b y u);clear E e C Y A y u;generalize cw (R.getD j (.slice none 0 0,[]))=q at *
     generalize (R.getD j (.slice none 0 0,[])).2=xs at *
     go_wp2_with (at_builtin;refine jG _ rfl _ _ 137 rfl w.heap.size 3 i0 (Value.int .i64 0) 1 8 a0C hi Q S T rfl (by decide) _ _ _ rfl hq _ ob q xs rfl (ab V).1 (ab V).2 (ab F).1 (ab F).2 G ?_;intro v' x2 x l);have L:Below w.heap.size w x2:=f.grown l G (fun b h=>(a0y hq b h).1);rw[←ab o,←ab P]at x;clear l hq f;go_wp2;go_roundw
     case rel=>exact⟨j+1,by have:=ab HJ;omega,by go_num,x,L⟩
     case measure=>simp[intOf];omega
    .
     obtain rfl:j=k:=by omega
     have r:R.take j=R:=a0u (by rw[(ab t).1];exact a0a _);rw[r,ab z]at hq;have O:∃a c,u6 = .slice a N c:=by
      rcases hq.2 with⟨e,e0⟩|⟨g,cap,ac,e,_⟩
      . subst e0;exact⟨_,_,e⟩
      . exact⟨_,_,e⟩
     obtain⟨qa,qc,rfl⟩:=O;clear r;go_wp2;go_ret;exact⟨_,rfl,by rw[ab z];exact hq,f⟩
theorem mg:(prog.info? 185).map (fun i=>(i.zero,i.size,i.bytes))=some (some (.agg #[.int .i64 0,.int .i64 0]),2,16):=by kernel_rfl
theorem xJ(n:Nat)(w:World)(q:n<=100000) :
  Calls prog 192 #[.slice none 0 0,.int .i64 (n:Nat)] w fun e w'=>∃v,e = .returned v/\(∃c,v = .slice none 0 c∨v = .slice (some ⟨w.heap.size,0,none⟩) 0 c)/\w'.ownsRow w.heap.size 185 2 v 0 []/\Below w.heap.size w w':=by
 obtain⟨i0,i,b,d,a⟩:=a0o mg;have p:(n:Int)<=100000:=by omega
 by_cases k:n=0
 . subst k;clear b d a i;go_enter func192,ntmps192;go_wp2;go_ret;exact⟨_,rfl,⟨0,.inl rfl⟩,a00 _ _ _ _,a0c _ _⟩
 .
  have hold:(Builtin.firstCells i0.size 0 (.slice none 0 0)).run prog w.drew = .ok ([]:List Value).toArray w.drew:=a3E w.drew i0.size 0 0 0;have g:=ae (fun ty=>Lib.run_append_grow_zeros w 182 3 ty 185 i0 (.agg #[.int .i64 0,.int .i64 0]) .i64 .i64 a1p a1U i b none 0 0 [] hold n (by omega) (by rw[d];decide) (by omega) (by omega) (by rw[a];omega) (a22 (by omega) (by rw[a];omega)));rw[a0G]at g;have h:n<=grownCap w n 0 185:=grownCap_ge w _ _ _;have f:grownCap w n 0 185<=maxLen:=a3C w n 0 _ (by unfold maxLen;omega);generalize grownCap w n 0 185=G at *
  have j:Hid ((([]:List Value).toArray++Builtin.zeroCells ((Value.agg #[.int .i64 0,.int .i64 0]):Value).cells n++Builtin.zeroCells ((Value.agg #[.int .i64 0,.int .i64 0]):Value).cells (G-n)).size=G*2):=by
   show _=_;simp only[a2c,size_zeroCells];have e:((Value.agg #[.int .i64 0,.int .i64 0]):Value).cells.size=2:=rfl;rw[e];simp;omega
  generalize (([]:List Value).toArray++Builtin.zeroCells ((Value.agg #[.int .i64 0,.int .i64 0]):Value).cells n++Builtin.zeroCells ((Value.agg #[.int .i64 0,.int .i64 0]):Value).cells (G-n))=cur at *
  have m:(1:Int)<=(n:Int):=by omega
  have o:¬ G=0:=by omega
  have l:=ae f;clear hold b d a i f h k;go_enter func192,ntmps192;go_wp2_with (at_builtin;refine Lib.wpList_append_run _ rfl _ _ _ _ rfl _ _ rfl rfl _ _ (ab g _) ?_);go_ret;refine⟨_,rfl,⟨G,.inr rfl⟩,World.ownsRow_made w.drew cur G (a0a _) (ab l) (ab j),((a0c _ _).drew).alloc (a0a _) _⟩
def gT(w:World)(p ob:Nat)(R:List (Value×List Value)):Prop:=∀j,j<R.length->w.cell? ⟨p,j,none⟩=some (R.getD j (.slice none 0 0,[])).1/\∃n,w.ownsRow ob 185 2 (R.getD j (.slice none 0 0,[])).1 n (R.getD j (.slice none 0 0,[])).2/\(∀u∈(R.getD j (.slice none 0 0,[])).2,u.oneCell'=true)
def bU(x:Value×List Value):Nat:=x.2.length/2
def aK(R:List (Value×List Value)):Nat:=(R.map bU).sum
def ef(R:List (Value×List Value)):List Value:=R.flatMap Prod.snd
theorem mD(R:List (Value×List Value))(k:Nat)(h:k<R.length):R.take (k+1)=R.take k++[R.getD k (.slice none 0 0,[])]:=by
 rw[a1b h]
 congr 2
 simp[List.getD,h]
theorem jV(R:List (Value×List Value))(k:Nat)(h:k<R.length):aK (R.take (k+1))=aK (R.take k)+bU (R.getD k (.slice none 0 0,[])):=by
 rw[mD R k h];simp[aK]
theorem pC(R:List (Value×List Value))(k:Nat)(h:k<R.length):ef (R.take (k+1))=ef (R.take k)++(R.getD k (.slice none 0 0,[])).2:=by
 rw[mD R k h];simp[ef]
theorem lN(R:List (Value×List Value))(k:Nat):aK (R.take k)<=aK R:=by
 have e0:∀A B:List (Value×List Value),aK (A++B)=aK A+aK B:=fun A B=>by simp[aK]
 have e:=e0 (R.take k) (R.drop k);rw[a1n]at e;omega
theorem gT.later(h:gT w p ob R)(hb:Below w.heap.size w w'):gT w' p ob R:=by
 intro j i;obtain⟨d,n,h2,f⟩:=h j i;refine⟨(hb.cell (p:=⟨p,j,none⟩) (World.block_lt_of_cell? w ⟨p,j,none⟩ d)).trans d,n,?_,f⟩;refine⟨h2.1,?_⟩;rcases h2.2 with k|⟨g,cap,b,e,c,a,rest⟩
 . exact .inl k
 . exact .inr ⟨g,cap,b,e,c,(hb.block g (Array.getElem?_eq_some_iff.1 a).1).trans a,rest⟩
theorem gT.form(h:gT w p ob R)(j:Nat)(i:j<R.length):∃a c,(R.getD j (.slice none 0 0,[])).1 = .slice a (bU (R.getD j (.slice none 0 0,[]))) c/\w.ownsRow ob 185 2 (.slice a (bU (R.getD j (.slice none 0 0,[]))) c) (bU (R.getD j (.slice none 0 0,[]))) (R.getD j (.slice none 0 0,[])).2/\(∀u∈(R.getD j (.slice none 0 0,[])).2,u.oneCell'=true):=by
 obtain⟨_,n,h2,d⟩:=h j i;have k:bU (R.getD j (.slice none 0 0,[]))=n:=by
  unfold bU;rw[h2.1];omega
 rw[k];rcases h2.2 with⟨e,e0⟩|⟨g,cap,f,e,_⟩
 . subst e0;exact⟨none,0,e,by have b:=h2;rw[e]at b;exact b,d⟩
 . exact⟨_,cap,e,by have b:=h2;rw[e]at b;exact b,d⟩
theorem y9(p ob m c:Nat)(R:List (Value×List Value))(w:World)(hm:R.length=m)(W:1<=m)(I:m<=1000)(h:gT w p ob R)(Z:aK R<=100000) :
  Calls prog 147 #[.slice (some ⟨p,0,none⟩) m c] w fun e w'=>∃v,e = .returned v/\w'.ownsRow w.heap.size 185 2 v (aK R) (ef R)/\Below w.heap.size w w':=by
 obtain⟨i0,hi,Q,S,T⟩:=a0o mg;have al:(m:Int)<=1000:=by omega
 have t:=ae (a0b hm (a0b W I));have J:=ae Z;have H:=ae h;have K:=ae (fun n hn=>xJ n w hn);clear hm W I Z h;go_enter func147,ntmps147;go_wp2_with fail
 go_loop [3,5,11] (fun s _ i=>∃k:Nat,k<=m/\i = .int .i64 k/\s = .int .i64 (aK (R.take k):Nat)) (fun _ _ i=>m-(intOf i).toNat)
 case atStart=>exact⟨0,a0g _,rfl,rfl⟩
 case round=>
  obtain⟨k,M,rfl,rfl⟩:=hrel;have HK:=ae M;by_cases d:k<m
  .
   have E:=ab H k (by rw[(ab t).1];exact d);obtain⟨a,c1,e,_,_⟩:=(ab H).form k (by rw[(ab t).1];exact d);have c0:=E.1;rw[e]at c0;have o:=ae (jV R k (by rw[(ab t).1];exact d));have C:=lN R (k+1);have aa:(aK (R.take k):Int)+(bU (R.getD k (.slice none 0 0,[])):Int)<=100000:=by have:=ab o;have:=ab J;omega
   clear E e C M;generalize bU (R.getD k (.slice none 0 0,[]))=q at *
   generalize aK (R.take k)=s at *
   go_wp2
   go_round
   case rel=>exact⟨k+1,by have:=ab HK;omega,by go_num,by rw[ab o];go_num⟩
   case measure=>simp[intOf];omega
  .
   obtain rfl:k=m:=by omega
   have r:R.take k=R:=a0u (by rw[(ab t).1];exact a0a _);rw[r];have ad:(aK R:Int)<=100000:=by have:=ab J;omega
   have U:Hid (aK R<=100000):=by show _<=_;have:=ab J;omega
   clear r M d;generalize X:aK R=N at *
   have z:=ae X;clear X;go_wp2_with fail;refine(ab K N (ab U)).mono ?_;rintro e x1 ⟨v,rfl,⟨cg,D⟩,ho,hb⟩;have B:∃a,v = .slice a 0 cg:=by
    rcases D with D|D
    . exact⟨_,D⟩
    . exact⟨_,D⟩
   obtain⟨va,rfl⟩:=B;clear D;go_wp2_with fail
   go_loopw [6,8,27] (fun s _ i wr=>∃j:Nat,j<=k/\i = .int .i64 j/\wr.ownsRow w.heap.size 185 2 s (aK (R.take j)) (ef (R.take j))/\Below w.heap.size w wr) (fun _ _ i _=>k-(intOf i).toNat)
   case atStart=>exact⟨0,a0g _,rfl,ho,hb⟩
   case round=>
    obtain⟨j,Y,rfl,hq,f⟩:=hrel;clear ho hb;have HJ:=ae Y;have G:=f.size;by_cases d:j<k
    .
     have A:=(ab H).later f;have E:=A j (by rw[(ab t).1];exact d);obtain⟨a,c1,e,y,u⟩:=A.form j (by rw[(ab t).1];exact d);have c0:=E.1;rw[e]at c0;have o:=ae (jV R j (by rw[(ab t).1];exact d));have P:=ae (pC R j (by rw[(ab t).1];exact d));have C:=lN R (j+1);have F:Hid (aK (R.take j)+bU (R.getD j (.slice none 0 0,[]))<=maxLen/\(aK (R.take j)+bU (R.getD j (.slice none 0 0,[])))*16<=140737488355328):=by
      have:=ab o;have:=ab z;have:=ab U;show _/\_;unfold maxLen;omega
     have V:=ae (a0b y u);clear E e C Y A y u;generalize bU (R.getD j (.slice none 0 0,[]))=q at *
     generalize (R.getD j (.slice none 0 0,[])).2=xs at *
     go_wp2_with (at_builtin;refine jG _ rfl _ _ 182 rfl w.heap.size 185 i0 (Value.agg #[.int .i64 0,.int .i64 0]) 2 16 a1p hi Q S T rfl (by decide) _ _ _ rfl hq _ ob q xs rfl (ab V).1 (ab V).2 (ab F).1 (ab F).2 G ?_;intro v' x2 x l);have L:Below w.heap.size w x2:=f.grown l G (fun b h=>(a0y hq b h).1);rw[←ab o,←ab P]at x;clear l hq f;go_wp2;go_roundw
     case rel=>exact⟨j+1,by have:=ab HJ;omega,by go_num,x,L⟩
     case measure=>simp[intOf];omega
    .
     obtain rfl:j=k:=by omega
     have r:R.take j=R:=a0u (by rw[(ab t).1];exact a0a _);rw[r,ab z]at hq;have O:∃a c,u6 = .slice a N c:=by
      rcases hq.2 with⟨e,e0⟩|⟨g,cap,ac,e,_⟩
      . subst e0;exact⟨_,_,e⟩
      . exact⟨_,_,e⟩
     obtain⟨qa,qc,rfl⟩:=O;clear r;go_wp2;go_ret;exact⟨_,rfl,by rw[ab z];exact hq,f⟩
theorem mf:(prog.info? 31).map (fun i=>(i.zero,i.size,i.bytes))=some (some (.agg #[.string ⟨#[]⟩,.int .i64 0,.int .i64 0,.int .i64 0,.int .i64 0,.int .i64 0,.int .i64 0,.string ⟨#[]⟩]),8,80):=by kernel_rfl
theorem xI(n:Nat)(w:World)(q:n<=100000) :
  Calls prog 67 #[.slice none 0 0,.int .i64 (n:Nat)] w fun e w'=>∃v,e = .returned v/\(∃c,v = .slice none 0 c∨v = .slice (some ⟨w.heap.size,0,none⟩) 0 c)/\w'.ownsRow w.heap.size 31 8 v 0 []/\Below w.heap.size w w':=by
 obtain⟨i0,i,b,d,a⟩:=a0o mf;have p:(n:Int)<=100000:=by omega
 by_cases k:n=0
 . subst k;clear b d a i;go_enter func67,ntmps67;go_wp2;go_ret;exact⟨_,rfl,⟨0,.inl rfl⟩,a00 _ _ _ _,a0c _ _⟩
 .
  have hold:(Builtin.firstCells i0.size 0 (.slice none 0 0)).run prog w.drew = .ok ([]:List Value).toArray w.drew:=a3E w.drew i0.size 0 0 0;have g:=ae (fun ty=>Lib.run_append_grow_zeros w 36 3 ty 31 i0 (.agg #[.string ⟨#[]⟩,.int .i64 0,.int .i64 0,.int .i64 0,.int .i64 0,.int .i64 0,.int .i64 0,.string ⟨#[]⟩]) .i64 .i64 a2J a1U i b none 0 0 [] hold n (by omega) (by rw[d];decide) (by omega) (by omega) (by rw[a];omega) (a22 (by omega) (by rw[a];omega)));rw[a0G]at g;have h:n<=grownCap w n 0 31:=grownCap_ge w _ _ _;have f:grownCap w n 0 31<=maxLen:=a3C w n 0 _ (by unfold maxLen;omega);generalize grownCap w n 0 31=G at *
  have j:Hid ((([]:List Value).toArray++Builtin.zeroCells ((Value.agg #[.string ⟨#[]⟩,.int .i64 0,.int .i64 0,.int .i64 0,.int .i64 0,.int .i64 0,.int .i64 0,.string ⟨#[]⟩]):Value).cells n++Builtin.zeroCells ((Value.agg #[.string ⟨#[]⟩,.int .i64 0,.int .i64 0,.int .i64 0,.int .i64 0,.int .i64 0,.int .i64 0,.string ⟨#[]⟩]):Value).cells (G-n)).size=G*8):=by
   show _=_;simp only[a2c,size_zeroCells];have e:((Value.agg #[.string ⟨#[]⟩,.int .i64 0,.int .i64 0,.int .i64 0,.int .i64 0,.int .i64 0,.int .i64 0,.string ⟨#[]⟩]):Value).cells.size=8:=rfl;rw[e];simp;omega
  generalize (([]:List Value).toArray++Builtin.zeroCells ((Value.agg #[.string ⟨#[]⟩,.int .i64 0,.int .i64 0,.int .i64 0,.int .i64 0,.int .i64 0,.int .i64 0,.string ⟨#[]⟩]):Value).cells n++Builtin.zeroCells ((Value.agg #[.string ⟨#[]⟩,.int .i64 0,.int .i64 0,.int .i64 0,.int .i64 0,.int .i64 0,.int .i64 0,.string ⟨#[]⟩]):Value).cells (G-n))=cur at *
  have m:(1:Int)<=(n:Int):=by omega
  have o:¬ G=0:=by omega
  have l:=ae f;clear hold b d a i f h k;go_enter func67,ntmps67;go_wp2_with (at_builtin;refine Lib.wpList_append_run _ rfl _ _ _ _ rfl _ _ rfl rfl _ _ (ab g _) ?_);go_ret;refine⟨_,rfl,⟨G,.inr rfl⟩,World.ownsRow_made w.drew cur G (a0a _) (ab l) (ab j),((a0c _ _).drew).alloc (a0a _) _⟩
def gR(w:World)(p:Nat)(R:List (Value×List Value)):Prop:=∀j,j<R.length->w.cell? ⟨p,j,none⟩=some (R.getD j (.slice none 0 0,[])).1/\∃A n c,(R.getD j (.slice none 0 0,[])).1 = .slice (some A) n c/\(R.getD j (.slice none 0 0,[])).2.length=n*8/\(∀u∈(R.getD j (.slice none 0 0,[])).2,u.oneCell'=true)/\∀W,Below w.heap.size w W->∀k u,(R.getD j (.slice none 0 0,[])).2[k]?=some u->W.cell? (A.add k)=some u
def cj(x:Value×List Value):Nat:=x.2.length/8
def aJ(R:List (Value×List Value)):Nat:=(R.map cj).sum
def ee(R:List (Value×List Value)):List Value:=R.flatMap Prod.snd
theorem mC(R:List (Value×List Value))(k:Nat)(h:k<R.length):R.take (k+1)=R.take k++[R.getD k (.slice none 0 0,[])]:=by
 rw[a1b h]
 congr 2
 simp[List.getD,h]
theorem jU(R:List (Value×List Value))(k:Nat)(h:k<R.length):aJ (R.take (k+1))=aJ (R.take k)+cj (R.getD k (.slice none 0 0,[])):=by
 rw[mC R k h];simp[aJ]
theorem pB(R:List (Value×List Value))(k:Nat)(h:k<R.length):ee (R.take (k+1))=ee (R.take k)++(R.getD k (.slice none 0 0,[])).2:=by
 rw[mC R k h];simp[ee]
theorem lM(R:List (Value×List Value))(k:Nat):aJ (R.take k)<=aJ R:=by
 have e0:∀A B:List (Value×List Value),aJ (A++B)=aJ A+aJ B:=fun A B=>by simp[aJ]
 have e:=e0 (R.take k) (R.drop k);rw[a1n]at e;omega
theorem gR.later(h:gR w p R)(hb:Below w.heap.size w w'):gR w' p R:=by
 intro j g;obtain⟨a,A,n,c,h2,b,d,e⟩:=h j g;exact⟨(hb.cell (p:=⟨p,j,none⟩) (World.block_lt_of_cell? w ⟨p,j,none⟩ a)).trans a,A,n,c,h2,b,d,fun W f=>e W (hb.trans (f.mono hb.size))⟩
theorem gR.form(h:gR w p R)(j:Nat)(e:j<R.length):∃A c,(R.getD j (.slice none 0 0,[])).1 = .slice (some A) (cj (R.getD j (.slice none 0 0,[]))) c/\(R.getD j (.slice none 0 0,[])).2.length=cj (R.getD j (.slice none 0 0,[]))*8/\(∀u∈(R.getD j (.slice none 0 0,[])).2,u.oneCell'=true)/\∀k u,(R.getD j (.slice none 0 0,[])).2[k]?=some u->w.cell? (A.add k)=some u:=by
 obtain⟨_,A,n,c,h2,a,b,d⟩:=h j e;have f:cj (R.getD j (.slice none 0 0,[]))=n:=by unfold cj;rw[a];omega
 rw[f];exact⟨A,c,h2,a,b,d w (a0c _ _)⟩
theorem y8(p m c:Nat)(R:List (Value×List Value))(w:World)(hm:R.length=m)(Z:1<=m)(J:m<=1000)(h:gR w p R)(hl:aJ R<=100000) :
  Calls prog 44 #[.slice (some ⟨p,0,none⟩) m c] w fun e w'=>∃v,e = .returned v/\w'.ownsRow w.heap.size 31 8 v (aJ R) (ee R)/\Below w.heap.size w w':=by
 obtain⟨i0,hi,V,W,X⟩:=a0o mf;have al:(m:Int)<=1000:=by omega
 have t:=ae (a0b hm (a0b Z J));have M:=ae hl;have H:=ae h;have P:=ae (fun n hn=>xI n w hn);clear hm Z J hl h;go_enter func44,ntmps44;go_wp2_with fail
 go_loop [3,5,11] (fun s _ i=>∃k:Nat,k<=m/\i = .int .i64 k/\s = .int .i64 (aJ (R.take k):Nat)) (fun _ _ i=>m-(intOf i).toNat)
 case atStart=>exact⟨0,a0g _,rfl,rfl⟩
 case round=>
  obtain⟨k,S,rfl,rfl⟩:=hrel;have HK:=ae S;by_cases d:k<m
  .
   have F:=ab H k (by rw[(ab t).1];exact d);obtain⟨A,c1,e,_⟩:=(ab H).form k (by rw[(ab t).1];exact d);have c0:=F.1;rw[e]at c0;have o:=ae (jU R k (by rw[(ab t).1];exact d));have D:=lM R (k+1);have aa:(aJ (R.take k):Int)+(cj (R.getD k (.slice none 0 0,[])):Int)<=100000:=by have:=ab o;have:=ab M;omega
   clear F e D S;generalize cj (R.getD k (.slice none 0 0,[]))=q at *
   generalize aJ (R.take k)=s at *
   go_wp2
   go_round
   case rel=>exact⟨k+1,by have:=ab HK;omega,by go_num,by rw[ab o];go_num⟩
   case measure=>simp[intOf];omega
  .
   obtain rfl:k=m:=by omega
   have r:R.take k=R:=a0u (by rw[(ab t).1];exact a0a _);rw[r];have ad:(aJ R:Int)<=100000:=by have:=ab M;omega
   have Y:Hid (aJ R<=100000):=by show _<=_;have:=ab M;omega
   clear r S d;generalize hN:aJ R=N at *
   have z:=ae hN;clear hN;go_wp2_with fail;refine(ab P N (ab Y)).mono ?_;rintro e x1 ⟨v,rfl,⟨cg,E⟩,ho,hb⟩;have C:∃a,v = .slice a 0 cg:=by
    rcases E with E|E
    . exact⟨_,E⟩
    . exact⟨_,E⟩
   obtain⟨va,rfl⟩:=C;clear E;go_wp2_with fail
   go_loopw [6,8,27] (fun s _ i wr=>∃j:Nat,j<=k/\i = .int .i64 j/\wr.ownsRow w.heap.size 31 8 s (aJ (R.take j)) (ee (R.take j))/\Below w.heap.size w wr) (fun _ _ i _=>k-(intOf i).toNat)
   case atStart=>exact⟨0,a0g _,rfl,ho,hb⟩
   case round=>
    obtain⟨j,hj,rfl,hq,f⟩:=hrel;clear ho hb;have HJ:=ae hj;have I:=f.size;by_cases d:j<k
    .
     have B:=(ab H).later f;have F:=B j (by rw[(ab t).1];exact d);obtain⟨A,c1,e,L,u,y⟩:=B.form j (by rw[(ab t).1];exact d);have c0:=F.1;rw[e]at c0;have o:=ae (jU R j (by rw[(ab t).1];exact d));have U:=ae (pB R j (by rw[(ab t).1];exact d));have D:=lM R (j+1);have G:Hid (aJ (R.take j)+cj (R.getD j (.slice none 0 0,[]))<=maxLen/\(aJ (R.take j)+cj (R.getD j (.slice none 0 0,[])))*80<=140737488355328):=by
      have:=ab o;have:=ab z;have:=ab Y;show _/\_;unfold maxLen;omega
     have O:=ae (a0b L (a0b y u));clear F e D hj B y u L;generalize cj (R.getD j (.slice none 0 0,[]))=q at *
     generalize (R.getD j (.slice none 0 0,[])).2=xs at *
     go_wp2_with (at_builtin;refine a0r _ rfl _ _ 36 rfl w.heap.size 31 i0 (Value.agg #[.string ⟨#[]⟩,.int .i64 0,.int .i64 0,.int .i64 0,.int .i64 0,.int .i64 0,.int .i64 0,.string ⟨#[]⟩]) 8 80 a2J hi V W X rfl (by decide) _ _ _ rfl hq A q c1 xs rfl (ab O).1 (ab O).2.1 (ab O).2.2 (ab G).1 (ab G).2 I ?_;intro v' x2 x l K);have Q:Below w.heap.size w x2:=f.grown l I (fun b h=>(a0y hq b h).1);rw[←ab o,←ab U]at x;clear l hq f K;go_wp2;go_roundw
     case rel=>exact⟨j+1,by have:=ab HJ;omega,by go_num,x,Q⟩
     case measure=>simp[intOf];omega
    .
     obtain rfl:j=k:=by omega
     have r:R.take j=R:=a0u (by rw[(ab t).1];exact a0a _);rw[r,ab z]at hq;have T:∃a c,u6 = .slice a N c:=by
      rcases hq.2 with⟨e,e0⟩|⟨g,cap,ac,e,_⟩
      . subst e0;exact⟨_,_,e⟩
      . exact⟨_,_,e⟩
     obtain⟨qa,qc,rfl⟩:=T;clear r;go_wp2;go_ret;exact⟨_,rfl,by rw[ab z];exact hq,f⟩
end Go.Proofs.YtchidddpplangaaGreatDoor
