/- Texts. -/
import Derived.Test.YtfannoajibacnaaGreatDoorM9
set_option linter.all false
set_option maxRecDepth 100000
set_option maxHeartbeats 1600000
namespace Go.Proofs.YtfannoajibacnaaGreatDoor
open Go.Proofs.Tryz
open Go.RowKit Go.Lib
variable {R:List (Value×List Value)}{ob p:Nat}{w w':World}
def rj:(prog.info? 3).map (fun i=>(i.zero,i.size,i.bytes))=some (some (Value.int .i64 0),1,8):=by kernel_rfl
def GJ(n:Nat)(w:World)(q:n<=100000) :
  Calls prog 209 #[.slice none 0 0,n] w fun e w'=>∃v,e = .returned v/\(∃c,v = .slice none 0 c∨v = .slice w.heap.size 0 c)/\w'.ownsRow w.heap.size 3 1 v 0 []/\Below w.heap.size w w':=by
 obtain⟨i0,i,b,d,a⟩:=a0p rj;have p:(n:Int)<=100000:=by omega
 by_cases k:n=0
 . subst k;clear b d a i;go_enter func209,ntmps209;go_wp2;go_ret;exact⟨_,rfl,⟨0,.inl rfl⟩,a1b _ _ _ _,a0c _ _⟩
 .
  have hold:(Builtin.firstCells i0.size 0 (.slice none 0 0)).run prog w.drew = .ok ([]:List Value).toArray w.drew:=a3P w.drew i0.size 0 0 0;have g:=af (fun ty=>Lib.run_append_grow_zeros w 129 3 ty 3 i0 (Value.int .i64 0) .i64 .i64 a0F a10 i b none 0 0 [] hold n (by omega) (by rw[d];decide) (by omega) (by omega) (by rw[a];omega) (a3d (by omega) (by rw[a];omega)));rw[a0G]at g;have h:n<=grownCap w n 0 3:=grownCap_ge w _ _ _;have f:grownCap w n 0 3<=maxLen:=a3O w n 0 _ (by unfold maxLen;omega);generalize grownCap w n 0 3=G at *;have j:Hid ((([]:List Value).toArray++Builtin.zeroCells ((Value.int .i64 0):Value).cells n++Builtin.zeroCells ((Value.int .i64 0):Value).cells (G-n)).size=G*1):=by
   show _=_;simp only[a2j,size_zeroCells];have e:((Value.int .i64 0):Value).cells.size=1:=rfl;rw[e];simp;omega
  generalize (([]:List Value).toArray++Builtin.zeroCells ((Value.int .i64 0):Value).cells n++Builtin.zeroCells ((Value.int .i64 0):Value).cells (G-n))=cur at *;have m:(1:Int)<=(n:Int):=by omega
  have o:¬ G=0:=by omega
  have l:=af f;clear hold b d a i f h k;go_enter func209,ntmps209;go_wp2_with (at_builtin;refine Lib.wpList_append_run _ rfl _ _ _ _ rfl _ _ rfl rfl _ _ (g _) ?_);go_ret;refine⟨_,rfl,⟨G,.inr rfl⟩,World.ownsRow_made w.drew cur G (a0a _) l j,((a0c _ _).drew).alloc (a0a _) _⟩
def kf(w:World)(p ob:Nat)(R:List (Value×List Value)):Prop:=∀j,j<R.length->w.cell? ⟨p,j,none⟩=some (R.getD j (.slice none 0 0,[])).1/\∃n,w.ownsRow ob 3 1 (R.getD j (.slice none 0 0,[])).1 n (R.getD j (.slice none 0 0,[])).2/\(∀u∈(R.getD j (.slice none 0 0,[])).2,u.oneCell'=true)
def dc(x:Value×List Value):Nat:=x.2.length/1
def aR(R:List (Value×List Value)):Nat:=(R.map dc).sum
def dQ(R:List (Value×List Value)):List Value:=R.flatMap Prod.snd
def rP(R:List (Value×List Value))(k:Nat)(h:k<R.length):R.take (k+1)=R.take k++[R.getD k (.slice none 0 0,[])]:=by
 rw[a1e h]
 congr 2
 simp[List.getD,h]
def nr(R:List (Value×List Value))(k:Nat)(h:k<R.length):aR (R.take (k+1))=aR (R.take k)+dc (R.getD k (.slice none 0 0,[])):=by
 rw[rP R k h];simp[aR]
def uU(R:List (Value×List Value))(k:Nat)(h:k<R.length):dQ (R.take (k+1))=dQ (R.take k)++(R.getD k (.slice none 0 0,[])).2:=by
 rw[rP R k h];simp[dQ]
def pM(R:List (Value×List Value))(k:Nat):aR (R.take k)<=aR R:=by
 have e0:∀A B:List (Value×List Value),aR (A++B)=aR A+aR B:=fun A B=>by simp[aR]
 have e:=e0 (R.take k) (R.drop k);rw[a1z]at e;omega
def kf.later(h:kf w p ob R)(hb:Below w.heap.size w w'):kf w' p ob R:=by
 intro j i;obtain⟨d,n,h2,f⟩:=h j i;refine⟨(hb.cell (p:=⟨p,j,none⟩) (World.block_lt_of_cell? w ⟨p,j,none⟩ d)).trans d,n,?_,f⟩;refine⟨h2.1,?_⟩;rcases h2.2 with k|⟨g,cap,b,e,c,a,rest⟩
 . exact .inl k
 . exact .inr ⟨g,cap,b,e,c,(hb.block g (Array.getElem?_eq_some_iff.1 a).1).trans a,rest⟩
def kf.form(h:kf w p ob R)(j:Nat)(i:j<R.length):∃a c,(R.getD j (.slice none 0 0,[])).1 = .slice a (dc (R.getD j (.slice none 0 0,[]))) c/\w.ownsRow ob 3 1 (.slice a (dc (R.getD j (.slice none 0 0,[]))) c) (dc (R.getD j (.slice none 0 0,[]))) (R.getD j (.slice none 0 0,[])).2/\(∀u∈(R.getD j (.slice none 0 0,[])).2,u.oneCell'=true):=by
 obtain⟨_,n,h2,d⟩:=h j i;have k:dc (R.getD j (.slice none 0 0,[]))=n:=by
  unfold dc;rw[h2.1];omega
 rw[k];rcases h2.2 with⟨e,e0⟩|⟨g,cap,f,e,_⟩
 . subst e0;exact⟨none,0,e,by have b:=h2;rw[e]at b;exact b,d⟩
 . exact⟨_,cap,e,by have b:=h2;rw[e]at b;exact b,d⟩
def sD(p ob m c:Nat)(R:List (Value×List Value))(w:World)(hm:R.length=m)(W:1<=m)(I:m<=1000)(h:kf w p ob R)(Z:aR R<=100000) :
  Calls prog 174 #[.slice p m c] w fun e w'=>∃v,e = .returned v/\w'.ownsRow w.heap.size 3 1 v (aR R) (dQ R)/\Below w.heap.size w w':=by
 obtain⟨i0,hi,Q,S,T⟩:=a0p rj;have ad:(m:Int)<=1000:=by omega
 have t:=af (a0b hm (a0b W I));have J:=af Z;have H:=af h;have K:=af (fun n hn=>GJ n w hn);clear hm W I Z h;go_enter func174,ntmps174;go_wp2_with fail
 go_loop [3,5,11] (fun s _ i=>∃k:Nat,k<=m/\i = .int .i64 k/\s = .int .i64 (aR (R.take k):Nat)) (fun _ _ i=>m-(intOf i).toNat)
 case atStart=>exact⟨0,a0g _,rfl,rfl⟩
 case round=>
  obtain⟨k,M,rfl,rfl⟩:=hrel;have HK:=af M;by_cases d:k<m
  .
   have E:=ae H k (by rw[t.1];exact d);obtain⟨a,c1,e,_,_⟩:=H.form k (by rw[t.1];exact d);have c0:=E.1;rw[e]at c0;have o:=af (nr R k (by rw[t.1];exact d));have C:=pM R (k+1);have aa:(aR (R.take k):Int)+(dc (R.getD k (.slice none 0 0,[])):Int)<=100000:=by have:=ae o;have:=ae J;omega
   clear E e C M;generalize dc (R.getD k (.slice none 0 0,[]))=q,aR (R.take k)=s at *;go_wp2
   go_round
   case rel=>exact⟨k+1,by have:=ae HK;omega,by go_num,by rw[ae o];go_num⟩
   case measure=>simp[intOf];omega
  .
   obtain rfl:k=m:=by omega
   have r:R.take k=R:=a0t (by rw[t.1];exact a0a _);rw[r];have ac:(aR R:Int)<=100000:=by have:=ae J;omega
   have U:Hid (aR R<=100000):=by show _<=_;have:=ae J;omega
   clear r M d;generalize X:aR R=N at *;have z:=af X;clear X;go_wp2_with fail;apply(K N (ae U)).mono;rintro e x1⟨v,rfl,⟨cg,D⟩,ho,hb⟩;have B:∃a,v = .slice a 0 cg:=by
    rcases D with D|D
    . exact⟨_,D⟩
    . exact⟨_,D⟩
   obtain⟨va,rfl⟩:=B;clear D;go_wp2_with fail
   go_loopw [6,8,27] (fun s _ i wr=>∃j:Nat,j<=k/\i = .int .i64 j/\wr.ownsRow w.heap.size 3 1 s (aR (R.take j)) (dQ (R.take j))/\Below w.heap.size w wr) (fun _ _ i _=>k-(intOf i).toNat)
   case atStart=>exact⟨0,a0g _,rfl,ho,hb⟩
   case round=>
    obtain⟨j,Y,rfl,hq,f⟩:=hrel;clear ho hb;have HJ:=af Y;have G:=f.size;by_cases d:j<k
    .
     have A:=H.later f;have E:=A j (by rw[t.1];exact d);obtain⟨a,c1,e,y,u⟩:=A.form j (by rw[t.1];exact d);have c0:=E.1;rw[e]at c0;have o:=af (nr R j (by rw[t.1];exact d));have P:=af (uU R j (by rw[t.1];exact d));have C:=pM R (j+1);have F:Hid (aR (R.take j)+dc (R.getD j (.slice none 0 0,[]))<=maxLen/\(aR (R.take j)+dc (R.getD j (.slice none 0 0,[])))*8<=140737488355328):=by
      have:=ae o;have:=ae z;have:=ae U;show _/\_;unfold maxLen;omega
     have V:=af (a0b y u);clear E e C Y A y u;generalize dc (R.getD j (.slice none 0 0,[]))=q,(R.getD j (.slice none 0 0,[])).2=xs at *;go_wp2_with (at_builtin;refine kV _ rfl _ _ 129 rfl w.heap.size 3 i0 (Value.int .i64 0) 1 8 a0F hi Q S T rfl (by decide) _ _ _ rfl hq _ ob q xs rfl V.1 V.2 F.1 F.2 G ?_;intro v' x2 x l);have L:Below w.heap.size w x2:=f.grown l G (fun b h=>(a0z hq b h).1);rw[←ae o,←ae P]at x;clear l hq f;go_wp2;go_roundw
     case rel=>exact⟨j+1,by have:=ae HJ;omega,by go_num,x,L⟩
     case measure=>simp[intOf];omega
    .
     obtain rfl:j=k:=by omega
     have r:R.take j=R:=a0t (by rw[t.1];exact a0a _);rw[r,ae z]at hq;have O:∃a c,u6 = .slice a N c:=by
      rcases hq.2 with⟨e,e0⟩|⟨g,cap,ab,e,_⟩
      . subst e0;exact⟨_,_,e⟩
      . exact⟨_,_,e⟩
     obtain⟨qa,qc,rfl⟩:=O;clear r;go_wp2;go_ret;exact⟨_,rfl,by rw[ae z];exact hq,f⟩
def nR:(prog.info? 167).map (fun i=>(i.zero,i.size,i.bytes))=some (some (.agg #[.int .i64 0,.int .i64 0]),2,16):=by kernel_rfl
def AZ(n:Nat)(w:World)(q:n<=100000) :
  Calls prog 185 #[.slice none 0 0,n] w fun e w'=>∃v,e = .returned v/\(∃c,v = .slice none 0 c∨v = .slice w.heap.size 0 c)/\w'.ownsRow w.heap.size 167 2 v 0 []/\Below w.heap.size w w':=by
 obtain⟨i0,i,b,d,a⟩:=a0p nR;have p:(n:Int)<=100000:=by omega
 by_cases k:n=0
 . subst k;clear b d a i;go_enter func185,ntmps185;go_wp2;go_ret;exact⟨_,rfl,⟨0,.inl rfl⟩,a1b _ _ _ _,a0c _ _⟩
 .
  have hold:(Builtin.firstCells i0.size 0 (.slice none 0 0)).run prog w.drew = .ok ([]:List Value).toArray w.drew:=a3P w.drew i0.size 0 0 0;have g:=af (fun ty=>Lib.run_append_grow_zeros w 164 3 ty 167 i0 (.agg #[.int .i64 0,.int .i64 0]) .i64 .i64 a1C a10 i b none 0 0 [] hold n (by omega) (by rw[d];decide) (by omega) (by omega) (by rw[a];omega) (a3d (by omega) (by rw[a];omega)));rw[a0G]at g;have h:n<=grownCap w n 0 167:=grownCap_ge w _ _ _;have f:grownCap w n 0 167<=maxLen:=a3O w n 0 _ (by unfold maxLen;omega);generalize grownCap w n 0 167=G at *;have j:Hid ((([]:List Value).toArray++Builtin.zeroCells ((Value.agg #[.int .i64 0,.int .i64 0]):Value).cells n++Builtin.zeroCells ((Value.agg #[.int .i64 0,.int .i64 0]):Value).cells (G-n)).size=G*2):=by
   show _=_;simp only[a2j,size_zeroCells];have e:((Value.agg #[.int .i64 0,.int .i64 0]):Value).cells.size=2:=rfl;rw[e];simp;omega
  generalize (([]:List Value).toArray++Builtin.zeroCells ((Value.agg #[.int .i64 0,.int .i64 0]):Value).cells n++Builtin.zeroCells ((Value.agg #[.int .i64 0,.int .i64 0]):Value).cells (G-n))=cur at *;have m:(1:Int)<=(n:Int):=by omega
  have o:¬ G=0:=by omega
  have l:=af f;clear hold b d a i f h k;go_enter func185,ntmps185;go_wp2_with (at_builtin;refine Lib.wpList_append_run _ rfl _ _ _ _ rfl _ _ rfl rfl _ _ (g _) ?_);go_ret;refine⟨_,rfl,⟨G,.inr rfl⟩,World.ownsRow_made w.drew cur G (a0a _) l j,((a0c _ _).drew).alloc (a0a _) _⟩
def iW(w:World)(p ob:Nat)(R:List (Value×List Value)):Prop:=∀j,j<R.length->w.cell? ⟨p,j,none⟩=some (R.getD j (.slice none 0 0,[])).1/\∃n,w.ownsRow ob 167 2 (R.getD j (.slice none 0 0,[])).1 n (R.getD j (.slice none 0 0,[])).2/\(∀u∈(R.getD j (.slice none 0 0,[])).2,u.oneCell'=true)
def cn(x:Value×List Value):Nat:=x.2.length/2
def aN(R:List (Value×List Value)):Nat:=(R.map cn).sum
def fe(R:List (Value×List Value)):List Value:=R.flatMap Prod.snd
def oy(R:List (Value×List Value))(k:Nat)(h:k<R.length):R.take (k+1)=R.take k++[R.getD k (.slice none 0 0,[])]:=by
 rw[a1e h]
 congr 2
 simp[List.getD,h]
def lw(R:List (Value×List Value))(k:Nat)(h:k<R.length):aN (R.take (k+1))=aN (R.take k)+cn (R.getD k (.slice none 0 0,[])):=by
 rw[oy R k h];simp[aN]
def rO(R:List (Value×List Value))(k:Nat)(h:k<R.length):fe (R.take (k+1))=fe (R.take k)++(R.getD k (.slice none 0 0,[])).2:=by
 rw[oy R k h];simp[fe]
def np(R:List (Value×List Value))(k:Nat):aN (R.take k)<=aN R:=by
 have e0:∀A B:List (Value×List Value),aN (A++B)=aN A+aN B:=fun A B=>by simp[aN]
 have e:=e0 (R.take k) (R.drop k);rw[a1z]at e;omega
def iW.later(h:iW w p ob R)(hb:Below w.heap.size w w'):iW w' p ob R:=by
 intro j i;obtain⟨d,n,h2,f⟩:=h j i;refine⟨(hb.cell (p:=⟨p,j,none⟩) (World.block_lt_of_cell? w ⟨p,j,none⟩ d)).trans d,n,?_,f⟩;refine⟨h2.1,?_⟩;rcases h2.2 with k|⟨g,cap,b,e,c,a,rest⟩
 . exact .inl k
 . exact .inr ⟨g,cap,b,e,c,(hb.block g (Array.getElem?_eq_some_iff.1 a).1).trans a,rest⟩
def iW.form(h:iW w p ob R)(j:Nat)(i:j<R.length):∃a c,(R.getD j (.slice none 0 0,[])).1 = .slice a (cn (R.getD j (.slice none 0 0,[]))) c/\w.ownsRow ob 167 2 (.slice a (cn (R.getD j (.slice none 0 0,[]))) c) (cn (R.getD j (.slice none 0 0,[]))) (R.getD j (.slice none 0 0,[])).2/\(∀u∈(R.getD j (.slice none 0 0,[])).2,u.oneCell'=true):=by
 obtain⟨_,n,h2,d⟩:=h j i;have k:cn (R.getD j (.slice none 0 0,[]))=n:=by
  unfold cn;rw[h2.1];omega
 rw[k];rcases h2.2 with⟨e,e0⟩|⟨g,cap,f,e,_⟩
 . subst e0;exact⟨none,0,e,by have b:=h2;rw[e]at b;exact b,d⟩
 . exact⟨_,cap,e,by have b:=h2;rw[e]at b;exact b,d⟩
def CY(p ob m c:Nat)(R:List (Value×List Value))(w:World)(hm:R.length=m)(W:1<=m)(I:m<=1000)(h:iW w p ob R)(Z:aN R<=100000) :
  Calls prog 155 #[.slice p m c] w fun e w'=>∃v,e = .returned v/\w'.ownsRow w.heap.size 167 2 v (aN R) (fe R)/\Below w.heap.size w w':=by
 obtain⟨i0,hi,Q,S,T⟩:=a0p nR;have ad:(m:Int)<=1000:=by omega
 have t:=af (a0b hm (a0b W I));have J:=af Z;have H:=af h;have K:=af (fun n hn=>AZ n w hn);clear hm W I Z h;go_enter func155,ntmps155;go_wp2_with fail
 go_loop [3,5,11] (fun s _ i=>∃k:Nat,k<=m/\i = .int .i64 k/\s = .int .i64 (aN (R.take k):Nat)) (fun _ _ i=>m-(intOf i).toNat)
 case atStart=>exact⟨0,a0g _,rfl,rfl⟩
 case round=>
  obtain⟨k,M,rfl,rfl⟩:=hrel;have HK:=af M;by_cases d:k<m
  .
   have E:=ae H k (by rw[t.1];exact d);obtain⟨a,c1,e,_,_⟩:=H.form k (by rw[t.1];exact d);have c0:=E.1;rw[e]at c0;have o:=af (lw R k (by rw[t.1];exact d));have C:=np R (k+1);have aa:(aN (R.take k):Int)+(cn (R.getD k (.slice none 0 0,[])):Int)<=100000:=by have:=ae o;have:=ae J;omega
   clear E e C M;generalize cn (R.getD k (.slice none 0 0,[]))=q,aN (R.take k)=s at *;go_wp2
   go_round
   case rel=>exact⟨k+1,by have:=ae HK;omega,by go_num,by rw[ae o];go_num⟩
   case measure=>simp[intOf];omega
  .
   obtain rfl:k=m:=by omega
   have r:R.take k=R:=a0t (by rw[t.1];exact a0a _);rw[r];have ac:(aN R:Int)<=100000:=by have:=ae J;omega
   have U:Hid (aN R<=100000):=by show _<=_;have:=ae J;omega
   clear r M d;generalize X:aN R=N at *;have z:=af X;clear X;go_wp2_with fail;apply(K N (ae U)).mono;rintro e x1⟨v,rfl,⟨cg,D⟩,ho,hb⟩;have B:∃a,v = .slice a 0 cg:=by
    rcases D with D|D
    . exact⟨_,D⟩
    . exact⟨_,D⟩
   obtain⟨va,rfl⟩:=B;clear D;go_wp2_with fail
   go_loopw [6,8,27] (fun s _ i wr=>∃j:Nat,j<=k/\i = .int .i64 j/\wr.ownsRow w.heap.size 167 2 s (aN (R.take j)) (fe (R.take j))/\Below w.heap.size w wr) (fun _ _ i _=>k-(intOf i).toNat)
   case atStart=>exact⟨0,a0g _,rfl,ho,hb⟩
   case round=>
    obtain⟨j,Y,rfl,hq,f⟩:=hrel;clear ho hb;have HJ:=af Y;have G:=f.size;by_cases d:j<k
    .
     have A:=H.later f;have E:=A j (by rw[t.1];exact d);obtain⟨a,c1,e,y,u⟩:=A.form j (by rw[t.1];exact d);have c0:=E.1;rw[e]at c0;have o:=af (lw R j (by rw[t.1];exact d));have P:=af (rO R j (by rw[t.1];exact d));have C:=np R (j+1);have F:Hid (aN (R.take j)+cn (R.getD j (.slice none 0 0,[]))<=maxLen/\(aN (R.take j)+cn (R.getD j (.slice none 0 0,[])))*16<=140737488355328):=by
      have:=ae o;have:=ae z;have:=ae U;show _/\_;unfold maxLen;omega
     have V:=af (a0b y u);clear E e C Y A y u;generalize cn (R.getD j (.slice none 0 0,[]))=q,(R.getD j (.slice none 0 0,[])).2=xs at *;go_wp2_with (at_builtin;refine kV _ rfl _ _ 164 rfl w.heap.size 167 i0 (Value.agg #[.int .i64 0,.int .i64 0]) 2 16 a1C hi Q S T rfl (by decide) _ _ _ rfl hq _ ob q xs rfl V.1 V.2 F.1 F.2 G ?_;intro v' x2 x l);have L:Below w.heap.size w x2:=f.grown l G (fun b h=>(a0z hq b h).1);rw[←ae o,←ae P]at x;clear l hq f;go_wp2;go_roundw
     case rel=>exact⟨j+1,by have:=ae HJ;omega,by go_num,x,L⟩
     case measure=>simp[intOf];omega
    .
     obtain rfl:j=k:=by omega
     have r:R.take j=R:=a0t (by rw[t.1];exact a0a _);rw[r,ae z]at hq;have O:∃a c,u6 = .slice a N c:=by
      rcases hq.2 with⟨e,e0⟩|⟨g,cap,ab,e,_⟩
      . subst e0;exact⟨_,_,e⟩
      . exact⟨_,_,e⟩
     obtain⟨qa,qc,rfl⟩:=O;clear r;go_wp2;go_ret;exact⟨_,rfl,by rw[ae z];exact hq,f⟩
