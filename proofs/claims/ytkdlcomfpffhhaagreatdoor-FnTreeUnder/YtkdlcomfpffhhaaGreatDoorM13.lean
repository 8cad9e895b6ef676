/- Of what the proof is made: 2 texts, one behind the other. -/
import Derived.Test.YtkdlcomfpffhhaaGreatDoorM6
import Derived.Test.YtkdlcomfpffhhaaGreatDoorM8
import Derived.Lib.AppendZerosOnto
set_option linter.unusedSimpArgs false
set_option linter.unusedVariables false
set_option maxHeartbeats 1600000
namespace Go.Proofs.YtkdlcomfpffhhaaGreatDoor
open Go.RowKit Go.Lib
theorem mR:(Tryz.prog.info? 3).map (fun i=>(i.zero,i.size,i.bytes))=some (some (Value.int .i64 0),1,8):=by kernel_rfl
set_option maxRecDepth 100000 in
theorem zm(n:Nat)(w:World)(hn:n<=100000) :
  Calls Tryz.prog 206 #[.slice none 0 0,.int .i64 (n:Nat)] w fun e w'=>∃v,e = .returned v/\(∃c,v = .slice none 0 c∨v = .slice (some ⟨w.heap.size,0,none⟩) 0 c)/\w'.ownsRow w.heap.size 3 1 v 0 []/\Below w.heap.size w w':=by
 obtain⟨i0,hi,hz0,hz1,hz2⟩:=a0z mR;have hnI:(n:Int)<=100000:=by omega
 by_cases h0:n=0
 · subst h0;clear hz0 hz1 hz2 hi;go_enter Tryz.func206,Tryz.ntmps206;go_wp2;go_ret;exact⟨_,rfl,⟨0,.inl rfl⟩,a07 _ _ _ _,a0c _ _⟩
 ·
  have hold:(Builtin.firstCells i0.size 0 (.slice none 0 0)).run Tryz.prog w.drew = .ok ([]:List Value).toArray w.drew:=run_firstCells_none w.drew i0.size 0 0 0;have hrz:=af (fun ty=>Lib.run_append_grow_zeros w 146 3 ty 3 i0 (Value.int .i64 0) .i64 .i64 a05 a14 hi hz0 none 0 0 [] hold n (by omega) (by rw[hz1];decide) (by omega) (by omega) (by rw[hz2];omega) (a3D (by omega) (by rw[hz2];omega)));rw[a0A]at hrz;have hGn:n<=grownCap w n 0 3:=a3e w _ _ _;have hGm:grownCap w n 0 3<=maxLen:=a3f w n 0 _ (by unfold maxLen;omega);generalize grownCap w n 0 3=G at *
  have hsz:Hid ((([]:List Value).toArray++Builtin.zeroCells ((Value.int .i64 0):Value).cells n++Builtin.zeroCells ((Value.int .i64 0):Value).cells (G-n)).size=G*1):=by
   show _=_;simp only[a2l,a2q];have e:((Value.int .i64 0):Value).cells.size=1:=rfl;rw[e];simp;omega
  generalize (([]:List Value).toArray++Builtin.zeroCells ((Value.int .i64 0):Value).cells n++Builtin.zeroCells ((Value.int .i64 0):Value).cells (G-n))=cur at *
  have h1I:(1:Int)<=(n:Int):=by omega
  have hG0:¬ G=0:=by omega
  have HM:=af hGm;clear hold hz0 hz1 hz2 hi hGm hGn h0;go_enter Tryz.func206,Tryz.ntmps206;go_wp2_with (at_builtin;refine Lib.wpList_append_run _ rfl _ _ _ _ rfl _ _ rfl rfl _ _ (ae hrz _) ?_);go_ret;refine⟨_,rfl,⟨G,.inr rfl⟩,World.ownsRow_made w.drew cur G (a0a _) (ae HM) (ae hsz),((a0c _ _).drew).alloc (a0a _) _⟩
def gu(w:World)(p ob:Nat)(R:List (Value×List Value)):Prop:=∀j,j<R.length->w.cell? ⟨p,j,none⟩=some (R.getD j (.slice none 0 0,[])).1/\∃n,w.ownsRow ob 3 1 (R.getD j (.slice none 0 0,[])).1 n (R.getD j (.slice none 0 0,[])).2/\(∀u∈(R.getD j (.slice none 0 0,[])).2,u.oneCell'=true)
def bE(x:Value×List Value):Nat:=x.2.length/1
def aF(R:List (Value×List Value)):Nat:=(R.map bE).sum
def cw(R:List (Value×List Value)):List Value:=R.flatMap Prod.snd
theorem nn(R:List (Value×List Value))(k:Nat)(h:k<R.length):R.take (k+1)=R.take k++[R.getD k (.slice none 0 0,[])]:=by
 rw[a1c h]
 congr 2
 simp[List.getD,h]
theorem jH(R:List (Value×List Value))(k:Nat)(h:k<R.length):aF (R.take (k+1))=aF (R.take k)+bE (R.getD k (.slice none 0 0,[])):=by
 rw[nn R k h];simp[aF]
theorem pF(R:List (Value×List Value))(k:Nat)(h:k<R.length):cw (R.take (k+1))=cw (R.take k)++(R.getD k (.slice none 0 0,[])).2:=by
 rw[nn R k h];simp[cw]
theorem lM(R:List (Value×List Value))(k:Nat):aF (R.take k)<=aF R:=by
 have e0:∀A B:List (Value×List Value),aF (A++B)=aF A+aF B:=fun A B=>by simp[aF]
 have e:=e0 (R.take k) (R.drop k);rw[a1C]at e;omega
theorem gu.later{w w':World}{p ob:Nat}{R:List (Value×List Value)}(h:gu w p ob R)(hb:Below w.heap.size w w'):gu w' p ob R:=by
 intro j hj;obtain⟨h1,n,h2,h3⟩:=h j hj;refine⟨(hb.cell (p:=⟨p,j,none⟩) (World.block_lt_of_cell? w ⟨p,j,none⟩ h1)).trans h1,n,?_,h3⟩;refine⟨h2.1,?_⟩;rcases h2.2 with hn|⟨g,cap,cur,e,hbg,hgg,rest⟩
 · exact .inl hn
 · exact .inr ⟨g,cap,cur,e,hbg,(hb.block g (Array.getElem?_eq_some_iff.1 hgg).1).trans hgg,rest⟩
theorem gu.form{w:World}{p ob:Nat}{R:List (Value×List Value)}(h:gu w p ob R)(j:Nat)(hj:j<R.length):∃a c,(R.getD j (.slice none 0 0,[])).1 = .slice a (bE (R.getD j (.slice none 0 0,[]))) c/\w.ownsRow ob 3 1 (.slice a (bE (R.getD j (.slice none 0 0,[]))) c) (bE (R.getD j (.slice none 0 0,[]))) (R.getD j (.slice none 0 0,[])).2/\(∀u∈(R.getD j (.slice none 0 0,[])).2,u.oneCell'=true):=by
 obtain⟨_,n,h2,h3⟩:=h j hj;have hn:bE (R.getD j (.slice none 0 0,[]))=n:=by
  unfold bE;rw[h2.1];omega
 rw[hn];rcases h2.2 with⟨e,e0⟩|⟨g,cap,cur,e,_⟩
 · subst e0;exact⟨none,0,e,by have h4:=h2;rw[e]at h4;exact h4,h3⟩
 · exact⟨_,cap,e,by have h4:=h2;rw[e]at h4;exact h4,h3⟩
set_option maxRecDepth 100000 in
theorem nN(p ob m c:Nat)(R:List (Value×List Value))(w:World)(hm:R.length=m)(h1:1<=m)(hm2:m<=1000)(h:gu w p ob R)(hl:aF R<=100000) :
  Calls Tryz.prog 172 #[.slice (some ⟨p,0,none⟩) m c] w fun e w'=>∃v,e = .returned v/\w'.ownsRow w.heap.size 3 1 v (aF R) (cw R)/\Below w.heap.size w w':=by
 obtain⟨i0,hi,hz0,hz1,hz2⟩:=a0z mR;have hmI:(m:Int)<=1000:=by omega
 have HM:=af (a0b hm (a0b h1 hm2));have HL:=af hl;have H:=af h;have hGr:=af (fun n hn=>zm n w hn);clear hm h1 hm2 hl h;go_enter Tryz.func172,Tryz.ntmps172;go_wp2_with fail
 go_loop [3,5,11] (fun s _ i=>∃k:Nat,k<=m/\i = .int .i64 k/\s = .int .i64 (aF (R.take k):Nat)) (fun _ _ i=>m-(intOf i).toNat)
 case atStart=>exact⟨0,a0h _,rfl,rfl⟩
 case round=>
  obtain⟨k,hk,rfl,rfl⟩:=hrel;have HK:=af hk;by_cases hlt:k<m
  ·
   have hR:=ae H k (by rw[(ae HM).1];exact hlt);obtain⟨a,c1,e,_,_⟩:=(ae H).form k (by rw[(ae HM).1];exact hlt);have c0:=hR.1;rw[e]at c0;have hst:=af (jH R k (by rw[(ae HM).1];exact hlt));have hle:=lM R (k+1);have hle2:(aF (R.take k):Int)+(bE (R.getD k (.slice none 0 0,[])):Int)<=100000:=by have:=ae hst;have:=ae HL;omega
   clear hR e hle hk;generalize bE (R.getD k (.slice none 0 0,[]))=q at *
   generalize aF (R.take k)=s at *
   go_wp2
   go_round
   case rel=>exact⟨k+1,by have:=ae HK;omega,by go_num,by rw[ae hst];go_num⟩
   case measure=>simp[intOf];omega
  ·
   obtain rfl:k=m:=by omega
   have hta:R.take k=R:=a0s (by rw[(ae HM).1];exact a0a _);rw[hta];have hNI:(aF R:Int)<=100000:=by have:=ae HL;omega
   have HN:Hid (aF R<=100000):=by show _<=_;have:=ae HL;omega
   clear hta hk hlt;generalize hN:aF R=N at *
   have HNe:=af hN;clear hN;go_wp2_with fail;refine(ae hGr N (ae HN)).mono ?_;rintro e x1 ⟨v,rfl,⟨cg,hv⟩,ho,hb⟩;have hform:∃a,v = .slice a 0 cg:=by
    rcases hv with hv|hv
    · exact⟨_,hv⟩
    · exact⟨_,hv⟩
   obtain⟨va,rfl⟩:=hform;clear hv;go_wp2_with fail
   go_loopw [6,8,27] (fun s _ i wr=>∃j:Nat,j<=k/\i = .int .i64 j/\wr.ownsRow w.heap.size 3 1 s (aF (R.take j)) (cw (R.take j))/\Below w.heap.size w wr) (fun _ _ i _=>k-(intOf i).toNat)
   case atStart=>exact⟨0,a0h _,rfl,ho,hb⟩
   case round=>
    obtain⟨j,hj,rfl,hq,hbel⟩:=hrel;clear ho hb;have HJ:=af hj;have hbs:=hbel.size;by_cases hlt:j<k
    ·
     have hRw:=(ae H).later hbel;have hR:=hRw j (by rw[(ae HM).1];exact hlt);obtain⟨a,c1,e,hsrc,hone⟩:=hRw.form j (by rw[(ae HM).1];exact hlt);have c0:=hR.1;rw[e]at c0;have hst:=af (jH R j (by rw[(ae HM).1];exact hlt));have hsa:=af (pF R j (by rw[(ae HM).1];exact hlt));have hle:=lM R (j+1);have hbb:Hid (aF (R.take j)+bE (R.getD j (.slice none 0 0,[]))<=maxLen/\(aF (R.take j)+bE (R.getD j (.slice none 0 0,[])))*8<=140737488355328):=by
      have:=ae hst;have:=ae HNe;have:=ae HN;show _/\_;unfold maxLen;omega
     have HX:=af (a0b hsrc hone);clear hR e hle hj hRw hsrc hone;generalize bE (R.getD j (.slice none 0 0,[]))=q at *
     generalize (R.getD j (.slice none 0 0,[])).2=xs at *
     go_wp2_with (at_builtin;refine ie _ rfl _ _ 146 rfl w.heap.size 3 i0 (Value.int .i64 0) 1 8 a05 hi hz0 hz1 hz2 rfl (by decide) _ _ _ rfl hq _ ob q xs rfl (ae HX).1 (ae HX).2 (ae hbb).1 (ae hbb).2 hbs ?_;intro v' x2 hown hgrow);have hb2:Below w.heap.size w x2:=hbel.grown hgrow hbs (fun b h=>(a0y hq b h).1);rw[←ae hst,←ae hsa]at hown;clear hgrow hq hbel;go_wp2;go_roundw
     case rel=>exact⟨j+1,by have:=ae HJ;omega,by go_num,hown,hb2⟩
     case measure=>simp[intOf];omega
    ·
     obtain rfl:j=k:=by omega
     have hta:R.take j=R:=a0s (by rw[(ae HM).1];exact a0a _);rw[hta,ae HNe]at hq;have hqf:∃a c,u6 = .slice a N c:=by
      rcases hq.2 with⟨e,e0⟩|⟨g,cap,cur,e,_⟩
      · subst e0;exact⟨_,_,e⟩
      · exact⟨_,_,e⟩
     obtain⟨qa,qc,rfl⟩:=hqf;clear hta;go_wp2;go_ret;exact⟨_,rfl,by rw[ae HNe];exact hq,hbel⟩
theorem j6:(Tryz.prog.info? 173).map (fun i=>(i.zero,i.size,i.bytes))=some (some (.agg #[.int .i64 0,.int .i64 0]),2,16):=by kernel_rfl
set_option maxRecDepth 100000 in
theorem uy(n:Nat)(w:World)(hn:n<=100000) :
  Calls Tryz.prog 183 #[.slice none 0 0,.int .i64 (n:Nat)] w fun e w'=>∃v,e = .returned v/\(∃c,v = .slice none 0 c∨v = .slice (some ⟨w.heap.size,0,none⟩) 0 c)/\w'.ownsRow w.heap.size 173 2 v 0 []/\Below w.heap.size w w':=by
 obtain⟨i0,hi,hz0,hz1,hz2⟩:=a0z j6;have hnI:(n:Int)<=100000:=by omega
 by_cases h0:n=0
 · subst h0;clear hz0 hz1 hz2 hi;go_enter Tryz.func183,Tryz.ntmps183;go_wp2;go_ret;exact⟨_,rfl,⟨0,.inl rfl⟩,a07 _ _ _ _,a0c _ _⟩
 ·
  have hold:(Builtin.firstCells i0.size 0 (.slice none 0 0)).run Tryz.prog w.drew = .ok ([]:List Value).toArray w.drew:=run_firstCells_none w.drew i0.size 0 0 0;have hrz:=af (fun ty=>Lib.run_append_grow_zeros w 170 3 ty 173 i0 (.agg #[.int .i64 0,.int .i64 0]) .i64 .i64 a1r a14 hi hz0 none 0 0 [] hold n (by omega) (by rw[hz1];decide) (by omega) (by omega) (by rw[hz2];omega) (a3D (by omega) (by rw[hz2];omega)));rw[a0A]at hrz;have hGn:n<=grownCap w n 0 173:=a3e w _ _ _;have hGm:grownCap w n 0 173<=maxLen:=a3f w n 0 _ (by unfold maxLen;omega);generalize grownCap w n 0 173=G at *
  have hsz:Hid ((([]:List Value).toArray++Builtin.zeroCells ((Value.agg #[.int .i64 0,.int .i64 0]):Value).cells n++Builtin.zeroCells ((Value.agg #[.int .i64 0,.int .i64 0]):Value).cells (G-n)).size=G*2):=by
   show _=_;simp only[a2l,a2q];have e:((Value.agg #[.int .i64 0,.int .i64 0]):Value).cells.size=2:=rfl;rw[e];simp;omega
  generalize (([]:List Value).toArray++Builtin.zeroCells ((Value.agg #[.int .i64 0,.int .i64 0]):Value).cells n++Builtin.zeroCells ((Value.agg #[.int .i64 0,.int .i64 0]):Value).cells (G-n))=cur at *
  have h1I:(1:Int)<=(n:Int):=by omega
  have hG0:¬ G=0:=by omega
  have HM:=af hGm;clear hold hz0 hz1 hz2 hi hGm hGn h0;go_enter Tryz.func183,Tryz.ntmps183;go_wp2_with (at_builtin;refine Lib.wpList_append_run _ rfl _ _ _ _ rfl _ _ rfl rfl _ _ (ae hrz _) ?_);go_ret;refine⟨_,rfl,⟨G,.inr rfl⟩,World.ownsRow_made w.drew cur G (a0a _) (ae HM) (ae hsz),((a0c _ _).drew).alloc (a0a _) _⟩
def fu(w:World)(p ob:Nat)(R:List (Value×List Value)):Prop:=∀j,j<R.length->w.cell? ⟨p,j,none⟩=some (R.getD j (.slice none 0 0,[])).1/\∃n,w.ownsRow ob 173 2 (R.getD j (.slice none 0 0,[])).1 n (R.getD j (.slice none 0 0,[])).2/\(∀u∈(R.getD j (.slice none 0 0,[])).2,u.oneCell'=true)
def bo(x:Value×List Value):Nat:=x.2.length/2
def aE(R:List (Value×List Value)):Nat:=(R.map bo).sum
def dn(R:List (Value×List Value)):List Value:=R.flatMap Prod.snd
theorem kB(R:List (Value×List Value))(k:Nat)(h:k<R.length):R.take (k+1)=R.take k++[R.getD k (.slice none 0 0,[])]:=by
 rw[a1c h]
 congr 2
 simp[List.getD,h]
theorem ir(R:List (Value×List Value))(k:Nat)(h:k<R.length):aE (R.take (k+1))=aE (R.take k)+bo (R.getD k (.slice none 0 0,[])):=by
 rw[kB R k h];simp[aE]
theorem nl(R:List (Value×List Value))(k:Nat)(h:k<R.length):dn (R.take (k+1))=dn (R.take k)++(R.getD k (.slice none 0 0,[])).2:=by
 rw[kB R k h];simp[dn]
theorem jG(R:List (Value×List Value))(k:Nat):aE (R.take k)<=aE R:=by
 have e0:∀A B:List (Value×List Value),aE (A++B)=aE A+aE B:=fun A B=>by simp[aE]
 have e:=e0 (R.take k) (R.drop k);rw[a1C]at e;omega
theorem fu.later{w w':World}{p ob:Nat}{R:List (Value×List Value)}(h:fu w p ob R)(hb:Below w.heap.size w w'):fu w' p ob R:=by
 intro j hj;obtain⟨h1,n,h2,h3⟩:=h j hj;refine⟨(hb.cell (p:=⟨p,j,none⟩) (World.block_lt_of_cell? w ⟨p,j,none⟩ h1)).trans h1,n,?_,h3⟩;refine⟨h2.1,?_⟩;rcases h2.2 with hn|⟨g,cap,cur,e,hbg,hgg,rest⟩
 · exact .inl hn
 · exact .inr ⟨g,cap,cur,e,hbg,(hb.block g (Array.getElem?_eq_some_iff.1 hgg).1).trans hgg,rest⟩
theorem fu.form{w:World}{p ob:Nat}{R:List (Value×List Value)}(h:fu w p ob R)(j:Nat)(hj:j<R.length):∃a c,(R.getD j (.slice none 0 0,[])).1 = .slice a (bo (R.getD j (.slice none 0 0,[]))) c/\w.ownsRow ob 173 2 (.slice a (bo (R.getD j (.slice none 0 0,[]))) c) (bo (R.getD j (.slice none 0 0,[]))) (R.getD j (.slice none 0 0,[])).2/\(∀u∈(R.getD j (.slice none 0 0,[])).2,u.oneCell'=true):=by
 obtain⟨_,n,h2,h3⟩:=h j hj;have hn:bo (R.getD j (.slice none 0 0,[]))=n:=by
  unfold bo;rw[h2.1];omega
 rw[hn];rcases h2.2 with⟨e,e0⟩|⟨g,cap,cur,e,_⟩
 · subst e0;exact⟨none,0,e,by have h4:=h2;rw[e]at h4;exact h4,h3⟩
 · exact⟨_,cap,e,by have h4:=h2;rw[e]at h4;exact h4,h3⟩
set_option maxRecDepth 100000 in
theorem vH(p ob m c:Nat)(R:List (Value×List Value))(w:World)(hm:R.length=m)(h1:1<=m)(hm2:m<=1000)(h:fu w p ob R)(hl:aE R<=100000) :
  Calls Tryz.prog 142 #[.slice (some ⟨p,0,none⟩) m c] w fun e w'=>∃v,e = .returned v/\w'.ownsRow w.heap.size 173 2 v (aE R) (dn R)/\Below w.heap.size w w':=by
 obtain⟨i0,hi,hz0,hz1,hz2⟩:=a0z j6;have hmI:(m:Int)<=1000:=by omega
 have HM:=af (a0b hm (a0b h1 hm2));have HL:=af hl;have H:=af h;have hGr:=af (fun n hn=>uy n w hn);clear hm h1 hm2 hl h;go_enter Tryz.func142,Tryz.ntmps142;go_wp2_with fail
 go_loop [3,5,11] (fun s _ i=>∃k:Nat,k<=m/\i = .int .i64 k/\s = .int .i64 (aE (R.take k):Nat)) (fun _ _ i=>m-(intOf i).toNat)
 case atStart=>exact⟨0,a0h _,rfl,rfl⟩
 case round=>
  obtain⟨k,hk,rfl,rfl⟩:=hrel;have HK:=af hk;by_cases hlt:k<m
  ·
   have hR:=ae H k (by rw[(ae HM).1];exact hlt);obtain⟨a,c1,e,_,_⟩:=(ae H).form k (by rw[(ae HM).1];exact hlt);have c0:=hR.1;rw[e]at c0;have hst:=af (ir R k (by rw[(ae HM).1];exact hlt));have hle:=jG R (k+1);have hle2:(aE (R.take k):Int)+(bo (R.getD k (.slice none 0 0,[])):Int)<=100000:=by have:=ae hst;have:=ae HL;omega
   clear hR e hle hk;generalize bo (R.getD k (.slice none 0 0,[]))=q at *
   generalize aE (R.take k)=s at *
   go_wp2
   go_round
   case rel=>exact⟨k+1,by have:=ae HK;omega,by go_num,by rw[ae hst];go_num⟩
   case measure=>simp[intOf];omega
  ·
   obtain rfl:k=m:=by omega
   have hta:R.take k=R:=a0s (by rw[(ae HM).1];exact a0a _);rw[hta];have hNI:(aE R:Int)<=100000:=by have:=ae HL;omega
   have HN:Hid (aE R<=100000):=by show _<=_;have:=ae HL;omega
   clear hta hk hlt;generalize hN:aE R=N at *
   have HNe:=af hN;clear hN;go_wp2_with fail;refine(ae hGr N (ae HN)).mono ?_;rintro e x1 ⟨v,rfl,⟨cg,hv⟩,ho,hb⟩;have hform:∃a,v = .slice a 0 cg:=by
    rcases hv with hv|hv
    · exact⟨_,hv⟩
    · exact⟨_,hv⟩
   obtain⟨va,rfl⟩:=hform;clear hv;go_wp2_with fail
   go_loopw [6,8,27] (fun s _ i wr=>∃j:Nat,j<=k/\i = .int .i64 j/\wr.ownsRow w.heap.size 173 2 s (aE (R.take j)) (dn (R.take j))/\Below w.heap.size w wr) (fun _ _ i _=>k-(intOf i).toNat)
   case atStart=>exact⟨0,a0h _,rfl,ho,hb⟩
   case round=>
    obtain⟨j,hj,rfl,hq,hbel⟩:=hrel;clear ho hb;have HJ:=af hj;have hbs:=hbel.size;by_cases hlt:j<k
    ·
     have hRw:=(ae H).later hbel;have hR:=hRw j (by rw[(ae HM).1];exact hlt);obtain⟨a,c1,e,hsrc,hone⟩:=hRw.form j (by rw[(ae HM).1];exact hlt);have c0:=hR.1;rw[e]at c0;have hst:=af (ir R j (by rw[(ae HM).1];exact hlt));have hsa:=af (nl R j (by rw[(ae HM).1];exact hlt));have hle:=jG R (j+1);have hbb:Hid (aE (R.take j)+bo (R.getD j (.slice none 0 0,[]))<=maxLen/\(aE (R.take j)+bo (R.getD j (.slice none 0 0,[])))*16<=140737488355328):=by
      have:=ae hst;have:=ae HNe;have:=ae HN;show _/\_;unfold maxLen;omega
     have HX:=af (a0b hsrc hone);clear hR e hle hj hRw hsrc hone;generalize bo (R.getD j (.slice none 0 0,[]))=q at *
     generalize (R.getD j (.slice none 0 0,[])).2=xs at *
     go_wp2_with (at_builtin;refine ie _ rfl _ _ 170 rfl w.heap.size 173 i0 (Value.agg #[.int .i64 0,.int .i64 0]) 2 16 a1r hi hz0 hz1 hz2 rfl (by decide) _ _ _ rfl hq _ ob q xs rfl (ae HX).1 (ae HX).2 (ae hbb).1 (ae hbb).2 hbs ?_;intro v' x2 hown hgrow);have hb2:Below w.heap.size w x2:=hbel.grown hgrow hbs (fun b h=>(a0y hq b h).1);rw[←ae hst,←ae hsa]at hown;clear hgrow hq hbel;go_wp2;go_roundw
     case rel=>exact⟨j+1,by have:=ae HJ;omega,by go_num,hown,hb2⟩
     case measure=>simp[intOf];omega
    ·
     obtain rfl:j=k:=by omega
     have hta:R.take j=R:=a0s (by rw[(ae HM).1];exact a0a _);rw[hta,ae HNe]at hq;have hqf:∃a c,u6 = .slice a N c:=by
      rcases hq.2 with⟨e,e0⟩|⟨g,cap,cur,e,_⟩
      · subst e0;exact⟨_,_,e⟩
      · exact⟨_,_,e⟩
     obtain⟨qa,qc,rfl⟩:=hqf;clear hta;go_wp2;go_ret;exact⟨_,rfl,by rw[ae HNe];exact hq,hbel⟩
end Go.Proofs.YtkdlcomfpffhhaaGreatDoor
