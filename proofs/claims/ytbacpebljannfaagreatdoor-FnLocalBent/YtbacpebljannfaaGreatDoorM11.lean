/- Of what the proof is made: 2 texts, one behind the other. -/
import Derived.Test.YtbacpebljannfaaGreatDoorM5
import Derived.Test.YtbacpebljannfaaGreatDoorM7
import Derived.Lib.AppendZerosOnto
set_option linter.unusedSimpArgs false
set_option maxHeartbeats 1600000
namespace Go.Proofs.YtbacpebljannfaaGreatDoor
open Go.RowKit Go.Lib
theorem nr:(Tryz.prog.info? 3).map (fun i=>(i.zero,i.size,i.bytes))=some (some (Value.int .i64 0),1,8):=by kernel_rfl
set_option maxRecDepth 100000 in
theorem xW(n:Nat)(w:World)(hn:n<=100000) :
  Calls Tryz.prog 172 #[.slice none 0 0,.int .i64 (n:Nat)] w fun e w'=>∃v,e = .returned v/\(∃c,v = .slice none 0 c∨v = .slice (some ⟨w.heap.size,0,none⟩) 0 c)/\w'.ownsRow w.heap.size 3 1 v 0 []/\Below w.heap.size w w':=by
 obtain⟨i0,hi,hz0,hz1,hz2⟩:=a0x nr;have hnI:(n:Int)<=100000:=by omega
 by_cases h0:n=0
 · subst h0;clear hz0 hz1 hz2 hi;go_enter Tryz.func172,Tryz.ntmps172;go_wp2;go_ret;exact⟨_,rfl,⟨0,.inl rfl⟩,a0Y _ _ _ _,a0c _ _⟩
 ·
  have hold:(Builtin.firstCells i0.size 0 (.slice none 0 0)).run Tryz.prog w.drew = .ok ([]:List Value).toArray w.drew:=run_firstCells_none w.drew i0.size 0 0 0;have hrz:=af (fun ty=>Lib.run_append_grow_zeros w 84 3 ty 3 i0 (Value.int .i64 0) .i64 .i64 a0h a1K hi hz0 none 0 0 [] hold n (by omega) (by rw[hz1];decide) (by omega) (by omega) (by rw[hz2];omega) (a3e (by omega) (by rw[hz2];omega)));rw[a0M]at hrz;have hGn:n<=grownCap w n 0 3:=grownCap_ge w _ _ _;have hGm:grownCap w n 0 3<=maxLen:=grownCap_le_maxLen w n 0 _ (by unfold maxLen;omega);generalize grownCap w n 0 3=G at *
  have hsz:Hid ((([]:List Value).toArray++Builtin.zeroCells ((Value.int .i64 0):Value).cells n++Builtin.zeroCells ((Value.int .i64 0):Value).cells (G-n)).size=G*1):=by
   show _=_;simp only[a17,size_zeroCells];have e:((Value.int .i64 0):Value).cells.size=1:=rfl;rw[e];simp;omega
  generalize (([]:List Value).toArray++Builtin.zeroCells ((Value.int .i64 0):Value).cells n++Builtin.zeroCells ((Value.int .i64 0):Value).cells (G-n))=cur at *
  have hGI:(G:Int)<=9223372036854775807:=by unfold maxLen at hGm;omega
  have hGI2:(n:Int)<=(G:Int):=by omega
  have h1I:(1:Int)<=(n:Int):=by omega
  have hG0:¬ G=0:=by omega
  have HM:=af hGm;clear hold hz0 hz1 hz2 hi hGm hGn h0;go_enter Tryz.func172,Tryz.ntmps172;go_wp2_with (at_builtin;refine Lib.wpList_append_run _ rfl _ _ _ _ rfl _ _ rfl rfl _ _ (ae hrz _) ?_);go_ret;refine⟨_,rfl,⟨G,.inr rfl⟩,World.ownsRow_made w.drew cur G (a0a _) (ae HM) (ae hsz),((a0c _ _).drew).alloc (a0a _) _⟩
def gN(w:World)(p ob:Nat)(R:List (Value×List Value)):Prop:=∀j,j<R.length->w.cell? ⟨p,j,none⟩=some (R.getD j (.slice none 0 0,[])).1/\∃n,w.ownsRow ob 3 1 (R.getD j (.slice none 0 0,[])).1 n (R.getD j (.slice none 0 0,[])).2/\(∀u∈(R.getD j (.slice none 0 0,[])).2,u.oneCell'=true)
def ck(x:Value×List Value):Nat:=x.2.length/1
def aP(R:List (Value×List Value)):Nat:=(R.map ck).sum
def db(R:List (Value×List Value)):List Value:=R.flatMap Prod.snd
theorem nQ(R:List (Value×List Value))(k:Nat)(h:k<R.length):R.take (k+1)=R.take k++[R.getD k (.slice none 0 0,[])]:=by
 rw[a1a h]
 congr 2
 simp[List.getD,h]
theorem kj(R:List (Value×List Value))(k:Nat)(h:k<R.length):aP (R.take (k+1))=aP (R.take k)+ck (R.getD k (.slice none 0 0,[])):=by
 rw[nQ R k h];simp[aP]
theorem pS(R:List (Value×List Value))(k:Nat)(h:k<R.length):db (R.take (k+1))=db (R.take k)++(R.getD k (.slice none 0 0,[])).2:=by
 rw[nQ R k h];simp[db]
theorem mn(R:List (Value×List Value))(k:Nat):aP (R.take k)<=aP R:=by
 have e0:∀A B:List (Value×List Value),aP (A++B)=aP A+aP B:=fun A B=>by simp[aP]
 have e:=e0 (R.take k) (R.drop k);rw[a2b]at e;omega
theorem gN.later{w w':World}{p ob:Nat}{R:List (Value×List Value)}(h:gN w p ob R)(hb:Below w.heap.size w w'):gN w' p ob R:=by
 intro j hj;obtain⟨h1,n,h2,h3⟩:=h j hj;refine⟨(hb.cell (p:=⟨p,j,none⟩) (World.block_lt_of_cell? w ⟨p,j,none⟩ h1)).trans h1,n,?_,h3⟩;refine⟨h2.1,?_⟩;rcases h2.2 with hn|⟨g,cap,cur,e,hbg,hgg,rest⟩
 · exact .inl hn
 · exact .inr ⟨g,cap,cur,e,hbg,(hb.block g (Array.getElem?_eq_some_iff.1 hgg).1).trans hgg,rest⟩
theorem gN.form{w:World}{p ob:Nat}{R:List (Value×List Value)}(h:gN w p ob R)(j:Nat)(hj:j<R.length):∃a c,(R.getD j (.slice none 0 0,[])).1 = .slice a (ck (R.getD j (.slice none 0 0,[]))) c/\w.ownsRow ob 3 1 (.slice a (ck (R.getD j (.slice none 0 0,[]))) c) (ck (R.getD j (.slice none 0 0,[]))) (R.getD j (.slice none 0 0,[])).2/\(∀u∈(R.getD j (.slice none 0 0,[])).2,u.oneCell'=true):=by
 obtain⟨_,n,h2,h3⟩:=h j hj;have hn:ck (R.getD j (.slice none 0 0,[]))=n:=by
  unfold ck;rw[h2.1];omega
 rw[hn];rcases h2.2 with⟨e,e0⟩|⟨g,cap,cur,e,_⟩
 · subst e0;exact⟨none,0,e,by have h4:=h2;rw[e]at h4;exact h4,h3⟩
 · exact⟨_,cap,e,by have h4:=h2;rw[e]at h4;exact h4,h3⟩
set_option maxRecDepth 100000 in
theorem oe(p ob m c:Nat)(R:List (Value×List Value))(w:World)(hm:R.length=m)(h1:1<=m)(hm2:m<=1000)(h:gN w p ob R)(hl:aP R<=100000) :
  Calls Tryz.prog 135 #[.slice (some ⟨p,0,none⟩) m c] w fun e w'=>∃v,e = .returned v/\w'.ownsRow w.heap.size 3 1 v (aP R) (db R)/\Below w.heap.size w w':=by
 obtain⟨i0,hi,hz0,hz1,hz2⟩:=a0x nr;have hmI:(m:Int)<=1000:=by omega
 have HM:=af (a0b hm (a0b h1 hm2));have HL:=af hl;have H:=af h;have hGr:=af (fun n hn=>xW n w hn);clear hm h1 hm2 hl h;go_enter Tryz.func135,Tryz.ntmps135;go_wp2_with fail
 go_loop [3,5,11] (fun s _ i=>∃k:Nat,k<=m/\i = .int .i64 k/\s = .int .i64 (aP (R.take k):Nat)) (fun _ _ i=>m-(intOf i).toNat)
 case atStart=>exact⟨0,a0m _,rfl,rfl⟩
 case round=>
  obtain⟨k,hk,rfl,rfl⟩:=hrel;have HK:=af hk;by_cases hlt:k<m
  ·
   have hR:=ae H k (by rw[(ae HM).1];exact hlt);obtain⟨a,c1,e,_,_⟩:=(ae H).form k (by rw[(ae HM).1];exact hlt);have c0:=hR.1;rw[e]at c0;have hst:=af (kj R k (by rw[(ae HM).1];exact hlt));have hle:=mn R (k+1);have hle2:(aP (R.take k):Int)+(ck (R.getD k (.slice none 0 0,[])):Int)<=100000:=by have:=ae hst;have:=ae HL;omega
   clear hR e hle hk;generalize ck (R.getD k (.slice none 0 0,[]))=q at *
   generalize aP (R.take k)=s at *
   go_wp2
   go_round
   case rel=>exact⟨k+1,by have:=ae HK;omega,by go_num,by rw[ae hst];go_num⟩
   case measure=>simp[intOf];omega
  ·
   obtain rfl:k=m:=by omega
   have hta:R.take k=R:=a0C (by rw[(ae HM).1];exact a0a _);rw[hta];have hNI:(aP R:Int)<=100000:=by have:=ae HL;omega
   have HN:Hid (aP R<=100000):=by show _<=_;have:=ae HL;omega
   clear hta hk hlt;generalize hN:aP R=N at *
   have HNe:=af hN;clear hN;go_wp2_with fail;refine(ae hGr N (ae HN)).mono ?_;rintro e x1 ⟨v,rfl,⟨cg,hv⟩,ho,hb⟩;have hform:∃a,v = .slice a 0 cg:=by
    rcases hv with hv|hv
    · exact⟨_,hv⟩
    · exact⟨_,hv⟩
   obtain⟨va,rfl⟩:=hform;clear hv;go_wp2_with fail
   go_loopw [6,8,27] (fun s _ i wr=>∃j:Nat,j<=k/\i = .int .i64 j/\wr.ownsRow w.heap.size 3 1 s (aP (R.take j)) (db (R.take j))/\Below w.heap.size w wr) (fun _ _ i _=>k-(intOf i).toNat)
   case atStart=>exact⟨0,a0m _,rfl,ho,hb⟩
   case round=>
    obtain⟨j,hj,rfl,hq,hbel⟩:=hrel;clear ho hb;have HJ:=af hj;have hbs:=hbel.size;by_cases hlt:j<k
    ·
     have hRw:=(ae H).later hbel;have hR:=hRw j (by rw[(ae HM).1];exact hlt);obtain⟨a,c1,e,hsrc,hone⟩:=hRw.form j (by rw[(ae HM).1];exact hlt);have c0:=hR.1;rw[e]at c0;have hst:=af (kj R j (by rw[(ae HM).1];exact hlt));have hsa:=af (pS R j (by rw[(ae HM).1];exact hlt));have hle:=mn R (j+1);have hbb:Hid (aP (R.take j)+ck (R.getD j (.slice none 0 0,[]))<=maxLen/\(aP (R.take j)+ck (R.getD j (.slice none 0 0,[])))*8<=140737488355328):=by
      have:=ae hst;have:=ae HNe;have:=ae HN;show _/\_;unfold maxLen;omega
     have HX:=af (a0b hsrc hone);clear hR e hle hj hRw hsrc hone;generalize ck (R.getD j (.slice none 0 0,[]))=q at *
     generalize (R.getD j (.slice none 0 0,[])).2=xs at *
     go_wp2_with (at_builtin;refine iu _ rfl _ _ 84 rfl w.heap.size 3 i0 (Value.int .i64 0) 1 8 a0h hi hz0 hz1 hz2 rfl (by decide) _ _ _ rfl hq _ ob q xs rfl (ae HX).1 (ae HX).2 (ae hbb).1 (ae hbb).2 hbs ?_;intro v' x2 hown hgrow);have hb2:Below w.heap.size w x2:=hbel.grown hgrow hbs (fun b h=>(a0G hq b h).1);rw[←ae hst,←ae hsa]at hown;clear hgrow hq hbel;go_wp2;go_roundw
     case rel=>exact⟨j+1,by have:=ae HJ;omega,by go_num,hown,hb2⟩
     case measure=>simp[intOf];omega
    ·
     obtain rfl:j=k:=by omega
     have hta:R.take j=R:=a0C (by rw[(ae HM).1];exact a0a _);rw[hta,ae HNe]at hq;have hqf:∃a c,u6 = .slice a N c:=by
      rcases hq.2 with⟨e,e0⟩|⟨g,cap,cur,e,_⟩
      · subst e0;exact⟨_,_,e⟩
      · exact⟨_,_,e⟩
     obtain⟨qa,qc,rfl⟩:=hqf;clear hta;go_wp2;go_ret;exact⟨_,rfl,by rw[ae HNe];exact hq,hbel⟩
theorem kM:(Tryz.prog.info? 114).map (fun i=>(i.zero,i.size,i.bytes))=some (some (.agg #[.int .i64 0,.int .i64 0]),2,16):=by kernel_rfl
set_option maxRecDepth 100000 in
theorem ua(n:Nat)(w:World)(hn:n<=100000) :
  Calls Tryz.prog 146 #[.slice none 0 0,.int .i64 (n:Nat)] w fun e w'=>∃v,e = .returned v/\(∃c,v = .slice none 0 c∨v = .slice (some ⟨w.heap.size,0,none⟩) 0 c)/\w'.ownsRow w.heap.size 114 2 v 0 []/\Below w.heap.size w w':=by
 obtain⟨i0,hi,hz0,hz1,hz2⟩:=a0x kM;have hnI:(n:Int)<=100000:=by omega
 by_cases h0:n=0
 · subst h0;clear hz0 hz1 hz2 hi;go_enter Tryz.func146,Tryz.ntmps146;go_wp2;go_ret;exact⟨_,rfl,⟨0,.inl rfl⟩,a0Y _ _ _ _,a0c _ _⟩
 ·
  have hold:(Builtin.firstCells i0.size 0 (.slice none 0 0)).run Tryz.prog w.drew = .ok ([]:List Value).toArray w.drew:=run_firstCells_none w.drew i0.size 0 0 0;have hrz:=af (fun ty=>Lib.run_append_grow_zeros w 111 3 ty 114 i0 (.agg #[.int .i64 0,.int .i64 0]) .i64 .i64 a0T a1K hi hz0 none 0 0 [] hold n (by omega) (by rw[hz1];decide) (by omega) (by omega) (by rw[hz2];omega) (a3e (by omega) (by rw[hz2];omega)));rw[a0M]at hrz;have hGn:n<=grownCap w n 0 114:=grownCap_ge w _ _ _;have hGm:grownCap w n 0 114<=maxLen:=grownCap_le_maxLen w n 0 _ (by unfold maxLen;omega);generalize grownCap w n 0 114=G at *
  have hsz:Hid ((([]:List Value).toArray++Builtin.zeroCells ((Value.agg #[.int .i64 0,.int .i64 0]):Value).cells n++Builtin.zeroCells ((Value.agg #[.int .i64 0,.int .i64 0]):Value).cells (G-n)).size=G*2):=by
   show _=_;simp only[a17,size_zeroCells];have e:((Value.agg #[.int .i64 0,.int .i64 0]):Value).cells.size=2:=rfl;rw[e];simp;omega
  generalize (([]:List Value).toArray++Builtin.zeroCells ((Value.agg #[.int .i64 0,.int .i64 0]):Value).cells n++Builtin.zeroCells ((Value.agg #[.int .i64 0,.int .i64 0]):Value).cells (G-n))=cur at *
  have hGI:(G:Int)<=9223372036854775807:=by unfold maxLen at hGm;omega
  have hGI2:(n:Int)<=(G:Int):=by omega
  have h1I:(1:Int)<=(n:Int):=by omega
  have hG0:¬ G=0:=by omega
  have HM:=af hGm;clear hold hz0 hz1 hz2 hi hGm hGn h0;go_enter Tryz.func146,Tryz.ntmps146;go_wp2_with (at_builtin;refine Lib.wpList_append_run _ rfl _ _ _ _ rfl _ _ rfl rfl _ _ (ae hrz _) ?_);go_ret;refine⟨_,rfl,⟨G,.inr rfl⟩,World.ownsRow_made w.drew cur G (a0a _) (ae HM) (ae hsz),((a0c _ _).drew).alloc (a0a _) _⟩
def fE(w:World)(p ob:Nat)(R:List (Value×List Value)):Prop:=∀j,j<R.length->w.cell? ⟨p,j,none⟩=some (R.getD j (.slice none 0 0,[])).1/\∃n,w.ownsRow ob 114 2 (R.getD j (.slice none 0 0,[])).1 n (R.getD j (.slice none 0 0,[])).2/\(∀u∈(R.getD j (.slice none 0 0,[])).2,u.oneCell'=true)
def bQ(x:Value×List Value):Nat:=x.2.length/2
def aL(R:List (Value×List Value)):Nat:=(R.map bQ).sum
def dN(R:List (Value×List Value)):List Value:=R.flatMap Prod.snd
theorem lk(R:List (Value×List Value))(k:Nat)(h:k<R.length):R.take (k+1)=R.take k++[R.getD k (.slice none 0 0,[])]:=by
 rw[a1a h]
 congr 2
 simp[List.getD,h]
theorem iJ(R:List (Value×List Value))(k:Nat)(h:k<R.length):aL (R.take (k+1))=aL (R.take k)+bQ (R.getD k (.slice none 0 0,[])):=by
 rw[lk R k h];simp[aL]
theorem nP(R:List (Value×List Value))(k:Nat)(h:k<R.length):dN (R.take (k+1))=dN (R.take k)++(R.getD k (.slice none 0 0,[])).2:=by
 rw[lk R k h];simp[dN]
theorem ki(R:List (Value×List Value))(k:Nat):aL (R.take k)<=aL R:=by
 have e0:∀A B:List (Value×List Value),aL (A++B)=aL A+aL B:=fun A B=>by simp[aL]
 have e:=e0 (R.take k) (R.drop k);rw[a2b]at e;omega
theorem fE.later{w w':World}{p ob:Nat}{R:List (Value×List Value)}(h:fE w p ob R)(hb:Below w.heap.size w w'):fE w' p ob R:=by
 intro j hj;obtain⟨h1,n,h2,h3⟩:=h j hj;refine⟨(hb.cell (p:=⟨p,j,none⟩) (World.block_lt_of_cell? w ⟨p,j,none⟩ h1)).trans h1,n,?_,h3⟩;refine⟨h2.1,?_⟩;rcases h2.2 with hn|⟨g,cap,cur,e,hbg,hgg,rest⟩
 · exact .inl hn
 · exact .inr ⟨g,cap,cur,e,hbg,(hb.block g (Array.getElem?_eq_some_iff.1 hgg).1).trans hgg,rest⟩
theorem fE.form{w:World}{p ob:Nat}{R:List (Value×List Value)}(h:fE w p ob R)(j:Nat)(hj:j<R.length):∃a c,(R.getD j (.slice none 0 0,[])).1 = .slice a (bQ (R.getD j (.slice none 0 0,[]))) c/\w.ownsRow ob 114 2 (.slice a (bQ (R.getD j (.slice none 0 0,[]))) c) (bQ (R.getD j (.slice none 0 0,[]))) (R.getD j (.slice none 0 0,[])).2/\(∀u∈(R.getD j (.slice none 0 0,[])).2,u.oneCell'=true):=by
 obtain⟨_,n,h2,h3⟩:=h j hj;have hn:bQ (R.getD j (.slice none 0 0,[]))=n:=by
  unfold bQ;rw[h2.1];omega
 rw[hn];rcases h2.2 with⟨e,e0⟩|⟨g,cap,cur,e,_⟩
 · subst e0;exact⟨none,0,e,by have h4:=h2;rw[e]at h4;exact h4,h3⟩
 · exact⟨_,cap,e,by have h4:=h2;rw[e]at h4;exact h4,h3⟩
set_option maxRecDepth 100000 in
theorem u7(p ob m c:Nat)(R:List (Value×List Value))(w:World)(hm:R.length=m)(h1:1<=m)(hm2:m<=1000)(h:fE w p ob R)(hl:aL R<=100000) :
  Calls Tryz.prog 109 #[.slice (some ⟨p,0,none⟩) m c] w fun e w'=>∃v,e = .returned v/\w'.ownsRow w.heap.size 114 2 v (aL R) (dN R)/\Below w.heap.size w w':=by
 obtain⟨i0,hi,hz0,hz1,hz2⟩:=a0x kM;have hmI:(m:Int)<=1000:=by omega
 have HM:=af (a0b hm (a0b h1 hm2));have HL:=af hl;have H:=af h;have hGr:=af (fun n hn=>ua n w hn);clear hm h1 hm2 hl h;go_enter Tryz.func109,Tryz.ntmps109;go_wp2_with fail
 go_loop [3,5,11] (fun s _ i=>∃k:Nat,k<=m/\i = .int .i64 k/\s = .int .i64 (aL (R.take k):Nat)) (fun _ _ i=>m-(intOf i).toNat)
 case atStart=>exact⟨0,a0m _,rfl,rfl⟩
 case round=>
  obtain⟨k,hk,rfl,rfl⟩:=hrel;have HK:=af hk;by_cases hlt:k<m
  ·
   have hR:=ae H k (by rw[(ae HM).1];exact hlt);obtain⟨a,c1,e,_,_⟩:=(ae H).form k (by rw[(ae HM).1];exact hlt);have c0:=hR.1;rw[e]at c0;have hst:=af (iJ R k (by rw[(ae HM).1];exact hlt));have hle:=ki R (k+1);have hle2:(aL (R.take k):Int)+(bQ (R.getD k (.slice none 0 0,[])):Int)<=100000:=by have:=ae hst;have:=ae HL;omega
   clear hR e hle hk;generalize bQ (R.getD k (.slice none 0 0,[]))=q at *
   generalize aL (R.take k)=s at *
   go_wp2
   go_round
   case rel=>exact⟨k+1,by have:=ae HK;omega,by go_num,by rw[ae hst];go_num⟩
   case measure=>simp[intOf];omega
  ·
   obtain rfl:k=m:=by omega
   have hta:R.take k=R:=a0C (by rw[(ae HM).1];exact a0a _);rw[hta];have hNI:(aL R:Int)<=100000:=by have:=ae HL;omega
   have HN:Hid (aL R<=100000):=by show _<=_;have:=ae HL;omega
   clear hta hk hlt;generalize hN:aL R=N at *
   have HNe:=af hN;clear hN;go_wp2_with fail;refine(ae hGr N (ae HN)).mono ?_;rintro e x1 ⟨v,rfl,⟨cg,hv⟩,ho,hb⟩;have hform:∃a,v = .slice a 0 cg:=by
    rcases hv with hv|hv
    · exact⟨_,hv⟩
    · exact⟨_,hv⟩
   obtain⟨va,rfl⟩:=hform;clear hv;go_wp2_with fail
   go_loopw [6,8,27] (fun s _ i wr=>∃j:Nat,j<=k/\i = .int .i64 j/\wr.ownsRow w.heap.size 114 2 s (aL (R.take j)) (dN (R.take j))/\Below w.heap.size w wr) (fun _ _ i _=>k-(intOf i).toNat)
   case atStart=>exact⟨0,a0m _,rfl,ho,hb⟩
   case round=>
    obtain⟨j,hj,rfl,hq,hbel⟩:=hrel;clear ho hb;have HJ:=af hj;have hbs:=hbel.size;by_cases hlt:j<k
    ·
     have hRw:=(ae H).later hbel;have hR:=hRw j (by rw[(ae HM).1];exact hlt);obtain⟨a,c1,e,hsrc,hone⟩:=hRw.form j (by rw[(ae HM).1];exact hlt);have c0:=hR.1;rw[e]at c0;have hst:=af (iJ R j (by rw[(ae HM).1];exact hlt));have hsa:=af (nP R j (by rw[(ae HM).1];exact hlt));have hle:=ki R (j+1);have hbb:Hid (aL (R.take j)+bQ (R.getD j (.slice none 0 0,[]))<=maxLen/\(aL (R.take j)+bQ (R.getD j (.slice none 0 0,[])))*16<=140737488355328):=by
      have:=ae hst;have:=ae HNe;have:=ae HN;show _/\_;unfold maxLen;omega
     have HX:=af (a0b hsrc hone);clear hR e hle hj hRw hsrc hone;generalize bQ (R.getD j (.slice none 0 0,[]))=q at *
     generalize (R.getD j (.slice none 0 0,[])).2=xs at *
     go_wp2_with (at_builtin;refine iu _ rfl _ _ 111 rfl w.heap.size 114 i0 (Value.agg #[.int .i64 0,.int .i64 0]) 2 16 a0T hi hz0 hz1 hz2 rfl (by decide) _ _ _ rfl hq _ ob q xs rfl (ae HX).1 (ae HX).2 (ae hbb).1 (ae hbb).2 hbs ?_;intro v' x2 hown hgrow);have hb2:Below w.heap.size w x2:=hbel.grown hgrow hbs (fun b h=>(a0G hq b h).1);rw[←ae hst,←ae hsa]at hown;clear hgrow hq hbel;go_wp2;go_roundw
     case rel=>exact⟨j+1,by have:=ae HJ;omega,by go_num,hown,hb2⟩
     case measure=>simp[intOf];omega
    ·
     obtain rfl:j=k:=by omega
     have hta:R.take j=R:=a0C (by rw[(ae HM).1];exact a0a _);rw[hta,ae HNe]at hq;have hqf:∃a c,u6 = .slice a N c:=by
      rcases hq.2 with⟨e,e0⟩|⟨g,cap,cur,e,_⟩
      · subst e0;exact⟨_,_,e⟩
      · exact⟨_,_,e⟩
     obtain⟨qa,qc,rfl⟩:=hqf;clear hta;go_wp2;go_ret;exact⟨_,rfl,by rw[ae HNe];exact hq,hbel⟩
end Go.Proofs.YtbacpebljannfaaGreatDoor
