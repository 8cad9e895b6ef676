/- Of what the proof is made. -/
import Derived.Test.YtkpfkgoiaicgbaaGreatDoorTo1
import Derived.Test.YtkpfkgoiaicgbaaGreatDoorM11
import Derived.Test.YtkpfkgoiaicgbaaGreatDoorM7
import Derived.Test.YtkpfkgoiaicgbaaGreatDoorM9
import Derived.Lib.AppendZerosOnto
set_option linter.unusedSimpArgs false
set_option linter.unusedVariables false
namespace Go.Proofs.YtkpfkgoiaicgbaaGreatDoor
open Go.RowKit
theorem Cm{L:List UInt8}{p k:Nat}(h:(bf L p k).1<agN L p (k+1)):bf L p (k+1)=(agN L p (k+1),k+1):=by simp only[bf];rw[if_pos h]
theorem FE{L:List UInt8}{p k:Nat}(h:¬ (bf L p k).1<agN L p (k+1)):bf L p (k+1)=bf L p k:=by simp only[bf];rw[if_neg h]
theorem Ix(L:List UInt8)(p b:Nat)(hb:1<=b)(hbp:b<=p):∀n,p+n<=L.length->(∀i,i<n->L.getD (p+i) 0=L.getD (p+i-b) 0)->rep (L.take p) b n=L.take (p+n):=by
 intro n;induction n with
 | zero=>intro _ _;rfl
 | succ n ih=>
  intro h hi;have e:=ih (by omega) (fun i h2=>hi i (by omega));simp only[rep];rw[e,List.length_take,show min (p+n) L.length=p+n by omega];have e2:(L.take (p+n)).getD (p+n-b) 0=L.getD (p+n) 0:=by
   rw[hi n (by omega)];simp only[List.getD_eq_getElem?_getD];rw[List.getElem?_take,if_pos (by omega)]
  rw[e2,←Nat.add_assoc,List.take_add_one]
  congr 1
  rw[List.getD_eq_getElem?_getD,List.getElem?_eq_getElem (by omega)];rfl
theorem vN(b:UInt8):jZ (b.toNat:Int)=b:=by
 unfold jZ;simp
theorem Ch{L:List UInt8}{p:Nat}(h:p<L.length)(hl:L.length<=300):dE (L.take p) (ft L p)=some (L.take (p+iq L p)):=by
 obtain⟨h1,h2,h3,h4⟩:=jV L p (min p 250);have hin:=qg h;have hlen:(L.take p).length=p:=by rw[List.length_take];omega
 unfold ft;unfold iq at hin ⊢;by_cases hc:(bf L p (min p 250)).1<3
 ·
  rw[if_pos hc,if_pos hc];have hx:=UInt8.toNat_lt (L.getD p 0);have hB:isB (((L.getD p 0).toNat:Int),0,0)=true:=by
   generalize L.getD p 0=c at *
   simp only[isB,inB];simp;omega
  rw[iS (by unfold okT;rw[hB];rfl) (fun hk=>by rw[tz hB]at hk;cases hk) (by unfold nJ;rw[hB,hlen];simp only[if_true];omega),hB];simp only[if_true];rw[vN,List.take_add_one,List.getD_eq_getElem?_getD,List.getElem?_eq_getElem h];rfl
 ·
  rw[if_neg hc]at hin ⊢;rw[if_neg hc];obtain⟨h5,h6⟩:=h3 (by omega);generalize hn:(bf L p (min p 250)).1=n at *
  generalize hb:(bf L p (min p 250)).2=b at *
  have hK:isK ((0:Int),(n:Int),(b:Int))=true:=by simp only[isK,inB];simp;omega
  have hB:isB ((0:Int),(n:Int),(b:Int))=false:=by
   cases e:isB ((0:Int),(n:Int),(b:Int))
   · rfl
   · rw[tz e]at hK;cases hK
  rw[iS (by unfold okT;rw[hB,hK];rfl) (fun _=>by rw[hlen];simp only;omega) (by unfold nJ;rw[hB,hlen];simp;omega),hB];simp only[Bool.false_eq_true,if_false,Int.toNat_natCast];rw[Ix L p b h5 (by omega) n hin (fun i hi=>Lw L p b i (by rw[←h6];exact hi))]
end Go.Proofs.YtkpfkgoiaicgbaaGreatDoor
set_option linter.unusedSimpArgs false
set_option linter.unusedVariables false
set_option maxHeartbeats 1600000
namespace Go.Proofs.YtkpfkgoiaicgbaaGreatDoor
open Go.RowKit Go.Lib
theorem na:(Tryz.prog.info? 3).map (fun i=>(i.zero,i.size,i.bytes))=some (some (Value.int .i64 0),1,8):=by kernel_rfl
set_option maxRecDepth 100000 in
theorem zH(n:Nat)(w:World)(hn:n<=100000) :
  Calls Tryz.prog 185 #[.slice none 0 0,.int .i64 (n:Nat)] w fun e w'=>∃v,e = .returned v/\(∃c,v = .slice none 0 c∨v = .slice (some ⟨w.heap.size,0,none⟩) 0 c)/\w'.ownsRow w.heap.size 3 1 v 0 []/\Below w.heap.size w w':=by
 obtain⟨i0,hi,hz0,hz1,hz2⟩:=info_parts na;have hnI:(n:Int)<=100000:=by omega
 by_cases h0:n=0
 · subst h0;clear hz0 hz1 hz2 hi;go_enter Tryz.func185,Tryz.ntmps185;go_wp2;go_ret;exact⟨_,rfl,⟨0,.inl rfl⟩,World.ownsRow_nil _ _ _ _,Below.refl _ _⟩
 ·
  have hold:(Builtin.firstCells i0.size 0 (.slice none 0 0)).run Tryz.prog w.drew = .ok ([]:List Value).toArray w.drew:=run_firstCells_none w.drew i0.size 0 0 0;have hrz:=af (fun ty=>Lib.run_append_grow_zeros w 154 3 ty 3 i0 (Value.int .i64 0) .i64 .i64 Tryz.underlying154 Tryz.underlying3 hi hz0 none 0 0 [] hold n (by omega) (by rw[hz1];decide) (by omega) (by omega) (by rw[hz2];omega) (growslice_fits (by omega) (by rw[hz2];omega)));rw[Nat.zero_add]at hrz;have hGn:n<=grownCap w n 0 3:=grownCap_ge w _ _ _;have hGm:grownCap w n 0 3<=maxLen:=grownCap_le_maxLen w n 0 _ (by unfold maxLen;omega);generalize grownCap w n 0 3=G at *
  have hsz:Hid ((([]:List Value).toArray++Builtin.zeroCells ((Value.int .i64 0):Value).cells n++Builtin.zeroCells ((Value.int .i64 0):Value).cells (G-n)).size=G*1):=by
   show _=_;simp only[Array.size_append,size_zeroCells];have e:((Value.int .i64 0):Value).cells.size=1:=rfl;rw[e];simp;omega
  generalize (([]:List Value).toArray++Builtin.zeroCells ((Value.int .i64 0):Value).cells n++Builtin.zeroCells ((Value.int .i64 0):Value).cells (G-n))=cur at *
  have h1I:(1:Int)<=(n:Int):=by omega
  have hG0:¬ G=0:=by omega
  have HM:=af hGm;clear hold hz0 hz1 hz2 hi hGm hGn h0;go_enter Tryz.func185,Tryz.ntmps185;go_wp2_with (at_builtin;refine Lib.wpList_append_run _ rfl _ _ _ _ rfl _ _ rfl rfl _ _ (ae hrz _) ?_);go_ret;refine⟨_,rfl,⟨G,.inr rfl⟩,World.ownsRow_made w.drew cur G (Nat.le_refl _) (ae HM) (ae hsz),((Below.refl _ _).drew).alloc (Nat.le_refl _) _⟩
def gx(w:World)(p ob:Nat)(R:List (Value×List Value)):Prop:=∀j,j<R.length->w.cell? ⟨p,j,none⟩=some (R.getD j (.slice none 0 0,[])).1/\∃n,w.ownsRow ob 3 1 (R.getD j (.slice none 0 0,[])).1 n (R.getD j (.slice none 0 0,[])).2/\(∀u∈(R.getD j (.slice none 0 0,[])).2,u.oneCell'=true)
def bF(x:Value×List Value):Nat:=x.2.length/1
def aG(R:List (Value×List Value)):Nat:=(R.map bF).sum
def cx(R:List (Value×List Value)):List Value:=R.flatMap Prod.snd
theorem nG(R:List (Value×List Value))(k:Nat)(h:k<R.length):R.take (k+1)=R.take k++[R.getD k (.slice none 0 0,[])]:=by
 rw[List.take_succ_eq_append_getElem h]
 congr 2
 simp[List.getD,h]
theorem jM(R:List (Value×List Value))(k:Nat)(h:k<R.length):aG (R.take (k+1))=aG (R.take k)+bF (R.getD k (.slice none 0 0,[])):=by
 rw[nG R k h];simp[aG]
theorem pT(R:List (Value×List Value))(k:Nat)(h:k<R.length):cx (R.take (k+1))=cx (R.take k)++(R.getD k (.slice none 0 0,[])).2:=by
 rw[nG R k h];simp[cx]
theorem lV(R:List (Value×List Value))(k:Nat):aG (R.take k)<=aG R:=by
 have e0:∀A B:List (Value×List Value),aG (A++B)=aG A+aG B:=fun A B=>by simp[aG]
 have e:=e0 (R.take k) (R.drop k);rw[List.take_append_drop]at e;omega
theorem gx.later{w w':World}{p ob:Nat}{R:List (Value×List Value)}(h:gx w p ob R)(hb:Below w.heap.size w w'):gx w' p ob R:=by
 intro j hj;obtain⟨h1,n,h2,h3⟩:=h j hj;refine⟨(hb.cell (p:=⟨p,j,none⟩) (World.block_lt_of_cell? w ⟨p,j,none⟩ h1)).trans h1,n,?_,h3⟩;refine⟨h2.1,?_⟩;rcases h2.2 with hn|⟨g,cap,cur,e,hbg,hgg,rest⟩
 · exact .inl hn
 · exact .inr ⟨g,cap,cur,e,hbg,(hb.block g (Array.getElem?_eq_some_iff.1 hgg).1).trans hgg,rest⟩
theorem gx.form{w:World}{p ob:Nat}{R:List (Value×List Value)}(h:gx w p ob R)(j:Nat)(hj:j<R.length):∃a c,(R.getD j (.slice none 0 0,[])).1 = .slice a (bF (R.getD j (.slice none 0 0,[]))) c/\w.ownsRow ob 3 1 (.slice a (bF (R.getD j (.slice none 0 0,[]))) c) (bF (R.getD j (.slice none 0 0,[]))) (R.getD j (.slice none 0 0,[])).2/\(∀u∈(R.getD j (.slice none 0 0,[])).2,u.oneCell'=true):=by
 obtain⟨_,n,h2,h3⟩:=h j hj;have hn:bF (R.getD j (.slice none 0 0,[]))=n:=by
  unfold bF;rw[h2.1];omega
 rw[hn];rcases h2.2 with⟨e,e0⟩|⟨g,cap,cur,e,_⟩
 · subst e0;exact⟨none,0,e,by have h4:=h2;rw[e]at h4;exact h4,h3⟩
 · exact⟨_,cap,e,by have h4:=h2;rw[e]at h4;exact h4,h3⟩
set_option maxRecDepth 100000 in
theorem nZ(p ob m c:Nat)(R:List (Value×List Value))(w:World)(hm:R.length=m)(h1:1<=m)(hm2:m<=1000)(h:gx w p ob R)(hl:aG R<=100000) :
  Calls Tryz.prog 158 #[.slice (some ⟨p,0,none⟩) m c] w fun e w'=>∃v,e = .returned v/\w'.ownsRow w.heap.size 3 1 v (aG R) (cx R)/\Below w.heap.size w w':=by
 obtain⟨i0,hi,hz0,hz1,hz2⟩:=info_parts na;have hmI:(m:Int)<=1000:=by omega
 have HM:=af (And.intro hm (And.intro h1 hm2));have HL:=af hl;have H:=af h;have hGr:=af (fun n hn=>zH n w hn);clear hm h1 hm2 hl h;go_enter Tryz.func158,Tryz.ntmps158;go_wp2_with fail
 go_loop [3,5,11] (fun s _ i=>∃k:Nat,k<=m/\i = .int .i64 k/\s = .int .i64 (aG (R.take k):Nat)) (fun _ _ i=>m-(intOf i).toNat)
 case atStart=>exact⟨0,Nat.zero_le _,rfl,rfl⟩
 case round=>
  obtain⟨k,hk,rfl,rfl⟩:=hrel;have HK:=af hk;by_cases hlt:k<m
  ·
   have hR:=ae H k (by rw[(ae HM).1];exact hlt);obtain⟨a,c1,e,_,_⟩:=(ae H).form k (by rw[(ae HM).1];exact hlt);have c0:=hR.1;rw[e]at c0;have hst:=af (jM R k (by rw[(ae HM).1];exact hlt));have hle:=lV R (k+1);have hle2:(aG (R.take k):Int)+(bF (R.getD k (.slice none 0 0,[])):Int)<=100000:=by have:=ae hst;have:=ae HL;omega
   clear hR e hle hk;generalize bF (R.getD k (.slice none 0 0,[]))=q at *
   generalize aG (R.take k)=s at *
   go_wp2
   go_round
   case rel=>exact⟨k+1,by have:=ae HK;omega,by go_num,by rw[ae hst];go_num⟩
   case measure=>simp[intOf];omega
  ·
   obtain rfl:k=m:=by omega
   have hta:R.take k=R:=List.take_of_length_le (by rw[(ae HM).1];exact Nat.le_refl _);rw[hta];have hNI:(aG R:Int)<=100000:=by have:=ae HL;omega
   have HN:Hid (aG R<=100000):=by show _<=_;have:=ae HL;omega
   clear hta hk hlt;generalize hN:aG R=N at *
   have HNe:=af hN;clear hN;go_wp2_with fail;refine(ae hGr N (ae HN)).mono ?_;rintro e x1 ⟨v,rfl,⟨cg,hv⟩,ho,hb⟩;have hform:∃a,v = .slice a 0 cg:=by
    rcases hv with hv|hv
    · exact⟨_,hv⟩
    · exact⟨_,hv⟩
   obtain⟨va,rfl⟩:=hform;clear hv;go_wp2_with fail
   go_loopw [6,8,27] (fun s _ i wr=>∃j:Nat,j<=k/\i = .int .i64 j/\wr.ownsRow w.heap.size 3 1 s (aG (R.take j)) (cx (R.take j))/\Below w.heap.size w wr) (fun _ _ i _=>k-(intOf i).toNat)
   case atStart=>exact⟨0,Nat.zero_le _,rfl,ho,hb⟩
   case round=>
    obtain⟨j,hj,rfl,hq,hbel⟩:=hrel;clear ho hb;have HJ:=af hj;have hbs:=hbel.size;by_cases hlt:j<k
    ·
     have hRw:=(ae H).later hbel;have hR:=hRw j (by rw[(ae HM).1];exact hlt);obtain⟨a,c1,e,hsrc,hone⟩:=hRw.form j (by rw[(ae HM).1];exact hlt);have c0:=hR.1;rw[e]at c0;have hst:=af (jM R j (by rw[(ae HM).1];exact hlt));have hsa:=af (pT R j (by rw[(ae HM).1];exact hlt));have hle:=lV R (j+1);have hbb:Hid (aG (R.take j)+bF (R.getD j (.slice none 0 0,[]))<=maxLen/\(aG (R.take j)+bF (R.getD j (.slice none 0 0,[])))*8<=140737488355328):=by
      have:=ae hst;have:=ae HNe;have:=ae HN;show _/\_;unfold maxLen;omega
     have HX:=af (And.intro hsrc hone);clear hR e hle hj hRw hsrc hone;generalize bF (R.getD j (.slice none 0 0,[]))=q at *
     generalize (R.getD j (.slice none 0 0,[])).2=xs at *
     go_wp2_with (at_builtin;refine ik _ rfl _ _ 154 rfl w.heap.size 3 i0 (Value.int .i64 0) 1 8 Tryz.underlying154 hi hz0 hz1 hz2 rfl (by decide) _ _ _ rfl hq _ ob q xs rfl (ae HX).1 (ae HX).2 (ae hbb).1 (ae hbb).2 hbs ?_;intro v' x2 hown hgrow);have hb2:Below w.heap.size w x2:=hbel.grown hgrow hbs (fun b h=>(World.ownsRow.lt hq b h).1);rw[←ae hst,←ae hsa]at hown;clear hgrow hq hbel;go_wp2;go_roundw
     case rel=>exact⟨j+1,by have:=ae HJ;omega,by go_num,hown,hb2⟩
     case measure=>simp[intOf];omega
    ·
     obtain rfl:j=k:=by omega
     have hta:R.take j=R:=List.take_of_length_le (by rw[(ae HM).1];exact Nat.le_refl _);rw[hta,ae HNe]at hq;have hqf:∃a c,u6 = .slice a N c:=by
      rcases hq.2 with⟨e,e0⟩|⟨g,cap,cur,e,_⟩
      · subst e0;exact⟨_,_,e⟩
      · exact⟨_,_,e⟩
     obtain⟨qa,qc,rfl⟩:=hqf;clear hta;go_wp2;go_ret;exact⟨_,rfl,by rw[ae HNe];exact hq,hbel⟩
theorem kf:(Tryz.prog.info? 180).map (fun i=>(i.zero,i.size,i.bytes))=some (some (.agg #[.int .i64 0,.int .i64 0]),2,16):=by kernel_rfl
set_option maxRecDepth 100000 in
theorem uM(n:Nat)(w:World)(hn:n<=100000) :
  Calls Tryz.prog 169 #[.slice none 0 0,.int .i64 (n:Nat)] w fun e w'=>∃v,e = .returned v/\(∃c,v = .slice none 0 c∨v = .slice (some ⟨w.heap.size,0,none⟩) 0 c)/\w'.ownsRow w.heap.size 180 2 v 0 []/\Below w.heap.size w w':=by
 obtain⟨i0,hi,hz0,hz1,hz2⟩:=info_parts kf;have hnI:(n:Int)<=100000:=by omega
 by_cases h0:n=0
 · subst h0;clear hz0 hz1 hz2 hi;go_enter Tryz.func169,Tryz.ntmps169;go_wp2;go_ret;exact⟨_,rfl,⟨0,.inl rfl⟩,World.ownsRow_nil _ _ _ _,Below.refl _ _⟩
 ·
  have hold:(Builtin.firstCells i0.size 0 (.slice none 0 0)).run Tryz.prog w.drew = .ok ([]:List Value).toArray w.drew:=run_firstCells_none w.drew i0.size 0 0 0;have hrz:=af (fun ty=>Lib.run_append_grow_zeros w 177 3 ty 180 i0 (.agg #[.int .i64 0,.int .i64 0]) .i64 .i64 Tryz.underlying177 Tryz.underlying3 hi hz0 none 0 0 [] hold n (by omega) (by rw[hz1];decide) (by omega) (by omega) (by rw[hz2];omega) (growslice_fits (by omega) (by rw[hz2];omega)));rw[Nat.zero_add]at hrz;have hGn:n<=grownCap w n 0 180:=grownCap_ge w _ _ _;have hGm:grownCap w n 0 180<=maxLen:=grownCap_le_maxLen w n 0 _ (by unfold maxLen;omega);generalize grownCap w n 0 180=G at *
  have hsz:Hid ((([]:List Value).toArray++Builtin.zeroCells ((Value.agg #[.int .i64 0,.int .i64 0]):Value).cells n++Builtin.zeroCells ((Value.agg #[.int .i64 0,.int .i64 0]):Value).cells (G-n)).size=G*2):=by
   show _=_;simp only[Array.size_append,size_zeroCells];have e:((Value.agg #[.int .i64 0,.int .i64 0]):Value).cells.size=2:=rfl;rw[e];simp;omega
  generalize (([]:List Value).toArray++Builtin.zeroCells ((Value.agg #[.int .i64 0,.int .i64 0]):Value).cells n++Builtin.zeroCells ((Value.agg #[.int .i64 0,.int .i64 0]):Value).cells (G-n))=cur at *
  have h1I:(1:Int)<=(n:Int):=by omega
  have hG0:¬ G=0:=by omega
  have HM:=af hGm;clear hold hz0 hz1 hz2 hi hGm hGn h0;go_enter Tryz.func169,Tryz.ntmps169;go_wp2_with (at_builtin;refine Lib.wpList_append_run _ rfl _ _ _ _ rfl _ _ rfl rfl _ _ (ae hrz _) ?_);go_ret;refine⟨_,rfl,⟨G,.inr rfl⟩,World.ownsRow_made w.drew cur G (Nat.le_refl _) (ae HM) (ae hsz),((Below.refl _ _).drew).alloc (Nat.le_refl _) _⟩
def fx(w:World)(p ob:Nat)(R:List (Value×List Value)):Prop:=∀j,j<R.length->w.cell? ⟨p,j,none⟩=some (R.getD j (.slice none 0 0,[])).1/\∃n,w.ownsRow ob 180 2 (R.getD j (.slice none 0 0,[])).1 n (R.getD j (.slice none 0 0,[])).2/\(∀u∈(R.getD j (.slice none 0 0,[])).2,u.oneCell'=true)
def bo(x:Value×List Value):Nat:=x.2.length/2
def aE(R:List (Value×List Value)):Nat:=(R.map bo).sum
def dn(R:List (Value×List Value)):List Value:=R.flatMap Prod.snd
theorem kF(R:List (Value×List Value))(k:Nat)(h:k<R.length):R.take (k+1)=R.take k++[R.getD k (.slice none 0 0,[])]:=by
 rw[List.take_succ_eq_append_getElem h]
 congr 2
 simp[List.getD,h]
theorem iA(R:List (Value×List Value))(k:Nat)(h:k<R.length):aE (R.take (k+1))=aE (R.take k)+bo (R.getD k (.slice none 0 0,[])):=by
 rw[kF R k h];simp[aE]
theorem nF(R:List (Value×List Value))(k:Nat)(h:k<R.length):dn (R.take (k+1))=dn (R.take k)++(R.getD k (.slice none 0 0,[])).2:=by
 rw[kF R k h];simp[dn]
theorem jL(R:List (Value×List Value))(k:Nat):aE (R.take k)<=aE R:=by
 have e0:∀A B:List (Value×List Value),aE (A++B)=aE A+aE B:=fun A B=>by simp[aE]
 have e:=e0 (R.take k) (R.drop k);rw[List.take_append_drop]at e;omega
theorem fx.later{w w':World}{p ob:Nat}{R:List (Value×List Value)}(h:fx w p ob R)(hb:Below w.heap.size w w'):fx w' p ob R:=by
 intro j hj;obtain⟨h1,n,h2,h3⟩:=h j hj;refine⟨(hb.cell (p:=⟨p,j,none⟩) (World.block_lt_of_cell? w ⟨p,j,none⟩ h1)).trans h1,n,?_,h3⟩;refine⟨h2.1,?_⟩;rcases h2.2 with hn|⟨g,cap,cur,e,hbg,hgg,rest⟩
 · exact .inl hn
 · exact .inr ⟨g,cap,cur,e,hbg,(hb.block g (Array.getElem?_eq_some_iff.1 hgg).1).trans hgg,rest⟩
theorem fx.form{w:World}{p ob:Nat}{R:List (Value×List Value)}(h:fx w p ob R)(j:Nat)(hj:j<R.length):∃a c,(R.getD j (.slice none 0 0,[])).1 = .slice a (bo (R.getD j (.slice none 0 0,[]))) c/\w.ownsRow ob 180 2 (.slice a (bo (R.getD j (.slice none 0 0,[]))) c) (bo (R.getD j (.slice none 0 0,[]))) (R.getD j (.slice none 0 0,[])).2/\(∀u∈(R.getD j (.slice none 0 0,[])).2,u.oneCell'=true):=by
 obtain⟨_,n,h2,h3⟩:=h j hj;have hn:bo (R.getD j (.slice none 0 0,[]))=n:=by
  unfold bo;rw[h2.1];omega
 rw[hn];rcases h2.2 with⟨e,e0⟩|⟨g,cap,cur,e,_⟩
 · subst e0;exact⟨none,0,e,by have h4:=h2;rw[e]at h4;exact h4,h3⟩
 · exact⟨_,cap,e,by have h4:=h2;rw[e]at h4;exact h4,h3⟩
set_option maxRecDepth 100000 in
theorem vT(p ob m c:Nat)(R:List (Value×List Value))(w:World)(hm:R.length=m)(h1:1<=m)(hm2:m<=1000)(h:fx w p ob R)(hl:aE R<=100000) :
  Calls Tryz.prog 132 #[.slice (some ⟨p,0,none⟩) m c] w fun e w'=>∃v,e = .returned v/\w'.ownsRow w.heap.size 180 2 v (aE R) (dn R)/\Below w.heap.size w w':=by
 obtain⟨i0,hi,hz0,hz1,hz2⟩:=info_parts kf;have hmI:(m:Int)<=1000:=by omega
 have HM:=af (And.intro hm (And.intro h1 hm2));have HL:=af hl;have H:=af h;have hGr:=af (fun n hn=>uM n w hn);clear hm h1 hm2 hl h;go_enter Tryz.func132,Tryz.ntmps132;go_wp2_with fail
 go_loop [3,5,11] (fun s _ i=>∃k:Nat,k<=m/\i = .int .i64 k/\s = .int .i64 (aE (R.take k):Nat)) (fun _ _ i=>m-(intOf i).toNat)
 case atStart=>exact⟨0,Nat.zero_le _,rfl,rfl⟩
 case round=>
  obtain⟨k,hk,rfl,rfl⟩:=hrel;have HK:=af hk;by_cases hlt:k<m
  ·
   have hR:=ae H k (by rw[(ae HM).1];exact hlt);obtain⟨a,c1,e,_,_⟩:=(ae H).form k (by rw[(ae HM).1];exact hlt);have c0:=hR.1;rw[e]at c0;have hst:=af (iA R k (by rw[(ae HM).1];exact hlt));have hle:=jL R (k+1);have hle2:(aE (R.take k):Int)+(bo (R.getD k (.slice none 0 0,[])):Int)<=100000:=by have:=ae hst;have:=ae HL;omega
   clear hR e hle hk;generalize bo (R.getD k (.slice none 0 0,[]))=q at *
   generalize aE (R.take k)=s at *
   go_wp2
   go_round
   case rel=>exact⟨k+1,by have:=ae HK;omega,by go_num,by rw[ae hst];go_num⟩
   case measure=>simp[intOf];omega
  ·
   obtain rfl:k=m:=by omega
   have hta:R.take k=R:=List.take_of_length_le (by rw[(ae HM).1];exact Nat.le_refl _);rw[hta];have hNI:(aE R:Int)<=100000:=by have:=ae HL;omega
   have HN:Hid (aE R<=100000):=by show _<=_;have:=ae HL;omega
   clear hta hk hlt;generalize hN:aE R=N at *
   have HNe:=af hN;clear hN;go_wp2_with fail;refine(ae hGr N (ae HN)).mono ?_;rintro e x1 ⟨v,rfl,⟨cg,hv⟩,ho,hb⟩;have hform:∃a,v = .slice a 0 cg:=by
    rcases hv with hv|hv
    · exact⟨_,hv⟩
    · exact⟨_,hv⟩
   obtain⟨va,rfl⟩:=hform;clear hv;go_wp2_with fail
   go_loopw [6,8,27] (fun s _ i wr=>∃j:Nat,j<=k/\i = .int .i64 j/\wr.ownsRow w.heap.size 180 2 s (aE (R.take j)) (dn (R.take j))/\Below w.heap.size w wr) (fun _ _ i _=>k-(intOf i).toNat)
   case atStart=>exact⟨0,Nat.zero_le _,rfl,ho,hb⟩
   case round=>
    obtain⟨j,hj,rfl,hq,hbel⟩:=hrel;clear ho hb;have HJ:=af hj;have hbs:=hbel.size;by_cases hlt:j<k
    ·
     have hRw:=(ae H).later hbel;have hR:=hRw j (by rw[(ae HM).1];exact hlt);obtain⟨a,c1,e,hsrc,hone⟩:=hRw.form j (by rw[(ae HM).1];exact hlt);have c0:=hR.1;rw[e]at c0;have hst:=af (iA R j (by rw[(ae HM).1];exact hlt));have hsa:=af (nF R j (by rw[(ae HM).1];exact hlt));have hle:=jL R (j+1);have hbb:Hid (aE (R.take j)+bo (R.getD j (.slice none 0 0,[]))<=maxLen/\(aE (R.take j)+bo (R.getD j (.slice none 0 0,[])))*16<=140737488355328):=by
      have:=ae hst;have:=ae HNe;have:=ae HN;show _/\_;unfold maxLen;omega
     have HX:=af (And.intro hsrc hone);clear hR e hle hj hRw hsrc hone;generalize bo (R.getD j (.slice none 0 0,[]))=q at *
     generalize (R.getD j (.slice none 0 0,[])).2=xs at *
     go_wp2_with (at_builtin;refine ik _ rfl _ _ 177 rfl w.heap.size 180 i0 (Value.agg #[.int .i64 0,.int .i64 0]) 2 16 Tryz.underlying177 hi hz0 hz1 hz2 rfl (by decide) _ _ _ rfl hq _ ob q xs rfl (ae HX).1 (ae HX).2 (ae hbb).1 (ae hbb).2 hbs ?_;intro v' x2 hown hgrow);have hb2:Below w.heap.size w x2:=hbel.grown hgrow hbs (fun b h=>(World.ownsRow.lt hq b h).1);rw[←ae hst,←ae hsa]at hown;clear hgrow hq hbel;go_wp2;go_roundw
     case rel=>exact⟨j+1,by have:=ae HJ;omega,by go_num,hown,hb2⟩
     case measure=>simp[intOf];omega
    ·
     obtain rfl:j=k:=by omega
     have hta:R.take j=R:=List.take_of_length_le (by rw[(ae HM).1];exact Nat.le_refl _);rw[hta,ae HNe]at hq;have hqf:∃a c,u6 = .slice a N c:=by
      rcases hq.2 with⟨e,e0⟩|⟨g,cap,cur,e,_⟩
      · subst e0;exact⟨_,_,e⟩
      · exact⟨_,_,e⟩
     obtain⟨qa,qc,rfl⟩:=hqf;clear hta;go_wp2;go_ret;exact⟨_,rfl,by rw[ae HNe];exact hq,hbel⟩
end Go.Proofs.YtkpfkgoiaicgbaaGreatDoor
