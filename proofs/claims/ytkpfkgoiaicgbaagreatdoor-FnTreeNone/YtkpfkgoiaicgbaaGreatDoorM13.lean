/- Of what the proof is made: 3 texts, one behind the other. -/
import Derived.Test.YtkpfkgoiaicgbaaGreatDoorM9
import Derived.Test.YtkpfkgoiaicgbaaGreatDoorM2
import Derived.Test.YtkpfkgoiaicgbaaGreatDoorM10
import Derived.Test.YtkpfkgoiaicgbaaGreatDoorM6
import Derived.Deep.RegionHeld3
set_option linter.unusedSimpArgs false
set_option linter.unusedVariables false
set_option maxHeartbeats 800000
namespace Go.Proofs.YtkpfkgoiaicgbaaGreatDoor
open Go.RowKit
structure Grp where
 cnt:Int
 fst:Int
 syms:List Int
 val:Value
def aY:List Grp->List Value
 | []=>[]
 | g :: l=>.int .i64 g.cnt :: .int .i64 g.fst :: g.val :: aY l
theorem si(l:List Grp):(aY l).length=l.length*3:=by
 induction l with
 | nil=>rfl
 | cons p l ih=>simp only[aY,List.length_cons,ih];omega
theorem lX(l m:List Grp):aY (l++m)=aY l++aY m:=by
 induction l with
 | nil=>rfl
 | cons p l ih=>simp[aY,ih]
theorem yx(l:List Grp)(k:Nat):aY (l.take k)=(aY l).take (k*3):=by
 induction l generalizing k with
 | nil=>simp[aY]
 | cons p l ih=>
  cases k with
  | zero=>simp[aY]
  | succ k=>rw[show(k+1)*3=k*3+1+1+1 by omega];simp[aY,ih]
theorem yw(l:List Grp)(k:Nat):aY (l.drop k)=(aY l).drop (k*3):=by
 induction l generalizing k with
 | nil=>simp[aY]
 | cons p l ih=>
  cases k with
  | zero=>simp
  | succ k=>rw[show(k+1)*3=k*3+1+1+1 by omega];simp[aY,ih]
def g0:Grp:=⟨0,0,[],.slice none 0 0⟩
theorem AB(l:List Grp)(i:Nat)(h:i<l.length):(aY l)[i*3]?=some (.int .i64 (l.getD i g0).cnt)/\(aY l)[i*3+1]?=some (.int .i64 (l.getD i g0).fst)/\(aY l)[i*3+2]?=some (l.getD i g0).val:=by
 induction l generalizing i with
 | nil=>simp at h
 | cons p l ih=>
  cases i with
  | zero=>simp[aY]
  | succ i=>
   have:=ih i (by simpa using h);rw[show(i+1)*3=i*3+1+1+1 by omega];simpa[aY]using this
def dr(t:TypeId)(w:World)(base:Nat)(v:Value)(l:List Grp):Prop:=w.ownsRow base t 3 v l.length (aY l)
def dD(w:World)(ob:Nat)(l:List Grp):Prop:=∀g∈l,ar w ob g.val g.syms
theorem dr.form{t:TypeId}{w:World}{base:Nat}{v:Value}{l:List Grp}(h:dr t w base v l):∃a cap,v = .slice a l.length cap:=by
 rcases h.2 with⟨e,h0⟩|⟨g,cap,_,e,_⟩
 · exact⟨none,0,by rw[e,h0]⟩
 · exact⟨_,cap,e⟩
theorem dr.formN{t:TypeId}{w:World}{base n:Nat}{v:Value}{l:List Grp}(hn:l.length=n)(h:dr t w base v l):∃a cap,v = .slice a n cap:=by
 subst hn;exact h.form
theorem dr.somes{t:TypeId}{w:World}{base cap n:Nat}{a:Option Addr}{l:List Grp}(h:dr t w base (.slice a n cap) l)(hl:0<l.length):∃g,a=some ⟨g,0,none⟩:=by
 rcases h.2 with⟨_,e⟩|⟨g,cap',cur,e,_⟩
 · omega
 · simp only[Value.slice.injEq]at e;exact⟨g,e.1⟩
theorem dr.cap{t:TypeId}{w:World}{base cap n:Nat}{a:Option Addr}{l:List Grp}(hn:l.length=n)(h:dr t w base (.slice a n cap) l):n<=cap/\cap<=maxLen:=by
 rcases h.2 with⟨e,_⟩|⟨g,cap',cur,e,_,_,h1,h2,_⟩
 · simp only[Value.slice.injEq]at e;unfold maxLen;omega
 · simp only[Value.slice.injEq]at e;omega
theorem dr.at{t:TypeId}{w:World}{base g cap n:Nat}{l:List Grp}(hn:l.length=n)(h:dr t w base (.slice (some ⟨g,0,none⟩) n cap) l)(j:Nat)(hj:j<n) :
  w.cell? ⟨g,j*3,none⟩=some (.int .i64 (l.getD j g0).cnt)/\w.cell? ⟨g,j*3+1,none⟩=some (.int .i64 (l.getD j g0).fst)/\w.cell? ⟨g,j*3+2,none⟩=some (l.getD j g0).val/\base<=g/\g<w.heap.size:=by
 subst hn;have hp:=AB l j hj;exact⟨(World.ownsRow.cellAt h (j*3) (by omega)).trans hp.1,(World.ownsRow.cellAt h (j*3+1) (by omega)).trans hp.2.1,(World.ownsRow.cellAt h (j*3+2) (by omega)).trans hp.2.2,World.ownsRow.lt h g rfl⟩
theorem sP{w w':World}{base B size n:Nat}{e:TypeId}{v:Value}{xs:List Value}(h:w.ownsRow base e size v n xs)(hb:Below B w w')(hB:w.heap.size<=B):w'.ownsRow base e size v n xs:=by
 refine⟨h.1,?_⟩;rcases h.2 with hn|⟨g,cap,cur,rfl,hbg,hgg,rest⟩
 · exact .inl hn
 · refine .inr ⟨g,cap,cur,rfl,hbg,?_,rest⟩;have hg:=(Array.getElem?_eq_some_iff.1 hgg).1;rw[hb.block g (by omega)];exact hgg
theorem dr.later{t:TypeId}{w w':World}{base B:Nat}{v:Value}{l:List Grp}(h:dr t w base v l)(hb:Below B w w')(hB:w.heap.size<=B):dr t w' base v l:=sP h hb hB
theorem dD.later{w w':World}{ob B:Nat}{l:List Grp}(h:dD w ob l)(hb:Below B w w')(hB:w.heap.size<=B):dD w' ob l:=fun g hg=>(h g hg).later hb hB
theorem dr.news{t:TypeId}{w:World}{base g cap n:Nat}{l:List Grp}(hn:l.length=n)(h:dr t w base (.slice (some ⟨g,0,none⟩) n cap) l)(i k o:Nat)(ho:o=i*3)(hik:i+k<=n) :
  ∀j u,(aY ((l.drop i).take k))[j]?=some u->w.cell? ((⟨g,o,none⟩:Addr).add j)=some u:=by
 intro j u hj;subst ho hn;have hadd:(⟨g,i*3,none⟩:Addr).add j=⟨g,i*3+j,none⟩:=by unfold Addr.add;split<;>simp_all
 have hjl:=(List.getElem?_eq_some_iff.1 hj).1;rw[si,List.length_take,List.length_drop]at hjl;have hmin:min k (l.length-i)=k:=by omega
 rw[hmin]at hjl;rw[hadd,World.ownsRow.cellAt h (i*3+j) (by omega),←hj,yx,yw,List.getElem?_take,if_pos hjl,List.getElem?_drop]
end Go.Proofs.YtkpfkgoiaicgbaaGreatDoor
namespace Go.Proofs.YtkpfkgoiaicgbaaGreatDoor.Bkx
open Go.Proofs.YtkpfkgoiaicgbaaGreatDoor
open Go.RowKit Corb
set_option maxRecDepth 100000
set_option linter.unusedSimpArgs false
theorem vK(w:World)(vl vc vs:Value)(m:Nat->Nat)(t:TypeId):ef (w.alloc (.cells (aO vl vc vs m).toArray t)) w.heap.size vl vc vs m:=by
 refine ef.of_range ?_ (fun o=>gU w _ _ o) (by simp);intro j v hv;rw[Nat.zero_add,cell_of_row _ _ _ _ t (0,0) (heap_alloc_new w _)];simpa using hv
theorem bookPut_any(B:BkI)(hB:Bks B)(a ac:Option Addr)(cap n cc k:Nat)(vs:Value)(m:Nat->Nat)(C:Array Value)(l c:List Int)(w:World)(hC:C=(aO (.slice a n cap) (.slice ac n cc) vs m).toArray)(hn:l.length=n)(hnc:c.length=n)(h:bC w a l)(hcr:bC w ac c)(hk:k<n)(hm:n<=300) :
  Calls Tryz.prog B.p #[.agg C,.int .i64 (k:Int)] w fun e w'=>e = .returned (.agg #[.int .i64 (btI (c.getD k 0) (l.getD k 0)),.int .i64 (l.getD k 0)])/\Below w.heap.size w w':=by
 have e0:C[0]?=some (.slice a n cap):=by subst hC;rfl
 have e1:C[1]?=some (.slice ac n cc):=by subst hC;rfl
 have hmI:(n:Int)<=300:=by omega
 have hkI:(k:Int)<(n:Int):=by omega
 clear hC;obtain⟨g,o,rfl,hg,hc⟩:=h (by omega);obtain⟨g',o',rfl,hg',hc'⟩:=hcr (by omega);have d0:=hc k (by omega);have d1:=hc' k (by omega);have hb:Below w.heap.size w ((w.alloc (.cells C B.T)).alloc (.cells #[.int .i64 0,.int .i64 0] 180)):=((Below.refl _ _).alloc (Nat.le_refl _) _).alloc (by simp) _;have r0:((w.alloc (.cells C B.T)).alloc (.cells #[.int .i64 0,.int .i64 0] 180)).cell? ⟨w.heap.size+1,0,none⟩=some (.int .i64 0):=by
  have:=cell_of_row ((w.alloc (.cells C B.T)).alloc (.cells #[.int .i64 0,.int .i64 0] 180)) (w.heap.size+1) 0 #[.int .i64 0,.int .i64 0] 180 (0,0) (heap_alloc2_new w _ _);rw[this];rfl
 have r1:((w.alloc (.cells C B.T)).alloc (.cells #[.int .i64 0,.int .i64 0] 180)).cell? ⟨w.heap.size+1,1,none⟩=some (.int .i64 0):=by
  have:=cell_of_row ((w.alloc (.cells C B.T)).alloc (.cells #[.int .i64 0,.int .i64 0] 180)) (w.heap.size+1) 1 #[.int .i64 0,.int .i64 0] 180 (0,0) (heap_alloc2_new w _ _);rw[this];rfl
 have hs2:((w.alloc (.cells C B.T)).alloc (.cells #[.int .i64 0,.int .i64 0] 180)).heap.size=w.heap.size+2:=by simp
 have HR:=af (And.intro r0 (And.intro r1 (And.intro hs2 hb)));clear hc hc' h hcr r0 r1 hs2 hb;generalize l.getD k 0=y at *
 generalize c.getD k 0=z at *
 rcases hB with rfl|rfl|rfl;all_goals
  simp only[bkL,bkD,bkN]at HR ⊢
  (first|go_enter Tryz.func161,Tryz.ntmps161|go_enter Tryz.func188,Tryz.ntmps188|go_enter Tryz.func172,Tryz.ntmps172)
  go_wp2_with fail;refine(om _ _ _).mono ?_;rintro e x1 ⟨rfl,hb1⟩;obtain⟨r0,r1,hs2,hb⟩:=ae HR;have q0:=(hb1.cell (p:=⟨w.heap.size+1,0,none⟩) (by rw[hs2];exact Nat.lt_succ_self _)).trans r0;have q1:=(hb1.cell (p:=⟨w.heap.size+1,1,none⟩) (by rw[hs2];exact Nat.lt_succ_self _)).trans r1;have f0:=hb1.frozen (p:=⟨w.heap.size+1,0,none⟩) (by rw[hs2];exact Nat.lt_succ_self _);have f1:=hb1.frozen (p:=⟨w.heap.size+1,1,none⟩) (by rw[hs2];exact Nat.lt_succ_self _);have hbn:=hb.trans (hb1.mono hb.size);clear HR r0 r1 hb hb1;go_wp2_with fail;exact bodyPost_ret (v:=.agg #[.int .i64 (btI z y),.int .i64 y]) (by simp[results,Tryz.results161,Tryz.results188,Tryz.results172,go_sem,q0,q1]) rfl ⟨rfl,ai (ai hbn (Nat.le_succ _) _) (Nat.le_succ _) _⟩
end Go.Proofs.YtkpfkgoiaicgbaaGreatDoor.Bkx
namespace Go.Proofs.YtkpfkgoiaicgbaaGreatDoor
open Go.RowKit Corb
theorem vK(w:World)(vl vc vs:Value)(m:Nat->Nat)(t:TypeId):ef (w.alloc (.cells (aO vl vc vs m).toArray t)) w.heap.size vl vc vs m:=by
 refine ef.of_range ?_ (fun o=>gU w _ _ o) (by simp);intro j v hv;rw[Nat.zero_add,cell_of_row _ _ _ _ t (0,0) (heap_alloc_new w _)];simpa using hv
end Go.Proofs.YtkpfkgoiaicgbaaGreatDoor
