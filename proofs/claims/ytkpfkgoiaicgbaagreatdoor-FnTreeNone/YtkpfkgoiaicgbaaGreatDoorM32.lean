/- Of what the proof is made: 4 texts, one behind the other. -/
import Derived.Test.YtkpfkgoiaicgbaaGreatDoorM24
import Derived.Test.YtkpfkgoiaicgbaaGreatDoorM26
import Derived.Test.YtkpfkgoiaicgbaaGreatDoorM30
import Derived.Test.YtkpfkgoiaicgbaaGreatDoorM2
import Derived.Test.YtkpfkgoiaicgbaaGreatDoorM5
import Derived.Deep.RegionHeld3
set_option linter.unusedSimpArgs false
set_option linter.unusedVariables false
set_option maxHeartbeats 6400000
namespace Go.Proofs.YtkpfkgoiaicgbaaGreatDoor
open Go.RowKit Go.Shelf Corb
attribute [local go_sem] Oper.semAt_some
def l7(W:World)(b:Nat)(t:TypeId)(C:Array Value):Prop:=W.heap[b]?=some (.cells C t (0,0))
theorem GX{β:Type}(B:Nat)(t:TypeId)(C:Array Value):Own (fun(_:β) W=>l7 W B t C):=fun _ X _ row hs hg hrow=>
 (hg.block B (Array.getElem?_eq_some_iff.1 hs).1 (fun e'=>by obtain⟨o,ho,hc⟩:=hrow B e'.symm;rw[show X.heap[B]?=_ from hs]at ho;cases ho;cases hc)).trans hs
theorem l7.kept{W W':World}{row:Option Nat}{B:Nat}{t:TypeId}{C:Array Value}(h:l7 W B t C)(hg:W.grownBy W' row)(hne:some B≠row):l7 W' B t C:=(hg.block B (Array.getElem?_eq_some_iff.1 h).1 hne).trans h
theorem l7.later{W W':World}{B:Nat}{t:TypeId}{C:Array Value}(h:l7 W B t C)(hb:Below W.heap.size W W'):l7 W' B t C:=h.kept (dI hb) (by simp)
theorem iB{F:Fence}{n:Nat}{P:Program}{ops:Array Oper}{o:Oper}{a:Act}{w:World}{K:Act->World->Prop}{Q:Exit->Act->World->Prop}{E:Prop}
  (hg:o.guard=none) (ty:TypeId) (x:Operand) (hop:o.op = .load ty x) (b off:Nat) (hx:a.eval x = .pointer (some ⟨b,off,none⟩)) (C:Array Value) (d:TypeDesc) (hc:w.rangeAt b off C.toList)
  (hu:P.underlying ty=some d) (hd:d.isRow=true) (hi:(P.info? ty).map (·.size)=some C.size) (hK:K (a.put o.dst (.agg C)) w) :
  if Region.wanted o (yielded ops a.tmps)=true then Oper.wpIn F n P o a w K Q else E:=by
 have hw:Region.wanted o (yielded ops a.tmps)=true:=by simp[Region.wanted,hg]
 rw[if_pos hw];unfold Oper.wpIn;refine⟨?_,?_⟩
 · simp[Oper.about,hop]
 · rw[Oper.semAt_plain F _ _ (by rw[hop];intro c hc';cases hc')];unfold execOp;simp only[hop,hx,Instr.loadAt,Instr.sureAddr,Sem.run_bind,Sem.run_pure,Result.andThen_ok,run_loadVar_mid w b off ty C.toList d hc hu hd (by simpa using hi)];simpa[Oper.uponIn]using hK
def fW(L D:List Int)(t:Tk):Prop:=if isB t then t.1.toNat<L.length else 257+fnd 3 4 t.2.1.toNat 27<L.length/\fnd 1 2 t.2.2.toNat 29<D.length
theorem vm(L D:List Int)(t:Tk):(pcT L D t).length<=4/\1<=(pcT L D t).length:=by unfold pcT;split<;>simp
theorem zN{t:Tk}(h:isK t=true):3<=t.2.1/\t.2.1<=60/\1<=t.2.2/\t.2.2<=250:=by
 unfold isK inB at h;simp only[Bool.and_eq_true,decide_eq_true_eq]at h;omega
theorem uX{t:Tk}(h:isB t=true):0<=t.1/\t.1<=255:=by
 unfold isB inB at h;simp only[Bool.and_eq_true,decide_eq_true_eq]at h;omega
def eU{s:ByteArray}(L D:List Int)(pre:List (TkS s)):List (Int×Int):=(pre.map Subtype.val).flatMap (pcT L D)
theorem wo{s:ByteArray}(L D:List Int)(pre:List (TkS s)):(eU L D pre).length<=4*pre.length:=by
 unfold eU;induction pre with
 | nil=>simp
 | cons x r ih=>have:=(vm L D x.1).1;simp only[List.map_cons,List.flatMap_cons,List.length_append,List.length_cons];omega
theorem zD{s:ByteArray}(L D:List Int)(pre:List (TkS s))(x:TkS s):eU L D (pre++[x])=eU L D pre++pcT L D x.1:=by simp[eU]
theorem Im{W:World}{n₀:Nat}{v:Value}{l m:List (Int×Int)}(h:W.ownsRow n₀ 180 2 v (l.length+m.length) (aL l++aL m)):W.ownsRow n₀ 180 2 v (l++m).length (aL (l++m)):=by
 rw[du,List.length_append];exact h
theorem It(t:Tk)(base:Nat)(L D:List Int)(C:Array Value)(w:World)(hok:okT t=true)(hf:fW L D t)(hB:cY w base L D C)(hL:L.length<=300)(hD:D.length<=300) :
  Calls Tryz.prog 160 #[.agg C,dX t] w fun e w'=>(∃g,e = .returned (.slice (some ⟨g,0,none⟩) (pcT L D t).length (pcT L D t).length)/\yZ w' g (pcT L D t))/\Below w.heap.size w w':=by
 cases hb:isB t
 ·
  have hk:isK t=true:=by unfold okT at hok;rw[hb]at hok;simpa using hok
  unfold fW at hf;rw[if_neg (by simp[hb])]at hf;have e1:pcT L D t=[pcS L (257+fnd 3 4 t.2.1.toNat 27),((t.2.1.toNat:Int)-((stF 3 4 (fnd 3 4 t.2.1.toNat 27)).1:Int),((stF 3 4 (fnd 3 4 t.2.1.toNat 27)).2:Nat)),pcS D (fnd 1 2 t.2.2.toNat 29),((t.2.2.toNat:Int)-((stF 1 2 (fnd 1 2 t.2.2.toNat 29)).1:Int),((stF 1 2 (fnd 1 2 t.2.2.toNat 29)).2:Nat))]:=by unfold pcT;rw[if_neg (by simp[hb])]
  obtain⟨q1,q2,q3,q4⟩:=zN hk;have f1:t.2.1=((t.2.1.toNat:Nat):Int):=by omega
  have f2:t.2.2=((t.2.2.toNat:Nat):Int):=by omega
  have e2:dX t = .iface 254 (.agg #[.int .i64 ((t.2.1.toNat:Nat):Int),.int .i64 ((t.2.2.toNat:Nat):Int)]):=by rw[←f1,←f2];exact mF hk
  rw[e2,e1];have:=Is t.2.1.toNat t.2.2.toNat base L D C w hB (by omega) (by omega) (by omega) (by omega) hf.1 hf.2 hL hD;exact this
 ·
  obtain⟨q1,q2⟩:=uX hb;unfold fW at hf;rw[if_pos hb]at hf;have e1:pcT L D t=[pcS L t.1.toNat]:=by unfold pcT;rw[if_pos hb]
  have f1:t.1=((t.1.toNat:Nat):Int):=by omega
  have e2:dX t = .iface 252 (.int .u8 ((t.1.toNat:Nat):Int)):=by rw[←f1];exact jB hb
  rw[e2,e1];have:=Iq t.1.toNat base L D C w hB hf (by omega) hL;exact this
theorem pJ{W x1 w1:World}{n₀ B Bn Bm:Nat}{t e tn tm:TypeId}{size:Nat}{v v' u:Value}{C:Array Value}{k m:Nat}{xs ys:List Value}
  (hW:Below W.heap.size W x1) (hv:Boxed W B t v) (hbn:Boxed W Bn tn u) (hm:l7 W Bm tm C) (hte:t≠e) (htn:tn≠e) (htm:tm≠e) (hne:Bn≠B) (hnm:Bm≠B) (hrow:W.ownsRow n₀ e size v k xs) (hn₀:n₀<=W.heap.size) (hB:n₀<=B)
  (hown':w1.ownsRow n₀ e size v' m ys) (hgrow:x1.grownBy w1 v.ownBlock) :
  Boxed w1 B t v/\Boxed (w1.setCell ⟨B,0,none⟩ v') B t v'/\(w1.setCell ⟨B,0,none⟩ v').ownsRow n₀ e size v' m ys/\KeepsOthers W (w1.setCell ⟨B,0,none⟩ v')/\Below n₀ W (w1.setCell ⟨B,0,none⟩ v')/\Boxed (w1.setCell ⟨B,0,none⟩ v') Bn tn u/\l7 (w1.setCell ⟨B,0,none⟩ v') Bm tm C:=by
 have hv1:=Boxed.later hv hW;have hbn1:=Boxed.later hbn hW;have hm1:=hm.later hW;have hrow1:x1.ownsRow n₀ e size v k xs:=eG hrow hW;have hmr:some Bm≠v.ownBlock:=by
  intro e';rcases hrow1.2 with⟨rfl,_⟩|⟨g,cap,cur,rfl,_,hgb,_⟩
  · cases e'
  ·
   simp only[Value.ownBlock,Option.some.injEq]at e';subst e';rw[show x1.heap[Bm]?=_ from hm1]at hgb;cases hgb
   exact htm rfl
 have h1:Boxed w1 B t v:=hv1.kept hgrow (hv1.not_row hte hrow1);refine⟨h1,h1.set v',hown'.kept (grownBy_setCell' w1 B v') (.inr (h1.not_row hte hown').symm),?_,?_,?_,?_⟩
 ·
  refine((KeepsOthers.of_grownBy (dI hW) (fun _ _ e=>by cases e)).trans (KeepsOthers.of_grownBy hgrow fun j o ej hj=>?_)).trans (KeepsOthers.setCell _ _ _);rcases hrow1.2 with⟨rfl,_⟩|⟨g,cap,cur,rfl,_,hgb,_⟩
  · cases ej
  ·
   simp only[Value.ownBlock,Option.some.injEq]at ej;subst ej;rw[hgb]at hj;cases hj
   rfl
 · have hA:Below n₀ W x1:=hW.mono hn₀;have hA1:Below n₀ W w1:=hA.grown hgrow (Nat.le_trans hn₀ hW.size) (fun j hj=>(World.ownsRow.lt hrow1 j hj).1);exact ai hA1 hB _
 · exact Boxed.other (hbn1.kept hgrow (hbn1.not_row htn hrow1)) hne v'
 · exact(hm1.kept hgrow hmr).kept (grownBy_setCell' w1 B v') (fun e=>hnm (by cases e;rfl))
theorem Jc(x:World)(a b:Value)(t:TypeId):∀(j:Nat) (u:Value),[a,b][j]?=some u->(x.alloc (.cells #[a,b] t)).cell? ((⟨x.heap.size,0,none⟩:Addr).add j)=some u:=by
 intro j u hj
 match j,hj with
 | 0,hj=>simp at hj;subst hj;simp[Addr.add]
 | 1,hj=>simp at hj;subst hj;simp[Addr.add]
theorem Jd(p q:Int):∀u∈[Value.int .i64 p,Value.int .i64 q],u.oneCell'=true:=by
 intro u hu;simp at hu;rcases hu with rfl|rfl<;>rfl
theorem rV{W:World}{d:Nat}{r:Option (List Deferred)}(h:W.heap[d]?=some (Obj.deferred r))(o:Obj):(W.alloc o).heap[d]?=some (Obj.deferred r):=
 (Below.heap_alloc W o d (Array.getElem?_eq_some_iff.1 h).1).trans h
theorem Iw{W W':World}{d n₀ n size:Nat}{e:TypeId}{v:Value}{xs:List Value}{r:Option (List Deferred)}(h:W.heap[d]?=some (Obj.deferred r))(hg:W.grownBy W' v.ownBlock)(ho:W.ownsRow n₀ e size v n xs):W'.heap[d]?=some (Obj.deferred r):=by
 refine(hg.block d (Array.getElem?_eq_some_iff.1 h).1 ?_).trans h;intro e';rcases ho.2 with⟨rfl,_⟩|⟨g,cap,cur,rfl,_,hgb,_⟩
 · cases e'
 · simp only[Value.ownBlock,Option.some.injEq]at e';subst e';rw[h]at hgb;cases hgb
theorem Ej{W:World}{n₀:Nat}{v:Value}{l:List (Int×Int)}{p q:Int}(h:W.ownsRow n₀ 180 2 v (l.length+1) (aL l++[.int .i64 p,.int .i64 q])):Pcs W n₀ v (l++[(p,q)]):=by
 show World.ownsRow _ _ _ _ _ (l++[(p,q)]).length _;rw[du,List.length_append];exact h
theorem yC(s:ByteArray)(hs:s.size<=300){ys:List (TkS s)}(h:ys.map Subtype.val=bh s.data.toList 0):ys.length<=300:=by
 have h1:=congrArg List.length h;rw[List.length_map]at h1;have h2:=uh s.data.toList s.data.toList.length 0 (by omega);have h3:s.data.toList.length=s.size:=by simp
 omega
theorem l7.range{W:World}{b:Nat}{t:TypeId}{C:Array Value}(h:l7 W b t C):W.rangeAt b 0 C.toList:=by
 intro j v hv;rw[Nat.zero_add,bn h];simpa using hv
theorem rJ{W:World}{n₀ n:Nat}{e:TypeId}{size:Nat}{v:Value}{xs:List Value}(h:W.ownsRow n₀ e size v n xs)(hn:0<n):∃g cap,v = .slice (some ⟨g,0,none⟩) n cap:=by
 rcases h.2 with⟨_,h0⟩|⟨g,cap,_,e,_⟩
 · omega
 · exact⟨g,cap,e⟩
set_option maxRecDepth 100000 in
theorem rO(s:ByteArray)(base:Nat)(L D:List Int)(C:Array Value)(w:World)(hs:s.size<=300)(hB:cY w base L D C)(hL:L.length<=300)(hD:D.length<=300)(h256:256<L.length)(hfit:∀t∈bh s.data.toList 0,fW L D t) :
  Calls Tryz.prog 126 #[.agg C,.string s] w fun e w'=>∃v,e = .returned v/\Pcs w' w.heap.size v ((bh s.data.toList 0).flatMap (pcT L D)++[pcS L 256])/\Below w.heap.size w w':=by
 obtain⟨i0,hi,hz0,hz1,hz2⟩:=info_parts Tryz.infoPiece;have hsI:(s.size:Int)<=300:=by omega
 have hmx:Tryz.prog.follows .mixedOrders=true:=by kernel_rfl
 have HS:=af hs;have HSz:=af hB.size;have HPut:=af (fun(x:TkS s) W (hW:Below w.heap.size w W)=>It x.1 base L D C W x.2.1 (hfit x.1 x.2.2) (hB.later hW) hL hD);have HBk:=af hB;clear hs hB hfit;refine(callsIn_wide (n:=6)).1 ?_;refine callsIn_of_wp_marks Tryz.func126 rfl trivial ?_ rfl;simp only[Tryz.ntmps126,List.size_toArray,List.length_cons,List.length_nil,Nat.reduceAdd,Nat.reduceSub,Array.replicate_succ,Array.replicate_zero,List.push_toArray,List.append_toArray,List.nil_append,List.cons_append]
 gi_wp2_with (refine⟨trivial,?_⟩;gi_at_call 159;refine(callsIn_wide.2 (nt s _)).mono ?_;rintro e w' ⟨rfl,rfl⟩)
 have bO:=Boxed.new (w.alloc (.cells C 191)) 177 (.slice none 0 0);have bN:=Boxed.new ((w.alloc (.cells C 191)).alloc (.cells #[.slice none 0 0] 177)) 9 (.string s);have e1:(w.alloc (.cells C 191)).heap.size=w.heap.size+1:=by simp
 have e2:((w.alloc (.cells C 191)).alloc (.cells #[.slice none 0 0] 177)).heap.size=w.heap.size+2:=by simp
 rw[e1]at bO;rw[e2]at bN;have bM:l7 (((w.alloc (.cells C 191)).alloc (.cells #[.slice none 0 0] 177)).alloc (.cells #[.string s] 9)) w.heap.size 191 C:=(l7.later (l7.later (alloc_at w (.cells C 191)) ((Below.refl _ _).alloc (Nat.le_refl _) _)) ((Below.refl _ _).alloc (Nat.le_refl _) _));have hB0:Below w.heap.size w (((w.alloc (.cells C 191)).alloc (.cells #[.slice none 0 0] 177)).alloc (.cells #[.string s] 9)):=(((Below.refl _ w).alloc (Nat.le_refl _) _).alloc (by simp) _).alloc (by simp;omega) _;refine wpIn_rangeFunc_ownG rfl (by omega) (gf:=186) (lb:=#[.pointer (some ⟨w.heap.size+2,0,none⟩)]) rfl trivial (enters_of Tryz.func186 (by kernel_rfl) rfl)
  (py 5 (by omega) (w.heap.size+2) s (by have:=ae HS;omega) _ bN) Bu (fun W l o o' _ h1 h2 _=>Bt W l o o' h1 h2) (Below.refl _ _) (fun _=>rfl)
  (fun(pre:List (TkS s)) W=>(((∃v,Boxed W (w.heap.size+1) 177 v/\W.ownsRow w.heap.size 180 2 v (eU L D pre).length (aL (eU L D pre))/\True)/\Below w.heap.size w W)/\Boxed W (w.heap.size+2) 9 (.string s))/\l7 W w.heap.size 191 C)
  (fun _ _ _=>False)
  (OwnFrom.and (OwnFrom.and (OwnFrom.and (Own.from (holdsRow_own w.heap.size (w.heap.size+1) 177 180 2 (fun(pre:List (TkS s))=>(eU L D pre).length) (fun(pre:List (TkS s))=>aL (eU L D pre)) (fun _ _=>True)) _) (ownFrom_below (Nat.le_refl _) (by simp;omega))) (Own.from (boxed_own _ _ _) _)) (Own.from (GX _ _ _) _))
  (fun _ _ _ _ _ hs _ _=>hs)
  ⟨⟨⟨⟨_,bO.alloc _,World.ownsRow_nil _ _ _ _,trivial⟩,hB0⟩,bN⟩,bM⟩
  (fun x=>{ tmps:=#[.agg C,.string s,.pointer (some ⟨w.heap.size,0,none⟩),undef,.slice none 0 0,.pointer (some ⟨w.heap.size+1,0,none⟩),dX x.1,.string s,.func (.func 186) #[] #[.pointer (some ⟨w.heap.size+2,0,none⟩)],dX x.1,undef,undef,undef,undef,undef,undef,undef,undef,undef,undef,undef],defers:=[] }) ?assign ?body ?done ?stop
 case assign=>
  intro l x W K hK
  gi_wp2
  exact hK
 case body=>
  rintro l pre x W ⟨⟨⟨⟨v,hv,hrow,_⟩,hB⟩,hN⟩,hmM⟩ hlt;have hc:=hv.cell;have bd:Hid ((eU L D pre).length+(pcT L D x.1).length<=maxLen/\((eU L D pre).length+(pcT L D x.1).length)*16<=140737488355328):=by
   show _/\_;have h1:=ae HS;have h2:=wo L D pre;have h3:=(vm L D x.1).1;unfold maxLen;omega
  gi_wp2
  refine wpIn_region_any (by assumption) ?_;change wpAnyIn _ _ _ _ _ _ _ _ _ (World.drew _);repeat' first
   | exact AllReadyIn.nil
   | refine AllReadyIn.cons rfl (fun K hK=>?_) ?_
   | (refine eO 10 rfl ?_;go_simp;refine hK _ _ ?_;clear hK K)
   | (refine eO 12 rfl ?_;go_simp;refine hK _ _ ?_;clear hK K)
   | (refine eO 11 rfl ?_;refine iB rfl 191 (.tmp 2) rfl w.heap.size 0 rfl C _ hmM.range Tryz.underlying191 rfl (by rw[ae HSz];exact Tryz.infoBooks) (hK _ _ ?_);clear hK K)
   | (refine eO 13 rfl ?_;go_simp;refine⟨trivial,?_⟩;refine(CallsIn.inRound l (callsIn_wide.2 (ae HPut x _ hB.drew))).mono ?_;rintro e x1 ⟨⟨g,rfl,hPB⟩,hbd⟩;have hb1:Below W.heap.size W x1:=⟨hbd.os,hbd.tape,hbd.output,hbd.size,hbd.block⟩;clear hbd;have hc1:=(Boxed.later hv hb1).cell;have hbs:w.heap.size<=x1.heap.size:=Nat.le_trans hB.size hb1.size;refine hK _ _ ?_;clear hK K)
   | (refine eO 14 rfl ?_;refine ib rfl _ _ 177 rfl w.heap.size 180 i0 (.agg #[.int .i64 0,.int .i64 0]) 2 16 Tryz.underlying177 hi hz0 hz1 hz2 rfl (by decide) v (eU L D pre).length _ rfl (eG hrow hb1) ⟨g,0,none⟩ (pcT L D x.1).length (pcT L D x.1).length (aL (pcT L D x.1)) rfl (jv _) hPB.cells (fH _) (ae bd).1 (ae bd).2 hbs ?_;intro v' w1 hown' hgrow _;obtain⟨g',cap',rfl⟩:∃g' cap',v' = .slice (some ⟨g',0,none⟩) ((eU L D pre).length+(pcT L D x.1).length) cap':=rJ hown' (by have:=(vm L D x.1).2;omega);obtain⟨hv1,hv2,hr2,hk2,hb2,hn2,hm2⟩:=pJ hb1 hv hN hmM (by decide) (by decide) (by decide) (by omega) (by omega) hrow hB.size (by omega) hown' hgrow;have hc2:=hv1.cell;have hf2:=hv1.frozen;refine hK _ _ ?_;clear hK K)
   | (refine Ft (Op.store 177 (.tmp 5) (.tmp 14)) rfl ?_;go_simp;refine hK _ _ ?_;clear hK K)
   | refine wpAnyIn_ready (rs:=[0,1,2]) (by decide +kernel) (by simp) ?_
   | refine wpAnyIn_ready (rs:=[1,2]) (by decide +kernel) (by simp) ?_
   | refine wpAnyIn_ready (rs:=[2]) (by decide +kernel) (by simp) ?_
   | refine wpAnyIn_ready (rs:=[3]) (by decide +kernel) (by simp) ?_
   | refine wpAnyIn_ready (rs:=[4]) (by decide +kernel) (by simp) ?_
   | refine wpAnyIn_ready (rs:=[5]) (by decide +kernel) (by simp) ?_
   | refine wpAnyIn_ready (rs:=[1]) (by decide +kernel) (by simp) ?_
   | refine wpAnyIn_ready (rs:=[0,2]) (by decide +kernel) (by simp) ?_
   | refine wpAnyIn_ready (rs:=[0,3]) (by decide +kernel) (by simp) ?_
   | refine wpAnyIn_ready (rs:=[0]) (by decide +kernel) (by simp) ?_
   | refine wpAnyIn_ready (rs:=[0,1]) (by decide +kernel) (by simp) ?_
   | (refine wpAnyIn_done (by decide +kernel) ?_ _;exact⟨(hk2.trans (KeepsOthers.refl _)).from _,fun _=>hn2,⟨⟨⟨⟨_,hv2,by rw[zD];exact Im hr2,trivial⟩,hB.trans hb2⟩,hn2⟩,hm2⟩⟩)
 case done=>
  rintro Dd ys W hDd hys ⟨⟨⟨⟨v,hv,hrow,_⟩,hB⟩,hN⟩,hmM⟩ hK;have hc:=hv.cell;have HFl:Hid ((eU L D ys).length+1<=maxLen/\((eU L D ys).length+1)*16<=140737488355328):=by
   show _/\_;have h1:=yC s (ae HS) hys;have h2:=wo L D ys;unfold maxLen;omega
  have hFe:Hid (eU L D ys=(bh s.data.toList 0).flatMap (pcT L D)):=by show eU L D ys=_;unfold eU;rw[hys]
  have HDd:=af hDd;obtain⟨C1,C2,hCe,hC1,hC2⟩:=(ae HBk).later hB;have HL:=af (fun W' (hW:Below W.heap.size W W')=>mq 256 L C1 base W' (hC1.later hW) h256 hL);have HR1:=af (by have h0:=fU (b:=w.heap.size) (t:=191) (show W.heap[w.heap.size]?=some (Obj.cells (C1++C2) 191) by rw[←hCe];exact hmM) hC1.size;exact h0.1);have HS1:=af hC1.size;have HPc:Hid (pcS L 256=(btI ((bB L 15).2.getD 256 0) (L.getD 256 0),L.getD 256 0)):=rfl;generalize btI ((bB L 15).2.getD 256 0) (L.getD 256 0)=p at *
  generalize L.getD 256 0=q at *
  clear hys hCe hC1 hC2 hDd
  gi_wp2
  refine wpIn_region_any (by assumption) ?_;change wpAnyIn _ _ _ _ _ _ _ _ _ (World.drew _);repeat' first
   | exact AllReadyIn.nil
   | refine AllReadyIn.cons rfl (fun Kk hKk=>?_) ?_
   | (refine eO 15 rfl ?_;go_simp;refine hKk _ _ ?_;clear hKk Kk)
   | (refine eO 16 rfl ?_;go_simp;refine hKk _ _ ?_;clear hKk Kk)
   | (refine eO 17 rfl ?_;refine iB rfl 186 (.tmp 16) rfl w.heap.size 0 rfl C1 _ (ae HR1) Tryz.underlying186 rfl (by rw[ae HS1];exact Tryz.infoLitB) (hKk _ _ ?_);clear hKk Kk)
   | (refine eO 18 rfl ?_;go_simp;refine⟨trivial,?_⟩;refine(callsIn_wide.2 (ae HL _ (Below.refl _ W).drew)).mono ?_;rintro e x1 ⟨rfl,hbd⟩;have hb1:Below W.heap.size W x1:=⟨hbd.os,hbd.tape,hbd.output,hbd.size,hbd.block⟩;clear hbd;have hc1:=(Boxed.later hv hb1).cell;have hc1b:=((Boxed.later hv hb1).alloc (.cells #[.int .i64 p,.int .i64 q] 180)).cell;have hbs:w.heap.size<=x1.heap.size:=Nat.le_trans hB.size hb1.size;refine hKk _ _ ?_;clear hKk Kk)
   | (refine eO 19 rfl ?_;go_simp;refine hKk _ _ ?_;clear hKk Kk)
   | (refine eO 20 rfl ?_;refine ib rfl _ _ 177 rfl w.heap.size 180 i0 (.agg #[.int .i64 0,.int .i64 0]) 2 16 Tryz.underlying177 hi hz0 hz1 hz2 rfl (by decide) v (eU L D ys).length _ rfl (World.ownsRow.alloc (eG hrow hb1) _) ⟨x1.heap.size,0,none⟩ 1 1 [.int .i64 p,.int .i64 q] rfl rfl (Jc _ _ _ _) (Jd _ _) (ae HFl).1 (ae HFl).2 (by simp;omega) ?_;intro v' w1 hown' hgrow _;have hB1:Below w.heap.size w w1:=((hB.trans (hb1.mono hB.size)).alloc hbs _).grown hgrow (by simp;omega) (fun j hj=>(World.ownsRow.lt (eG hrow hb1) j hj).1);have hK1:=Iw (rV ((hb1.block Dd (Array.getElem?_eq_some_iff.1 hK).1).trans hK) (.cells #[.int .i64 p,.int .i64 q] 180)) hgrow (World.ownsRow.alloc (eG hrow hb1) _);refine hKk _ _ ?_;clear hKk Kk)
   | (refine eO 4 rfl ?_;go_simp;refine hKk _ _ ?_;clear hKk Kk)
   | refine wpAnyIn_ready (rs:=[0,1]) (by decide +kernel) (by simp) ?_
   | refine wpAnyIn_ready (rs:=[1]) (by decide +kernel) (by simp) ?_
   | refine wpAnyIn_ready (rs:=[2]) (by decide +kernel) (by simp) ?_
   | refine wpAnyIn_ready (rs:=[3]) (by decide +kernel) (by simp) ?_
   | refine wpAnyIn_ready (rs:=[4]) (by decide +kernel) (by simp) ?_
   | refine wpAnyIn_ready (rs:=[5]) (by decide +kernel) (by simp) ?_
   | refine wpAnyIn_ready (rs:=[6]) (by decide +kernel) (by simp) ?_
   | refine wpAnyIn_ready (rs:=[0,2]) (by decide +kernel) (by simp) ?_
   | refine wpAnyIn_ready (rs:=[0,3]) (by decide +kernel) (by simp) ?_
   | refine wpAnyIn_ready (rs:=[0,4]) (by decide +kernel) (by simp) ?_
   | refine wpAnyIn_ready (rs:=[0]) (by decide +kernel) (by simp) ?_
   | (refine wpAnyIn_done (by decide +kernel) ?_ _;gi_wp2;refine⟨by simp,.inl ⟨_,_,rfl,run_takeDeferred hK1,?_⟩⟩;refine⟨_,results_tmp rfl _ _ _,_,rfl,?_,hB1.trans (belowK_b (w:=w) (Nat.le_refl _) w1 Dd _ _ (by have:=ae HDd;simp at this;omega) hK1 rfl rfl)⟩;rw[←ae hFe,ae HPc];exact Ej (ownsRow_putObj hown' (.deferred none) hK1 rfl))
 case stop=>
  rintro D c pre W _ _ h _;exact h.elim
end Go.Proofs.YtkpfkgoiaicgbaaGreatDoor
namespace Go.Proofs.YtkpfkgoiaicgbaaGreatDoor
open Go.RowKit
set_option maxRecDepth 100000
def eM(l:List Fl):Prop:=∀e∈l,e.p.size<=1000/\e.t.size<=1000
theorem eM.app{a b:List Fl}(h:eM a)(k:eM b):eM (a++b):=fun e he=>by
 rcases List.mem_append.1 he with x|x
 · exact h e x
 · exact k e x
theorem eM.take{l:List Fl}(h:eM l)(k:Nat):eM (l.take k):=fun e he=>h e (List.mem_of_mem_take he)
theorem eM.drop{l:List Fl}(h:eM l)(k:Nat):eM (l.drop k):=fun e he=>h e (List.mem_of_mem_drop he)
theorem Dm(l:List Fl)(k:Nat):(l.take k).flatMap aI=(l.flatMap aI).take (k*2):=by
 induction l generalizing k with
 | nil=>simp
 | cons x l ih=>
  cases k with
  | zero=>simp
  | succ k=>
   rw[List.take_succ_cons,List.flatMap_cons,List.flatMap_cons,ih,show(k+1)*2=(aI x).length+k*2 by rw[cR];omega,List.take_length_add_append]
theorem Dj(l:List Fl)(k:Nat):(l.drop k).flatMap aI=(l.flatMap aI).drop (k*2):=by
 induction l generalizing k with
 | nil=>simp
 | cons x l ih=>
  cases k with
  | zero=>simp
  | succ k=>
   rw[List.drop_succ_cons,List.flatMap_cons,ih,show(k+1)*2=(aI x).length+k*2 by rw[cR];omega,List.drop_length_add_append]
theorem rW{w:World}{g:Nat}{l:List Fl}(h:∀j,j<l.length*2->w.cell? ⟨g,j,none⟩=(l.flatMap aI)[j]?)(k:Nat):∀j u,((l.drop k).flatMap aI)[j]?=some u->w.cell? ((⟨g,k*2,none⟩:Addr).add j)=some u:=by
 intro j u hj;rw[Dj,List.getElem?_drop]at hj;have hlt:k*2+j<(l.flatMap aI).length:=(List.getElem?_eq_some_iff.1 hj).1;rw[cO cR]at hlt;have e:(⟨g,k*2,none⟩:Addr).add j=⟨g,k*2+j,none⟩:=by unfold Addr.add;split<;>simp_all
 rw[e,h _ hlt,hj]
theorem bu(l:List Fl):∀u∈l.flatMap aI,u.oneCell'=true:=fun u hu=>by
 obtain⟨x,_,hx⟩:=List.mem_flatMap.1 hu;exact db x u hx
def sy(w:World)(g:Nat)(l:List Fl):Prop:=g<w.heap.size/\∀j,j<l.length*2->w.cell? ⟨g,j,none⟩=(l.flatMap aI)[j]?
theorem sy.later{w w':World}{g:Nat}{l:List Fl}(h:sy w g l)(hb:Below w.heap.size w w'):sy w' g l:=⟨Nat.lt_of_lt_of_le h.1 hb.size,fun j hj=>by rw[hb.cell (p:=⟨g,j,none⟩) h.1];exact h.2 j hj⟩
theorem sy.at{w:World}{g:Nat}{l:List Fl}(h:sy w g l)(i:Nat)(hi:i<l.length):w.cell? ⟨g,i*2,none⟩=some (.string (l.getD i default).p):=by
 have e:=flat_get cR l default i 0 hi (by omega);rw[Nat.add_zero]at e;rw[h.2 _ (by omega),e];rfl
theorem xO{w:World}{base g cap:Nat}{l:List Fl}(h:gO w base (.slice (some ⟨g,0,none⟩) l.length cap) l):sy w g l:=by
 refine⟨(World.ownsRow.lt h g rfl).2,fun j hj=>?_⟩;rw[World.ownsRow.cellAt h j hj]
structure PSt (w:World) (p t:ByteArray) (W:World):Prop where
 below:Below w.heap.size w W
 lt:w.heap.size<W.heap.size
 c0:W.cell? ⟨w.heap.size,0,none⟩=some (.string p)
 c1:W.cell? ⟨w.heap.size,1,none⟩=some (.string t)
theorem PSt.drew{w W:World}{p t:ByteArray}(h:PSt w p t W):PSt w p t W.drew:=⟨h.1.drew,h.2,h.3,h.4⟩
theorem PSt.drewN{w W:World}{p t:ByteArray}(h:PSt w p t W)(n:Nat):PSt w p t (W.drewN n):=⟨below_drewN h.1 n,h.2,h.3,h.4⟩
theorem PSt.alloc{w W:World}{p t:ByteArray}(h:PSt w p t W)(o:Obj):PSt w p t (W.alloc o):=by
 have hb:Below W.heap.size W (W.alloc o):=(Below.refl _ _).alloc (Nat.le_refl _) _;exact⟨h.1.alloc (Nat.le_of_lt h.2) o,Nat.lt_of_lt_of_le h.2 hb.size,by rw[hb.cell (p:=⟨w.heap.size,0,none⟩) h.2];exact h.3,by rw[hb.cell (p:=⟨w.heap.size,1,none⟩) h.2];exact h.4⟩
theorem PSt.grown{w W W':World}{p t:ByteArray}{v:Value}{n:Nat}{xs:List Value}(h:PSt w p t W)(ho:W.ownsRow (w.heap.size+1) 39 2 v n xs)(hg:W.grownBy W' v.ownBlock):PSt w p t W':=by
 have hne:some w.heap.size≠v.ownBlock:=fun e=>by have:=(World.ownsRow.lt ho _ e.symm).1;omega
 have hk:=hg.block w.heap.size h.2 hne;exact⟨h.1.grown hg (Nat.le_of_lt h.2) (fun k e=>by have:=(World.ownsRow.lt ho k e).1;omega),Nat.lt_of_lt_of_le h.2 hg.size,by rw[World.cell?_of_block (w:=W) hk (a:=⟨w.heap.size,0,none⟩)];exact h.3,by rw[World.cell?_of_block (w:=W) hk (a:=⟨w.heap.size,1,none⟩)];exact h.4⟩
def dp(W:World)(b G:Nat)(p t:ByteArray):Prop:=b<=G/\G<W.heap.size/\W.cell? ⟨G,0,none⟩=some (.string p)/\W.cell? ⟨G,1,none⟩=some (.string t)
theorem dp.new(W:World)(b:Nat)(hb:b<=W.heap.size)(p t:ByteArray)(ty:TypeId):dp (W.alloc (.cells #[.string p,.string t] ty)) b W.heap.size p t:=⟨hb,by simp,by simp,by simp⟩
theorem dp.alloc{W:World}{b G:Nat}{p t:ByteArray}(h:dp W b G p t)(o:Obj):dp (W.alloc o) b G p t:=by
 have hb:Below W.heap.size W (W.alloc o):=(Below.refl _ _).alloc (Nat.le_refl _) _;exact⟨h.1,Nat.lt_of_lt_of_le h.2.1 hb.size,by rw[hb.cell (p:=⟨G,0,none⟩) h.2.1];exact h.2.2.1,by rw[hb.cell (p:=⟨G,1,none⟩) h.2.1];exact h.2.2.2⟩
theorem dp.grown{W W':World}{b G:Nat}{p t:ByteArray}{row:Option Nat}(h:dp W b G p t)(hg:W.grownBy W' row)(hne:some G≠row):dp W' b G p t:=by
 have hk:=hg.block G h.2.1 hne;exact⟨h.1,Nat.lt_of_lt_of_le h.2.1 hg.size,by rw[World.cell?_of_block (w:=W) hk (a:=⟨G,0,none⟩)];exact h.2.2.1,by rw[World.cell?_of_block (w:=W) hk (a:=⟨G,1,none⟩)];exact h.2.2.2⟩
theorem dp.news{W:World}{b G:Nat}{p t:ByteArray}(h:dp W b G p t):∀j u,(aI ⟨p,t⟩)[j]?=some u->W.cell? ((⟨G,0,none⟩:Addr).add j)=some u:=by
 intro j u hj
 match j,hj with
 | 0,hj=>simp[aI]at hj;subst hj;simpa[Addr.add]using h.2.2.1
 | 1,hj=>simp[aI]at hj;subst hj;simpa[Addr.add]using h.2.2.2
theorem oN{W:World}{g:Nat}{l:List Fl}(h:sy W g l)(k:Nat):∀j u,((l.take k).flatMap aI)[j]?=some u->W.cell? ((⟨g,0,none⟩:Addr).add j)=some u:=by
 intro j u hj;rw[Dm,List.getElem?_take]at hj
 split at hj
 ·
  have hlt:j<(l.flatMap aI).length:=(List.getElem?_eq_some_iff.1 hj).1;rw[cO cR]at hlt;have e:(⟨g,0,none⟩:Addr).add j=⟨g,j,none⟩:=by unfold Addr.add;split<;>simp_all
  rw[e,h.2 _ hlt,hj]
 · cases hj
theorem fg{w W:World}{l:List Fl}{n k j:Nat}{p t:ByteArray}{v:Value}(hn:l.length=n)(hT:eM l)(hp:p.size<=1000)(ht:t.size<=1000)(hj:j<=n)(hk:k<=n)(hkj:k<=j)(hb:Below w.heap.size w W)
  (ho:World.ownsRow W (w.heap.size+1) 39 2 v (0+k+1+(n-j)) ([]++(l.take k).flatMap aI++aI ⟨p,t⟩++(l.drop j).flatMap aI)) (hv:v ≠ .slice none 0 0) (hput:bq l ⟨p,t⟩=l.take k++⟨p,t⟩ :: l.drop j) :
  (∃v' l',Ending.returned v = .returned v'/\l'.length<=n+1/\gO W w.heap.size v' l'/\v' ≠ .slice none 0 0/\eM l'/\l'=bq l ⟨p,t⟩)/\Below w.heap.size w W:=by
 have hlen:(l.take k++⟨p,t⟩ :: l.drop j).length=0+k+1+(n-j):=by simp;omega
 refine⟨⟨v,l.take k++⟨p,t⟩ :: l.drop j,rfl,by rw[hlen];omega,?_,hv,(hT.take k).app ?_,hput.symm⟩,hb⟩
 ·
  have h1:World.ownsRow W (w.heap.size+1) 39 2 v (l.take k++⟨p,t⟩ :: l.drop j).length ((l.take k++⟨p,t⟩ :: l.drop j).flatMap aI):=by
   rw[hlen];simpa using ho
  exact be.mono h1 (Nat.le_succ _)
 ·
  intro e he;rcases List.mem_cons.1 he with rfl|he
  · exact⟨hp,ht⟩
  · exact hT.drop j e he
theorem wT(g cap n:Nat)(l:List Fl)(p t:ByteArray)(w:World)(hn:l.length=n)(h:sy w g l)(hl:n<=20)(hcap:n<=cap)(hT:eM l)(hp:p.size<=1000)(ht:t.size<=1000) :
  Calls Tryz.prog 57 #[.slice (some ⟨g,0,none⟩) n cap,.agg #[.string p,.string t]] w fun e w'=>(∃v l',e = .returned v/\l'.length<=n+1/\gO w' w.heap.size v l'/\v ≠ .slice none 0 0/\eM l'/\l'=bq l ⟨p,t⟩)/\Below w.heap.size w w':=by
 have hmix:Tryz.prog.follows .mixedOrders=true:=by kernel_rfl
 obtain⟨i0,hi,hz0,hz1,hz2⟩:=info_parts Tryz.infoFile;have hnI:(n:Int)<=20:=by omega
 have hcI:(n:Int)<=(cap:Int):=by omega
 have HN:=af (And.intro hn (And.intro hl (And.intro hT (And.intro hp ht))));have HF:=af h;have HI:Hid (PSt w p t (w.alloc (.cells #[.string p,.string t] 39))):=⟨(Below.refl _ _).alloc (Nat.le_refl _) _,by simp,by simp,by simp⟩;clear hn h hl hT hp ht;go_enter Tryz.func57,Tryz.ntmps57;go_wp2_with fail
 go_loopw [5] (fun i wr=>∃k:Nat,k<=n/\i = .int .i64 k/\PSt w p t wr/\∀j,j<k->ltP (l.getD j default).p p=true) (fun i _=>n-(intOf i).toNat)
 case atStart=>exact⟨0,Nat.zero_le _,rfl,ae HI,fun j hj=>absurd hj (by omega)⟩
 case round=>
  obtain⟨k,hk,rfl,hst,hlo⟩:=hrel;have HLo:=af hlo;clear hlo;clear HI;have HP:=af hst;obtain⟨_,hsz,c0,c1⟩:=hst;have Hk:=af hk;have k4:IntKind.i64.wrap ((k:Int)+1)=(k:Int)+1:=by simp only[IntKind.wrap,IntKind.bits,IntKind.signed];simp;omega
  have kI:(k:Int)<=(n:Int):=by omega
  by_cases hlt:k<n
  ·
   have hltI:(k:Int)<(n:Int):=by omega
   have hF2:=(ae HF).later (ae HP).below;have ck:=hF2.at k (by rw[(ae HN).1];exact hlt);obtain⟨q,hq⟩:∃q,(l.getD k default).p=q:=⟨_,rfl⟩;rw[hq]at ck;have HQ:=af hq;clear hq;have hgl:g<wr.heap.size:=hF2.1;clear hF2;cases hB:Op.bytesLess q.toList p.toList
   ·
    go_wp2_with fail
    go_quiet (fail)
    have HPq:=af ((ae HP).drewN nq);have ckq:(wr.drewN nq).cell? ⟨g,k*2,none⟩=some (.string q):=ck;obtain⟨_,hszq,c0q,c1q⟩:=(ae HP).drewN nq;generalize wr.drewN nq=wq at *
    go_wp2_with fail;cases hE:(q.toList == p.toList)
    ·
     have HPut:Hid (bq l ⟨p,t⟩=l.take k++⟨p,t⟩ :: l.drop k):=by
      have hpos:dG l p=k:=vn (by rw[(ae HN).1];exact Nat.le_of_lt hlt) (ae HLo) (fun _=>by rw[ae HQ];exact hB);have:=rQ (l:=l) (f:=⟨p,t⟩) (by rw[hpos];intro _ e;rw[ae HQ]at e;rw[e]at hE;simp at hE);rw[hpos]at this;exact this
     go_quiet (fail)
     go_wp2_with fail;have HP0:=af ((ae HPq).drewN nq);generalize wq.drewN nq=W0 at *
     have hj:k<=n:=by have:=ae Hk;omega
     obtain⟨AD,hAD⟩:∃AD,(if cap=k then some (⟨g,0,none⟩:Addr)else some ⟨g,(k)*2,none⟩)=some AD:=by split<;>exact⟨_,rfl⟩
     have HAD:=af hAD;clear hAD;have hkl:k<=l.length:=by rw[(ae HN).1];have:=ae Hk;omega
     have HBd:Hid (∀x,x<=40->x<=maxLen/\x*32<=140737488355328):=fun x hx=>by unfold maxLen;omega
     have HL1:Hid (((l.take k).flatMap aI).length=k*2):=by show _=_;rw[cO cR,List.length_take];omega
     have HL2:Hid (((l.drop (k)).flatMap aI).length=(n-(k))*2):=by show _=_;rw[cO cR,List.length_drop,(ae HN).1]
     have HTl:Hid (∀W,PSt w p t W->∀i u,((l.drop (k)).flatMap aI)[i]?=some u->W.cell? (AD.add i)=some u):=fun W hW i u hu=>by
      have hF:=(ae HF).later hW.below;have hlt:i<((l.drop (k)).flatMap aI).length:=(List.getElem?_eq_some_iff.1 hu).1;rw[ae HL2]at hlt;have e:AD=⟨g,(k)*2,none⟩:=by
       have:=ae HAD;rw[if_neg (by omega)]at this;exact(Option.some.inj this).symm
      rw[e];exact rW hF.2 (k) i u hu
     have HTk:Hid (∀W,PSt w p t W->∀i u,((l.take k).flatMap aI)[i]?=some u->W.cell? ((⟨g,0,none⟩:Addr).add i)=some u):=fun W hW=>oN ((ae HF).later hW.below) k;refine wp_region_held_drew (S:=fun W=>W.cell? ⟨w.heap.size,0,none⟩=some (.string p)/\W.cell? ⟨w.heap.size,1,none⟩=some (.string t)) hmix ⟨(ae HP0).3,(ae HP0).4⟩ (fun hS=>?_);refine ag 1 (.slice (some ⟨g,0,none⟩) n cap) rfl (by kernel_rfl) (fun _ _ _ h=>h) rfl (fun W hSw=>by obtain⟨hs0,hs1⟩:=hSw;go_simp) hS ?_;refine ag 2 (.int .i64 (k:Nat)) rfl (by kernel_rfl) (fun _ _ _ h=>h) rfl (fun W hSw=>by obtain⟨hs0,hs1⟩:=hSw;go_simp) hS ?_;refine ag 3 (.slice (some ⟨g,0,none⟩) k cap) rfl (by kernel_rfl) (fun _ _ _ h=>h) rfl (fun W hSw=>by obtain⟨hs0,hs1⟩:=hSw;go_simp<;>(intro h;omega)) hS ?_;refine ag 5 (.agg #[.string p,.string t]) rfl (by kernel_rfl) (fun _ _ _ h=>h) rfl (fun W hSw=>by obtain⟨hs0,hs1⟩:=hSw;go_simp) hS ?_;refine ag 8 (.slice (some ⟨g,0,none⟩) n cap) rfl (by kernel_rfl) (fun _ _ _ h=>h) rfl (fun W hSw=>by obtain⟨hs0,hs1⟩:=hSw;go_simp) hS ?_;refine ag 9 (.int .i64 (k:Nat)) rfl (by kernel_rfl) (fun _ _ _ h=>h) rfl (fun W hSw=>by obtain⟨hs0,hs1⟩:=hSw;go_simp) hS ?_;refine ag 10 (.slice (some AD) (n-(k)) (cap-(k))) rfl (by kernel_rfl) (fun _ _ _ h=>h) rfl (fun W hSw=>by obtain⟨hs0,hs1⟩:=hSw;go_simp;first|(rw[if_pos (by omega),ae HAD])|(rw[ae HAD])|skip) hS ?_;clear hS;have HP1:Hid (PSt w p t W0.drew):=(ae HP0).drew;generalize W0.drew=W1 at *
     refine wpAnyH_ready (rs:=[0,6]) (by kernel_rfl) (by simp) ?_;refine AllReadyH.cons rfl (fun K hK=>?_) (AllReadyH.cons rfl (fun K hK=>?_) (AllReadyH.nil))
     ·
      go_simp;have HP2:Hid (PSt w p t (W1.alloc (.cells #[] 39))):=(ae HP1).alloc _;have HO2:Hid (World.ownsRow (W1.alloc (.cells #[] 39)) (w.heap.size+1) 39 2 (.slice (some ⟨W1.heap.size,0,none⟩) 0 0) 0 []):=World.ownsRow_lit W1 #[] 0 (ae HP1).2 (by unfold maxLen;omega) rfl;refine Shut.out hK _ _ ⟨(ae HP2).3,(ae HP2).4⟩ (fun _=>?_);clear hK K;obtain⟨G0,hG0⟩:∃x,W1.heap.size=x:=⟨_,rfl⟩;obtain⟨W2,hW2⟩:∃x,W1.alloc (.cells #[] 39)=x:=⟨_,rfl⟩;rw[hG0,hW2]at HO2;rw[hW2]at HP2;rw[hG0,hW2];refine wpAnyH_ready (rs:=[4,6]) (by kernel_rfl) (by simp) ?_;refine AllReadyH.cons rfl (fun K hK=>?_) (AllReadyH.cons rfl (fun K hK=>?_) (AllReadyH.nil))
      ·
       refine an rfl (.tmp 49) (.tmp 52) 23 rfl (w.heap.size+1) 39 i0 (.agg #[.string ⟨#[]⟩,.string ⟨#[]⟩]) 2 32 Tryz.underlying23 hi hz0 hz1 hz2 rfl (by decide) (Value.slice (some ⟨G0,0,none⟩) 0 0) (0) ([]) rfl (ae HO2) ⟨g,0,none⟩ (k) (cap) ((l.take k).flatMap aI) rfl (ae HL1) (ae HTk _ (ae HP2)) (bu _) (ae HBd _ (by have:=ae HN;omega)).1 (ae HBd _ (by have:=ae HN;omega)).2 (ae HP2).2 ?_;intro v3 W3 hown hgrow hnil;have HP3:Hid (PSt w p t W3):=(ae HP2).grown (ae HO2) hgrow;have HO3:=af hown;have hn3:v3 ≠ .slice none 0 0:=fun e=>by have:=(hnil.1 e).1;cases this
       clear hown hgrow hnil;refine Shut.out hK _ _ ⟨(ae HP3).3,(ae HP3).4⟩ (fun _=>?_);clear hK K;refine ah 6 (by kernel_rfl) rfl fun K hK=>?_;go_simp;have HP4:Hid (PSt w p t (W3.alloc (.cells #[.string p,.string t] 39))):=(ae HP3).alloc _;have HX4:Hid (dp (W3.alloc (.cells #[.string p,.string t] 39)) (w.heap.size+1) W3.heap.size p t):=dp.new _ _ (ae HP3).2 _ _ _;have HO4:=af (World.ownsRow.alloc (ae HO3) (.cells #[.string p,.string t] 39));have hown6:∀jj,v3.ownBlock=some jj->jj<W3.heap.size:=fun jj hjj=>(World.ownsRow.lt (ae HO3) jj hjj).2;refine Shut.out hK _ _ ⟨(ae HP4).3,(ae HP4).4⟩ (fun _=>?_);clear hK K;obtain⟨G6,hG6⟩:∃x,W3.heap.size=x:=⟨_,rfl⟩;obtain⟨W4,hW4⟩:∃x,W3.alloc (.cells #[.string p,.string t] 39)=x:=⟨_,rfl⟩;rw[hG6,hW4]at HX4;rw[hW4]at HP4;rw[hW4]at HO4;rw[hG6]at hown6;rw[hG6,hW4];refine ah 7 (by kernel_rfl) rfl fun K hK=>?_;refine an rfl (.tmp 53) (.tmp 55) 23 rfl (w.heap.size+1) 39 i0 (.agg #[.string ⟨#[]⟩,.string ⟨#[]⟩]) 2 32 Tryz.underlying23 hi hz0 hz1 hz2 rfl (by decide) v3 (0+k) ([]++(l.take k).flatMap aI) rfl (ae HO4) ⟨G6,0,none⟩ (1) (1) (aI ⟨p,t⟩) rfl rfl (ae HX4).news (db _) (ae HBd _ (by have:=ae HN;omega)).1 (ae HBd _ (by have:=ae HN;omega)).2 (ae HP4).2 ?_;intro v8 W8 hown hgrow hnil;have HP8:Hid (PSt w p t W8):=(ae HP4).grown (ae HO4) hgrow;have HO8:=af hown;have hn8:v8 ≠ .slice none 0 0:=fun e=>hn3 (hnil.1 e).1;clear hown hgrow hnil;refine Shut.out hK _ _ ⟨(ae HP8).3,(ae HP8).4⟩ (fun _=>?_);clear hK K;refine ah 11 (by kernel_rfl) rfl fun K hK=>?_;refine an rfl (.tmp 56) (.tmp 59) 23 rfl (w.heap.size+1) 39 i0 (.agg #[.string ⟨#[]⟩,.string ⟨#[]⟩]) 2 32 Tryz.underlying23 hi hz0 hz1 hz2 rfl (by decide) v8 (0+k+1) ([]++(l.take k).flatMap aI++aI ⟨p,t⟩) rfl (ae HO8) AD (n-(k)) (cap-(k)) ((l.drop (k)).flatMap aI) rfl (ae HL2) (ae HTl _ (ae HP8)) (bu _) (ae HBd _ (by have:=ae HN;omega)).1 (ae HBd _ (by have:=ae HN;omega)).2 (ae HP8).2 ?_;intro v9 W9 hown hgrow hnil;have HP9:Hid (PSt w p t W9):=(ae HP8).grown (ae HO8) hgrow;have HO9:=af hown;have hn9:v9 ≠ .slice none 0 0:=fun e=>hn8 (hnil.1 e).1;clear hown hgrow hnil;refine Shut.out hK _ _ ⟨(ae HP9).3,(ae HP9).4⟩ (fun _=>?_);clear hK K;refine ah 12 (by kernel_rfl) rfl fun K hK=>?_;go_simp;refine Shut.out hK _ _ ⟨(ae HP9).3,(ae HP9).4⟩ (fun _=>?_);clear hK K;refine wpAnyH_done (by kernel_rfl) ?_ _;go_wp2;go_ret;exact fg (ae HN).1 (ae HN).2.2.1 (ae HN).2.2.2.1 (ae HN).2.2.2.2 hj (by have:=ae Hk;omega) (by omega) (ae HP9).below (ae HO9) hn9 (ae HPut)
      ·
       go_simp;have HP3:Hid (PSt w p t (W2.alloc (.cells #[.string p,.string t] 39))):=(ae HP2).alloc _;have HX3:Hid (dp (W2.alloc (.cells #[.string p,.string t] 39)) (w.heap.size+1) W2.heap.size p t):=dp.new _ _ (ae HP2).2 _ _ _;have HO3:=af (World.ownsRow.alloc (ae HO2) (.cells #[.string p,.string t] 39));have hown6:∀jj,(Value.slice (some ⟨G0,0,none⟩) 0 0).ownBlock=some jj->jj<W2.heap.size:=fun jj hjj=>(World.ownsRow.lt (ae HO2) jj hjj).2;refine Shut.out hK _ _ ⟨(ae HP3).3,(ae HP3).4⟩ (fun _=>?_);clear hK K;obtain⟨G6,hG6⟩:∃x,W2.heap.size=x:=⟨_,rfl⟩;obtain⟨W3,hW3⟩:∃x,W2.alloc (.cells #[.string p,.string t] 39)=x:=⟨_,rfl⟩;rw[hG6,hW3]at HX3;rw[hW3]at HP3;rw[hW3]at HO3;rw[hG6]at hown6;rw[hG6,hW3];refine ah 4 (by kernel_rfl) rfl fun K hK=>?_;have hlt0:G0<G6:=hown6 G0 rfl;refine an rfl (.tmp 49) (.tmp 52) 23 rfl (w.heap.size+1) 39 i0 (.agg #[.string ⟨#[]⟩,.string ⟨#[]⟩]) 2 32 Tryz.underlying23 hi hz0 hz1 hz2 rfl (by decide) (Value.slice (some ⟨G0,0,none⟩) 0 0) (0) ([]) rfl (ae HO3) ⟨g,0,none⟩ (k) (cap) ((l.take k).flatMap aI) rfl (ae HL1) (ae HTk _ (ae HP3)) (bu _) (ae HBd _ (by have:=ae HN;omega)).1 (ae HBd _ (by have:=ae HN;omega)).2 (ae HP3).2 ?_;intro v4 W4 hown hgrow hnil;have HP4:Hid (PSt w p t W4):=(ae HP3).grown (ae HO3) hgrow;have HO4:=af hown;have HX4:Hid (dp W4 (w.heap.size+1) G6 p t):=(ae HX3).grown hgrow (fun e=>by have h6:G6=G0:=Option.some.inj e;omega);have hn4:v4 ≠ .slice none 0 0:=fun e=>by have:=(hnil.1 e).1;cases this
       clear hown hgrow hnil;refine Shut.out hK _ _ ⟨(ae HP4).3,(ae HP4).4⟩ (fun _=>?_);clear hK K;refine ah 7 (by kernel_rfl) rfl fun K hK=>?_;refine an rfl (.tmp 53) (.tmp 55) 23 rfl (w.heap.size+1) 39 i0 (.agg #[.string ⟨#[]⟩,.string ⟨#[]⟩]) 2 32 Tryz.underlying23 hi hz0 hz1 hz2 rfl (by decide) v4 (0+k) ([]++(l.take k).flatMap aI) rfl (ae HO4) ⟨G6,0,none⟩ (1) (1) (aI ⟨p,t⟩) rfl rfl (ae HX4).news (db _) (ae HBd _ (by have:=ae HN;omega)).1 (ae HBd _ (by have:=ae HN;omega)).2 (ae HP4).2 ?_;intro v8 W8 hown hgrow hnil;have HP8:Hid (PSt w p t W8):=(ae HP4).grown (ae HO4) hgrow;have HO8:=af hown;have hn8:v8 ≠ .slice none 0 0:=fun e=>hn4 (hnil.1 e).1;clear hown hgrow hnil;refine Shut.out hK _ _ ⟨(ae HP8).3,(ae HP8).4⟩ (fun _=>?_);clear hK K;refine ah 11 (by kernel_rfl) rfl fun K hK=>?_;refine an rfl (.tmp 56) (.tmp 59) 23 rfl (w.heap.size+1) 39 i0 (.agg #[.string ⟨#[]⟩,.string ⟨#[]⟩]) 2 32 Tryz.underlying23 hi hz0 hz1 hz2 rfl (by decide) v8 (0+k+1) ([]++(l.take k).flatMap aI++aI ⟨p,t⟩) rfl (ae HO8) AD (n-(k)) (cap-(k)) ((l.drop (k)).flatMap aI) rfl (ae HL2) (ae HTl _ (ae HP8)) (bu _) (ae HBd _ (by have:=ae HN;omega)).1 (ae HBd _ (by have:=ae HN;omega)).2 (ae HP8).2 ?_;intro v9 W9 hown hgrow hnil;have HP9:Hid (PSt w p t W9):=(ae HP8).grown (ae HO8) hgrow;have HO9:=af hown;have hn9:v9 ≠ .slice none 0 0:=fun e=>hn8 (hnil.1 e).1;clear hown hgrow hnil;refine Shut.out hK _ _ ⟨(ae HP9).3,(ae HP9).4⟩ (fun _=>?_);clear hK K;refine ah 12 (by kernel_rfl) rfl fun K hK=>?_;go_simp;refine Shut.out hK _ _ ⟨(ae HP9).3,(ae HP9).4⟩ (fun _=>?_);clear hK K;refine wpAnyH_done (by kernel_rfl) ?_ _;go_wp2;go_ret;exact fg (ae HN).1 (ae HN).2.2.1 (ae HN).2.2.2.1 (ae HN).2.2.2.2 hj (by have:=ae Hk;omega) (by omega) (ae HP9).below (ae HO9) hn9 (ae HPut)
     ·
      go_simp;have HP2:Hid (PSt w p t (W1.alloc (.cells #[.string p,.string t] 39))):=(ae HP1).alloc _;have HX2:Hid (dp (W1.alloc (.cells #[.string p,.string t] 39)) (w.heap.size+1) W1.heap.size p t):=dp.new _ _ (ae HP1).2 _ _ _;refine Shut.out hK _ _ ⟨(ae HP2).3,(ae HP2).4⟩ (fun _=>?_);clear hK K;obtain⟨G6,hG6⟩:∃x,W1.heap.size=x:=⟨_,rfl⟩;obtain⟨W2,hW2⟩:∃x,W1.alloc (.cells #[.string p,.string t] 39)=x:=⟨_,rfl⟩;rw[hG6,hW2]at HX2;rw[hW2]at HP2;rw[hG6,hW2];refine ah 0 (by kernel_rfl) rfl fun K hK=>?_;go_simp;have HP3:Hid (PSt w p t (W2.alloc (.cells #[] 39))):=(ae HP2).alloc _;have HO3:Hid (World.ownsRow (W2.alloc (.cells #[] 39)) (w.heap.size+1) 39 2 (.slice (some ⟨W2.heap.size,0,none⟩) 0 0) 0 []):=World.ownsRow_lit W2 #[] 0 (ae HP2).2 (by unfold maxLen;omega) rfl;have HX3:Hid (dp (W2.alloc (.cells #[] 39)) (w.heap.size+1) G6 p t):=(ae HX2).alloc _;have hlt6:G6<W2.heap.size:=(ae HX2).2.1;refine Shut.out hK _ _ ⟨(ae HP3).3,(ae HP3).4⟩ (fun _=>?_);clear hK K;obtain⟨G0,hG0⟩:∃x,W2.heap.size=x:=⟨_,rfl⟩;obtain⟨W3,hW3⟩:∃x,W2.alloc (.cells #[] 39)=x:=⟨_,rfl⟩;rw[hG0,hW3]at HO3;rw[hW3]at HP3;rw[hW3]at HX3;rw[hG0,hW3];refine ah 4 (by kernel_rfl) rfl fun K hK=>?_;have hlt0:G6<G0:=by omega
      refine an rfl (.tmp 49) (.tmp 52) 23 rfl (w.heap.size+1) 39 i0 (.agg #[.string ⟨#[]⟩,.string ⟨#[]⟩]) 2 32 Tryz.underlying23 hi hz0 hz1 hz2 rfl (by decide) (Value.slice (some ⟨G0,0,none⟩) 0 0) (0) ([]) rfl (ae HO3) ⟨g,0,none⟩ (k) (cap) ((l.take k).flatMap aI) rfl (ae HL1) (ae HTk _ (ae HP3)) (bu _) (ae HBd _ (by have:=ae HN;omega)).1 (ae HBd _ (by have:=ae HN;omega)).2 (ae HP3).2 ?_;intro v4 W4 hown hgrow hnil;have HP4:Hid (PSt w p t W4):=(ae HP3).grown (ae HO3) hgrow;have HO4:=af hown;have HX4:Hid (dp W4 (w.heap.size+1) G6 p t):=(ae HX3).grown hgrow (fun e=>by have h6:G6=G0:=Option.some.inj e;omega);have hn4:v4 ≠ .slice none 0 0:=fun e=>by have:=(hnil.1 e).1;cases this
      clear hown hgrow hnil;refine Shut.out hK _ _ ⟨(ae HP4).3,(ae HP4).4⟩ (fun _=>?_);clear hK K;refine ah 7 (by kernel_rfl) rfl fun K hK=>?_;refine an rfl (.tmp 53) (.tmp 55) 23 rfl (w.heap.size+1) 39 i0 (.agg #[.string ⟨#[]⟩,.string ⟨#[]⟩]) 2 32 Tryz.underlying23 hi hz0 hz1 hz2 rfl (by decide) v4 (0+k) ([]++(l.take k).flatMap aI) rfl (ae HO4) ⟨G6,0,none⟩ (1) (1) (aI ⟨p,t⟩) rfl rfl (ae HX4).news (db _) (ae HBd _ (by have:=ae HN;omega)).1 (ae HBd _ (by have:=ae HN;omega)).2 (ae HP4).2 ?_;intro v8 W8 hown hgrow hnil;have HP8:Hid (PSt w p t W8):=(ae HP4).grown (ae HO4) hgrow;have HO8:=af hown;have hn8:v8 ≠ .slice none 0 0:=fun e=>hn4 (hnil.1 e).1;clear hown hgrow hnil;refine Shut.out hK _ _ ⟨(ae HP8).3,(ae HP8).4⟩ (fun _=>?_);clear hK K;refine ah 11 (by kernel_rfl) rfl fun K hK=>?_;refine an rfl (.tmp 56) (.tmp 59) 23 rfl (w.heap.size+1) 39 i0 (.agg #[.string ⟨#[]⟩,.string ⟨#[]⟩]) 2 32 Tryz.underlying23 hi hz0 hz1 hz2 rfl (by decide) v8 (0+k+1) ([]++(l.take k).flatMap aI++aI ⟨p,t⟩) rfl (ae HO8) AD (n-(k)) (cap-(k)) ((l.drop (k)).flatMap aI) rfl (ae HL2) (ae HTl _ (ae HP8)) (bu _) (ae HBd _ (by have:=ae HN;omega)).1 (ae HBd _ (by have:=ae HN;omega)).2 (ae HP8).2 ?_;intro v9 W9 hown hgrow hnil;have HP9:Hid (PSt w p t W9):=(ae HP8).grown (ae HO8) hgrow;have HO9:=af hown;have hn9:v9 ≠ .slice none 0 0:=fun e=>hn8 (hnil.1 e).1;clear hown hgrow hnil;refine Shut.out hK _ _ ⟨(ae HP9).3,(ae HP9).4⟩ (fun _=>?_);clear hK K;refine ah 12 (by kernel_rfl) rfl fun K hK=>?_;go_simp;refine Shut.out hK _ _ ⟨(ae HP9).3,(ae HP9).4⟩ (fun _=>?_);clear hK K;refine wpAnyH_done (by kernel_rfl) ?_ _;go_wp2;go_ret;exact fg (ae HN).1 (ae HN).2.2.1 (ae HN).2.2.2.1 (ae HN).2.2.2.2 hj (by have:=ae Hk;omega) (by omega) (ae HP9).below (ae HO9) hn9 (ae HPut)
    ·
     have HPut:Hid (bq l ⟨p,t⟩=l.take k++⟨p,t⟩ :: l.drop (k+1)):=by
      have hpos:dG l p=k:=vn (by rw[(ae HN).1];exact Nat.le_of_lt hlt) (ae HLo) (fun _=>by rw[ae HQ];exact hB);have hqp:q=p:=ByteArray.ext (Array.toList_inj.1 (by have:=hE;simp only[beq_iff_eq]at this;rw[Lib.toList_data,Lib.toList_data]at this;exact this));have:=tR (l:=l) (f:=⟨p,t⟩) (by rw[hpos,(ae HN).1];exact hlt) (by rw[hpos,ae HQ];exact hqp);rw[hpos]at this;exact this
     go_quiet (fail)
     go_wp2_with fail;have HP0:=af ((ae HPq).drewN nq);generalize wq.drewN nq=W0 at *
     have hj:k+1<=n:=by have:=ae Hk;omega
     obtain⟨AD,hAD⟩:∃AD,(if cap=k+1 then some (⟨g,0,none⟩:Addr)else some ⟨g,(k+1)*2,none⟩)=some AD:=by split<;>exact⟨_,rfl⟩
     have HAD:=af hAD;clear hAD;have hkl:k<=l.length:=by rw[(ae HN).1];have:=ae Hk;omega
     have HBd:Hid (∀x,x<=40->x<=maxLen/\x*32<=140737488355328):=fun x hx=>by unfold maxLen;omega
     have HL1:Hid (((l.take k).flatMap aI).length=k*2):=by show _=_;rw[cO cR,List.length_take];omega
     have HL2:Hid (((l.drop (k+1)).flatMap aI).length=(n-(k+1))*2):=by show _=_;rw[cO cR,List.length_drop,(ae HN).1]
     have HTl:Hid (∀W,PSt w p t W->∀i u,((l.drop (k+1)).flatMap aI)[i]?=some u->W.cell? (AD.add i)=some u):=fun W hW i u hu=>by
      have hF:=(ae HF).later hW.below;have hlt:i<((l.drop (k+1)).flatMap aI).length:=(List.getElem?_eq_some_iff.1 hu).1;rw[ae HL2]at hlt;have e:AD=⟨g,(k+1)*2,none⟩:=by
       have:=ae HAD;rw[if_neg (by omega)]at this;exact(Option.some.inj this).symm
      rw[e];exact rW hF.2 (k+1) i u hu
     have HTk:Hid (∀W,PSt w p t W->∀i u,((l.take k).flatMap aI)[i]?=some u->W.cell? ((⟨g,0,none⟩:Addr).add i)=some u):=fun W hW=>oN ((ae HF).later hW.below) k;refine wp_region_held_drew (S:=fun W=>W.cell? ⟨w.heap.size,0,none⟩=some (.string p)/\W.cell? ⟨w.heap.size,1,none⟩=some (.string t)) hmix ⟨(ae HP0).3,(ae HP0).4⟩ (fun hS=>?_);refine ag 1 (.slice (some ⟨g,0,none⟩) n cap) rfl (by kernel_rfl) (fun _ _ _ h=>h) rfl (fun W hSw=>by obtain⟨hs0,hs1⟩:=hSw;go_simp) hS ?_;refine ag 2 (.int .i64 (k:Nat)) rfl (by kernel_rfl) (fun _ _ _ h=>h) rfl (fun W hSw=>by obtain⟨hs0,hs1⟩:=hSw;go_simp) hS ?_;refine ag 3 (.slice (some ⟨g,0,none⟩) k cap) rfl (by kernel_rfl) (fun _ _ _ h=>h) rfl (fun W hSw=>by obtain⟨hs0,hs1⟩:=hSw;go_simp<;>(intro h;omega)) hS ?_;refine ag 5 (.agg #[.string p,.string t]) rfl (by kernel_rfl) (fun _ _ _ h=>h) rfl (fun W hSw=>by obtain⟨hs0,hs1⟩:=hSw;go_simp) hS ?_;refine ag 8 (.slice (some ⟨g,0,none⟩) n cap) rfl (by kernel_rfl) (fun _ _ _ h=>h) rfl (fun W hSw=>by obtain⟨hs0,hs1⟩:=hSw;go_simp) hS ?_;refine ag 9 (.int .i64 (k:Nat)) rfl (by kernel_rfl) (fun _ _ _ h=>h) rfl (fun W hSw=>by obtain⟨hs0,hs1⟩:=hSw;go_simp) hS ?_;refine ag 10 (.int .i64 ((k:Int)+1)) rfl (by kernel_rfl) (fun _ _ _ h=>h) rfl (fun W hSw=>by obtain⟨hs0,hs1⟩:=hSw;go_simp) hS ?_;refine ag 11 (.slice (some AD) (n-(k+1)) (cap-(k+1))) rfl (by kernel_rfl) (fun _ _ _ h=>h) rfl (fun W hSw=>by obtain⟨hs0,hs1⟩:=hSw;go_simp;first|(rw[if_pos (by omega),ae HAD])|(rw[ae HAD])|skip) hS ?_;clear hS;have HP1:Hid (PSt w p t W0.drew):=(ae HP0).drew;generalize W0.drew=W1 at *
     refine wpAnyH_ready (rs:=[0,6]) (by kernel_rfl) (by simp) ?_;refine AllReadyH.cons rfl (fun K hK=>?_) (AllReadyH.cons rfl (fun K hK=>?_) (AllReadyH.nil))
     ·
      go_simp;have HP2:Hid (PSt w p t (W1.alloc (.cells #[] 39))):=(ae HP1).alloc _;have HO2:Hid (World.ownsRow (W1.alloc (.cells #[] 39)) (w.heap.size+1) 39 2 (.slice (some ⟨W1.heap.size,0,none⟩) 0 0) 0 []):=World.ownsRow_lit W1 #[] 0 (ae HP1).2 (by unfold maxLen;omega) rfl;refine Shut.out hK _ _ ⟨(ae HP2).3,(ae HP2).4⟩ (fun _=>?_);clear hK K;obtain⟨G0,hG0⟩:∃x,W1.heap.size=x:=⟨_,rfl⟩;obtain⟨W2,hW2⟩:∃x,W1.alloc (.cells #[] 39)=x:=⟨_,rfl⟩;rw[hG0,hW2]at HO2;rw[hW2]at HP2;rw[hG0,hW2];refine wpAnyH_ready (rs:=[4,6]) (by kernel_rfl) (by simp) ?_;refine AllReadyH.cons rfl (fun K hK=>?_) (AllReadyH.cons rfl (fun K hK=>?_) (AllReadyH.nil))
      ·
       refine an rfl (.tmp 36) (.tmp 39) 23 rfl (w.heap.size+1) 39 i0 (.agg #[.string ⟨#[]⟩,.string ⟨#[]⟩]) 2 32 Tryz.underlying23 hi hz0 hz1 hz2 rfl (by decide) (Value.slice (some ⟨G0,0,none⟩) 0 0) (0) ([]) rfl (ae HO2) ⟨g,0,none⟩ (k) (cap) ((l.take k).flatMap aI) rfl (ae HL1) (ae HTk _ (ae HP2)) (bu _) (ae HBd _ (by have:=ae HN;omega)).1 (ae HBd _ (by have:=ae HN;omega)).2 (ae HP2).2 ?_;intro v3 W3 hown hgrow hnil;have HP3:Hid (PSt w p t W3):=(ae HP2).grown (ae HO2) hgrow;have HO3:=af hown;have hn3:v3 ≠ .slice none 0 0:=fun e=>by have:=(hnil.1 e).1;cases this
       clear hown hgrow hnil;refine Shut.out hK _ _ ⟨(ae HP3).3,(ae HP3).4⟩ (fun _=>?_);clear hK K;refine ah 6 (by kernel_rfl) rfl fun K hK=>?_;go_simp;have HP4:Hid (PSt w p t (W3.alloc (.cells #[.string p,.string t] 39))):=(ae HP3).alloc _;have HX4:Hid (dp (W3.alloc (.cells #[.string p,.string t] 39)) (w.heap.size+1) W3.heap.size p t):=dp.new _ _ (ae HP3).2 _ _ _;have HO4:=af (World.ownsRow.alloc (ae HO3) (.cells #[.string p,.string t] 39));have hown6:∀jj,v3.ownBlock=some jj->jj<W3.heap.size:=fun jj hjj=>(World.ownsRow.lt (ae HO3) jj hjj).2;refine Shut.out hK _ _ ⟨(ae HP4).3,(ae HP4).4⟩ (fun _=>?_);clear hK K;obtain⟨G6,hG6⟩:∃x,W3.heap.size=x:=⟨_,rfl⟩;obtain⟨W4,hW4⟩:∃x,W3.alloc (.cells #[.string p,.string t] 39)=x:=⟨_,rfl⟩;rw[hG6,hW4]at HX4;rw[hW4]at HP4;rw[hW4]at HO4;rw[hG6]at hown6;rw[hG6,hW4];refine ah 7 (by kernel_rfl) rfl fun K hK=>?_;refine an rfl (.tmp 40) (.tmp 42) 23 rfl (w.heap.size+1) 39 i0 (.agg #[.string ⟨#[]⟩,.string ⟨#[]⟩]) 2 32 Tryz.underlying23 hi hz0 hz1 hz2 rfl (by decide) v3 (0+k) ([]++(l.take k).flatMap aI) rfl (ae HO4) ⟨G6,0,none⟩ (1) (1) (aI ⟨p,t⟩) rfl rfl (ae HX4).news (db _) (ae HBd _ (by have:=ae HN;omega)).1 (ae HBd _ (by have:=ae HN;omega)).2 (ae HP4).2 ?_;intro v8 W8 hown hgrow hnil;have HP8:Hid (PSt w p t W8):=(ae HP4).grown (ae HO4) hgrow;have HO8:=af hown;have hn8:v8 ≠ .slice none 0 0:=fun e=>hn3 (hnil.1 e).1;clear hown hgrow hnil;refine Shut.out hK _ _ ⟨(ae HP8).3,(ae HP8).4⟩ (fun _=>?_);clear hK K;refine ah 12 (by kernel_rfl) rfl fun K hK=>?_;refine an rfl (.tmp 43) (.tmp 47) 23 rfl (w.heap.size+1) 39 i0 (.agg #[.string ⟨#[]⟩,.string ⟨#[]⟩]) 2 32 Tryz.underlying23 hi hz0 hz1 hz2 rfl (by decide) v8 (0+k+1) ([]++(l.take k).flatMap aI++aI ⟨p,t⟩) rfl (ae HO8) AD (n-(k+1)) (cap-(k+1)) ((l.drop (k+1)).flatMap aI) rfl (ae HL2) (ae HTl _ (ae HP8)) (bu _) (ae HBd _ (by have:=ae HN;omega)).1 (ae HBd _ (by have:=ae HN;omega)).2 (ae HP8).2 ?_;intro v9 W9 hown hgrow hnil;have HP9:Hid (PSt w p t W9):=(ae HP8).grown (ae HO8) hgrow;have HO9:=af hown;have hn9:v9 ≠ .slice none 0 0:=fun e=>hn8 (hnil.1 e).1;clear hown hgrow hnil;refine Shut.out hK _ _ ⟨(ae HP9).3,(ae HP9).4⟩ (fun _=>?_);clear hK K;refine ah 13 (by kernel_rfl) rfl fun K hK=>?_;go_simp;refine Shut.out hK _ _ ⟨(ae HP9).3,(ae HP9).4⟩ (fun _=>?_);clear hK K;refine wpAnyH_done (by kernel_rfl) ?_ _;go_wp2;go_ret;exact fg (ae HN).1 (ae HN).2.2.1 (ae HN).2.2.2.1 (ae HN).2.2.2.2 hj (by have:=ae Hk;omega) (by omega) (ae HP9).below (ae HO9) hn9 (ae HPut)
      ·
       go_simp;have HP3:Hid (PSt w p t (W2.alloc (.cells #[.string p,.string t] 39))):=(ae HP2).alloc _;have HX3:Hid (dp (W2.alloc (.cells #[.string p,.string t] 39)) (w.heap.size+1) W2.heap.size p t):=dp.new _ _ (ae HP2).2 _ _ _;have HO3:=af (World.ownsRow.alloc (ae HO2) (.cells #[.string p,.string t] 39));have hown6:∀jj,(Value.slice (some ⟨G0,0,none⟩) 0 0).ownBlock=some jj->jj<W2.heap.size:=fun jj hjj=>(World.ownsRow.lt (ae HO2) jj hjj).2;refine Shut.out hK _ _ ⟨(ae HP3).3,(ae HP3).4⟩ (fun _=>?_);clear hK K;obtain⟨G6,hG6⟩:∃x,W2.heap.size=x:=⟨_,rfl⟩;obtain⟨W3,hW3⟩:∃x,W2.alloc (.cells #[.string p,.string t] 39)=x:=⟨_,rfl⟩;rw[hG6,hW3]at HX3;rw[hW3]at HP3;rw[hW3]at HO3;rw[hG6]at hown6;rw[hG6,hW3];refine ah 4 (by kernel_rfl) rfl fun K hK=>?_;have hlt0:G0<G6:=hown6 G0 rfl;refine an rfl (.tmp 36) (.tmp 39) 23 rfl (w.heap.size+1) 39 i0 (.agg #[.string ⟨#[]⟩,.string ⟨#[]⟩]) 2 32 Tryz.underlying23 hi hz0 hz1 hz2 rfl (by decide) (Value.slice (some ⟨G0,0,none⟩) 0 0) (0) ([]) rfl (ae HO3) ⟨g,0,none⟩ (k) (cap) ((l.take k).flatMap aI) rfl (ae HL1) (ae HTk _ (ae HP3)) (bu _) (ae HBd _ (by have:=ae HN;omega)).1 (ae HBd _ (by have:=ae HN;omega)).2 (ae HP3).2 ?_;intro v4 W4 hown hgrow hnil;have HP4:Hid (PSt w p t W4):=(ae HP3).grown (ae HO3) hgrow;have HO4:=af hown;have HX4:Hid (dp W4 (w.heap.size+1) G6 p t):=(ae HX3).grown hgrow (fun e=>by have h6:G6=G0:=Option.some.inj e;omega);have hn4:v4 ≠ .slice none 0 0:=fun e=>by have:=(hnil.1 e).1;cases this
       clear hown hgrow hnil;refine Shut.out hK _ _ ⟨(ae HP4).3,(ae HP4).4⟩ (fun _=>?_);clear hK K;refine ah 7 (by kernel_rfl) rfl fun K hK=>?_;refine an rfl (.tmp 40) (.tmp 42) 23 rfl (w.heap.size+1) 39 i0 (.agg #[.string ⟨#[]⟩,.string ⟨#[]⟩]) 2 32 Tryz.underlying23 hi hz0 hz1 hz2 rfl (by decide) v4 (0+k) ([]++(l.take k).flatMap aI) rfl (ae HO4) ⟨G6,0,none⟩ (1) (1) (aI ⟨p,t⟩) rfl rfl (ae HX4).news (db _) (ae HBd _ (by have:=ae HN;omega)).1 (ae HBd _ (by have:=ae HN;omega)).2 (ae HP4).2 ?_;intro v8 W8 hown hgrow hnil;have HP8:Hid (PSt w p t W8):=(ae HP4).grown (ae HO4) hgrow;have HO8:=af hown;have hn8:v8 ≠ .slice none 0 0:=fun e=>hn4 (hnil.1 e).1;clear hown hgrow hnil;refine Shut.out hK _ _ ⟨(ae HP8).3,(ae HP8).4⟩ (fun _=>?_);clear hK K;refine ah 12 (by kernel_rfl) rfl fun K hK=>?_;refine an rfl (.tmp 43) (.tmp 47) 23 rfl (w.heap.size+1) 39 i0 (.agg #[.string ⟨#[]⟩,.string ⟨#[]⟩]) 2 32 Tryz.underlying23 hi hz0 hz1 hz2 rfl (by decide) v8 (0+k+1) ([]++(l.take k).flatMap aI++aI ⟨p,t⟩) rfl (ae HO8) AD (n-(k+1)) (cap-(k+1)) ((l.drop (k+1)).flatMap aI) rfl (ae HL2) (ae HTl _ (ae HP8)) (bu _) (ae HBd _ (by have:=ae HN;omega)).1 (ae HBd _ (by have:=ae HN;omega)).2 (ae HP8).2 ?_;intro v9 W9 hown hgrow hnil;have HP9:Hid (PSt w p t W9):=(ae HP8).grown (ae HO8) hgrow;have HO9:=af hown;have hn9:v9 ≠ .slice none 0 0:=fun e=>hn8 (hnil.1 e).1;clear hown hgrow hnil;refine Shut.out hK _ _ ⟨(ae HP9).3,(ae HP9).4⟩ (fun _=>?_);clear hK K;refine ah 13 (by kernel_rfl) rfl fun K hK=>?_;go_simp;refine Shut.out hK _ _ ⟨(ae HP9).3,(ae HP9).4⟩ (fun _=>?_);clear hK K;refine wpAnyH_done (by kernel_rfl) ?_ _;go_wp2;go_ret;exact fg (ae HN).1 (ae HN).2.2.1 (ae HN).2.2.2.1 (ae HN).2.2.2.2 hj (by have:=ae Hk;omega) (by omega) (ae HP9).below (ae HO9) hn9 (ae HPut)
     ·
      go_simp;have HP2:Hid (PSt w p t (W1.alloc (.cells #[.string p,.string t] 39))):=(ae HP1).alloc _;have HX2:Hid (dp (W1.alloc (.cells #[.string p,.string t] 39)) (w.heap.size+1) W1.heap.size p t):=dp.new _ _ (ae HP1).2 _ _ _;refine Shut.out hK _ _ ⟨(ae HP2).3,(ae HP2).4⟩ (fun _=>?_);clear hK K;obtain⟨G6,hG6⟩:∃x,W1.heap.size=x:=⟨_,rfl⟩;obtain⟨W2,hW2⟩:∃x,W1.alloc (.cells #[.string p,.string t] 39)=x:=⟨_,rfl⟩;rw[hG6,hW2]at HX2;rw[hW2]at HP2;rw[hG6,hW2];refine ah 0 (by kernel_rfl) rfl fun K hK=>?_;go_simp;have HP3:Hid (PSt w p t (W2.alloc (.cells #[] 39))):=(ae HP2).alloc _;have HO3:Hid (World.ownsRow (W2.alloc (.cells #[] 39)) (w.heap.size+1) 39 2 (.slice (some ⟨W2.heap.size,0,none⟩) 0 0) 0 []):=World.ownsRow_lit W2 #[] 0 (ae HP2).2 (by unfold maxLen;omega) rfl;have HX3:Hid (dp (W2.alloc (.cells #[] 39)) (w.heap.size+1) G6 p t):=(ae HX2).alloc _;have hlt6:G6<W2.heap.size:=(ae HX2).2.1;refine Shut.out hK _ _ ⟨(ae HP3).3,(ae HP3).4⟩ (fun _=>?_);clear hK K;obtain⟨G0,hG0⟩:∃x,W2.heap.size=x:=⟨_,rfl⟩;obtain⟨W3,hW3⟩:∃x,W2.alloc (.cells #[] 39)=x:=⟨_,rfl⟩;rw[hG0,hW3]at HO3;rw[hW3]at HP3;rw[hW3]at HX3;rw[hG0,hW3];refine ah 4 (by kernel_rfl) rfl fun K hK=>?_;have hlt0:G6<G0:=by omega
      refine an rfl (.tmp 36) (.tmp 39) 23 rfl (w.heap.size+1) 39 i0 (.agg #[.string ⟨#[]⟩,.string ⟨#[]⟩]) 2 32 Tryz.underlying23 hi hz0 hz1 hz2 rfl (by decide) (Value.slice (some ⟨G0,0,none⟩) 0 0) (0) ([]) rfl (ae HO3) ⟨g,0,none⟩ (k) (cap) ((l.take k).flatMap aI) rfl (ae HL1) (ae HTk _ (ae HP3)) (bu _) (ae HBd _ (by have:=ae HN;omega)).1 (ae HBd _ (by have:=ae HN;omega)).2 (ae HP3).2 ?_;intro v4 W4 hown hgrow hnil;have HP4:Hid (PSt w p t W4):=(ae HP3).grown (ae HO3) hgrow;have HO4:=af hown;have HX4:Hid (dp W4 (w.heap.size+1) G6 p t):=(ae HX3).grown hgrow (fun e=>by have h6:G6=G0:=Option.some.inj e;omega);have hn4:v4 ≠ .slice none 0 0:=fun e=>by have:=(hnil.1 e).1;cases this
      clear hown hgrow hnil;refine Shut.out hK _ _ ⟨(ae HP4).3,(ae HP4).4⟩ (fun _=>?_);clear hK K;refine ah 7 (by kernel_rfl) rfl fun K hK=>?_;refine an rfl (.tmp 40) (.tmp 42) 23 rfl (w.heap.size+1) 39 i0 (.agg #[.string ⟨#[]⟩,.string ⟨#[]⟩]) 2 32 Tryz.underlying23 hi hz0 hz1 hz2 rfl (by decide) v4 (0+k) ([]++(l.take k).flatMap aI) rfl (ae HO4) ⟨G6,0,none⟩ (1) (1) (aI ⟨p,t⟩) rfl rfl (ae HX4).news (db _) (ae HBd _ (by have:=ae HN;omega)).1 (ae HBd _ (by have:=ae HN;omega)).2 (ae HP4).2 ?_;intro v8 W8 hown hgrow hnil;have HP8:Hid (PSt w p t W8):=(ae HP4).grown (ae HO4) hgrow;have HO8:=af hown;have hn8:v8 ≠ .slice none 0 0:=fun e=>hn4 (hnil.1 e).1;clear hown hgrow hnil;refine Shut.out hK _ _ ⟨(ae HP8).3,(ae HP8).4⟩ (fun _=>?_);clear hK K;refine ah 12 (by kernel_rfl) rfl fun K hK=>?_;refine an rfl (.tmp 43) (.tmp 47) 23 rfl (w.heap.size+1) 39 i0 (.agg #[.string ⟨#[]⟩,.string ⟨#[]⟩]) 2 32 Tryz.underlying23 hi hz0 hz1 hz2 rfl (by decide) v8 (0+k+1) ([]++(l.take k).flatMap aI++aI ⟨p,t⟩) rfl (ae HO8) AD (n-(k+1)) (cap-(k+1)) ((l.drop (k+1)).flatMap aI) rfl (ae HL2) (ae HTl _ (ae HP8)) (bu _) (ae HBd _ (by have:=ae HN;omega)).1 (ae HBd _ (by have:=ae HN;omega)).2 (ae HP8).2 ?_;intro v9 W9 hown hgrow hnil;have HP9:Hid (PSt w p t W9):=(ae HP8).grown (ae HO8) hgrow;have HO9:=af hown;have hn9:v9 ≠ .slice none 0 0:=fun e=>hn8 (hnil.1 e).1;clear hown hgrow hnil;refine Shut.out hK _ _ ⟨(ae HP9).3,(ae HP9).4⟩ (fun _=>?_);clear hK K;refine ah 13 (by kernel_rfl) rfl fun K hK=>?_;go_simp;refine Shut.out hK _ _ ⟨(ae HP9).3,(ae HP9).4⟩ (fun _=>?_);clear hK K;refine wpAnyH_done (by kernel_rfl) ?_ _;go_wp2;go_ret;exact fg (ae HN).1 (ae HN).2.2.1 (ae HN).2.2.2.1 (ae HN).2.2.2.2 hj (by have:=ae Hk;omega) (by omega) (ae HP9).below (ae HO9) hn9 (ae HPut)
   ·
    have HBt:Hid (ltP q p=true):=hB;go_wp2_with fail
    go_quiet (fail)
    go_wp2_with fail;go_roundw
    case rel=>exact⟨k+1,by have:=ae Hk;omega,by go_num,(ae HP).drewN _,fun j hj=>by
     by_cases e:j=k
     · rw[e,ae HQ];exact ae HBt
     · exact ae HLo j (by omega)⟩
    case measure=>simp[intOf];omega
  ·
   have hltI:¬ (k:Int)<(n:Int):=by omega
   have HPut:Hid (bq l ⟨p,t⟩=l.take k++⟨p,t⟩ :: l.drop k):=by
    have hkl:=(ae HN).1;have hpos:dG l p=k:=vn (by omega) (ae HLo) (fun h=>absurd h (by omega));have:=rQ (l:=l) (f:=⟨p,t⟩) (by rw[hpos];intro h;exact absurd h (by omega));rw[hpos]at this;exact this
   go_wp2_with fail
   go_quiet (fail)
   have HPq:=af ((ae HP).drewN nq);obtain⟨_,hszq,c0q,c1q⟩:=(ae HP).drewN nq;generalize wr.drewN nq=wq at *
   go_wp2_with fail
   go_quiet (fail)
   go_wp2_with fail;have HP0:=af ((ae HPq).drewN nq);generalize wq.drewN nq=W0 at *
   have hj:k<=n:=by have:=ae Hk;omega
   obtain⟨AD,hAD⟩:∃AD,(if cap=k then some (⟨g,0,none⟩:Addr)else some ⟨g,(k)*2,none⟩)=some AD:=by split<;>exact⟨_,rfl⟩
   have HAD:=af hAD;clear hAD;have hkl:k<=l.length:=by rw[(ae HN).1];have:=ae Hk;omega
   have HBd:Hid (∀x,x<=40->x<=maxLen/\x*32<=140737488355328):=fun x hx=>by unfold maxLen;omega
   have HL1:Hid (((l.take k).flatMap aI).length=k*2):=by show _=_;rw[cO cR,List.length_take];omega
   have HL2:Hid (((l.drop (k)).flatMap aI).length=(n-(k))*2):=by show _=_;rw[cO cR,List.length_drop,(ae HN).1]
   have HTl:Hid (∀W,PSt w p t W->∀i u,((l.drop (k)).flatMap aI)[i]?=some u->W.cell? (AD.add i)=some u):=fun W hW i u hu=>by
    have hF:=(ae HF).later hW.below;have hlt:i<((l.drop (k)).flatMap aI).length:=(List.getElem?_eq_some_iff.1 hu).1;rw[ae HL2]at hlt;have e:AD=⟨g,(k)*2,none⟩:=by
     have:=ae HAD;rw[if_neg (by omega)]at this;exact(Option.some.inj this).symm
    rw[e];exact rW hF.2 (k) i u hu
   have HTk:Hid (∀W,PSt w p t W->∀i u,((l.take k).flatMap aI)[i]?=some u->W.cell? ((⟨g,0,none⟩:Addr).add i)=some u):=fun W hW=>oN ((ae HF).later hW.below) k;refine wp_region_held_drew (S:=fun W=>W.cell? ⟨w.heap.size,0,none⟩=some (.string p)/\W.cell? ⟨w.heap.size,1,none⟩=some (.string t)) hmix ⟨(ae HP0).3,(ae HP0).4⟩ (fun hS=>?_);refine ag 1 (.slice (some ⟨g,0,none⟩) n cap) rfl (by kernel_rfl) (fun _ _ _ h=>h) rfl (fun W hSw=>by obtain⟨hs0,hs1⟩:=hSw;go_simp) hS ?_;refine ag 2 (.int .i64 (k:Nat)) rfl (by kernel_rfl) (fun _ _ _ h=>h) rfl (fun W hSw=>by obtain⟨hs0,hs1⟩:=hSw;go_simp) hS ?_;refine ag 3 (.slice (some ⟨g,0,none⟩) k cap) rfl (by kernel_rfl) (fun _ _ _ h=>h) rfl (fun W hSw=>by obtain⟨hs0,hs1⟩:=hSw;go_simp<;>(intro h;omega)) hS ?_;refine ag 5 (.agg #[.string p,.string t]) rfl (by kernel_rfl) (fun _ _ _ h=>h) rfl (fun W hSw=>by obtain⟨hs0,hs1⟩:=hSw;go_simp) hS ?_;refine ag 8 (.slice (some ⟨g,0,none⟩) n cap) rfl (by kernel_rfl) (fun _ _ _ h=>h) rfl (fun W hSw=>by obtain⟨hs0,hs1⟩:=hSw;go_simp) hS ?_;refine ag 9 (.int .i64 (k:Nat)) rfl (by kernel_rfl) (fun _ _ _ h=>h) rfl (fun W hSw=>by obtain⟨hs0,hs1⟩:=hSw;go_simp) hS ?_;refine ag 10 (.slice (some AD) (n-(k)) (cap-(k))) rfl (by kernel_rfl) (fun _ _ _ h=>h) rfl (fun W hSw=>by obtain⟨hs0,hs1⟩:=hSw;go_simp;first|(rw[if_pos (by omega),ae HAD])|(rw[ae HAD])|skip) hS ?_;clear hS;have HP1:Hid (PSt w p t W0.drew):=(ae HP0).drew;generalize W0.drew=W1 at *
   refine wpAnyH_ready (rs:=[0,6]) (by kernel_rfl) (by simp) ?_;refine AllReadyH.cons rfl (fun K hK=>?_) (AllReadyH.cons rfl (fun K hK=>?_) (AllReadyH.nil))
   ·
    go_simp;have HP2:Hid (PSt w p t (W1.alloc (.cells #[] 39))):=(ae HP1).alloc _;have HO2:Hid (World.ownsRow (W1.alloc (.cells #[] 39)) (w.heap.size+1) 39 2 (.slice (some ⟨W1.heap.size,0,none⟩) 0 0) 0 []):=World.ownsRow_lit W1 #[] 0 (ae HP1).2 (by unfold maxLen;omega) rfl;refine Shut.out hK _ _ ⟨(ae HP2).3,(ae HP2).4⟩ (fun _=>?_);clear hK K;obtain⟨G0,hG0⟩:∃x,W1.heap.size=x:=⟨_,rfl⟩;obtain⟨W2,hW2⟩:∃x,W1.alloc (.cells #[] 39)=x:=⟨_,rfl⟩;rw[hG0,hW2]at HO2;rw[hW2]at HP2;rw[hG0,hW2];refine wpAnyH_ready (rs:=[4,6]) (by kernel_rfl) (by simp) ?_;refine AllReadyH.cons rfl (fun K hK=>?_) (AllReadyH.cons rfl (fun K hK=>?_) (AllReadyH.nil))
    ·
     refine an rfl (.tmp 49) (.tmp 52) 23 rfl (w.heap.size+1) 39 i0 (.agg #[.string ⟨#[]⟩,.string ⟨#[]⟩]) 2 32 Tryz.underlying23 hi hz0 hz1 hz2 rfl (by decide) (Value.slice (some ⟨G0,0,none⟩) 0 0) (0) ([]) rfl (ae HO2) ⟨g,0,none⟩ (k) (cap) ((l.take k).flatMap aI) rfl (ae HL1) (ae HTk _ (ae HP2)) (bu _) (ae HBd _ (by have:=ae HN;omega)).1 (ae HBd _ (by have:=ae HN;omega)).2 (ae HP2).2 ?_;intro v3 W3 hown hgrow hnil;have HP3:Hid (PSt w p t W3):=(ae HP2).grown (ae HO2) hgrow;have HO3:=af hown;have hn3:v3 ≠ .slice none 0 0:=fun e=>by have:=(hnil.1 e).1;cases this
     clear hown hgrow hnil;refine Shut.out hK _ _ ⟨(ae HP3).3,(ae HP3).4⟩ (fun _=>?_);clear hK K;refine ah 6 (by kernel_rfl) rfl fun K hK=>?_;go_simp;have HP4:Hid (PSt w p t (W3.alloc (.cells #[.string p,.string t] 39))):=(ae HP3).alloc _;have HX4:Hid (dp (W3.alloc (.cells #[.string p,.string t] 39)) (w.heap.size+1) W3.heap.size p t):=dp.new _ _ (ae HP3).2 _ _ _;have HO4:=af (World.ownsRow.alloc (ae HO3) (.cells #[.string p,.string t] 39));have hown6:∀jj,v3.ownBlock=some jj->jj<W3.heap.size:=fun jj hjj=>(World.ownsRow.lt (ae HO3) jj hjj).2;refine Shut.out hK _ _ ⟨(ae HP4).3,(ae HP4).4⟩ (fun _=>?_);clear hK K;obtain⟨G6,hG6⟩:∃x,W3.heap.size=x:=⟨_,rfl⟩;obtain⟨W4,hW4⟩:∃x,W3.alloc (.cells #[.string p,.string t] 39)=x:=⟨_,rfl⟩;rw[hG6,hW4]at HX4;rw[hW4]at HP4;rw[hW4]at HO4;rw[hG6]at hown6;rw[hG6,hW4];refine ah 7 (by kernel_rfl) rfl fun K hK=>?_;refine an rfl (.tmp 53) (.tmp 55) 23 rfl (w.heap.size+1) 39 i0 (.agg #[.string ⟨#[]⟩,.string ⟨#[]⟩]) 2 32 Tryz.underlying23 hi hz0 hz1 hz2 rfl (by decide) v3 (0+k) ([]++(l.take k).flatMap aI) rfl (ae HO4) ⟨G6,0,none⟩ (1) (1) (aI ⟨p,t⟩) rfl rfl (ae HX4).news (db _) (ae HBd _ (by have:=ae HN;omega)).1 (ae HBd _ (by have:=ae HN;omega)).2 (ae HP4).2 ?_;intro v8 W8 hown hgrow hnil;have HP8:Hid (PSt w p t W8):=(ae HP4).grown (ae HO4) hgrow;have HO8:=af hown;have hn8:v8 ≠ .slice none 0 0:=fun e=>hn3 (hnil.1 e).1;clear hown hgrow hnil;refine Shut.out hK _ _ ⟨(ae HP8).3,(ae HP8).4⟩ (fun _=>?_);clear hK K;refine ah 11 (by kernel_rfl) rfl fun K hK=>?_;refine an rfl (.tmp 56) (.tmp 59) 23 rfl (w.heap.size+1) 39 i0 (.agg #[.string ⟨#[]⟩,.string ⟨#[]⟩]) 2 32 Tryz.underlying23 hi hz0 hz1 hz2 rfl (by decide) v8 (0+k+1) ([]++(l.take k).flatMap aI++aI ⟨p,t⟩) rfl (ae HO8) AD (n-(k)) (cap-(k)) ((l.drop (k)).flatMap aI) rfl (ae HL2) (ae HTl _ (ae HP8)) (bu _) (ae HBd _ (by have:=ae HN;omega)).1 (ae HBd _ (by have:=ae HN;omega)).2 (ae HP8).2 ?_;intro v9 W9 hown hgrow hnil;have HP9:Hid (PSt w p t W9):=(ae HP8).grown (ae HO8) hgrow;have HO9:=af hown;have hn9:v9 ≠ .slice none 0 0:=fun e=>hn8 (hnil.1 e).1;clear hown hgrow hnil;refine Shut.out hK _ _ ⟨(ae HP9).3,(ae HP9).4⟩ (fun _=>?_);clear hK K;refine ah 12 (by kernel_rfl) rfl fun K hK=>?_;go_simp;refine Shut.out hK _ _ ⟨(ae HP9).3,(ae HP9).4⟩ (fun _=>?_);clear hK K;refine wpAnyH_done (by kernel_rfl) ?_ _;go_wp2;go_ret;exact fg (ae HN).1 (ae HN).2.2.1 (ae HN).2.2.2.1 (ae HN).2.2.2.2 hj (by have:=ae Hk;omega) (by omega) (ae HP9).below (ae HO9) hn9 (ae HPut)
    ·
     go_simp;have HP3:Hid (PSt w p t (W2.alloc (.cells #[.string p,.string t] 39))):=(ae HP2).alloc _;have HX3:Hid (dp (W2.alloc (.cells #[.string p,.string t] 39)) (w.heap.size+1) W2.heap.size p t):=dp.new _ _ (ae HP2).2 _ _ _;have HO3:=af (World.ownsRow.alloc (ae HO2) (.cells #[.string p,.string t] 39));have hown6:∀jj,(Value.slice (some ⟨G0,0,none⟩) 0 0).ownBlock=some jj->jj<W2.heap.size:=fun jj hjj=>(World.ownsRow.lt (ae HO2) jj hjj).2;refine Shut.out hK _ _ ⟨(ae HP3).3,(ae HP3).4⟩ (fun _=>?_);clear hK K;obtain⟨G6,hG6⟩:∃x,W2.heap.size=x:=⟨_,rfl⟩;obtain⟨W3,hW3⟩:∃x,W2.alloc (.cells #[.string p,.string t] 39)=x:=⟨_,rfl⟩;rw[hG6,hW3]at HX3;rw[hW3]at HP3;rw[hW3]at HO3;rw[hG6]at hown6;rw[hG6,hW3];refine ah 4 (by kernel_rfl) rfl fun K hK=>?_;have hlt0:G0<G6:=hown6 G0 rfl;refine an rfl (.tmp 49) (.tmp 52) 23 rfl (w.heap.size+1) 39 i0 (.agg #[.string ⟨#[]⟩,.string ⟨#[]⟩]) 2 32 Tryz.underlying23 hi hz0 hz1 hz2 rfl (by decide) (Value.slice (some ⟨G0,0,none⟩) 0 0) (0) ([]) rfl (ae HO3) ⟨g,0,none⟩ (k) (cap) ((l.take k).flatMap aI) rfl (ae HL1) (ae HTk _ (ae HP3)) (bu _) (ae HBd _ (by have:=ae HN;omega)).1 (ae HBd _ (by have:=ae HN;omega)).2 (ae HP3).2 ?_;intro v4 W4 hown hgrow hnil;have HP4:Hid (PSt w p t W4):=(ae HP3).grown (ae HO3) hgrow;have HO4:=af hown;have HX4:Hid (dp W4 (w.heap.size+1) G6 p t):=(ae HX3).grown hgrow (fun e=>by have h6:G6=G0:=Option.some.inj e;omega);have hn4:v4 ≠ .slice none 0 0:=fun e=>by have:=(hnil.1 e).1;cases this
     clear hown hgrow hnil;refine Shut.out hK _ _ ⟨(ae HP4).3,(ae HP4).4⟩ (fun _=>?_);clear hK K;refine ah 7 (by kernel_rfl) rfl fun K hK=>?_;refine an rfl (.tmp 53) (.tmp 55) 23 rfl (w.heap.size+1) 39 i0 (.agg #[.string ⟨#[]⟩,.string ⟨#[]⟩]) 2 32 Tryz.underlying23 hi hz0 hz1 hz2 rfl (by decide) v4 (0+k) ([]++(l.take k).flatMap aI) rfl (ae HO4) ⟨G6,0,none⟩ (1) (1) (aI ⟨p,t⟩) rfl rfl (ae HX4).news (db _) (ae HBd _ (by have:=ae HN;omega)).1 (ae HBd _ (by have:=ae HN;omega)).2 (ae HP4).2 ?_;intro v8 W8 hown hgrow hnil;have HP8:Hid (PSt w p t W8):=(ae HP4).grown (ae HO4) hgrow;have HO8:=af hown;have hn8:v8 ≠ .slice none 0 0:=fun e=>hn4 (hnil.1 e).1;clear hown hgrow hnil;refine Shut.out hK _ _ ⟨(ae HP8).3,(ae HP8).4⟩ (fun _=>?_);clear hK K;refine ah 11 (by kernel_rfl) rfl fun K hK=>?_;refine an rfl (.tmp 56) (.tmp 59) 23 rfl (w.heap.size+1) 39 i0 (.agg #[.string ⟨#[]⟩,.string ⟨#[]⟩]) 2 32 Tryz.underlying23 hi hz0 hz1 hz2 rfl (by decide) v8 (0+k+1) ([]++(l.take k).flatMap aI++aI ⟨p,t⟩) rfl (ae HO8) AD (n-(k)) (cap-(k)) ((l.drop (k)).flatMap aI) rfl (ae HL2) (ae HTl _ (ae HP8)) (bu _) (ae HBd _ (by have:=ae HN;omega)).1 (ae HBd _ (by have:=ae HN;omega)).2 (ae HP8).2 ?_;intro v9 W9 hown hgrow hnil;have HP9:Hid (PSt w p t W9):=(ae HP8).grown (ae HO8) hgrow;have HO9:=af hown;have hn9:v9 ≠ .slice none 0 0:=fun e=>hn8 (hnil.1 e).1;clear hown hgrow hnil;refine Shut.out hK _ _ ⟨(ae HP9).3,(ae HP9).4⟩ (fun _=>?_);clear hK K;refine ah 12 (by kernel_rfl) rfl fun K hK=>?_;go_simp;refine Shut.out hK _ _ ⟨(ae HP9).3,(ae HP9).4⟩ (fun _=>?_);clear hK K;refine wpAnyH_done (by kernel_rfl) ?_ _;go_wp2;go_ret;exact fg (ae HN).1 (ae HN).2.2.1 (ae HN).2.2.2.1 (ae HN).2.2.2.2 hj (by have:=ae Hk;omega) (by omega) (ae HP9).below (ae HO9) hn9 (ae HPut)
   ·
    go_simp;have HP2:Hid (PSt w p t (W1.alloc (.cells #[.string p,.string t] 39))):=(ae HP1).alloc _;have HX2:Hid (dp (W1.alloc (.cells #[.string p,.string t] 39)) (w.heap.size+1) W1.heap.size p t):=dp.new _ _ (ae HP1).2 _ _ _;refine Shut.out hK _ _ ⟨(ae HP2).3,(ae HP2).4⟩ (fun _=>?_);clear hK K;obtain⟨G6,hG6⟩:∃x,W1.heap.size=x:=⟨_,rfl⟩;obtain⟨W2,hW2⟩:∃x,W1.alloc (.cells #[.string p,.string t] 39)=x:=⟨_,rfl⟩;rw[hG6,hW2]at HX2;rw[hW2]at HP2;rw[hG6,hW2];refine ah 0 (by kernel_rfl) rfl fun K hK=>?_;go_simp;have HP3:Hid (PSt w p t (W2.alloc (.cells #[] 39))):=(ae HP2).alloc _;have HO3:Hid (World.ownsRow (W2.alloc (.cells #[] 39)) (w.heap.size+1) 39 2 (.slice (some ⟨W2.heap.size,0,none⟩) 0 0) 0 []):=World.ownsRow_lit W2 #[] 0 (ae HP2).2 (by unfold maxLen;omega) rfl;have HX3:Hid (dp (W2.alloc (.cells #[] 39)) (w.heap.size+1) G6 p t):=(ae HX2).alloc _;have hlt6:G6<W2.heap.size:=(ae HX2).2.1;refine Shut.out hK _ _ ⟨(ae HP3).3,(ae HP3).4⟩ (fun _=>?_);clear hK K;obtain⟨G0,hG0⟩:∃x,W2.heap.size=x:=⟨_,rfl⟩;obtain⟨W3,hW3⟩:∃x,W2.alloc (.cells #[] 39)=x:=⟨_,rfl⟩;rw[hG0,hW3]at HO3;rw[hW3]at HP3;rw[hW3]at HX3;rw[hG0,hW3];refine ah 4 (by kernel_rfl) rfl fun K hK=>?_;have hlt0:G6<G0:=by omega
    refine an rfl (.tmp 49) (.tmp 52) 23 rfl (w.heap.size+1) 39 i0 (.agg #[.string ⟨#[]⟩,.string ⟨#[]⟩]) 2 32 Tryz.underlying23 hi hz0 hz1 hz2 rfl (by decide) (Value.slice (some ⟨G0,0,none⟩) 0 0) (0) ([]) rfl (ae HO3) ⟨g,0,none⟩ (k) (cap) ((l.take k).flatMap aI) rfl (ae HL1) (ae HTk _ (ae HP3)) (bu _) (ae HBd _ (by have:=ae HN;omega)).1 (ae HBd _ (by have:=ae HN;omega)).2 (ae HP3).2 ?_;intro v4 W4 hown hgrow hnil;have HP4:Hid (PSt w p t W4):=(ae HP3).grown (ae HO3) hgrow;have HO4:=af hown;have HX4:Hid (dp W4 (w.heap.size+1) G6 p t):=(ae HX3).grown hgrow (fun e=>by have h6:G6=G0:=Option.some.inj e;omega);have hn4:v4 ≠ .slice none 0 0:=fun e=>by have:=(hnil.1 e).1;cases this
    clear hown hgrow hnil;refine Shut.out hK _ _ ⟨(ae HP4).3,(ae HP4).4⟩ (fun _=>?_);clear hK K;refine ah 7 (by kernel_rfl) rfl fun K hK=>?_;refine an rfl (.tmp 53) (.tmp 55) 23 rfl (w.heap.size+1) 39 i0 (.agg #[.string ⟨#[]⟩,.string ⟨#[]⟩]) 2 32 Tryz.underlying23 hi hz0 hz1 hz2 rfl (by decide) v4 (0+k) ([]++(l.take k).flatMap aI) rfl (ae HO4) ⟨G6,0,none⟩ (1) (1) (aI ⟨p,t⟩) rfl rfl (ae HX4).news (db _) (ae HBd _ (by have:=ae HN;omega)).1 (ae HBd _ (by have:=ae HN;omega)).2 (ae HP4).2 ?_;intro v8 W8 hown hgrow hnil;have HP8:Hid (PSt w p t W8):=(ae HP4).grown (ae HO4) hgrow;have HO8:=af hown;have hn8:v8 ≠ .slice none 0 0:=fun e=>hn4 (hnil.1 e).1;clear hown hgrow hnil;refine Shut.out hK _ _ ⟨(ae HP8).3,(ae HP8).4⟩ (fun _=>?_);clear hK K;refine ah 11 (by kernel_rfl) rfl fun K hK=>?_;refine an rfl (.tmp 56) (.tmp 59) 23 rfl (w.heap.size+1) 39 i0 (.agg #[.string ⟨#[]⟩,.string ⟨#[]⟩]) 2 32 Tryz.underlying23 hi hz0 hz1 hz2 rfl (by decide) v8 (0+k+1) ([]++(l.take k).flatMap aI++aI ⟨p,t⟩) rfl (ae HO8) AD (n-(k)) (cap-(k)) ((l.drop (k)).flatMap aI) rfl (ae HL2) (ae HTl _ (ae HP8)) (bu _) (ae HBd _ (by have:=ae HN;omega)).1 (ae HBd _ (by have:=ae HN;omega)).2 (ae HP8).2 ?_;intro v9 W9 hown hgrow hnil;have HP9:Hid (PSt w p t W9):=(ae HP8).grown (ae HO8) hgrow;have HO9:=af hown;have hn9:v9 ≠ .slice none 0 0:=fun e=>hn8 (hnil.1 e).1;clear hown hgrow hnil;refine Shut.out hK _ _ ⟨(ae HP9).3,(ae HP9).4⟩ (fun _=>?_);clear hK K;refine ah 12 (by kernel_rfl) rfl fun K hK=>?_;go_simp;refine Shut.out hK _ _ ⟨(ae HP9).3,(ae HP9).4⟩ (fun _=>?_);clear hK K;refine wpAnyH_done (by kernel_rfl) ?_ _;go_wp2;go_ret;exact fg (ae HN).1 (ae HN).2.2.1 (ae HN).2.2.2.1 (ae HN).2.2.2.2 hj (by have:=ae Hk;omega) (by omega) (ae HP9).below (ae HO9) hn9 (ae HPut)
end Go.Proofs.YtkpfkgoiaicgbaaGreatDoor
