/- Of what the proof is made: 2 texts, one behind the other. -/
import Derived.Test.YtbacpebljannfaaGreatDoorFrm
import Derived.Test.YtbacpebljannfaaGreatDoorM22
import Derived.ChangeVars
import Derived.OpenVars
import Derived.Test.YtbacpebljannfaaGreatDoorM24
set_option linter.unusedSimpArgs false
set_option maxHeartbeats 6400000
namespace Go.Proofs.YtbacpebljannfaaGreatDoor
open Go.ChangeShapes Go.WideShapes Go.ChangeAt Go.RowKit
def FI:DataW Unit:=.agg (bH.map fun n=>.lit (.int .i64 (n:Nat)))
theorem xK{W:World} : ∀(laid:List (String×DataW Unit)) (ps:List MemPlace),DataW.LaidVars Tryz.prog W laid ps->("loop.example/corbel/impl.lenOrder",FI)∈laid->∃ps',DataW.LaidVars Tryz.prog W [("loop.example/corbel/impl.lenOrder",FI)] ps'
 | [],_,_,h=>by cases h
 | (n,d) :: r,ps,hL,h=>by
  obtain⟨g,t,cs,fuel,p,q,hg,ht,hv,hd,hr,_⟩:=hL;rcases a06.1 h with e|e
  · obtain⟨rfl,rfl⟩:=Prod.mk.inj e;exact⟨_,g,t,cs,fuel,p,[],hg,ht,hv,hd,rfl,rfl⟩
  · exact xK r q hr e
theorem tW{W:World}{ps:List MemPlace}(h:DataW.LaidVars Tryz.prog W [("loop.example/corbel/impl.lenOrder",FI)] ps)(r:Nat)(hr:r<19):W.cell? ⟨0,r,none⟩=some (.int .i64 (bH.getD r 0:Nat)):=by
 obtain⟨g,t,cs,fuel,p,q,hg,ht,hv,hd,_,_⟩:=h;obtain rfl:=a2a ((show Tryz.prog.globalNamed "loop.example/corbel/impl.lenOrder" = some 0 by kernel_rfl).symm.trans hg);obtain rfl:=a2a ((show(Tryz.prog.globals[0]?).map (·.type)=some 202 by kernel_rfl).symm.trans ht);obtain⟨xs,m,_,ex,_,hl,hel⟩:=DataW.trod_array Tryz.underlying202 hd;have c5:Tryz.prog.cellsOf 3=1:=by kernel_rfl
 have hE:=hel r hr;rw[c5,Nat.mul_one,List.getElem?_eq_getElem (by omega)]at hE;obtain⟨z,e1,e2,_⟩:=DataW.trod_int a1U hE;have hlen:bH.length=19:=rfl;have e3:(xs.map (·.1))=bH.map fun n=>.lit (.int .i64 (n:Nat)):=(DataW.agg.inj (Prod.mk.inj ex).1).symm;have e4:(xs.map (·.1))[r]?=(bH.map fun n=>(DataW.lit (.int .i64 (n:Nat)):DataW Unit))[r]?:=by rw[e3]
 rw[List.getElem?_map,List.getElem?_map,List.getElem?_eq_getElem (by omega:r<xs.length),List.getElem?_eq_getElem (by omega:r<bH.length),e2]at e4;have hz:z=(bH.getD r 0:Nat):=by
  simp only[Option.map_some,a0j,DataW.lit.injEq,Lit.int.injEq,a1W]at e4;rw[e4,List.getD,List.getElem?_eq_getElem (by omega:r<bH.length)];rfl
 rw[World.var?_cell hg hv r,←hz];have:cs.toList[r]?=some (.int .i64 z):=by
  have h0:((cs.toList.drop r).take 1)[0]?=some (.int .i64 z):=by rw[e1];rfl
  simpa using h0
 simpa using this
theorem FK{W:World}{ps:List MemPlace}(h:DataW.LaidVars Tryz.prog W [("loop.example/corbel/impl.lenOrder",FI)] ps):ef W:=by
 refine⟨fun j v hv=>?_,?_⟩
 ·
  have hj:j<19:=by
   have:=(List.getElem?_eq_some_iff.1 hv).1;have e:Dn.toList.length=19:=rfl;omega
  rw[a0J,tW h j hj];have h1:=xJ j hj;rw[Array.getElem?_toList,h1]at hv;exact hv
 ·
  have h0:=tW h 0 (by omega);rcases a1O 0 W.heap.size with h1|h1
  · exact h1
  · simp[World.cell?,h1]at h0
theorem vu{W:World}{laid:List (String×DataW Unit)}(h:laidMetH Tryz.prog laid W)(hp:(laid.all fun x=>x.2.handleName?.isNone)=true)(hm:("loop.example/corbel/impl.lenOrder",FI)∈laid):ef W:=by
 rw[MakeChecks.laidMetH_plain _ _ _ hp]at h;obtain⟨ps,h1,_,_⟩:=h;obtain⟨ps',h2⟩:=xK _ _ h1 hm;exact FK h2
end Go.Proofs.YtbacpebljannfaaGreatDoor
namespace Go.Proofs.YtbacpebljannfaaGreatDoor
open Go.RowKit Go.Shelf Corb
attribute [local go_sem] Oper.semAt_some
def mP(W:World)(b:Nat)(t:TypeId)(C:Array Value):Prop:=W.heap[b]?=some (.cells C t (0,0))
theorem Fw{β:Type}(B:Nat)(t:TypeId)(C:Array Value):Own (fun(_:β) W=>mP W B t C):=fun _ X _ row hs hg hrow=>
 (hg.block B (Array.getElem?_eq_some_iff.1 hs).1 (fun e'=>by obtain⟨o,ho,hc⟩:=hrow B e'.symm;rw[show X.heap[B]?=_ from hs]at ho;cases ho;cases hc)).trans hs
theorem mP.kept{W W':World}{row:Option Nat}{B:Nat}{t:TypeId}{C:Array Value}(h:mP W B t C)(hg:W.grownBy W' row)(hne:some B≠row):mP W' B t C:=(hg.block B (Array.getElem?_eq_some_iff.1 h).1 hne).trans h
theorem mP.later{W W':World}{B:Nat}{t:TypeId}{C:Array Value}(h:mP W B t C)(hb:Below W.heap.size W W'):mP W' B t C:=h.kept (eB hb) (by simp)
theorem bK{F:Fence}{n:Nat}{P:Program}{ops:Array Oper}{o:Oper}{a:Act}{w:World}{K:Act->World->Prop}{Q:Exit->Act->World->Prop}{E:Prop}
  (hg:o.guard=none) (ty:TypeId) (x:Operand) (hop:o.op = .load ty x) (b off:Nat) (hx:a.eval x = .pointer (some ⟨b,off,none⟩)) (C:Array Value) (d:TypeDesc) (hc:w.rangeAt b off C.toList)
  (hu:P.underlying ty=some d) (hd:d.isRow=true) (hi:(P.info? ty).map (·.size)=some C.size) (hK:K (a.put o.dst (.agg C)) w) :
  if Region.wanted o (yielded ops a.tmps)=true then Oper.wpIn F n P o a w K Q else E:=by
 have hw:Region.wanted o (yielded ops a.tmps)=true:=by simp[Region.wanted,hg]
 rw[a0d hw];unfold Oper.wpIn;refine⟨?_,?_⟩
 · simp[Oper.about,hop]
 · rw[Oper.semAt_plain F _ _ (by rw[hop];intro c hc';cases hc')];unfold execOp;simp only[hop,hx,Instr.loadAt,Instr.sureAddr,Sem.run_bind,a3m,Result.andThen_ok,run_loadVar_mid w b off ty C.toList d hc hu hd (by simpa using hi)];simpa[Oper.uponIn]using hK
def fs(L D:List Int)(t:Tk):Prop:=if isB t then t.1.toNat<L.length else 257+fnd 3 4 t.2.1.toNat 27<L.length/\fnd 1 2 t.2.2.toNat 29<D.length
theorem gF(L D:List Int)(t:Tk):(pcT L D t).length<=4/\1<=(pcT L D t).length:=by unfold pcT;split<;>simp
theorem rt{t:Tk}(h:isK t=true):3<=t.2.1/\t.2.1<=60/\1<=t.2.2/\t.2.2<=250:=by
 unfold isK inB at h;simp only[a0n,a0z]at h;omega
theorem pd{t:Tk}(h:isB t=true):0<=t.1/\t.1<=255:=by
 unfold isB inB at h;simp only[a0n,a0z]at h;omega
def cw{s:ByteArray}(L D:List Int)(pre:List (TkS s)):List (Int×Int):=(pre.map Subtype.val).flatMap (pcT L D)
theorem ww{s:ByteArray}(L D:List Int)(pre:List (TkS s)):(cw L D pre).length<=4*pre.length:=by
 unfold cw;induction pre with
 | nil=>simp
 | cons x r ih=>have:=(gF L D x.1).1;simp only[a0C,a03,a0m,a0E];omega
theorem ev{s:ByteArray}(L D:List Int)(pre:List (TkS s))(x:TkS s):cw L D (pre++[x])=cw L D pre++pcT L D x.1:=by simp[cw]
theorem gX{W:World}{n₀:Nat}{v:Value}{l m:List (Int×Int)}(h:W.ownsRow n₀ 114 2 v (l.length+m.length) (aQ l++aQ m)):W.ownsRow n₀ 114 2 v (l++m).length (aQ (l++m)):=by
 rw[ec,a0m];exact h
theorem F2(t:Tk)(base:Nat)(L D:List Int)(C:Array Value)(w:World)(hok:okT t=true)(hf:fs L D t)(hB:dG w base L D C)(hL:L.length<=300)(hD:D.length<=300) :
  Calls Tryz.prog 137 #[.agg C,fm t] w fun e w'=>(∃g,e = .returned (.slice (some ⟨g,0,none⟩) (pcT L D t).length (pcT L D t).length)/\yN w' g (pcT L D t))/\Below w.heap.size w w':=by
 cases hb:isB t
 ·
  have hk:isK t=true:=by unfold okT at hok;rw[hb]at hok;simpa using hok
  unfold fs at hf;rw[a0e (by simp[hb])]at hf;have e1:pcT L D t=[pcS L (257+fnd 3 4 t.2.1.toNat 27),((t.2.1.toNat:Int)-((stF 3 4 (fnd 3 4 t.2.1.toNat 27)).1:Int),((stF 3 4 (fnd 3 4 t.2.1.toNat 27)).2:Nat)),pcS D (fnd 1 2 t.2.2.toNat 29),((t.2.2.toNat:Int)-((stF 1 2 (fnd 1 2 t.2.2.toNat 29)).1:Int),((stF 1 2 (fnd 1 2 t.2.2.toNat 29)).2:Nat))]:=by unfold pcT;rw[a0e (by simp[hb])]
  obtain⟨q1,q2,q3,q4⟩:=rt hk;have f1:t.2.1=((t.2.1.toNat:Nat):Int):=by omega
  have f2:t.2.2=((t.2.2.toNat:Nat):Int):=by omega
  have e2:fm t = .iface 189 (.agg #[.int .i64 ((t.2.1.toNat:Nat):Int),.int .i64 ((t.2.2.toNat:Nat):Int)]):=by rw[←f1,←f2];exact ny hk
  rw[e2,e1];have:=F1 t.2.1.toNat t.2.2.toNat base L D C w hB (by omega) (by omega) (by omega) (by omega) hf.1 hf.2 hL hD;exact this
 ·
  obtain⟨q1,q2⟩:=pd hb;unfold fs at hf;rw[a0d hb]at hf;have e1:pcT L D t=[pcS L t.1.toNat]:=by unfold pcT;rw[a0d hb]
  have f1:t.1=((t.1.toNat:Nat):Int):=by omega
  have e2:fm t = .iface 187 (.int .u8 ((t.1.toNat:Nat):Int)):=by rw[←f1];exact kG hb
  rw[e2,e1];have:=F0 t.1.toNat base L D C w hB hf (by omega) hL;exact this
theorem cq{W x1 w1:World}{n₀ B Bn Bm:Nat}{t e tn tm:TypeId}{size:Nat}{v v' u:Value}{C:Array Value}{k m:Nat}{xs ys:List Value}
  (hW:Below W.heap.size W x1) (hv:Boxed W B t v) (hbn:Boxed W Bn tn u) (hm:mP W Bm tm C) (hte:t≠e) (htn:tn≠e) (htm:tm≠e) (hne:Bn≠B) (hnm:Bm≠B) (hrow:W.ownsRow n₀ e size v k xs) (hn₀:n₀<=W.heap.size) (hB:n₀<=B)
  (hown':w1.ownsRow n₀ e size v' m ys) (hgrow:x1.grownBy w1 v.ownBlock) :
  Boxed w1 B t v/\Boxed (w1.setCell ⟨B,0,none⟩ v') B t v'/\(w1.setCell ⟨B,0,none⟩ v').ownsRow n₀ e size v' m ys/\KeepsOthers W (w1.setCell ⟨B,0,none⟩ v')/\Below n₀ W (w1.setCell ⟨B,0,none⟩ v')/\Boxed (w1.setCell ⟨B,0,none⟩ v') Bn tn u/\mP (w1.setCell ⟨B,0,none⟩ v') Bm tm C:=by
 have hv1:=Boxed.later hv hW;have hbn1:=Boxed.later hbn hW;have hm1:=hm.later hW;have hrow1:x1.ownsRow n₀ e size v k xs:=aN hrow hW;have hmr:some Bm≠v.ownBlock:=by
  intro e';rcases hrow1.2 with⟨rfl,_⟩|⟨g,cap,cur,rfl,_,hgb,_⟩
  · cases e'
  ·
   simp only[Value.ownBlock,a0j]at e';subst e';rw[show x1.heap[Bm]?=_ from hm1]at hgb;cases hgb
   exact htm rfl
 have h1:Boxed w1 B t v:=hv1.kept hgrow (hv1.not_row hte hrow1);refine⟨h1,h1.set v',hown'.kept (grownBy_setCell' w1 B v') (.inr (h1.not_row hte hown').symm),?_,?_,?_,?_⟩
 ·
  refine((KeepsOthers.of_grownBy (eB hW) (fun _ _ e=>by cases e)).trans (KeepsOthers.of_grownBy hgrow fun j o ej hj=>?_)).trans (KeepsOthers.setCell _ _ _);rcases hrow1.2 with⟨rfl,_⟩|⟨g,cap,cur,rfl,_,hgb,_⟩
  · cases ej
  ·
   simp only[Value.ownBlock,a0j]at ej;subst ej;rw[hgb]at hj;cases hj
   rfl
 · have hA:Below n₀ W x1:=hW.mono hn₀;have hA1:Below n₀ W w1:=hA.grown hgrow (a0I hn₀ hW.size) (fun j hj=>(a0G hrow1 j hj).1);exact ag hA1 hB _
 · exact Boxed.other (hbn1.kept hgrow (hbn1.not_row htn hrow1)) hne v'
 · exact(hm1.kept hgrow hmr).kept (grownBy_setCell' w1 B v') (fun e=>hnm (by cases e;rfl))
theorem lR(x:World)(a b:Value)(t:TypeId):∀(j:Nat) (u:Value),[a,b][j]?=some u->(x.alloc (.cells #[a,b] t)).cell? ((⟨x.heap.size,0,none⟩:Addr).add j)=some u:=by
 intro j u hj
 match j,hj with
 | 0,hj=>simp at hj;subst hj;simp[Addr.add]
 | 1,hj=>simp at hj;subst hj;simp[Addr.add]
theorem lS(p q:Int):∀u∈[Value.int .i64 p,Value.int .i64 q],u.oneCell'=true:=by
 intro u hu;simp at hu;rcases hu with rfl|rfl<;>rfl
theorem eH{W:World}{d:Nat}{r:Option (List Deferred)}(h:W.heap[d]?=some (Obj.deferred r))(o:Obj):(W.alloc o).heap[d]?=some (Obj.deferred r):=
 (a1h W o d (Array.getElem?_eq_some_iff.1 h).1).trans h
theorem lK{W W':World}{d n₀ n size:Nat}{e:TypeId}{v:Value}{xs:List Value}{r:Option (List Deferred)}(h:W.heap[d]?=some (Obj.deferred r))(hg:W.grownBy W' v.ownBlock)(ho:W.ownsRow n₀ e size v n xs):W'.heap[d]?=some (Obj.deferred r):=by
 refine(hg.block d (Array.getElem?_eq_some_iff.1 h).1 ?_).trans h;intro e';rcases ho.2 with⟨rfl,_⟩|⟨g,cap,cur,rfl,_,hgb,_⟩
 · cases e'
 · simp only[Value.ownBlock,a0j]at e';subst e';rw[h]at hgb;cases hgb
theorem jQ{W:World}{n₀:Nat}{v:Value}{l:List (Int×Int)}{p q:Int}(h:W.ownsRow n₀ 114 2 v (l.length+1) (aQ l++[.int .i64 p,.int .i64 q])):Pcs W n₀ v (l++[(p,q)]):=by
 show World.ownsRow _ _ _ _ _ (l++[(p,q)]).length _;rw[ec,a0m];exact h
theorem yA(s:ByteArray)(hs:s.size<=300){ys:List (TkS s)}(h:ys.map Subtype.val=bm s.data.toList 0):ys.length<=300:=by
 have h1:=congrArg List.length h;rw[a0P]at h1;have h2:=uv s.data.toList s.data.toList.length 0 (by omega);have h3:s.data.toList.length=s.size:=by simp
 omega
theorem mP.range{W:World}{b:Nat}{t:TypeId}{C:Array Value}(h:mP W b t C):W.rangeAt b 0 C.toList:=by
 intro j v hv;rw[a0J,bp h];simpa using hv
theorem fx{W:World}{n₀ n:Nat}{e:TypeId}{size:Nat}{v:Value}{xs:List Value}(h:W.ownsRow n₀ e size v n xs)(hn:0<n):∃g cap,v = .slice (some ⟨g,0,none⟩) n cap:=by
 rcases h.2 with⟨_,h0⟩|⟨g,cap,_,e,_⟩
 · omega
 · exact⟨g,cap,e⟩
set_option maxRecDepth 100000 in
theorem sl(s:ByteArray)(base:Nat)(L D:List Int)(C:Array Value)(w:World)(hs:s.size<=300)(hB:dG w base L D C)(hL:L.length<=300)(hD:D.length<=300)(h256:256<L.length)(hfit:∀t∈bm s.data.toList 0,fs L D t) :
  Calls Tryz.prog 103 #[.agg C,.string s] w fun e w'=>∃v,e = .returned v/\Pcs w' w.heap.size v ((bm s.data.toList 0).flatMap (pcT L D)++[pcS L 256])/\Below w.heap.size w w':=by
 obtain⟨i0,hi,hz0,hz1,hz2⟩:=a0w Tryz.infoPiece;have hsI:(s.size:Int)<=300:=by omega
 have hmx:Tryz.prog.follows .mixedOrders=true:=by kernel_rfl
 have HS:=af hs;have HSz:=af hB.size;have HPut:=af (fun(x:TkS s) W (hW:Below w.heap.size w W)=>F2 x.1 base L D C W x.2.1 (hfit x.1 x.2.2) (hB.later hW) hL hD);have HBk:=af hB;clear hs hB hfit;refine(callsIn_wide (n:=6)).1 ?_;refine callsIn_of_wp_marks Tryz.func103 rfl trivial ?_ rfl;simp only[Tryz.ntmps103,a2v,a0E,a01,Nat.reduceAdd,Nat.reduceSub,Array.replicate_succ,Array.replicate_zero,List.push_toArray,List.append_toArray,a09,a1n]
 gi_wp2_with (refine⟨trivial,?_⟩;gi_at_call 136;refine(callsIn_wide.2 (oj s _)).mono ?_;rintro e w' ⟨rfl,rfl⟩)
 have bO:=Boxed.new (w.alloc (.cells C 136)) 111 (.slice none 0 0);have bN:=Boxed.new ((w.alloc (.cells C 136)).alloc (.cells #[.slice none 0 0] 111)) 9 (.string s);have e1:(w.alloc (.cells C 136)).heap.size=w.heap.size+1:=by simp
 have e2:((w.alloc (.cells C 136)).alloc (.cells #[.slice none 0 0] 111)).heap.size=w.heap.size+2:=by simp
 rw[e1]at bO;rw[e2]at bN;have bM:mP (((w.alloc (.cells C 136)).alloc (.cells #[.slice none 0 0] 111)).alloc (.cells #[.string s] 9)) w.heap.size 136 C:=(mP.later (mP.later (alloc_at w (.cells C 136)) ((a0c _ _).alloc (a0a _) _)) ((a0c _ _).alloc (a0a _) _));have hB0:Below w.heap.size w (((w.alloc (.cells C 136)).alloc (.cells #[.slice none 0 0] 111)).alloc (.cells #[.string s] 9)):=(((a0c _ w).alloc (a0a _) _).alloc (by simp) _).alloc (by simp;omega) _;refine wpIn_rangeFunc_ownG rfl (by omega) (gf:=173) (lb:=#[.pointer (some ⟨w.heap.size+2,0,none⟩)]) rfl trivial (enters_of Tryz.func173 (by kernel_rfl) rfl)
  (qe 5 (by omega) (w.heap.size+2) s (by have:=ae HS;omega) _ bN) AZ (fun W l o o' _ h1 h2 _=>AY W l o o' h1 h2) (a0c _ _) (fun _=>rfl)
  (fun(pre:List (TkS s)) W=>(((∃v,Boxed W (w.heap.size+1) 111 v/\W.ownsRow w.heap.size 114 2 v (cw L D pre).length (aQ (cw L D pre))/\True)/\Below w.heap.size w W)/\Boxed W (w.heap.size+2) 9 (.string s))/\mP W w.heap.size 136 C)
  (fun _ _ _=>False)
  (OwnFrom.and (OwnFrom.and (OwnFrom.and (Own.from (holdsRow_own w.heap.size (w.heap.size+1) 111 114 2 (fun(pre:List (TkS s))=>(cw L D pre).length) (fun(pre:List (TkS s))=>aQ (cw L D pre)) (fun _ _=>True)) _) (ownFrom_below (a0a _) (by simp;omega))) (Own.from (boxed_own _ _ _) _)) (Own.from (Fw _ _ _) _))
  (fun _ _ _ _ _ hs _ _=>hs)
  ⟨⟨⟨⟨_,bO.alloc _,a00 _ _ _ _,trivial⟩,hB0⟩,bN⟩,bM⟩
  (fun x=>{ tmps:=#[.agg C,.string s,.pointer (some ⟨w.heap.size,0,none⟩),undef,.slice none 0 0,.pointer (some ⟨w.heap.size+1,0,none⟩),fm x.1,.string s,.func (.func 173) #[] #[.pointer (some ⟨w.heap.size+2,0,none⟩)],fm x.1,undef,undef,undef,undef,undef,undef,undef,undef,undef,undef,undef],defers:=[] }) ?assign ?body ?done ?stop
 case assign=>
  intro l x W K hK
  gi_wp2
  exact hK
 case body=>
  rintro l pre x W ⟨⟨⟨⟨v,hv,hrow,_⟩,hB⟩,hN⟩,hmM⟩ hlt;have hc:=hv.cell;have bd:Hid ((cw L D pre).length+(pcT L D x.1).length<=maxLen/\((cw L D pre).length+(pcT L D x.1).length)*16<=140737488355328):=by
   show _/\_;have h1:=ae HS;have h2:=ww L D pre;have h3:=(gF L D x.1).1;unfold maxLen;omega
  gi_wp2
  refine wpIn_region_any (by assumption) ?_;change wpAnyIn _ _ _ _ _ _ _ _ _ (World.drew _);refine wpAnyIn_ready (rs:=[0,1,2]) (by kernel_rfl) (by simp) ?_;refine AllReadyIn.cons rfl (fun K hK=>?_) (AllReadyIn.cons rfl (fun K hK=>?_) (AllReadyIn.cons rfl (fun K hK=>?_) AllReadyIn.nil))
  ·
   go_simp;refine hK _ _ ?_;clear hK K;refine wpAnyIn_ready (rs:=[1,2]) (by kernel_rfl) (by simp) ?_;refine AllReadyIn.cons rfl (fun K hK=>?_) (AllReadyIn.cons rfl (fun K hK=>?_) AllReadyIn.nil)
   · refine bK rfl 136 (.tmp 2) rfl w.heap.size 0 rfl C _ hmM.range a1R rfl (by rw[ae HSz];exact Tryz.infoBooks) (hK _ _ ?_);clear hK K;refine aj 2 (by kernel_rfl) rfl fun K hK=>?_;go_simp;refine hK _ _ ?_;clear hK K;refine aj 3 (by kernel_rfl) rfl fun K hK=>?_;go_simp;refine⟨trivial,?_⟩;refine(CallsIn.inRound l (callsIn_wide.2 (ae HPut x _ hB.drew))).mono ?_;rintro e x1 ⟨⟨g,rfl,hPB⟩,hbd⟩;have hb1:Below W.heap.size W x1:=⟨hbd.os,hbd.tape,hbd.output,hbd.size,hbd.block⟩;clear hbd;have hc1:=(Boxed.later hv hb1).cell;have hbs:w.heap.size<=x1.heap.size:=a0I hB.size hb1.size;refine hK _ _ ?_;clear hK K;refine aj 4 (by kernel_rfl) rfl fun K hK=>?_;refine aL rfl _ _ 111 rfl w.heap.size 114 i0 (.agg #[.int .i64 0,.int .i64 0]) 2 16 a0W hi hz0 hz1 hz2 rfl (by decide) v (cw L D pre).length _ rfl (aN hrow hb1) ⟨g,0,none⟩ (pcT L D x.1).length (pcT L D x.1).length (aQ (pcT L D x.1)) rfl (dk _) hPB.cells (cB _) (ae bd).1 (ae bd).2 hbs ?_;intro v' w1 hown' hgrow _;obtain⟨g',cap',rfl⟩:∃g' cap',v' = .slice (some ⟨g',0,none⟩) ((cw L D pre).length+(pcT L D x.1).length) cap':=fx hown' (by have:=(gF L D x.1).2;omega);obtain⟨hv1,hv2,hr2,hk2,hb2,hn2,hm2⟩:=cq hb1 hv hN hmM (by decide) (by decide) (by decide) (by omega) (by omega) hrow hB.size (by omega) hown' hgrow;have hc2:=hv1.cell;have hf2:=hv1.frozen;refine hK _ _ ?_;clear hK K;refine aj 5 (by kernel_rfl) rfl fun K hK=>?_;go_simp;refine hK _ _ ?_;clear hK K;refine wpAnyIn_done (by kernel_rfl) ?_ _;exact⟨(hk2.trans (KeepsOthers.refl _)).from _,fun _=>hn2,⟨⟨⟨⟨_,hv2,by rw[ev];exact gX hr2,trivial⟩,hB.trans hb2⟩,hn2⟩,hm2⟩⟩
   · go_simp;refine hK _ _ ?_;clear hK K;refine aj 1 (by kernel_rfl) rfl fun K hK=>?_;refine bK rfl 136 (.tmp 2) rfl w.heap.size 0 rfl C _ hmM.range a1R rfl (by rw[ae HSz];exact Tryz.infoBooks) (hK _ _ ?_);clear hK K;refine aj 3 (by kernel_rfl) rfl fun K hK=>?_;go_simp;refine⟨trivial,?_⟩;refine(CallsIn.inRound l (callsIn_wide.2 (ae HPut x _ hB.drew))).mono ?_;rintro e x1 ⟨⟨g,rfl,hPB⟩,hbd⟩;have hb1:Below W.heap.size W x1:=⟨hbd.os,hbd.tape,hbd.output,hbd.size,hbd.block⟩;clear hbd;have hc1:=(Boxed.later hv hb1).cell;have hbs:w.heap.size<=x1.heap.size:=a0I hB.size hb1.size;refine hK _ _ ?_;clear hK K;refine aj 4 (by kernel_rfl) rfl fun K hK=>?_;refine aL rfl _ _ 111 rfl w.heap.size 114 i0 (.agg #[.int .i64 0,.int .i64 0]) 2 16 a0W hi hz0 hz1 hz2 rfl (by decide) v (cw L D pre).length _ rfl (aN hrow hb1) ⟨g,0,none⟩ (pcT L D x.1).length (pcT L D x.1).length (aQ (pcT L D x.1)) rfl (dk _) hPB.cells (cB _) (ae bd).1 (ae bd).2 hbs ?_;intro v' w1 hown' hgrow _;obtain⟨g',cap',rfl⟩:∃g' cap',v' = .slice (some ⟨g',0,none⟩) ((cw L D pre).length+(pcT L D x.1).length) cap':=fx hown' (by have:=(gF L D x.1).2;omega);obtain⟨hv1,hv2,hr2,hk2,hb2,hn2,hm2⟩:=cq hb1 hv hN hmM (by decide) (by decide) (by decide) (by omega) (by omega) hrow hB.size (by omega) hown' hgrow;have hc2:=hv1.cell;have hf2:=hv1.frozen;refine hK _ _ ?_;clear hK K;refine aj 5 (by kernel_rfl) rfl fun K hK=>?_;go_simp;refine hK _ _ ?_;clear hK K;refine wpAnyIn_done (by kernel_rfl) ?_ _;exact⟨(hk2.trans (KeepsOthers.refl _)).from _,fun _=>hn2,⟨⟨⟨⟨_,hv2,by rw[ev];exact gX hr2,trivial⟩,hB.trans hb2⟩,hn2⟩,hm2⟩⟩
  ·
   refine bK rfl 136 (.tmp 2) rfl w.heap.size 0 rfl C _ hmM.range a1R rfl (by rw[ae HSz];exact Tryz.infoBooks) (hK _ _ ?_);clear hK K;refine wpAnyIn_ready (rs:=[0,2]) (by kernel_rfl) (by simp) ?_;refine AllReadyIn.cons rfl (fun K hK=>?_) (AllReadyIn.cons rfl (fun K hK=>?_) AllReadyIn.nil)
   · go_simp;refine hK _ _ ?_;clear hK K;refine aj 2 (by kernel_rfl) rfl fun K hK=>?_;go_simp;refine hK _ _ ?_;clear hK K;refine aj 3 (by kernel_rfl) rfl fun K hK=>?_;go_simp;refine⟨trivial,?_⟩;refine(CallsIn.inRound l (callsIn_wide.2 (ae HPut x _ hB.drew))).mono ?_;rintro e x1 ⟨⟨g,rfl,hPB⟩,hbd⟩;have hb1:Below W.heap.size W x1:=⟨hbd.os,hbd.tape,hbd.output,hbd.size,hbd.block⟩;clear hbd;have hc1:=(Boxed.later hv hb1).cell;have hbs:w.heap.size<=x1.heap.size:=a0I hB.size hb1.size;refine hK _ _ ?_;clear hK K;refine aj 4 (by kernel_rfl) rfl fun K hK=>?_;refine aL rfl _ _ 111 rfl w.heap.size 114 i0 (.agg #[.int .i64 0,.int .i64 0]) 2 16 a0W hi hz0 hz1 hz2 rfl (by decide) v (cw L D pre).length _ rfl (aN hrow hb1) ⟨g,0,none⟩ (pcT L D x.1).length (pcT L D x.1).length (aQ (pcT L D x.1)) rfl (dk _) hPB.cells (cB _) (ae bd).1 (ae bd).2 hbs ?_;intro v' w1 hown' hgrow _;obtain⟨g',cap',rfl⟩:∃g' cap',v' = .slice (some ⟨g',0,none⟩) ((cw L D pre).length+(pcT L D x.1).length) cap':=fx hown' (by have:=(gF L D x.1).2;omega);obtain⟨hv1,hv2,hr2,hk2,hb2,hn2,hm2⟩:=cq hb1 hv hN hmM (by decide) (by decide) (by decide) (by omega) (by omega) hrow hB.size (by omega) hown' hgrow;have hc2:=hv1.cell;have hf2:=hv1.frozen;refine hK _ _ ?_;clear hK K;refine aj 5 (by kernel_rfl) rfl fun K hK=>?_;go_simp;refine hK _ _ ?_;clear hK K;refine wpAnyIn_done (by kernel_rfl) ?_ _;exact⟨(hk2.trans (KeepsOthers.refl _)).from _,fun _=>hn2,⟨⟨⟨⟨_,hv2,by rw[ev];exact gX hr2,trivial⟩,hB.trans hb2⟩,hn2⟩,hm2⟩⟩
   ·
    go_simp;refine hK _ _ ?_;clear hK K;refine wpAnyIn_ready (rs:=[0,3]) (by kernel_rfl) (by simp) ?_;refine AllReadyIn.cons rfl (fun K hK=>?_) (AllReadyIn.cons rfl (fun K hK=>?_) AllReadyIn.nil)
    · go_simp;refine hK _ _ ?_;clear hK K;refine aj 3 (by kernel_rfl) rfl fun K hK=>?_;go_simp;refine⟨trivial,?_⟩;refine(CallsIn.inRound l (callsIn_wide.2 (ae HPut x _ hB.drew))).mono ?_;rintro e x1 ⟨⟨g,rfl,hPB⟩,hbd⟩;have hb1:Below W.heap.size W x1:=⟨hbd.os,hbd.tape,hbd.output,hbd.size,hbd.block⟩;clear hbd;have hc1:=(Boxed.later hv hb1).cell;have hbs:w.heap.size<=x1.heap.size:=a0I hB.size hb1.size;refine hK _ _ ?_;clear hK K;refine aj 4 (by kernel_rfl) rfl fun K hK=>?_;refine aL rfl _ _ 111 rfl w.heap.size 114 i0 (.agg #[.int .i64 0,.int .i64 0]) 2 16 a0W hi hz0 hz1 hz2 rfl (by decide) v (cw L D pre).length _ rfl (aN hrow hb1) ⟨g,0,none⟩ (pcT L D x.1).length (pcT L D x.1).length (aQ (pcT L D x.1)) rfl (dk _) hPB.cells (cB _) (ae bd).1 (ae bd).2 hbs ?_;intro v' w1 hown' hgrow _;obtain⟨g',cap',rfl⟩:∃g' cap',v' = .slice (some ⟨g',0,none⟩) ((cw L D pre).length+(pcT L D x.1).length) cap':=fx hown' (by have:=(gF L D x.1).2;omega);obtain⟨hv1,hv2,hr2,hk2,hb2,hn2,hm2⟩:=cq hb1 hv hN hmM (by decide) (by decide) (by decide) (by omega) (by omega) hrow hB.size (by omega) hown' hgrow;have hc2:=hv1.cell;have hf2:=hv1.frozen;refine hK _ _ ?_;clear hK K;refine aj 5 (by kernel_rfl) rfl fun K hK=>?_;go_simp;refine hK _ _ ?_;clear hK K;refine wpAnyIn_done (by kernel_rfl) ?_ _;exact⟨(hk2.trans (KeepsOthers.refl _)).from _,fun _=>hn2,⟨⟨⟨⟨_,hv2,by rw[ev];exact gX hr2,trivial⟩,hB.trans hb2⟩,hn2⟩,hm2⟩⟩
    · go_simp;refine⟨trivial,?_⟩;refine(CallsIn.inRound l (callsIn_wide.2 (ae HPut x _ hB.drew))).mono ?_;rintro e x1 ⟨⟨g,rfl,hPB⟩,hbd⟩;have hb1:Below W.heap.size W x1:=⟨hbd.os,hbd.tape,hbd.output,hbd.size,hbd.block⟩;clear hbd;have hc1:=(Boxed.later hv hb1).cell;have hbs:w.heap.size<=x1.heap.size:=a0I hB.size hb1.size;refine hK _ _ ?_;clear hK K;refine aj 0 (by kernel_rfl) rfl fun K hK=>?_;go_simp;refine hK _ _ ?_;clear hK K;refine aj 4 (by kernel_rfl) rfl fun K hK=>?_;refine aL rfl _ _ 111 rfl w.heap.size 114 i0 (.agg #[.int .i64 0,.int .i64 0]) 2 16 a0W hi hz0 hz1 hz2 rfl (by decide) v (cw L D pre).length _ rfl (aN hrow hb1) ⟨g,0,none⟩ (pcT L D x.1).length (pcT L D x.1).length (aQ (pcT L D x.1)) rfl (dk _) hPB.cells (cB _) (ae bd).1 (ae bd).2 hbs ?_;intro v' w1 hown' hgrow _;obtain⟨g',cap',rfl⟩:∃g' cap',v' = .slice (some ⟨g',0,none⟩) ((cw L D pre).length+(pcT L D x.1).length) cap':=fx hown' (by have:=(gF L D x.1).2;omega);obtain⟨hv1,hv2,hr2,hk2,hb2,hn2,hm2⟩:=cq hb1 hv hN hmM (by decide) (by decide) (by decide) (by omega) (by omega) hrow hB.size (by omega) hown' hgrow;have hc2:=hv1.cell;have hf2:=hv1.frozen;refine hK _ _ ?_;clear hK K;refine aj 5 (by kernel_rfl) rfl fun K hK=>?_;go_simp;refine hK _ _ ?_;clear hK K;refine wpAnyIn_done (by kernel_rfl) ?_ _;exact⟨(hk2.trans (KeepsOthers.refl _)).from _,fun _=>hn2,⟨⟨⟨⟨_,hv2,by rw[ev];exact gX hr2,trivial⟩,hB.trans hb2⟩,hn2⟩,hm2⟩⟩
  ·
   go_simp;refine hK _ _ ?_;clear hK K;refine wpAnyIn_ready (rs:=[0,1]) (by kernel_rfl) (by simp) ?_;refine AllReadyIn.cons rfl (fun K hK=>?_) (AllReadyIn.cons rfl (fun K hK=>?_) AllReadyIn.nil)
   · go_simp;refine hK _ _ ?_;clear hK K;refine aj 1 (by kernel_rfl) rfl fun K hK=>?_;refine bK rfl 136 (.tmp 2) rfl w.heap.size 0 rfl C _ hmM.range a1R rfl (by rw[ae HSz];exact Tryz.infoBooks) (hK _ _ ?_);clear hK K;refine aj 3 (by kernel_rfl) rfl fun K hK=>?_;go_simp;refine⟨trivial,?_⟩;refine(CallsIn.inRound l (callsIn_wide.2 (ae HPut x _ hB.drew))).mono ?_;rintro e x1 ⟨⟨g,rfl,hPB⟩,hbd⟩;have hb1:Below W.heap.size W x1:=⟨hbd.os,hbd.tape,hbd.output,hbd.size,hbd.block⟩;clear hbd;have hc1:=(Boxed.later hv hb1).cell;have hbs:w.heap.size<=x1.heap.size:=a0I hB.size hb1.size;refine hK _ _ ?_;clear hK K;refine aj 4 (by kernel_rfl) rfl fun K hK=>?_;refine aL rfl _ _ 111 rfl w.heap.size 114 i0 (.agg #[.int .i64 0,.int .i64 0]) 2 16 a0W hi hz0 hz1 hz2 rfl (by decide) v (cw L D pre).length _ rfl (aN hrow hb1) ⟨g,0,none⟩ (pcT L D x.1).length (pcT L D x.1).length (aQ (pcT L D x.1)) rfl (dk _) hPB.cells (cB _) (ae bd).1 (ae bd).2 hbs ?_;intro v' w1 hown' hgrow _;obtain⟨g',cap',rfl⟩:∃g' cap',v' = .slice (some ⟨g',0,none⟩) ((cw L D pre).length+(pcT L D x.1).length) cap':=fx hown' (by have:=(gF L D x.1).2;omega);obtain⟨hv1,hv2,hr2,hk2,hb2,hn2,hm2⟩:=cq hb1 hv hN hmM (by decide) (by decide) (by decide) (by omega) (by omega) hrow hB.size (by omega) hown' hgrow;have hc2:=hv1.cell;have hf2:=hv1.frozen;refine hK _ _ ?_;clear hK K;refine aj 5 (by kernel_rfl) rfl fun K hK=>?_;go_simp;refine hK _ _ ?_;clear hK K;refine wpAnyIn_done (by kernel_rfl) ?_ _;exact⟨(hk2.trans (KeepsOthers.refl _)).from _,fun _=>hn2,⟨⟨⟨⟨_,hv2,by rw[ev];exact gX hr2,trivial⟩,hB.trans hb2⟩,hn2⟩,hm2⟩⟩
   ·
    refine bK rfl 136 (.tmp 2) rfl w.heap.size 0 rfl C _ hmM.range a1R rfl (by rw[ae HSz];exact Tryz.infoBooks) (hK _ _ ?_);clear hK K;refine wpAnyIn_ready (rs:=[0,3]) (by kernel_rfl) (by simp) ?_;refine AllReadyIn.cons rfl (fun K hK=>?_) (AllReadyIn.cons rfl (fun K hK=>?_) AllReadyIn.nil)
    · go_simp;refine hK _ _ ?_;clear hK K;refine aj 3 (by kernel_rfl) rfl fun K hK=>?_;go_simp;refine⟨trivial,?_⟩;refine(CallsIn.inRound l (callsIn_wide.2 (ae HPut x _ hB.drew))).mono ?_;rintro e x1 ⟨⟨g,rfl,hPB⟩,hbd⟩;have hb1:Below W.heap.size W x1:=⟨hbd.os,hbd.tape,hbd.output,hbd.size,hbd.block⟩;clear hbd;have hc1:=(Boxed.later hv hb1).cell;have hbs:w.heap.size<=x1.heap.size:=a0I hB.size hb1.size;refine hK _ _ ?_;clear hK K;refine aj 4 (by kernel_rfl) rfl fun K hK=>?_;refine aL rfl _ _ 111 rfl w.heap.size 114 i0 (.agg #[.int .i64 0,.int .i64 0]) 2 16 a0W hi hz0 hz1 hz2 rfl (by decide) v (cw L D pre).length _ rfl (aN hrow hb1) ⟨g,0,none⟩ (pcT L D x.1).length (pcT L D x.1).length (aQ (pcT L D x.1)) rfl (dk _) hPB.cells (cB _) (ae bd).1 (ae bd).2 hbs ?_;intro v' w1 hown' hgrow _;obtain⟨g',cap',rfl⟩:∃g' cap',v' = .slice (some ⟨g',0,none⟩) ((cw L D pre).length+(pcT L D x.1).length) cap':=fx hown' (by have:=(gF L D x.1).2;omega);obtain⟨hv1,hv2,hr2,hk2,hb2,hn2,hm2⟩:=cq hb1 hv hN hmM (by decide) (by decide) (by decide) (by omega) (by omega) hrow hB.size (by omega) hown' hgrow;have hc2:=hv1.cell;have hf2:=hv1.frozen;refine hK _ _ ?_;clear hK K;refine aj 5 (by kernel_rfl) rfl fun K hK=>?_;go_simp;refine hK _ _ ?_;clear hK K;refine wpAnyIn_done (by kernel_rfl) ?_ _;exact⟨(hk2.trans (KeepsOthers.refl _)).from _,fun _=>hn2,⟨⟨⟨⟨_,hv2,by rw[ev];exact gX hr2,trivial⟩,hB.trans hb2⟩,hn2⟩,hm2⟩⟩
    · go_simp;refine⟨trivial,?_⟩;refine(CallsIn.inRound l (callsIn_wide.2 (ae HPut x _ hB.drew))).mono ?_;rintro e x1 ⟨⟨g,rfl,hPB⟩,hbd⟩;have hb1:Below W.heap.size W x1:=⟨hbd.os,hbd.tape,hbd.output,hbd.size,hbd.block⟩;clear hbd;have hc1:=(Boxed.later hv hb1).cell;have hbs:w.heap.size<=x1.heap.size:=a0I hB.size hb1.size;refine hK _ _ ?_;clear hK K;refine aj 0 (by kernel_rfl) rfl fun K hK=>?_;go_simp;refine hK _ _ ?_;clear hK K;refine aj 4 (by kernel_rfl) rfl fun K hK=>?_;refine aL rfl _ _ 111 rfl w.heap.size 114 i0 (.agg #[.int .i64 0,.int .i64 0]) 2 16 a0W hi hz0 hz1 hz2 rfl (by decide) v (cw L D pre).length _ rfl (aN hrow hb1) ⟨g,0,none⟩ (pcT L D x.1).length (pcT L D x.1).length (aQ (pcT L D x.1)) rfl (dk _) hPB.cells (cB _) (ae bd).1 (ae bd).2 hbs ?_;intro v' w1 hown' hgrow _;obtain⟨g',cap',rfl⟩:∃g' cap',v' = .slice (some ⟨g',0,none⟩) ((cw L D pre).length+(pcT L D x.1).length) cap':=fx hown' (by have:=(gF L D x.1).2;omega);obtain⟨hv1,hv2,hr2,hk2,hb2,hn2,hm2⟩:=cq hb1 hv hN hmM (by decide) (by decide) (by decide) (by omega) (by omega) hrow hB.size (by omega) hown' hgrow;have hc2:=hv1.cell;have hf2:=hv1.frozen;refine hK _ _ ?_;clear hK K;refine aj 5 (by kernel_rfl) rfl fun K hK=>?_;go_simp;refine hK _ _ ?_;clear hK K;refine wpAnyIn_done (by kernel_rfl) ?_ _;exact⟨(hk2.trans (KeepsOthers.refl _)).from _,fun _=>hn2,⟨⟨⟨⟨_,hv2,by rw[ev];exact gX hr2,trivial⟩,hB.trans hb2⟩,hn2⟩,hm2⟩⟩
 case done=>
  rintro Dd ys W hDd hys ⟨⟨⟨⟨v,hv,hrow,_⟩,hB⟩,hN⟩,hmM⟩ hK;have hc:=hv.cell;have HFl:Hid ((cw L D ys).length+1<=maxLen/\((cw L D ys).length+1)*16<=140737488355328):=by
   show _/\_;have h1:=yA s (ae HS) hys;have h2:=ww L D ys;unfold maxLen;omega
  have hFe:Hid (cw L D ys=(bm s.data.toList 0).flatMap (pcT L D)):=by show cw L D ys=_;unfold cw;rw[hys]
  have HDd:=af hDd;obtain⟨C1,C2,hCe,hC1,hC2⟩:=(ae HBk).later hB;have HL:=af (fun W' (hW:Below W.heap.size W W')=>mZ 256 L C1 base W' (hC1.later hW) h256 hL);have HR1:=af (by have h0:=gK (b:=w.heap.size) (t:=136) (show W.heap[w.heap.size]?=some (Obj.cells (C1++C2) 136) by rw[←hCe];exact hmM) hC1.size;exact h0.1);have HS1:=af hC1.size;have HPc:Hid (pcS L 256=(btI ((aI L 15).2.getD 256 0) (L.getD 256 0),L.getD 256 0)):=rfl;generalize btI ((aI L 15).2.getD 256 0) (L.getD 256 0)=p at *
  generalize L.getD 256 0=q at *
  clear hys hCe hC1 hC2 hDd
  gi_wp2
  refine wpIn_region_any (by assumption) ?_;change wpAnyIn _ _ _ _ _ _ _ _ _ (World.drew _);refine wpAnyIn_ready (rs:=[0,1]) (by kernel_rfl) (by simp) ?_;refine AllReadyIn.cons rfl (fun Kk hKk=>?_) (AllReadyIn.cons rfl (fun Kk hKk=>?_) AllReadyIn.nil)
  ·
   go_simp;refine hKk _ _ ?_;clear hKk Kk;refine aj 1 (by kernel_rfl) rfl fun Kk hKk=>?_;go_simp;refine hKk _ _ ?_;clear hKk Kk;refine aj 2 (by kernel_rfl) rfl fun Kk hKk=>?_;refine bK rfl 131 (.tmp 16) rfl w.heap.size 0 rfl C1 _ (ae HR1) a1k rfl (by rw[ae HS1];exact Tryz.infoLitB) (hKk _ _ ?_);clear hKk Kk;refine aj 3 (by kernel_rfl) rfl fun Kk hKk=>?_;go_simp;refine⟨trivial,?_⟩;refine(callsIn_wide.2 (ae HL _ (a0c _ W).drew)).mono ?_;rintro e x1 ⟨rfl,hbd⟩;have hb1:Below W.heap.size W x1:=⟨hbd.os,hbd.tape,hbd.output,hbd.size,hbd.block⟩;clear hbd;have hc1:=(Boxed.later hv hb1).cell;have hc1b:=((Boxed.later hv hb1).alloc (.cells #[.int .i64 p,.int .i64 q] 114)).cell;have hbs:w.heap.size<=x1.heap.size:=a0I hB.size hb1.size;refine hKk _ _ ?_;clear hKk Kk;refine aj 4 (by kernel_rfl) rfl fun Kk hKk=>?_;go_simp;refine hKk _ _ ?_;clear hKk Kk;refine aj 5 (by kernel_rfl) rfl fun Kk hKk=>?_;refine aL rfl _ _ 111 rfl w.heap.size 114 i0 (.agg #[.int .i64 0,.int .i64 0]) 2 16 a0W hi hz0 hz1 hz2 rfl (by decide) v (cw L D ys).length _ rfl (a0o (aN hrow hb1) _) ⟨x1.heap.size,0,none⟩ 1 1 [.int .i64 p,.int .i64 q] rfl rfl (lR _ _ _ _) (lS _ _) (ae HFl).1 (ae HFl).2 (by simp;omega) ?_;intro v' w1 hown' hgrow _;have hB1:Below w.heap.size w w1:=((hB.trans (hb1.mono hB.size)).alloc hbs _).grown hgrow (by simp;omega) (fun j hj=>(a0G (aN hrow hb1) j hj).1);have hK1:=lK (eH ((hb1.block Dd (Array.getElem?_eq_some_iff.1 hK).1).trans hK) (.cells #[.int .i64 p,.int .i64 q] 114)) hgrow (a0o (aN hrow hb1) _);refine hKk _ _ ?_;clear hKk Kk;refine aj 6 (by kernel_rfl) rfl fun Kk hKk=>?_;go_simp;refine hKk _ _ ?_;clear hKk Kk;refine wpAnyIn_done (by kernel_rfl) ?_ _
   gi_wp2
   refine⟨by simp,.inl ⟨_,_,rfl,run_takeDeferred hK1,?_⟩⟩;refine⟨_,a25 rfl _ _ _,_,rfl,?_,hB1.trans (belowK_b (w:=w) (a0a _) w1 Dd _ _ (by have:=ae HDd;simp at this;omega) hK1 rfl rfl)⟩;rw[←ae hFe,ae HPc];exact jQ (ownsRow_putObj hown' (.deferred none) hK1 rfl)
  ·
   go_simp;refine hKk _ _ ?_;clear hKk Kk;refine wpAnyIn_ready (rs:=[0,2]) (by kernel_rfl) (by simp) ?_;refine AllReadyIn.cons rfl (fun Kk hKk=>?_) (AllReadyIn.cons rfl (fun Kk hKk=>?_) AllReadyIn.nil)
   ·
    go_simp;refine hKk _ _ ?_;clear hKk Kk;refine aj 2 (by kernel_rfl) rfl fun Kk hKk=>?_;refine bK rfl 131 (.tmp 16) rfl w.heap.size 0 rfl C1 _ (ae HR1) a1k rfl (by rw[ae HS1];exact Tryz.infoLitB) (hKk _ _ ?_);clear hKk Kk;refine aj 3 (by kernel_rfl) rfl fun Kk hKk=>?_;go_simp;refine⟨trivial,?_⟩;refine(callsIn_wide.2 (ae HL _ (a0c _ W).drew)).mono ?_;rintro e x1 ⟨rfl,hbd⟩;have hb1:Below W.heap.size W x1:=⟨hbd.os,hbd.tape,hbd.output,hbd.size,hbd.block⟩;clear hbd;have hc1:=(Boxed.later hv hb1).cell;have hc1b:=((Boxed.later hv hb1).alloc (.cells #[.int .i64 p,.int .i64 q] 114)).cell;have hbs:w.heap.size<=x1.heap.size:=a0I hB.size hb1.size;refine hKk _ _ ?_;clear hKk Kk;refine aj 4 (by kernel_rfl) rfl fun Kk hKk=>?_;go_simp;refine hKk _ _ ?_;clear hKk Kk;refine aj 5 (by kernel_rfl) rfl fun Kk hKk=>?_;refine aL rfl _ _ 111 rfl w.heap.size 114 i0 (.agg #[.int .i64 0,.int .i64 0]) 2 16 a0W hi hz0 hz1 hz2 rfl (by decide) v (cw L D ys).length _ rfl (a0o (aN hrow hb1) _) ⟨x1.heap.size,0,none⟩ 1 1 [.int .i64 p,.int .i64 q] rfl rfl (lR _ _ _ _) (lS _ _) (ae HFl).1 (ae HFl).2 (by simp;omega) ?_;intro v' w1 hown' hgrow _;have hB1:Below w.heap.size w w1:=((hB.trans (hb1.mono hB.size)).alloc hbs _).grown hgrow (by simp;omega) (fun j hj=>(a0G (aN hrow hb1) j hj).1);have hK1:=lK (eH ((hb1.block Dd (Array.getElem?_eq_some_iff.1 hK).1).trans hK) (.cells #[.int .i64 p,.int .i64 q] 114)) hgrow (a0o (aN hrow hb1) _);refine hKk _ _ ?_;clear hKk Kk;refine aj 6 (by kernel_rfl) rfl fun Kk hKk=>?_;go_simp;refine hKk _ _ ?_;clear hKk Kk;refine wpAnyIn_done (by kernel_rfl) ?_ _
    gi_wp2
    refine⟨by simp,.inl ⟨_,_,rfl,run_takeDeferred hK1,?_⟩⟩;refine⟨_,a25 rfl _ _ _,_,rfl,?_,hB1.trans (belowK_b (w:=w) (a0a _) w1 Dd _ _ (by have:=ae HDd;simp at this;omega) hK1 rfl rfl)⟩;rw[←ae hFe,ae HPc];exact jQ (ownsRow_putObj hown' (.deferred none) hK1 rfl)
   ·
    refine bK rfl 131 (.tmp 16) rfl w.heap.size 0 rfl C1 _ (ae HR1) a1k rfl (by rw[ae HS1];exact Tryz.infoLitB) (hKk _ _ ?_);clear hKk Kk;refine wpAnyIn_ready (rs:=[0,3]) (by kernel_rfl) (by simp) ?_;refine AllReadyIn.cons rfl (fun Kk hKk=>?_) (AllReadyIn.cons rfl (fun Kk hKk=>?_) AllReadyIn.nil)
    ·
     go_simp;refine hKk _ _ ?_;clear hKk Kk;refine aj 3 (by kernel_rfl) rfl fun Kk hKk=>?_;go_simp;refine⟨trivial,?_⟩;refine(callsIn_wide.2 (ae HL _ (a0c _ W).drew)).mono ?_;rintro e x1 ⟨rfl,hbd⟩;have hb1:Below W.heap.size W x1:=⟨hbd.os,hbd.tape,hbd.output,hbd.size,hbd.block⟩;clear hbd;have hc1:=(Boxed.later hv hb1).cell;have hc1b:=((Boxed.later hv hb1).alloc (.cells #[.int .i64 p,.int .i64 q] 114)).cell;have hbs:w.heap.size<=x1.heap.size:=a0I hB.size hb1.size;refine hKk _ _ ?_;clear hKk Kk;refine aj 4 (by kernel_rfl) rfl fun Kk hKk=>?_;go_simp;refine hKk _ _ ?_;clear hKk Kk;refine aj 5 (by kernel_rfl) rfl fun Kk hKk=>?_;refine aL rfl _ _ 111 rfl w.heap.size 114 i0 (.agg #[.int .i64 0,.int .i64 0]) 2 16 a0W hi hz0 hz1 hz2 rfl (by decide) v (cw L D ys).length _ rfl (a0o (aN hrow hb1) _) ⟨x1.heap.size,0,none⟩ 1 1 [.int .i64 p,.int .i64 q] rfl rfl (lR _ _ _ _) (lS _ _) (ae HFl).1 (ae HFl).2 (by simp;omega) ?_;intro v' w1 hown' hgrow _;have hB1:Below w.heap.size w w1:=((hB.trans (hb1.mono hB.size)).alloc hbs _).grown hgrow (by simp;omega) (fun j hj=>(a0G (aN hrow hb1) j hj).1);have hK1:=lK (eH ((hb1.block Dd (Array.getElem?_eq_some_iff.1 hK).1).trans hK) (.cells #[.int .i64 p,.int .i64 q] 114)) hgrow (a0o (aN hrow hb1) _);refine hKk _ _ ?_;clear hKk Kk;refine aj 6 (by kernel_rfl) rfl fun Kk hKk=>?_;go_simp;refine hKk _ _ ?_;clear hKk Kk;refine wpAnyIn_done (by kernel_rfl) ?_ _
     gi_wp2
     refine⟨by simp,.inl ⟨_,_,rfl,run_takeDeferred hK1,?_⟩⟩;refine⟨_,a25 rfl _ _ _,_,rfl,?_,hB1.trans (belowK_b (w:=w) (a0a _) w1 Dd _ _ (by have:=ae HDd;simp at this;omega) hK1 rfl rfl)⟩;rw[←ae hFe,ae HPc];exact jQ (ownsRow_putObj hown' (.deferred none) hK1 rfl)
    ·
     go_simp;refine⟨trivial,?_⟩;refine(callsIn_wide.2 (ae HL _ (a0c _ W).drew)).mono ?_;rintro e x1 ⟨rfl,hbd⟩;have hb1:Below W.heap.size W x1:=⟨hbd.os,hbd.tape,hbd.output,hbd.size,hbd.block⟩;clear hbd;have hc1:=(Boxed.later hv hb1).cell;have hc1b:=((Boxed.later hv hb1).alloc (.cells #[.int .i64 p,.int .i64 q] 114)).cell;have hbs:w.heap.size<=x1.heap.size:=a0I hB.size hb1.size;refine hKk _ _ ?_;clear hKk Kk;refine wpAnyIn_ready (rs:=[0,4]) (by kernel_rfl) (by simp) ?_;refine AllReadyIn.cons rfl (fun Kk hKk=>?_) (AllReadyIn.cons rfl (fun Kk hKk=>?_) AllReadyIn.nil)
     ·
      go_simp;refine hKk _ _ ?_;clear hKk Kk;refine aj 4 (by kernel_rfl) rfl fun Kk hKk=>?_;go_simp;refine hKk _ _ ?_;clear hKk Kk;refine aj 5 (by kernel_rfl) rfl fun Kk hKk=>?_;refine aL rfl _ _ 111 rfl w.heap.size 114 i0 (.agg #[.int .i64 0,.int .i64 0]) 2 16 a0W hi hz0 hz1 hz2 rfl (by decide) v (cw L D ys).length _ rfl (a0o (aN hrow hb1) _) ⟨x1.heap.size,0,none⟩ 1 1 [.int .i64 p,.int .i64 q] rfl rfl (lR _ _ _ _) (lS _ _) (ae HFl).1 (ae HFl).2 (by simp;omega) ?_;intro v' w1 hown' hgrow _;have hB1:Below w.heap.size w w1:=((hB.trans (hb1.mono hB.size)).alloc hbs _).grown hgrow (by simp;omega) (fun j hj=>(a0G (aN hrow hb1) j hj).1);have hK1:=lK (eH ((hb1.block Dd (Array.getElem?_eq_some_iff.1 hK).1).trans hK) (.cells #[.int .i64 p,.int .i64 q] 114)) hgrow (a0o (aN hrow hb1) _);refine hKk _ _ ?_;clear hKk Kk;refine aj 6 (by kernel_rfl) rfl fun Kk hKk=>?_;go_simp;refine hKk _ _ ?_;clear hKk Kk;refine wpAnyIn_done (by kernel_rfl) ?_ _
      gi_wp2
      refine⟨by simp,.inl ⟨_,_,rfl,run_takeDeferred hK1,?_⟩⟩;refine⟨_,a25 rfl _ _ _,_,rfl,?_,hB1.trans (belowK_b (w:=w) (a0a _) w1 Dd _ _ (by have:=ae HDd;simp at this;omega) hK1 rfl rfl)⟩;rw[←ae hFe,ae HPc];exact jQ (ownsRow_putObj hown' (.deferred none) hK1 rfl)
     ·
      go_simp;refine hKk _ _ ?_;clear hKk Kk;refine aj 0 (by kernel_rfl) rfl fun Kk hKk=>?_;go_simp;refine hKk _ _ ?_;clear hKk Kk;refine aj 5 (by kernel_rfl) rfl fun Kk hKk=>?_;refine aL rfl _ _ 111 rfl w.heap.size 114 i0 (.agg #[.int .i64 0,.int .i64 0]) 2 16 a0W hi hz0 hz1 hz2 rfl (by decide) v (cw L D ys).length _ rfl (a0o (aN hrow hb1) _) ⟨x1.heap.size,0,none⟩ 1 1 [.int .i64 p,.int .i64 q] rfl rfl (lR _ _ _ _) (lS _ _) (ae HFl).1 (ae HFl).2 (by simp;omega) ?_;intro v' w1 hown' hgrow _;have hB1:Below w.heap.size w w1:=((hB.trans (hb1.mono hB.size)).alloc hbs _).grown hgrow (by simp;omega) (fun j hj=>(a0G (aN hrow hb1) j hj).1);have hK1:=lK (eH ((hb1.block Dd (Array.getElem?_eq_some_iff.1 hK).1).trans hK) (.cells #[.int .i64 p,.int .i64 q] 114)) hgrow (a0o (aN hrow hb1) _);refine hKk _ _ ?_;clear hKk Kk;refine aj 6 (by kernel_rfl) rfl fun Kk hKk=>?_;go_simp;refine hKk _ _ ?_;clear hKk Kk;refine wpAnyIn_done (by kernel_rfl) ?_ _
      gi_wp2
      refine⟨by simp,.inl ⟨_,_,rfl,run_takeDeferred hK1,?_⟩⟩;refine⟨_,a25 rfl _ _ _,_,rfl,?_,hB1.trans (belowK_b (w:=w) (a0a _) w1 Dd _ _ (by have:=ae HDd;simp at this;omega) hK1 rfl rfl)⟩;rw[←ae hFe,ae HPc];exact jQ (ownsRow_putObj hown' (.deferred none) hK1 rfl)
 case stop=>
  rintro D c pre W _ _ h _;exact h.elim
end Go.Proofs.YtbacpebljannfaaGreatDoor
