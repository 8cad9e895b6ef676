/- Of what the proof is made: 3 texts, one behind the other. -/
import Derived.Test.YtkdlcomfpffhhaaGreatDoorM24
import Derived.Test.YtkdlcomfpffhhaaGreatDoorM26
import Derived.Test.YtkdlcomfpffhhaaGreatDoorM33
import Derived.Test.YtkdlcomfpffhhaaGreatDoorM32
import Derived.Test.YtkdlcomfpffhhaaGreatDoorM7
import Derived.Test.YtkdlcomfpffhhaaGreatDoorM8
import Derived.Test.YtkdlcomfpffhhaaGreatDoorM29
set_option linter.unusedSimpArgs false
set_option linter.unusedVariables false
set_option maxHeartbeats 6400000
namespace Go.Proofs.YtkdlcomfpffhhaaGreatDoor
open Go.RowKit Go.Shelf Corb
attribute [local go_sem] Oper.semAt_some
def lQ(W:World)(b:Nat)(t:TypeId)(C:Array Value):Prop:=W.heap[b]?=some (.cells C t (0,0))
theorem GF{β:Type}(B:Nat)(t:TypeId)(C:Array Value):Own (fun(_:β) W=>lQ W B t C):=fun _ X _ row hs hg hrow=>
 (hg.block B (Array.getElem?_eq_some_iff.1 hs).1 (fun e'=>by obtain⟨o,ho,hc⟩:=hrow B e'.symm;rw[show X.heap[B]?=_ from hs]at ho;cases ho;cases hc)).trans hs
theorem lQ.kept{W W':World}{row:Option Nat}{B:Nat}{t:TypeId}{C:Array Value}(h:lQ W B t C)(hg:W.grownBy W' row)(hne:some B≠row):lQ W' B t C:=(hg.block B (Array.getElem?_eq_some_iff.1 h).1 hne).trans h
theorem lQ.later{W W':World}{B:Nat}{t:TypeId}{C:Array Value}(h:lQ W B t C)(hb:Below W.heap.size W W'):lQ W' B t C:=h.kept (dH hb) (by simp)
theorem iu{F:Fence}{n:Nat}{P:Program}{ops:Array Oper}{o:Oper}{a:Act}{w:World}{K:Act->World->Prop}{Q:Exit->Act->World->Prop}{E:Prop}
  (hg:o.guard=none) (ty:TypeId) (x:Operand) (hop:o.op = .load ty x) (b off:Nat) (hx:a.eval x = .pointer (some ⟨b,off,none⟩)) (C:Array Value) (d:TypeDesc) (hc:w.rangeAt b off C.toList)
  (hu:P.underlying ty=some d) (hd:d.isRow=true) (hi:(P.info? ty).map (·.size)=some C.size) (hK:K (a.put o.dst (.agg C)) w) :
  if Region.wanted o (yielded ops a.tmps)=true then Oper.wpIn F n P o a w K Q else E:=by
 have hw:Region.wanted o (yielded ops a.tmps)=true:=by simp[Region.wanted,hg]
 rw[a0d hw];unfold Oper.wpIn;refine⟨?_,?_⟩
 · simp[Oper.about,hop]
 · rw[Oper.semAt_plain F _ _ (by rw[hop];intro c hc';cases hc')];unfold execOp;simp only[hop,hx,Instr.loadAt,Instr.sureAddr,a2f,a29,Result.andThen_ok,run_loadVar_mid w b off ty C.toList d hc hu hd (by simpa using hi)];simpa[Oper.uponIn]using hK
def fU(L D:List Int)(t:Tk):Prop:=if isB t then t.1.toNat<L.length else 257+fnd 3 4 t.2.1.toNat 27<L.length/\fnd 1 2 t.2.2.toNat 29<D.length
theorem uV(L D:List Int)(t:Tk):(pcT L D t).length<=4/\1<=(pcT L D t).length:=by unfold pcT;split<;>simp
theorem zx{t:Tk}(h:isK t=true):3<=t.2.1/\t.2.1<=60/\1<=t.2.2/\t.2.2<=250:=by
 unfold isK inB at h;simp only[a0i,a0q]at h;omega
theorem uJ{t:Tk}(h:isB t=true):0<=t.1/\t.1<=255:=by
 unfold isB inB at h;simp only[a0i,a0q]at h;omega
def eU{s:ByteArray}(L D:List Int)(pre:List (TkS s)):List (Int×Int):=(pre.map Subtype.val).flatMap (pcT L D)
theorem vY{s:ByteArray}(L D:List Int)(pre:List (TkS s)):(eU L D pre).length<=4*pre.length:=by
 unfold eU;induction pre with
 | nil=>simp
 | cons x r ih=>have:=(uV L D x.1).1;simp only[a0o,a0W,a0l,a0B];omega
theorem zi{s:ByteArray}(L D:List Int)(pre:List (TkS s))(x:TkS s):eU L D (pre++[x])=eU L D pre++pcT L D x.1:=by simp[eU]
theorem Hw{W:World}{n₀:Nat}{v:Value}{l m:List (Int×Int)}(h:W.ownsRow n₀ 173 2 v (l.length+m.length) (aK l++aK m)):W.ownsRow n₀ 173 2 v (l++m).length (aK (l++m)):=by
 rw[du,a0l];exact h
theorem Ib(t:Tk)(base:Nat)(L D:List Int)(C:Array Value)(w:World)(hok:okT t=true)(hf:fU L D t)(hB:cY w base L D C)(hL:L.length<=300)(hD:D.length<=300) :
  Calls Tryz.prog 174 #[.agg C,dY t] w fun e w'=>(∃g,e = .returned (.slice (some ⟨g,0,none⟩) (pcT L D t).length (pcT L D t).length)/\yK w' g (pcT L D t))/\Below w.heap.size w w':=by
 cases hb:isB t
 ·
  have hk:isK t=true:=by unfold okT at hok;rw[hb]at hok;simpa using hok
  unfold fU at hf;rw[a0e (by simp[hb])]at hf;have e1:pcT L D t=[pcS L (257+fnd 3 4 t.2.1.toNat 27),((t.2.1.toNat:Int)-((stF 3 4 (fnd 3 4 t.2.1.toNat 27)).1:Int),((stF 3 4 (fnd 3 4 t.2.1.toNat 27)).2:Nat)),pcS D (fnd 1 2 t.2.2.toNat 29),((t.2.2.toNat:Int)-((stF 1 2 (fnd 1 2 t.2.2.toNat 29)).1:Int),((stF 1 2 (fnd 1 2 t.2.2.toNat 29)).2:Nat))]:=by unfold pcT;rw[a0e (by simp[hb])]
  obtain⟨q1,q2,q3,q4⟩:=zx hk;have f1:t.2.1=((t.2.1.toNat:Nat):Int):=by omega
  have f2:t.2.2=((t.2.2.toNat:Nat):Int):=by omega
  have e2:dY t = .iface 249 (.agg #[.int .i64 ((t.2.1.toNat:Nat):Int),.int .i64 ((t.2.2.toNat:Nat):Int)]):=by rw[←f1,←f2];exact ms hk
  rw[e2,e1];have:=Ia t.2.1.toNat t.2.2.toNat base L D C w hB (by omega) (by omega) (by omega) (by omega) hf.1 hf.2 hL hD;exact this
 ·
  obtain⟨q1,q2⟩:=uJ hb;unfold fU at hf;rw[a0d hb]at hf;have e1:pcT L D t=[pcS L t.1.toNat]:=by unfold pcT;rw[a0d hb]
  have f1:t.1=((t.1.toNat:Nat):Int):=by omega
  have e2:dY t = .iface 247 (.int .u8 ((t.1.toNat:Nat):Int)):=by rw[←f1];exact jv hb
  rw[e2,e1];have:=H7 t.1.toNat base L D C w hB hf (by omega) hL;exact this
theorem pu{W x1 w1:World}{n₀ B Bn Bm:Nat}{t e tn tm:TypeId}{size:Nat}{v v' u:Value}{C:Array Value}{k m:Nat}{xs ys:List Value}
  (hW:Below W.heap.size W x1) (hv:Boxed W B t v) (hbn:Boxed W Bn tn u) (hm:lQ W Bm tm C) (hte:t≠e) (htn:tn≠e) (htm:tm≠e) (hne:Bn≠B) (hnm:Bm≠B) (hrow:W.ownsRow n₀ e size v k xs) (hn₀:n₀<=W.heap.size) (hB:n₀<=B)
  (hown':w1.ownsRow n₀ e size v' m ys) (hgrow:x1.grownBy w1 v.ownBlock) :
  Boxed w1 B t v/\Boxed (w1.setCell ⟨B,0,none⟩ v') B t v'/\(w1.setCell ⟨B,0,none⟩ v').ownsRow n₀ e size v' m ys/\KeepsOthers W (w1.setCell ⟨B,0,none⟩ v')/\Below n₀ W (w1.setCell ⟨B,0,none⟩ v')/\Boxed (w1.setCell ⟨B,0,none⟩ v') Bn tn u/\lQ (w1.setCell ⟨B,0,none⟩ v') Bm tm C:=by
 have hv1:=Boxed.later hv hW;have hbn1:=Boxed.later hbn hW;have hm1:=hm.later hW;have hrow1:x1.ownsRow n₀ e size v k xs:=eE hrow hW;have hmr:some Bm≠v.ownBlock:=by
  intro e';rcases hrow1.2 with⟨rfl,_⟩|⟨g,cap,cur,rfl,_,hgb,_⟩
  · cases e'
  ·
   simp only[Value.ownBlock,a0j]at e';subst e';rw[show x1.heap[Bm]?=_ from hm1]at hgb;cases hgb
   exact htm rfl
 have h1:Boxed w1 B t v:=hv1.kept hgrow (hv1.not_row hte hrow1);refine⟨h1,h1.set v',hown'.kept (grownBy_setCell' w1 B v') (.inr (h1.not_row hte hown').symm),?_,?_,?_,?_⟩
 ·
  refine((KeepsOthers.of_grownBy (dH hW) (fun _ _ e=>by cases e)).trans (KeepsOthers.of_grownBy hgrow fun j o ej hj=>?_)).trans (KeepsOthers.setCell _ _ _);rcases hrow1.2 with⟨rfl,_⟩|⟨g,cap,cur,rfl,_,hgb,_⟩
  · cases ej
  ·
   simp only[Value.ownBlock,a0j]at ej;subst ej;rw[hgb]at hj;cases hj
   rfl
 · have hA:Below n₀ W x1:=hW.mono hn₀;have hA1:Below n₀ W w1:=hA.grown hgrow (a0P hn₀ hW.size) (fun j hj=>(a0y hrow1 j hj).1);exact ai hA1 hB _
 · exact Boxed.other (hbn1.kept hgrow (hbn1.not_row htn hrow1)) hne v'
 · exact(hm1.kept hgrow hmr).kept (grownBy_setCell' w1 B v') (fun e=>hnm (by cases e;rfl))
theorem IZ(x:World)(a b:Value)(t:TypeId):∀(j:Nat) (u:Value),[a,b][j]?=some u->(x.alloc (.cells #[a,b] t)).cell? ((⟨x.heap.size,0,none⟩:Addr).add j)=some u:=by
 intro j u hj
 match j,hj with
 | 0,hj=>simp at hj;subst hj;simp[Addr.add]
 | 1,hj=>simp at hj;subst hj;simp[Addr.add]
theorem I0(p q:Int):∀u∈[Value.int .i64 p,Value.int .i64 q],u.oneCell'=true:=by
 intro u hu;simp at hu;rcases hu with rfl|rfl<;>rfl
theorem rE{W:World}{d:Nat}{r:Option (List Deferred)}(h:W.heap[d]?=some (Obj.deferred r))(o:Obj):(W.alloc o).heap[d]?=some (Obj.deferred r):=
 (a1l W o d (Array.getElem?_eq_some_iff.1 h).1).trans h
theorem Ig{W W':World}{d n₀ n size:Nat}{e:TypeId}{v:Value}{xs:List Value}{r:Option (List Deferred)}(h:W.heap[d]?=some (Obj.deferred r))(hg:W.grownBy W' v.ownBlock)(ho:W.ownsRow n₀ e size v n xs):W'.heap[d]?=some (Obj.deferred r):=by
 refine(hg.block d (Array.getElem?_eq_some_iff.1 h).1 ?_).trans h;intro e';rcases ho.2 with⟨rfl,_⟩|⟨g,cap,cur,rfl,_,hgb,_⟩
 · cases e'
 · simp only[Value.ownBlock,a0j]at e';subst e';rw[h]at hgb;cases hgb
theorem D4{W:World}{n₀:Nat}{v:Value}{l:List (Int×Int)}{p q:Int}(h:W.ownsRow n₀ 173 2 v (l.length+1) (aK l++[.int .i64 p,.int .i64 q])):Pcs W n₀ v (l++[(p,q)]):=by
 show World.ownsRow _ _ _ _ _ (l++[(p,q)]).length _;rw[du,a0l];exact h
theorem yh(s:ByteArray)(hs:s.size<=300){ys:List (TkS s)}(h:ys.map Subtype.val=bh s.data.toList 0):ys.length<=300:=by
 have h1:=congrArg List.length h;rw[a0S]at h1;have h2:=tR s.data.toList s.data.toList.length 0 (by omega);have h3:s.data.toList.length=s.size:=by simp
 omega
theorem lQ.range{W:World}{b:Nat}{t:TypeId}{C:Array Value}(h:lQ W b t C):W.rangeAt b 0 C.toList:=by
 intro j v hv;rw[a0A,bn h];simpa using hv
theorem rr{W:World}{n₀ n:Nat}{e:TypeId}{size:Nat}{v:Value}{xs:List Value}(h:W.ownsRow n₀ e size v n xs)(hn:0<n):∃g cap,v = .slice (some ⟨g,0,none⟩) n cap:=by
 rcases h.2 with⟨_,h0⟩|⟨g,cap,_,e,_⟩
 · omega
 · exact⟨g,cap,e⟩
set_option maxRecDepth 100000 in
theorem ry(s:ByteArray)(base:Nat)(L D:List Int)(C:Array Value)(w:World)(hs:s.size<=300)(hB:cY w base L D C)(hL:L.length<=300)(hD:D.length<=300)(h256:256<L.length)(hfit:∀t∈bh s.data.toList 0,fU L D t) :
  Calls Tryz.prog 136 #[.agg C,.string s] w fun e w'=>∃v,e = .returned v/\Pcs w' w.heap.size v ((bh s.data.toList 0).flatMap (pcT L D)++[pcS L 256])/\Below w.heap.size w w':=by
 obtain⟨i0,hi,hz0,hz1,hz2⟩:=a0z Tryz.infoPiece;have hsI:(s.size:Int)<=300:=by omega
 have hmx:Tryz.prog.follows .mixedOrders=true:=by kernel_rfl
 have HS:=af hs;have HSz:=af hB.size;have HPut:=af (fun(x:TkS s) W (hW:Below w.heap.size w W)=>Ib x.1 base L D C W x.2.1 (hfit x.1 x.2.2) (hB.later hW) hL hD);have HBk:=af hB;clear hs hB hfit;refine(callsIn_wide (n:=6)).1 ?_;refine callsIn_of_wp_marks Tryz.func136 rfl trivial ?_ rfl;simp only[Tryz.ntmps136,a2C,a0B,a1i,Nat.reduceAdd,Nat.reduceSub,Array.replicate_succ,Array.replicate_zero,List.push_toArray,List.append_toArray,a04,a1h]
 gi_wp2_with (refine⟨trivial,?_⟩;gi_at_call 173;refine(callsIn_wide.2 (nb s _)).mono ?_;rintro e w' ⟨rfl,rfl⟩)
 have bO:=Boxed.new (w.alloc (.cells C 184)) 170 (.slice none 0 0);have bN:=Boxed.new ((w.alloc (.cells C 184)).alloc (.cells #[.slice none 0 0] 170)) 9 (.string s);have e1:(w.alloc (.cells C 184)).heap.size=w.heap.size+1:=by simp
 have e2:((w.alloc (.cells C 184)).alloc (.cells #[.slice none 0 0] 170)).heap.size=w.heap.size+2:=by simp
 rw[e1]at bO;rw[e2]at bN;have bM:lQ (((w.alloc (.cells C 184)).alloc (.cells #[.slice none 0 0] 170)).alloc (.cells #[.string s] 9)) w.heap.size 184 C:=(lQ.later (lQ.later (alloc_at w (.cells C 184)) ((a0c _ _).alloc (a0a _) _)) ((a0c _ _).alloc (a0a _) _));have hB0:Below w.heap.size w (((w.alloc (.cells C 184)).alloc (.cells #[.slice none 0 0] 170)).alloc (.cells #[.string s] 9)):=(((a0c _ w).alloc (a0a _) _).alloc (by simp) _).alloc (by simp;omega) _;refine wpIn_rangeFunc_ownG rfl (by omega) (gf:=207) (lb:=#[.pointer (some ⟨w.heap.size+2,0,none⟩)]) rfl trivial (enters_of Tryz.func207 (by kernel_rfl) rfl)
  (pg 5 (by omega) (w.heap.size+2) s (by have:=ae HS;omega) _ bN) Bf (fun W l o o' _ h1 h2 _=>Be W l o o' h1 h2) (a0c _ _) (fun _=>rfl)
  (fun(pre:List (TkS s)) W=>(((∃v,Boxed W (w.heap.size+1) 170 v/\W.ownsRow w.heap.size 173 2 v (eU L D pre).length (aK (eU L D pre))/\True)/\Below w.heap.size w W)/\Boxed W (w.heap.size+2) 9 (.string s))/\lQ W w.heap.size 184 C)
  (fun _ _ _=>False)
  (OwnFrom.and (OwnFrom.and (OwnFrom.and (Own.from (holdsRow_own w.heap.size (w.heap.size+1) 170 173 2 (fun(pre:List (TkS s))=>(eU L D pre).length) (fun(pre:List (TkS s))=>aK (eU L D pre)) (fun _ _=>True)) _) (ownFrom_below (a0a _) (by simp;omega))) (Own.from (boxed_own _ _ _) _)) (Own.from (GF _ _ _) _))
  (fun _ _ _ _ _ hs _ _=>hs)
  ⟨⟨⟨⟨_,bO.alloc _,a07 _ _ _ _,trivial⟩,hB0⟩,bN⟩,bM⟩
  (fun x=>{ tmps:=#[.agg C,.string s,.pointer (some ⟨w.heap.size,0,none⟩),undef,.slice none 0 0,.pointer (some ⟨w.heap.size+1,0,none⟩),dY x.1,.string s,.func (.func 207) #[] #[.pointer (some ⟨w.heap.size+2,0,none⟩)],dY x.1,undef,undef,undef,undef,undef,undef,undef,undef,undef,undef,undef],defers:=[] }) ?assign ?body ?done ?stop
 case assign=>
  intro l x W K hK
  gi_wp2
  exact hK
 case body=>
  rintro l pre x W ⟨⟨⟨⟨v,hv,hrow,_⟩,hB⟩,hN⟩,hmM⟩ hlt;have hc:=hv.cell;have bd:Hid ((eU L D pre).length+(pcT L D x.1).length<=maxLen/\((eU L D pre).length+(pcT L D x.1).length)*16<=140737488355328):=by
   show _/\_;have h1:=ae HS;have h2:=vY L D pre;have h3:=(uV L D x.1).1;unfold maxLen;omega
  gi_wp2
  refine wpIn_region_any (by assumption) ?_;change wpAnyIn _ _ _ _ _ _ _ _ _ (World.drew _);repeat' first
   | exact AllReadyIn.nil
   | refine AllReadyIn.cons rfl (fun K hK=>?_) ?_
   | (refine eO 10 rfl ?_;go_simp;refine hK _ _ ?_;clear hK K)
   | (refine eO 12 rfl ?_;go_simp;refine hK _ _ ?_;clear hK K)
   | (refine eO 11 rfl ?_;refine iu rfl 184 (.tmp 2) rfl w.heap.size 0 rfl C _ hmM.range a3p rfl (by rw[ae HSz];exact Tryz.infoBooks) (hK _ _ ?_);clear hK K)
   | (refine eO 13 rfl ?_;go_simp;refine⟨trivial,?_⟩;refine(CallsIn.inRound l (callsIn_wide.2 (ae HPut x _ hB.drew))).mono ?_;rintro e x1 ⟨⟨g,rfl,hPB⟩,hbd⟩;have hb1:Below W.heap.size W x1:=⟨hbd.os,hbd.tape,hbd.output,hbd.size,hbd.block⟩;clear hbd;have hc1:=(Boxed.later hv hb1).cell;have hbs:w.heap.size<=x1.heap.size:=a0P hB.size hb1.size;refine hK _ _ ?_;clear hK K)
   | (refine eO 14 rfl ?_;refine g9 rfl _ _ 170 rfl w.heap.size 173 i0 (.agg #[.int .i64 0,.int .i64 0]) 2 16 a1r hi hz0 hz1 hz2 rfl (by decide) v (eU L D pre).length _ rfl (eE hrow hb1) ⟨g,0,none⟩ (pcT L D x.1).length (pcT L D x.1).length (aK (pcT L D x.1)) rfl (jo _) hPB.cells (fF _) (ae bd).1 (ae bd).2 hbs ?_;intro v' w1 hown' hgrow _;obtain⟨g',cap',rfl⟩:∃g' cap',v' = .slice (some ⟨g',0,none⟩) ((eU L D pre).length+(pcT L D x.1).length) cap':=rr hown' (by have:=(uV L D x.1).2;omega);obtain⟨hv1,hv2,hr2,hk2,hb2,hn2,hm2⟩:=pu hb1 hv hN hmM (by decide) (by decide) (by decide) (by omega) (by omega) hrow hB.size (by omega) hown' hgrow;have hc2:=hv1.cell;have hf2:=hv1.frozen;refine hK _ _ ?_;clear hK K)
   | (refine E8 (Op.store 170 (.tmp 5) (.tmp 14)) rfl ?_;go_simp;refine hK _ _ ?_;clear hK K)
   | refine wpAnyIn_ready (rs:=[0,1,2]) (by decide +kernel) (by simp) ?_
   | refine wpAnyIn_ready (rs:=[1,2]) (by decide +kernel) (by simp) ?_
   | refine wpAnyIn_ready (rs:=[2]) (by decide +kernel) (by simp) ?_
   | refine wpAnyIn_ready (rs:=[3]) (by decide +kernel) (by simp) ?_
   | refine wpAnyIn_ready (rs:=[4]) (by decide +kernel) (by simp) ?_
   | refine wpAnyIn_ready (rs:=[5]) (by decide +kernel) (by simp) ?_
   | refine wpAnyIn_ready (rs:=[1]) (by decide +kernel) (by simp) ?_
   | refine wpAnyIn_ready (rs:=[0,2]) (by decide +kernel) (by simp) ?_
   | refine wpAnyIn_ready (rs:=[0,3]) (by decide +kernel) (by simp) ?_
   | refine wpAnyIn_ready (rs:=[0]) (by decide +kernel) (by simp) ?_
   | refine wpAnyIn_ready (rs:=[0,1]) (by decide +kernel) (by simp) ?_
   | (refine wpAnyIn_done (by decide +kernel) ?_ _;exact⟨(hk2.trans (KeepsOthers.refl _)).from _,fun _=>hn2,⟨⟨⟨⟨_,hv2,by rw[zi];exact Hw hr2,trivial⟩,hB.trans hb2⟩,hn2⟩,hm2⟩⟩)
 case done=>
  rintro Dd ys W hDd hys ⟨⟨⟨⟨v,hv,hrow,_⟩,hB⟩,hN⟩,hmM⟩ hK;have hc:=hv.cell;have HFl:Hid ((eU L D ys).length+1<=maxLen/\((eU L D ys).length+1)*16<=140737488355328):=by
   show _/\_;have h1:=yh s (ae HS) hys;have h2:=vY L D ys;unfold maxLen;omega
  have hFe:Hid (eU L D ys=(bh s.data.toList 0).flatMap (pcT L D)):=by show eU L D ys=_;unfold eU;rw[hys]
  have HDd:=af hDd;obtain⟨C1,C2,hCe,hC1,hC2⟩:=(ae HBk).later hB;have HL:=af (fun W' (hW:Below W.heap.size W W')=>l9 256 L C1 base W' (hC1.later hW) h256 hL);have HR1:=af (by have h0:=fS (b:=w.heap.size) (t:=184) (show W.heap[w.heap.size]?=some (Obj.cells (C1++C2) 184) by rw[←hCe];exact hmM) hC1.size;exact h0.1);have HS1:=af hC1.size;have HPc:Hid (pcS L 256=(btI ((bz L 15).2.getD 256 0) (L.getD 256 0),L.getD 256 0)):=rfl;generalize btI ((bz L 15).2.getD 256 0) (L.getD 256 0)=p at *
  generalize L.getD 256 0=q at *
  clear hys hCe hC1 hC2 hDd
  gi_wp2
  refine wpIn_region_any (by assumption) ?_;change wpAnyIn _ _ _ _ _ _ _ _ _ (World.drew _);repeat' first
   | exact AllReadyIn.nil
   | refine AllReadyIn.cons rfl (fun Kk hKk=>?_) ?_
   | (refine eO 15 rfl ?_;go_simp;refine hKk _ _ ?_;clear hKk Kk)
   | (refine eO 16 rfl ?_;go_simp;refine hKk _ _ ?_;clear hKk Kk)
   | (refine eO 17 rfl ?_;refine iu rfl 179 (.tmp 16) rfl w.heap.size 0 rfl C1 _ (ae HR1) a17 rfl (by rw[ae HS1];exact Tryz.infoLitB) (hKk _ _ ?_);clear hKk Kk)
   | (refine eO 18 rfl ?_;go_simp;refine⟨trivial,?_⟩;refine(callsIn_wide.2 (ae HL _ (a0c _ W).drew)).mono ?_;rintro e x1 ⟨rfl,hbd⟩;have hb1:Below W.heap.size W x1:=⟨hbd.os,hbd.tape,hbd.output,hbd.size,hbd.block⟩;clear hbd;have hc1:=(Boxed.later hv hb1).cell;have hc1b:=((Boxed.later hv hb1).alloc (.cells #[.int .i64 p,.int .i64 q] 173)).cell;have hbs:w.heap.size<=x1.heap.size:=a0P hB.size hb1.size;refine hKk _ _ ?_;clear hKk Kk)
   | (refine eO 19 rfl ?_;go_simp;refine hKk _ _ ?_;clear hKk Kk)
   | (refine eO 20 rfl ?_;refine g9 rfl _ _ 170 rfl w.heap.size 173 i0 (.agg #[.int .i64 0,.int .i64 0]) 2 16 a1r hi hz0 hz1 hz2 rfl (by decide) v (eU L D ys).length _ rfl (a0n (eE hrow hb1) _) ⟨x1.heap.size,0,none⟩ 1 1 [.int .i64 p,.int .i64 q] rfl rfl (IZ _ _ _ _) (I0 _ _) (ae HFl).1 (ae HFl).2 (by simp;omega) ?_;intro v' w1 hown' hgrow _;have hB1:Below w.heap.size w w1:=((hB.trans (hb1.mono hB.size)).alloc hbs _).grown hgrow (by simp;omega) (fun j hj=>(a0y (eE hrow hb1) j hj).1);have hK1:=Ig (rE ((hb1.block Dd (Array.getElem?_eq_some_iff.1 hK).1).trans hK) (.cells #[.int .i64 p,.int .i64 q] 173)) hgrow (a0n (eE hrow hb1) _);refine hKk _ _ ?_;clear hKk Kk)
   | (refine eO 4 rfl ?_;go_simp;refine hKk _ _ ?_;clear hKk Kk)
   | refine wpAnyIn_ready (rs:=[0,1]) (by decide +kernel) (by simp) ?_
   | refine wpAnyIn_ready (rs:=[1]) (by decide +kernel) (by simp) ?_
   | refine wpAnyIn_ready (rs:=[2]) (by decide +kernel) (by simp) ?_
   | refine wpAnyIn_ready (rs:=[3]) (by decide +kernel) (by simp) ?_
   | refine wpAnyIn_ready (rs:=[4]) (by decide +kernel) (by simp) ?_
   | refine wpAnyIn_ready (rs:=[5]) (by decide +kernel) (by simp) ?_
   | refine wpAnyIn_ready (rs:=[6]) (by decide +kernel) (by simp) ?_
   | refine wpAnyIn_ready (rs:=[0,2]) (by decide +kernel) (by simp) ?_
   | refine wpAnyIn_ready (rs:=[0,3]) (by decide +kernel) (by simp) ?_
   | refine wpAnyIn_ready (rs:=[0,4]) (by decide +kernel) (by simp) ?_
   | refine wpAnyIn_ready (rs:=[0]) (by decide +kernel) (by simp) ?_
   | (refine wpAnyIn_done (by decide +kernel) ?_ _;gi_wp2;refine⟨by simp,.inl ⟨_,_,rfl,run_takeDeferred hK1,?_⟩⟩;refine⟨_,results_tmp rfl _ _ _,_,rfl,?_,hB1.trans (belowK_b (w:=w) (a0a _) w1 Dd _ _ (by have:=ae HDd;simp at this;omega) hK1 rfl rfl)⟩;rw[←ae hFe,ae HPc];exact D4 (ownsRow_putObj hown' (.deferred none) hK1 rfl))
 case stop=>
  rintro D c pre W _ _ h _;exact h.elim
end Go.Proofs.YtkdlcomfpffhhaaGreatDoor
namespace Go.Proofs.YtkdlcomfpffhhaaGreatDoor
open Go.RowKit
set_option maxRecDepth 100000
theorem fL{w w':World}{base b:Nat}{v:Value}{l:List Fl}(h:gt w base v l)(hk:Kn b w w')(hb:b<base):gt w' base v l:=by
 refine⟨h.1,?_⟩;rcases h.2 with hn|⟨g,cap,cur,rfl,hbg,hgg,rest⟩
 · exact .inl hn
 · have hlt:=(Array.getElem?_eq_some_iff.1 hgg).1;refine .inr ⟨g,cap,cur,rfl,hbg,?_,rest⟩;rw[hk.2.1 g hlt (by omega)];exact hgg
theorem lf{w:World}{base n:Nat}{v:Value}{l:List Fl}(hn:l.length=n)(h:gt w base v l)(hv:v ≠ .slice none 0 0):∃g cap,v = .slice (some ⟨g,0,none⟩) n cap/\n<=cap:=by
 subst hn;rcases h.2 with⟨e,_⟩|⟨g,cap,cur,e,_,_,h1,_⟩
 · exact absurd e hv
 · exact⟨g,cap,e,h1⟩
theorem jt{l:List Fl}{n:Nat}(h:ew l)(hn:l.length=n):pX l n:=fun i hi=>by
 have hin:l.getD i default∈l:=by simp[List.getD,show i<l.length by omega]
 have:=h _ hin;unfold pA;omega
theorem wH{b:Nat}{w w':World}(h:Below w.heap.size w w')(hb:b<w.heap.size):Kn b w w':=⟨h.mono (a0x hb),fun k hk _=>h.block k hk,h.size⟩
theorem Kl:∀v∈jh,v.size<=1000:=by decide
theorem Kh:∀v∈pK++jh,v.size<=1000:=by decide
def NmF(l:List Fl):Prop:=∀e∈l,e.p∈pK++jh
theorem LM{l:List Fl}{nm:ByteArray}(tx:ByteArray)(h:NmF l)(hn:nm∈jh):NmF (bH l ⟨nm,tx⟩):=fun e he=>by
 rcases rz he with rfl|he
 · exact a00.2 (.inr hn)
 · exact h e he
theorem wJ(B b m:Nat)(w:World)(h:Rd w B b m)(hm:m<=70000) :
  Calls Tryz.prog 50 #[.pointer (some ⟨b,0,none⟩)] w fun e w'=>(∃v l,e = .returned v/\l.length<=4/\gt w' (b+1) v l/\v ≠ .slice none 0 0/\ew l/\NmF l)/\Rd w' B b (m+300)/\Kn b w w':=by
 have hlt:=h.lt;have R0:Hid (Rd (w.alloc (.cells #[] 28)) B b m):=h.alloc _;have O0:Hid (gt (w.alloc (.cells #[] 28)) (b+1) (.slice (some ⟨w.heap.size,0,none⟩) 0 0) []):=a09 w #[] 0 hlt (by unfold maxLen;omega) rfl;have K0:Hid (Kn b w (w.alloc (.cells #[] 28))):=gX w _ hlt;clear h;go_enter Tryz.func50,Tryz.ntmps50;go_wp2_with fail;refine(dL B b m _ _ (ae R0) (by omega) (by omega) (by omega)).mono ?_;rintro e w1 ⟨r,rfl,r0,r1,hrd1,hon1⟩;obtain⟨n0,rfl⟩:=a0u r0;have O1:=af (fL (ae O0) hon1.kn (a0m _));have K1:=af ((ae K0).trans hon1.kn);have R1:=af hrd1;have hn4:n0<=4:=by omega
 clear R0 O0 K0 hrd1 hon1 r0 r1;go_wp2_with fail
 go_loopw [3,4,5] (fun v i _ wr=>∃(l:List Fl) (k:Nat),i = .int .i64 k/\k<=4/\l.length+k<=4/\gt wr (b+1) v l/\v ≠ .slice none 0 0/\(ew l/\NmF l)/\Rd wr B b (m+1+(4-k)*60)/\Kn b w wr) (fun _ i _ _=>(intOf i).toNat)
 case atStart=>exact⟨[],n0,rfl,hn4,by simpa using hn4,ae O1,by simp,⟨fun e he=>by simp at he,fun e he=>by simp at he⟩,(ae R1).mono (by omega),ae K1⟩
 case round=>
  obtain⟨l,k,rfl,hk,hlk,ho,hv,hT,hrd,hkn⟩:=hrel;clear O1 K1 R1;obtain⟨n,hn⟩:∃n,l.length=n:=⟨_,rfl⟩;obtain⟨g,cap,rfl,hcap⟩:=lf hn ho hv;have hkI:(k:Int)<=4:=by omega
  have HX:=af (a0b ho (a0b hT (a0b hrd (a0b hkn (a0b hn hlk)))));have hltr:=hrd.lt;clear ho hT hrd hkn hn hlk hv;by_cases hp:0<k
  ·
   have hpI:(0:Int)<(k:Int):=by omega
   go_wp2_with fail;refine(oQ B b _ _ (ae HX).2.2.1 (by omega)).mono ?_;rintro e w2 ⟨nm,hnm,rfl,hrd2,hkn2⟩;have hnt:=Kl nm hnm;have HX2:=af (a0b (fL (ae HX).1 hkn2 (a0m _)) (a0b hrd2 ((ae HX).2.2.2.1.trans hkn2)));have HNm:=af hnm;clear hrd2 hkn2 hnm;go_wp2_with fail;refine(mX B b _ _ (ae HX2).2.1 (by omega)).mono ?_;rintro e w3 ⟨⟨tx,rfl,htx⟩,hrd3,hkn3⟩;have HX3:=af (a0b (fL (ae HX2).1 hkn3 (a0m _)) (a0b hrd3 ((ae HX2).2.2.trans hkn3)));have hlt3:=hrd3.lt;clear hrd3 hkn3 HX2;have hO3:=(ae HX3).1;rw[←(ae HX).2.2.2.2.1]at hO3;have HC:=af (wI g cap n l nm tx w3 (ae HX).2.2.2.2.1 (xz hO3) (by have:=ae HX;omega) hcap (ae HX).2.1.1 hnt (by omega));clear hO3;go_wp2_with fail;refine(ae HC).mono ?_;rintro e w4 ⟨⟨v4,l4,rfl,hl4,ho4,hv4,hT4,hP4⟩,hb4⟩;have hN4:NmF l4:=hP4▸LM tx (ae HX).2.1.2 (ae HNm);obtain⟨n4,hn4'⟩:∃n4,l4.length=n4:=⟨_,rfl⟩;obtain⟨g4,cap4,rfl,hcap4⟩:=lf hn4' ho4 hv4;have k4:=wH hb4 hlt3;have HX4:=af (a0b (aY.mono ho4 hlt3) (a0b (fL (ae HX3).1 k4 (a0m _)) (a0b ((ae HX3).2.1.kept (hb4.mono hlt3)) (a0b ((ae HX3).2.2.trans k4) (a0b (a0b hT4 hN4) (a0b hn4' hl4))))));have HT:=af (kF (some ⟨g4,0,none⟩) cap4 l4 n4 hn4' w4 (jZ hn4' ho4) (by have:=ae HX;omega) (jt hT4 hn4'));have hlt4:b<w4.heap.size:=(ae HX4).2.2.1.lt;clear ho4 hv4 hT4 hP4 hN4 hb4 k4 HC HX3 HNm hn4' hl4;go_wp2_with fail;refine(ae HT).mono ?_;rintro e w5 ⟨rfl,hb5⟩;have k5:=wH hb5 hlt4;have HX5:=af (a0b (fL (ae HX4).1 k5 (a0m _)) (a0b (fL (ae HX4).2.1 k5 (a0m _)) (a0b ((ae HX4).2.2.1.kept (hb5.mono hlt4)) ((ae HX4).2.2.2.1.trans k5))));have HX6:=af (ae HX4).2.2.2.2;clear hb5 k5 HX4 HT;cases hB:dh l4
   ·
    go_wp2_with fail;go_roundw
    case rel=>exact⟨l,k-1,by go_num,by omega,by have:=ae HX;omega,(ae HX5).2.1,by simp,(ae HX).2.1,(ae HX5).2.2.1.mono (by omega),(ae HX5).2.2.2⟩
    case measure=>simp[intOf];omega
   ·
    go_wp2_with fail;go_roundw
    case rel=>exact⟨l4,k-1,by go_num,by omega,by have:=ae HX;have:=ae HX6;omega,(ae HX5).1,by simp,(ae HX6).1,(ae HX5).2.2.1.mono (by omega),(ae HX5).2.2.2⟩
    case measure=>simp[intOf];omega
  ·
   have hpI:¬ (0:Int)<(k:Int):=by omega
   go_wp2;go_ret;refine⟨⟨_,rfl,l,?_,(ae HX).1,?_,(ae HX).2.1⟩,(ae HX).2.2.1.mono (by omega),(ae HX).2.2.2.1⟩
   · have:=ae HX;omega
   · simp
theorem CG{W:World}{g:Nat}{l:List Fl}(h:rW W g l):∀j u,(l.flatMap aH)[j]?=some u->W.cell? ((⟨g,0,none⟩:Addr).add j)=some u:=by
 intro j u hj;have hlt:j<(l.flatMap aH).length:=(List.getElem?_eq_some_iff.1 hj).1;rw[cM cR]at hlt;have e:(⟨g,0,none⟩:Addr).add j=⟨g,j,none⟩:=by unfold Addr.add;split<;>simp_all
 rw[e,h.2 _ hlt,hj]
theorem Rd.grownF{w w':World}{B b m n:Nat}{v:Value}{xs:List Value}(h:Rd w B b m)(ho:w.ownsRow (b+1) 28 2 v n xs)(hg:w.grownBy w' v.ownBlock):Rd w' B b m:=h.grown hg (fun k e=>(a0y ho k e).1)
theorem qN(B b m:Nat)(w:World)(h:Rd w B b m)(hm:m<=60000) :
  Calls Tryz.prog 23 #[.pointer (some ⟨b,0,none⟩)] w fun e w'=>(∃v l,e = .returned v/\l.length<=5/\gt w' (b+1) v l/\v ≠ .slice none 0 0/\ew l/\NmF l)/\Below b w w'/\∃M,M<=m+3000/\Rd w' B b M:=by
 obtain⟨i0,hi,hz0,hz1,hz2⟩:=a0z Tryz.infoFile;have hlt:=h.lt;have R0:Hid (Rd (w.alloc (.cells #[] 28)) B b m):=h.alloc _;have O0:Hid (gt (w.alloc (.cells #[] 28)) (b+1) (.slice (some ⟨w.heap.size,0,none⟩) 0 0) []):=a09 w #[] 0 hlt (by unfold maxLen;omega) rfl;have K0:Hid (Kn b w (w.alloc (.cells #[] 28))):=gX w _ hlt;have HBd:Hid (∀x,x<=40->x<=maxLen/\x*32<=140737488355328):=fun x hx=>by unfold maxLen;omega
 clear h;go_enter Tryz.func23,Tryz.ntmps23;go_wp2_with fail;refine(wJ B b m _ (ae R0) (by omega)).mono ?_;rintro e w1 ⟨⟨v1,l,rfl,hl4,ho1,hv1,hT1⟩,hrd1,hkn1⟩;obtain⟨n,hn⟩:∃n,l.length=n:=⟨_,rfl⟩;obtain⟨g,cap,rfl,hcap⟩:=lf hn ho1 hv1;have O1:=af (fL (ae O0) hkn1 (a0m _));have hFB:rW w1 g l:=by
  have:=ho1;rw[←hn]at this;exact xz this
 have HF:=af (CG hFB);have HL:Hid ((l.flatMap aH).length=n*2):=by show _=_;rw[cM cR,hn]
 have hlt1:=hrd1.lt;have HX:=af (a0b hrd1 (a0b ((ae K0).trans hkn1) (a0b hT1 (a0b hn hl4))));have hn4:n<=4:=by omega
 clear hrd1 hkn1 R0 O0 K0 ho1 hFB hT1 hn hl4 hv1;go_wp2_with (at_builtin;refine a0H _ rfl _ _ 23 rfl (b+1) 28 i0 (.agg #[.string ⟨#[]⟩,.string ⟨#[]⟩]) 2 32 a0I hi hz0 hz1 hz2 rfl (by decide) _ 0 [] rfl (ae O1) ⟨g,0,none⟩ n cap (l.flatMap aH) rfl (ae HL) (ae HF) (br _) (ae HBd _ (by omega)).1 (ae HBd _ (by omega)).2 hlt1 ?_;intro v2 w2 hown hgrow hnil);have hv2:v2 ≠ .slice none 0 0:=fun e=>by have:=(hnil.1 e).1;cases this
 have O2:Hid (gt w2 (b+1) v2 l):=by
  show World.ownsRow _ _ _ _ _ l.length _;rw[(ae HX).2.2.2.1];simpa using hown
 have HR2:=af ((ae HX).1.grownF (ae O1) hgrow);have HB2:Hid (Below b w w2):=(ae HX).2.1.1.grown hgrow (a0x hlt1) (fun k e=>by have:=(a0y (ae O1) k e).1;omega);clear hown hgrow hnil O1 HF HL;go_wp2_with fail;refine(dL B b (m+300) _ _ (ae HR2) (by omega) (by omega) (by omega)).mono ?_;rintro e w3 ⟨r,rfl,r0,r1,hrd3,hon3⟩;have O3:=af (fL (ae O2) hon3.kn (a0m _));have HX3:=af (a0b hrd3 ((ae HB2).trans hon3.1));clear hrd3 hon3 O2 HR2 HB2;by_cases hr:r=0
 ·
  subst hr;go_wp2_with fail;refine(qM B b _ _ (ae HX3).1 (by omega)).mono ?_;rintro e w4 ⟨nm,hnm,rfl,hrd4,hkn4⟩;have hnt:=Kh nm hnm;have HX4:=af (a0b (fL (ae O3) hkn4 (a0m _)) (a0b hrd4 ((ae HX3).2.trans hkn4.1)));have HNm:=af hnm;clear hrd4 hkn4 hnm;go_wp2_with fail;refine(pC B b _ _ (ae HX4).2.1 (by omega)).mono ?_;rintro e w5 ⟨⟨tx,rfl,htx⟩,hrd5,hkn5⟩;have O5:=fL (ae HX4).1 hkn5 (a0m _);have hlt5:=hrd5.lt;have HB5:=af ((ae HX4).2.2.trans hkn5.1);have O6:=af (a0n (aY.own (ae HX).2.2.2.1 O5) (.cells #[.string nm,.string tx] 28));have N6:=af (dp.new w5 (b+1) hlt5 nm tx 28).news;have HR5:=af (hrd5.alloc (.cells #[.string nm,.string tx] 28));clear hrd5 hkn5 HX4 O5;go_wp2_with (at_builtin;refine a0H _ rfl _ _ 23 rfl (b+1) 28 i0 (.agg #[.string ⟨#[]⟩,.string ⟨#[]⟩]) 2 32 a0I hi hz0 hz1 hz2 rfl (by decide) v2 n (l.flatMap aH) rfl (ae O6) ⟨w5.heap.size,0,none⟩ 1 1 (aH ⟨nm,tx⟩) rfl rfl (ae N6) (db _) (ae HBd _ (by omega)).1 (ae HBd _ (by omega)).2 (aB hlt5 _) ?_;intro v7 w7 hown hgrow hnil);have hv7:v7 ≠ .slice none 0 0:=fun e=>hv2 (hnil.1 e).1;have O7:Hid (gt w7 (b+1) v7 (l++[⟨nm,tx⟩])):=aY.snoc (ae HX).2.2.2.1 hown;have HB7:Hid (Below b w w7):=((ae HB5).alloc (a0x hlt5) _).grown hgrow (by simp;omega) (fun k e=>by have:=(a0y (ae O6) k e).1;omega);have HR7:=af ((ae HR5).grownF (ae O6) hgrow);clear hown hgrow hnil O6 N6 HB5 HR5;go_wp2;go_ret;refine⟨⟨v7,l++[⟨nm,tx⟩],rfl,?_,ae O7,hv7,(ae HX).2.2.1.1.app ?_,fun e he=>(a00.1 he).elim ((ae HX).2.2.1.2 e) fun h=>(by rcases a01.1 h with rfl;exact ae HNm)⟩,ae HB7,_,?_,ae HR7⟩
  · rw[a0l,(ae HX).2.2.2.1];simp;omega
  · intro e he;rcases a01.1 he with rfl;exact⟨hnt,by simp;omega⟩
  · omega
 ·
  have hrI:(r == 0)=false:=by simpa using hr
  go_wp2;go_ret;refine⟨⟨v2,l,rfl,?_,ae O3,hv2,(ae HX).2.2.1⟩,(ae HX3).2,_,?_,(ae HX3).1⟩
  · have:=ae HX;omega
  · omega
theorem pw(a:Option Addr)(len cap:Nat)(z:Nat->Int)(w:World)(h:Src w a len z)(hc:len<=cap)(hm:len<=maxLen) :
  Calls Tryz.prog 6 #[.slice a len cap] w fun e w'=>(∃v l,e = .returned v/\l.length<=5/\gt w' w.heap.size v l/\v ≠ .slice none 0 0/\ew l/\NmF l)/\Below w.heap.size w w':=by
 go_enter Tryz.func6,Tryz.ntmps6;go_wp2_with fail;refine(zy a len cap z _ h hc hm).mono ?_;rintro e w1 ⟨rfl,hrd,hbel,hsz⟩;go_wp2_with fail;refine(qN _ _ 0 _ hrd (by omega)).mono ?_;rintro e w2 ⟨⟨v,l,rfl,h5,ho,hv,hT,hNm⟩,hbel2,_⟩;go_wp2;go_ret;exact⟨⟨v,l,rfl,h5,aY.mono ho (a1a _),hv,hT,hNm⟩,hbel.trans hbel2⟩
theorem qm(a:Option Addr)(len cap:Nat)(z:Nat->Int)(w:World)(h:Src w a len z)(hc:len<=cap)(hm:len<=maxLen) :
  Calls Tryz.prog 6 #[.slice a len cap] w fun e w'=>(∃v l,e = .returned v/\l.length<=5/\gt w' w.heap.size v l/\v ≠ .slice none 0 0/\ew l)/\Below w.heap.size w w':=
 (pw a len cap z w h hc hm).mono fun _ _ ⟨⟨v,l,h1,h2,h3,h4,h5,_⟩,h6⟩=>⟨⟨v,l,h1,h2,h3,h4,h5⟩,h6⟩
end Go.Proofs.YtkdlcomfpffhhaaGreatDoor
