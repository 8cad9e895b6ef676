/- Of what the proof is made: 4 texts, one behind the other. -/
import Derived.Test.YtgmfehnnebkaoaaGreatDoorM25
import Derived.Test.YtgmfehnnebkaoaaGreatDoorM28
import Derived.Test.YtgmfehnnebkaoaaGreatDoorM26
import Derived.Test.YtgmfehnnebkaoaaGreatDoorM30
set_option maxRecDepth 100000
set_option linter.unusedSimpArgs false
set_option linter.unusedVariables false
set_option maxHeartbeats 6400000
namespace Go.Proofs.YtgmfehnnebkaoaaGreatDoor
open Go.Proofs.Tryz
open Go.RowKit Go.Shelf Corb
variable {B n n₀:Nat}{C:Array Value}{W W':World}{e t:TypeId}{v:Value}{xs:List Value}
attribute [local go_sem] Oper.semAt_some
def nS(W:World)(b:Nat)(t:TypeId)(C:Array Value):Prop:=W.heap[b]?=some (.cells C t (0,0))
theorem KH{β:Type}(B:Nat)(t:TypeId)(C:Array Value):Own (fun(_:β) W=>nS W B t C):=fun _ X _ row b e a=>
 (e.block B (Array.getElem?_eq_some_iff.1 b).1 (fun e'=>by obtain⟨o,c,d⟩:=a B e'.symm;rw[show X.heap[B]?=_ from b]at c;cases c;cases d)).trans b
theorem nS.kept{row:Option Nat}(h:nS W B t C)(b:W.grownBy W' row)(a:some B≠row):nS W' B t C:=(b.block B (Array.getElem?_eq_some_iff.1 h).1 a).trans h
theorem nS.later(h:nS W B t C)(hb:Below W.heap.size W W'):nS W' B t C:=h.kept (ew hb) (by simp)
theorem jF{F:Fence}{P:Program}{ops:Array Oper}{o:Oper}{a:Act}{w:World}{K:Act->World->Prop}{Q:Exit->Act->World->Prop}{E:Prop}
  (i:o.guard=none) (ty:TypeId) (x:Operand) (e:o.op = .load ty x) (b off:Nat) (m:a.eval x = .pointer (some ⟨b,off,none⟩)) (C:Array Value) (d:TypeDesc) (h:w.rangeAt b off C.toList)
  (k:P.underlying ty=some d) (hd:d.isRow=true) (j:(P.info? ty).map (·.size)=some C.size) (g:K (a.put o.dst (.agg C)) w) :
  if Region.wanted o (yielded ops a.tmps)=true then Oper.wpIn F n P o a w K Q else E:=by
 have l:Region.wanted o (yielded ops a.tmps)=true:=by simp[Region.wanted,i]
 rw[a0d l];unfold Oper.wpIn;refine⟨?_,?_⟩
 . simp[Oper.about,e]
 . rw[Oper.semAt_plain F _ _ (by rw[e];intro c f;cases f)];unfold execOp;simp only[e,m,Instr.loadAt,Instr.sureAddr,a2G,a3s,Result.andThen_ok,run_loadVar_mid w b off ty C.toList d h k hd (by simpa using j)];simpa[Oper.uponIn]using g
def fB(L D:List Int)(t:Tk):Prop:=if isB t then t.1.toNat<L.length else 257+fnd 3 4 t.2.1.toNat 27<L.length/\fnd 1 2 t.2.2.toNat 29<D.length
theorem yt(L D:List Int)(t:Tk):(pcT L D t).length<=4/\1<=(pcT L D t).length:=by unfold pcT;split<;>simp
theorem tL{t:Tk}(h:isK t=true):3<=t.2.1/\t.2.1<=60/\1<=t.2.2/\t.2.2<=250:=by
 unfold isK inB at h;simp only[a0j,a0p]at h;omega
theorem qs{t:Tk}(h:isB t=true):0<=t.1/\t.1<=255:=by
 unfold isB inB at h;simp only[a0j,a0p]at h;omega
def gj{s:ByteArray}(L D:List Int)(pre:List (TkS s)):List (Int×Int):=(pre.map Subtype.val).flatMap (pcT L D)
theorem zC{s:ByteArray}(L D:List Int)(pre:List (TkS s)):(gj L D pre).length<=4*pre.length:=by
 unfold gj;induction pre with
 | nil=>simp
 | cons x r ih=>have:=(yt L D x.1).1;simp only[a0C,a0S,a0i,a0A];omega
theorem Df{s:ByteArray}(L D:List Int)(pre:List (TkS s))(x:TkS s):gj L D (pre++[x])=gj L D pre++pcT L D x.1:=by simp[gj]
theorem Lm{l m:List (Int×Int)}(h:W.ownsRow n₀ 139 2 v (l.length+m.length) (aR l++aR m)):W.ownsRow n₀ 139 2 v (l++m).length (aR (l++m)):=by
 rw[ee,a0i];exact h
theorem Lr(t:Tk)(base:Nat)(L D:List Int)(C:Array Value)(w:World)(b:okT t=true)(a:fB L D t)(c:dI w base L D C)(d:L.length<=300)(h:D.length<=300) :
  Calls prog 152 #[.agg C,ft t] w fun e w'=>(∃g,e = .returned (.slice (some ⟨g,0,none⟩) (pcT L D t).length (pcT L D t).length)/\Ck w' g (pcT L D t))/\Below w.heap.size w w':=by
 cases hb:isB t
 .
  have f:isK t=true:=by unfold okT at b;rw[hb]at b;simpa using b
  unfold fB at a;rw[a0e (by simp[hb])]at a;have e1:pcT L D t=[pcS L (257+fnd 3 4 t.2.1.toNat 27),((t.2.1.toNat:Int)-((stF 3 4 (fnd 3 4 t.2.1.toNat 27)).1:Int),((stF 3 4 (fnd 3 4 t.2.1.toNat 27)).2:Nat)),pcS D (fnd 1 2 t.2.2.toNat 29),((t.2.2.toNat:Int)-((stF 1 2 (fnd 1 2 t.2.2.toNat 29)).1:Int),((stF 1 2 (fnd 1 2 t.2.2.toNat 29)).2:Nat))]:=by unfold pcT;rw[a0e (by simp[hb])]
  obtain⟨i,j,k,l⟩:=tL f;have f1:t.2.1=((t.2.1.toNat:Nat):Int):=by omega
  have f2:t.2.2=((t.2.2.toNat:Nat):Int):=by omega
  have e2:ft t = .iface 228 (.agg #[.int .i64 ((t.2.1.toNat:Nat):Int),.int .i64 ((t.2.2.toNat:Nat):Int)]):=by rw[←f1,←f2];exact oB f
  rw[e2,e1];have:=Lq t.2.1.toNat t.2.2.toNat base L D C w c (by omega) (by omega) (by omega) (by omega) a.1 a.2 d h;exact this
 .
  obtain⟨i,j⟩:=qs hb;unfold fB at a;rw[a0d hb]at a;have e1:pcT L D t=[pcS L t.1.toNat]:=by unfold pcT;rw[a0d hb]
  have f1:t.1=((t.1.toNat:Nat):Int):=by omega
  have e2:ft t = .iface 226 (.int .u8 ((t.1.toNat:Nat):Int)):=by rw[←f1];exact ly hb
  rw[e2,e1];have:=Lp t.1.toNat base L D C w c a (by omega) d;exact this
theorem rP{x1 w1:World}{w i:Nat}{tn tm:TypeId}{size:Nat}{v' u:Value}{k m:Nat}{ys:List Value}
  (h:Below W.heap.size W x1) (L:Boxed W B t v) (A:Boxed W w tn u) (K:nS W i tm C) (q:t≠e) (H:tn≠e) (G:tm≠e) (E:w≠B) (F:i≠B) (p:W.ownsRow n₀ e size v k xs) (n:n₀<=W.heap.size) (J:n₀<=B)
  (c:w1.ownsRow n₀ e size v' m ys) (a:x1.grownBy w1 v.ownBlock) :
  Boxed w1 B t v/\Boxed (w1.setCell ⟨B,0,none⟩ v') B t v'/\(w1.setCell ⟨B,0,none⟩ v').ownsRow n₀ e size v' m ys/\KeepsOthers W (w1.setCell ⟨B,0,none⟩ v')/\Below n₀ W (w1.setCell ⟨B,0,none⟩ v')/\Boxed (w1.setCell ⟨B,0,none⟩ v') w tn u/\nS (w1.setCell ⟨B,0,none⟩ v') i tm C:=by
 have r:=Boxed.later L h;have f:=Boxed.later A h;have l:=K.later h;have b:x1.ownsRow n₀ e size v k xs:=dO p h;have D:some i≠v.ownBlock:=by
  intro e';rcases b.2 with⟨rfl,_⟩|⟨g,cap,x,rfl,_,d,_⟩
  . cases e'
  .
   simp only[Value.ownBlock,a0k]at e';subst e';rw[show x1.heap[i]?=_ from l]at d;cases d
   exact G rfl
 have y:Boxed w1 B t v:=r.kept a (r.not_row q b);refine⟨y,y.set v',c.kept (grownBy_setCell' w1 B v') (.inr (y.not_row q c).symm),?_,?_,?_,?_⟩
 .
  refine((KeepsOthers.of_grownBy (ew h) (fun _ _ e=>by cases e)).trans (KeepsOthers.of_grownBy a fun j o ej s=>?_)).trans (KeepsOthers.setCell _ _ _);rcases b.2 with⟨rfl,_⟩|⟨g,cap,x,rfl,_,d,_⟩
  . cases ej
  .
   simp only[Value.ownBlock,a0k]at ej;subst ej;rw[d]at s;cases s
   rfl
 . have I:Below n₀ W x1:=h.mono n;have z:Below n₀ W w1:=I.grown a (a0L n h.size) (fun j s=>(a0E b j s).1);exact ai z J _
 . exact Boxed.other (f.kept a (f.not_row H b)) E v'
 . exact(l.kept a D).kept (grownBy_setCell' w1 B v') (fun e=>F (by cases e;rfl))
theorem Mg(x:World)(a b:Value)(t:TypeId):∀(j:Nat) (u:Value),[a,b][j]?=some u->(x.alloc (.cells #[a,b] t)).cell? ((⟨x.heap.size,0,none⟩:Addr).add j)=some u:=by
 intro j u c
 match j,c with
 | 0,c=>simp at c;subst c;simp[Addr.add]
 | 1,c=>simp at c;subst c;simp[Addr.add]
theorem Mh(p q:Int):∀u∈[Value.int .i64 p,Value.int .i64 q],u.oneCell'=true:=by
 intro u a;simp at a;rcases a with rfl|rfl<;>rfl
theorem uM{d:Nat}{r:Option (List Deferred)}(h:W.heap[d]?=some (Obj.deferred r))(o:Obj):(W.alloc o).heap[d]?=some (Obj.deferred r):=
 (a1i W o d (Array.getElem?_eq_some_iff.1 h).1).trans h
theorem Lv{d size:Nat}{r:Option (List Deferred)}(h:W.heap[d]?=some (Obj.deferred r))(c:W.grownBy W' v.ownBlock)(f:W.ownsRow n₀ e size v n xs):W'.heap[d]?=some (Obj.deferred r):=by
 refine(c.block d (Array.getElem?_eq_some_iff.1 h).1 ?_).trans h;intro e';rcases f.2 with⟨rfl,_⟩|⟨g,cap,b,rfl,_,a,_⟩
 . cases e'
 . simp only[Value.ownBlock,a0k]at e';subst e';rw[h]at a;cases a
theorem Hz{l:List (Int×Int)}{p q:Int}(h:W.ownsRow n₀ 139 2 v (l.length+1) (aR l++[.int .i64 p,.int .i64 q])):Pcs W n₀ v (l++[(p,q)]):=by
 show World.ownsRow _ _ _ _ _ (l++[(p,q)]).length _;rw[ee,a0i];exact h
theorem BH(s:ByteArray)(c:s.size<=300){ys:List (TkS s)}(h:ys.map Subtype.val=bh s.data.toList 0):ys.length<=300:=by
 have a:=congrArg List.length h;rw[a0N]at a;have h2:=wV s.data.toList s.data.toList.length 0 (by omega);have b:s.data.toList.length=s.size:=by simp
 omega
theorem nS.range{b:Nat}(h:nS W b t C):W.rangeAt b 0 C.toList:=by
 intro j v a;rw[a0H,br h];simpa using a
theorem uE{size:Nat}(h:W.ownsRow n₀ e size v n xs)(b:0<n):∃g cap,v = .slice (some ⟨g,0,none⟩) n cap:=by
 rcases h.2 with⟨_,a⟩|⟨g,cap,_,e,_⟩
 . omega
 . exact⟨g,cap,e⟩
theorem uJ(s:ByteArray)(base:Nat)(L D:List Int)(C:Array Value)(w:World)(U:s.size<=300)(u:dI w base L D C)(hL:L.length<=300)(hD:D.length<=300)(M:256<L.length)(A:∀t∈bh s.data.toList 0,fB L D t) :
  Calls prog 120 #[.agg C,.string s] w fun e w'=>∃v,e = .returned v/\Pcs w' w.heap.size v ((bh s.data.toList 0).flatMap (pcT L D)++[pcS L 256])/\Below w.heap.size w w':=by
 obtain⟨i0,hi,R,S,T⟩:=a0r Tryz.infoPiece;have be:(s.size:Int)<=300:=by omega
 have bc:prog.follows .mixedOrders=true:=by kernel_rfl
 have HS:=af U;have ac:=af u.size;have J:=af (fun(x:TkS s) W (hW:Below w.heap.size w W)=>Lr x.1 base L D C W x.2.1 (A x.1 x.2.2) (u.later hW) hL hD);have X:=af u;clear U u A;refine(callsIn_wide (n:=6)).1 ?_;refine callsIn_of_wp_marks func120 rfl trivial ?_ rfl;simp only[ntmps120,a2F,a0A,a0R,Nat.reduceAdd,Nat.reduceSub,Array.replicate_succ,Array.replicate_zero,List.push_toArray,List.append_toArray,a0X,a1g]
 gi_wp2_with (refine⟨trivial,?_⟩;gi_at_call 151;refine(callsIn_wide.2 (pp s _)).mono ?_;rintro e w' ⟨rfl,rfl⟩)
 have bO:=Boxed.new (w.alloc (.cells C 164)) 136 (.slice none 0 0);have bN:=Boxed.new ((w.alloc (.cells C 164)).alloc (.cells #[.slice none 0 0] 136)) 9 (.string s);have e1:(w.alloc (.cells C 164)).heap.size=w.heap.size+1:=by simp
 have e2:((w.alloc (.cells C 164)).alloc (.cells #[.slice none 0 0] 136)).heap.size=w.heap.size+2:=by simp
 rw[e1]at bO;rw[e2]at bN;have bM:nS (((w.alloc (.cells C 164)).alloc (.cells #[.slice none 0 0] 136)).alloc (.cells #[.string s] 9)) w.heap.size 164 C:=(nS.later (nS.later (alloc_at w (.cells C 164)) ((a0c _ _).alloc (a0a _) _)) ((a0c _ _).alloc (a0a _) _));have ad:Below w.heap.size w (((w.alloc (.cells C 164)).alloc (.cells #[.slice none 0 0] 136)).alloc (.cells #[.string s] 9)):=(((a0c _ w).alloc (a0a _) _).alloc (by simp) _).alloc (by simp;omega) _;refine wpIn_rangeFunc_ownG rfl (by omega) (gf:=182) (lb:=#[.pointer (some ⟨w.heap.size+2,0,none⟩)]) rfl trivial (enters_of func182 (by kernel_rfl) rfl)
  (rH 5 (by omega) (w.heap.size+2) s (by have:=ae HS;omega) _ bN) EU (fun W l o o' _ h1 h2 _=>ET W l o o' h1 h2) (a0c _ _) (fun _=>rfl)
  (fun(pre:List (TkS s)) W=>(((∃v,Boxed W (w.heap.size+1) 136 v/\W.ownsRow w.heap.size 139 2 v (gj L D pre).length (aR (gj L D pre))/\True)/\Below w.heap.size w W)/\Boxed W (w.heap.size+2) 9 (.string s))/\nS W w.heap.size 164 C)
  (fun _ _ _=>False)
  (OwnFrom.and (OwnFrom.and (OwnFrom.and (Own.from (holdsRow_own w.heap.size (w.heap.size+1) 136 139 2 (fun(pre:List (TkS s))=>(gj L D pre).length) (fun(pre:List (TkS s))=>aR (gj L D pre)) (fun _ _=>True)) _) (ownFrom_below (a0a _) (by simp;omega))) (Own.from (boxed_own _ _ _) _)) (Own.from (KH _ _ _) _))
  (fun _ _ _ _ _ U _ _=>U)
  ⟨⟨⟨⟨_,bO.alloc _,a00 _ _ _ _,trivial⟩,ad⟩,bN⟩,bM⟩
  (fun x=>{ tmps:=#[.agg C,.string s,.pointer (some ⟨w.heap.size,0,none⟩),undef,.slice none 0 0,.pointer (some ⟨w.heap.size+1,0,none⟩),ft x.1,.string s,.func (.func 182) #[] #[.pointer (some ⟨w.heap.size+2,0,none⟩)],ft x.1,undef,undef,undef,undef,undef,undef,undef,undef,undef,undef,undef],defers:=[] }) ?assign ?body ?done ?stop
 case assign=>
  intro l x W K r
  gi_wp2
  exact r
 case body=>
  rintro l pre x W ⟨⟨⟨⟨v,G,i,_⟩,u⟩,hN⟩,z⟩ bb;have hc:=G.cell;have bd:Hid ((gj L D pre).length+(pcT L D x.1).length<=maxLen/\((gj L D pre).length+(pcT L D x.1).length)*16<=140737488355328):=by
   show _/\_;have h1:=ae HS;have h2:=zC L D pre;have h3:=(yt L D x.1).1;unfold maxLen;omega
  gi_wp2
  refine wpIn_region_any (by assumption) ?_;change wpAnyIn _ _ _ _ _ _ _ _ _ (World.drew _);repeat' first
   | exact AllReadyIn.nil
   | refine AllReadyIn.cons rfl (fun K r=>?_) ?_
   | (refine f9 10 rfl ?_;go_simp;refine r _ _ ?_;clear r K)
   | (refine f9 12 rfl ?_;go_simp;refine r _ _ ?_;clear r K)
   | (refine f9 11 rfl ?_;refine jF rfl 164 (.tmp 2) rfl w.heap.size 0 rfl C _ z.range a3c rfl (by rw[ae ac];exact Tryz.infoBooks) (r _ _ ?_);clear r K)
   | (refine f9 13 rfl ?_;go_simp;refine⟨trivial,?_⟩;refine(CallsIn.inRound l (callsIn_wide.2 (ae J x _ u.drew))).mono ?_;rintro e x1 ⟨⟨g,rfl,a1⟩,f⟩;have d:Below W.heap.size W x1:=⟨f.os,f.tape,f.output,f.size,f.block⟩;clear f;have a3:=(Boxed.later G d).cell;have F:w.heap.size<=x1.heap.size:=a0L u.size d.size;refine r _ _ ?_;clear r K)
   | (refine f9 14 rfl ?_;refine jf rfl _ _ 136 rfl w.heap.size 139 i0 (.agg #[.int .i64 0,.int .i64 0]) 2 16 a1q hi R S T rfl (by decide) v (gj L D pre).length _ rfl (dO i d) ⟨g,0,none⟩ (pcT L D x.1).length (pcT L D x.1).length (aR (pcT L D x.1)) rfl (lp _) a1.cells (gT _) (ae bd).1 (ae bd).2 F ?_;intro v' w1 m k _;obtain⟨g',cap',rfl⟩:∃g' cap',v' = .slice (some ⟨g',0,none⟩) ((gj L D pre).length+(pcT L D x.1).length) cap':=uE m (by have:=(yt L D x.1).2;omega);obtain⟨Q,a7,a6,a4,a2,P,a5⟩:=rP d G hN z (by decide) (by decide) (by decide) (by omega) (by omega) i u.size (by omega) m k;have a9:=Q.cell;have ba:=Q.frozen;refine r _ _ ?_;clear r K)
   | (refine I5 (Op.store 136 (.tmp 5) (.tmp 14)) rfl ?_;go_simp;refine r _ _ ?_;clear r K)
   | refine wpAnyIn_ready (rs:=[0,1,2]) (by decide +kernel) (by simp) ?_
   | refine wpAnyIn_ready (rs:=[1,2]) (by decide +kernel) (by simp) ?_
   | refine wpAnyIn_ready (rs:=[2]) (by decide +kernel) (by simp) ?_
   | refine wpAnyIn_ready (rs:=[3]) (by decide +kernel) (by simp) ?_
   | refine wpAnyIn_ready (rs:=[4]) (by decide +kernel) (by simp) ?_
   | refine wpAnyIn_ready (rs:=[5]) (by decide +kernel) (by simp) ?_
   | refine wpAnyIn_ready (rs:=[1]) (by decide +kernel) (by simp) ?_
   | refine wpAnyIn_ready (rs:=[0,2]) (by decide +kernel) (by simp) ?_
   | refine wpAnyIn_ready (rs:=[0,3]) (by decide +kernel) (by simp) ?_
   | refine wpAnyIn_ready (rs:=[0]) (by decide +kernel) (by simp) ?_
   | refine wpAnyIn_ready (rs:=[0,1]) (by decide +kernel) (by simp) ?_
   | (refine wpAnyIn_done (by decide +kernel) ?_ _;exact⟨(a4.trans (KeepsOthers.refl _)).from _,fun _=>P,⟨⟨⟨⟨_,a7,by rw[Df];exact Lm a6,trivial⟩,u.trans a2⟩,P⟩,a5⟩⟩)
 case done=>
  rintro Dd ys W O H ⟨⟨⟨⟨v,G,i,_⟩,u⟩,hN⟩,z⟩ r;have hc:=G.cell;have I:Hid ((gj L D ys).length+1<=maxLen/\((gj L D ys).length+1)*16<=140737488355328):=by
   show _/\_;have h1:=BH s (ae HS) H;have h2:=zC L D ys;unfold maxLen;omega
  have a0:Hid (gj L D ys=(bh s.data.toList 0).flatMap (pcT L D)):=by show gj L D ys=_;unfold gj;rw[H]
  have Y:=af O;obtain⟨V,C2,N,y,ao⟩:=(ae X).later u;have HL:=af (fun W' (hW:Below W.heap.size W W')=>oe 256 L V base W' (y.later hW) M hL);have aa:=af (by have h0:=ii (b:=w.heap.size) (t:=164) (show W.heap[w.heap.size]?=some (Obj.cells (V++C2) 164) by rw[←N];exact z) y.size;exact h0.1);have ab:=af y.size;have Z:Hid (pcS L 256=(btI ((bj L 15).2.getD 256 0) (L.getD 256 0),L.getD 256 0)):=rfl;generalize btI ((bj L 15).2.getD 256 0) (L.getD 256 0)=p at *
  generalize L.getD 256 0=q at *
  clear H N y ao O
  gi_wp2
  refine wpIn_region_any (by assumption) ?_;change wpAnyIn _ _ _ _ _ _ _ _ _ (World.drew _);repeat' first
   | exact AllReadyIn.nil
   | refine AllReadyIn.cons rfl (fun B a=>?_) ?_
   | (refine f9 15 rfl ?_;go_simp;refine a _ _ ?_;clear a B)
   | (refine f9 16 rfl ?_;go_simp;refine a _ _ ?_;clear a B)
   | (refine f9 17 rfl ?_;refine jF rfl 159 (.tmp 16) rfl w.heap.size 0 rfl V _ (ae aa) a2e rfl (by rw[ae ab];exact Tryz.infoLitB) (a _ _ ?_);clear a B)
   | (refine f9 18 rfl ?_;go_simp;refine⟨trivial,?_⟩;refine(callsIn_wide.2 (ae HL _ (a0c _ W).drew)).mono ?_;rintro e x1 ⟨rfl,f⟩;have d:Below W.heap.size W x1:=⟨f.os,f.tape,f.output,f.size,f.block⟩;clear f;have a3:=(Boxed.later G d).cell;have a8:=((Boxed.later G d).alloc (.cells #[.int .i64 p,.int .i64 q] 139)).cell;have F:w.heap.size<=x1.heap.size:=a0L u.size d.size;refine a _ _ ?_;clear a B)
   | (refine f9 19 rfl ?_;go_simp;refine a _ _ ?_;clear a B)
   | (refine f9 20 rfl ?_;refine jf rfl _ _ 136 rfl w.heap.size 139 i0 (.agg #[.int .i64 0,.int .i64 0]) 2 16 a1q hi R S T rfl (by decide) v (gj L D ys).length _ rfl (a0m (dO i d) _) ⟨x1.heap.size,0,none⟩ 1 1 [.int .i64 p,.int .i64 q] rfl rfl (Mg _ _ _ _) (Mh _ _) (ae I).1 (ae I).2 (by simp;omega) ?_;intro v' w1 m k _;have an:Below w.heap.size w w1:=((u.trans (d.mono u.size)).alloc F _).grown k (by simp;omega) (fun j hj=>(a0E (dO i d) j hj).1);have E:=Lv (uM ((d.block Dd (Array.getElem?_eq_some_iff.1 r).1).trans r) (.cells #[.int .i64 p,.int .i64 q] 139)) k (a0m (dO i d) _);refine a _ _ ?_;clear a B)
   | (refine f9 4 rfl ?_;go_simp;refine a _ _ ?_;clear a B)
   | refine wpAnyIn_ready (rs:=[0,1]) (by decide +kernel) (by simp) ?_
   | refine wpAnyIn_ready (rs:=[1]) (by decide +kernel) (by simp) ?_
   | refine wpAnyIn_ready (rs:=[2]) (by decide +kernel) (by simp) ?_
   | refine wpAnyIn_ready (rs:=[3]) (by decide +kernel) (by simp) ?_
   | refine wpAnyIn_ready (rs:=[4]) (by decide +kernel) (by simp) ?_
   | refine wpAnyIn_ready (rs:=[5]) (by decide +kernel) (by simp) ?_
   | refine wpAnyIn_ready (rs:=[6]) (by decide +kernel) (by simp) ?_
   | refine wpAnyIn_ready (rs:=[0,2]) (by decide +kernel) (by simp) ?_
   | refine wpAnyIn_ready (rs:=[0,3]) (by decide +kernel) (by simp) ?_
   | refine wpAnyIn_ready (rs:=[0,4]) (by decide +kernel) (by simp) ?_
   | refine wpAnyIn_ready (rs:=[0]) (by decide +kernel) (by simp) ?_
   | (refine wpAnyIn_done (by decide +kernel) ?_ _;gi_wp2;refine⟨by simp,.inl ⟨_,_,rfl,run_takeDeferred E,?_⟩⟩;refine⟨_,results_tmp rfl _ _ _,_,rfl,?_,an.trans (belowK_b (w:=w) (a0a _) w1 Dd _ _ (by have:=ae Y;simp at this;omega) E rfl rfl)⟩;rw[←ae a0,ae Z];exact Hz (ownsRow_putObj m (.deferred none) E rfl))
 case stop=>
  rintro D c pre W _ _ h _;exact h.elim
end Go.Proofs.YtgmfehnnebkaoaaGreatDoor
namespace Go.Proofs.YtgmfehnnebkaoaaGreatDoor
open Go.Proofs.Tryz
open Go.RowKit
def ik(e:En):Bool:=fy e.n e.y e.mo e.d e.h e.mi e.s e.t
def re(l:List En)(i:Nat):Bool:=(List.range l.length).all fun k=>!fu (l.getD i default).n.data.toList (l.getD k default).n.data.toList
def uy(l:List En)(i:Nat):Bool:=ik (l.getD i default)&&(decide (atN l (l.getD i default).n=(i:Int))&&re l i)
def ci(l:List En):Bool:=(List.range l.length).all (uy l)&&decide (l.length<=6)
theorem Ps{l:List En}{i:Nat}(a:i<l.length)(h:uy l i=false):ci l=false:=by
 have:(List.range l.length).all (uy l)=false:=by
  rw[a3D];exact⟨i,List.mem_range.2 a,by simp[h]⟩
 simp[ci,this]
theorem Fz{l:List En}(h:∀i,i<l.length->uy l i=true):ci l=decide (l.length<=6):=by
 have:(List.range l.length).all (uy l)=true:=by
  rw[a03];exact fun i a=>h i (List.mem_range.1 a)
 simp[ci,this]
theorem M8{l:List En}{i k:Nat}(a:k<l.length)(h:fu (l.getD i default).n.data.toList (l.getD k default).n.data.toList=true):re l i=false:=by
 unfold re;rw[a3D];exact⟨k,List.mem_range.2 a,by rw[h];decide⟩
theorem zK{l:List En}{i:Nat}(h:∀k,k<l.length->fu (l.getD i default).n.data.toList (l.getD k default).n.data.toList=false):re l i=true:=by
 unfold re;rw[a03];exact fun k a=>by rw[h k (List.mem_range.1 a)];rfl
theorem jW(a:Option Addr)(cap:Nat)(l:List En)(n:Nat)(hn:l.length=n)(w:World)(h:iV w a l)(hl:(n:Int)<=1048576)
  (hs:∀i,i<n->(l.getD i default).n.size<=1048576/\((l.getD i default).t.size:Int)<=9223372036854775807) :
  CD 12 #[.slice a n cap] w (.bool (ci l)):=by
 have HS:=af hs;have HR:=af h;have R:=af (fun i (hi:i<l.length)=>@Ps l i hi);have S:=af (@Fz l);have K:=af (fun i k (hk:k<l.length)=>@M8 l i k hk);have M:=af (fun i=>@zK l i);rw[hn]at R S K M;have P:=af hn;clear h hs hn;go_enter func12,ntmps12;go_wp2_with fail
 go_loopw [3,4] (fun i _ wr=>∃k:Nat,k<=n/\i = .int .i64 k/\(∀j,j<k->uy l j=true)/\Below w.heap.size w wr) (fun i _ _=>n-(intOf i).toNat)
 case atStart=>exact⟨0,a0g _,rfl,fun j E=>absurd E (by omega),a0c _ _⟩
 case round=>
  obtain⟨k,hk,rfl,D,b⟩:=hrel;have r:=af D;have c:=af b;clear D b;by_cases z:k<n
  .
   have a3:(k:Int)<(n:Int):=by omega
   have RW:=af ((ae HR).later (ae c));obtain⟨g,o,rfl,hg,hc⟩:=ae RW (by have:=ae P;omega);obtain⟨c0,c1,c2,c3,c4,c5,c6,c7⟩:=hc k (by have:=ae P;omega);have x:=af z;have H:=af (ae HS k z);have I:=af (ae R k z);have f:Hid (uy l k=(ik (l.getD k default)&&(decide (atN l (l.getD k default).n=(k:Int))&&re l k))):=rfl;have aa:Hid (uy l k=true->∀j,j<k+1->uy l j=true):=by
    intro e j E;by_cases ao:j=k
    . rw[ao];exact e
    . exact ae r j (by omega)
   have L:=af (ae K k);have N:=af (ae M k);have a1:((l.getD k default).n.size:Int)<=1048576:=by have:=(ae H).1;omega
   have C:=af (fun W=>lJ (l.getD k default).n (l.getD k default).y (l.getD k default).mo (l.getD k default).d (l.getD k default).h (l.getD k default).mi (l.getD k default).s (l.getD k default).t W (ae H).1 (ae H).2);have X:=af (fun W hW=>Ki (some ⟨g,o,none⟩) cap l n (ae P) (l.getD k default).n W hW hl);have ab:=af (fun j (E:j<n) W=>mu (l.getD k default).n (l.getD j default).n W a1 (by have:=(ae HS j E).1;omega));have G:Hid (∀W,Below w.heap.size w W->∀j,j<n->W.cell? ⟨g,o+j*8,none⟩=some (.string (l.getD j default).n)):=by
    intro W hW j E;obtain⟨g',o',e',_,ad⟩:=(ae HR).later hW (by have:=ae P;omega);simp only[a0k,a0D,a0P]at e';obtain⟨rfl,rfl⟩:=e';exact(ad j (by have:=ae P;omega)).1
   have J:Hid (ik (l.getD k default)=fy (l.getD k default).n (l.getD k default).y (l.getD k default).mo (l.getD k default).d (l.getD k default).h (l.getD k default).mi (l.getD k default).s (l.getD k default).t):=rfl;clear hc hk r z;generalize ik (l.getD k default)=be at *
   go_wp2_with fail;refine(ae C _).mono ?_;rintro e z1 ⟨rfl,U⟩;rw[←ae J];have p:=af (ah (ae c) U);have an:=ae G _ (ae p) k (ae x);clear U c0 c1 c2 c3 c4 c5 c6 c7 J C;cases be
   . have HP:=af (ae I (by rw[ae f];rfl));go_wp2;go_ret;exact⟨ak (ae HP).symm,ae p⟩
   .
    go_wp2_with fail;refine(ae X _ ((ae HR).later (ae p))).mono ?_;rintro e z2 ⟨rfl,V⟩;rw[V];clear V;generalize atN l (l.getD k default).n=A at *
    by_cases hA:A=(k:Int)
    .
     subst hA;go_wp2_with fail
     go_loopw [4] (fun q wr=>∃m:Nat,m<=n/\q = .int .i64 m/\(∀j,j<m->fu (l.getD k default).n.data.toList (l.getD j default).n.data.toList=false)/\Below w.heap.size w wr) (fun q _=>n-(intOf q).toNat)
     case atStart=>exact⟨0,a0g _,rfl,fun j E=>absurd E (by omega),ae p⟩
     case round=>
      obtain⟨m,hm,rfl,T,b⟩:=hrel;have F:=af T;have v:=af b;clear T b an;by_cases B:m<n
      .
       have a4:(m:Int)<(n:Int):=by omega
       have d0:=ae G _ (ae v) k (ae x);have d1:=ae G _ (ae v) m B;have Q:=af (ae ab m B);have Z:=af (ae L m B);have O:=af B;have Y:Hid (fu (l.getD k default).n.data.toList (l.getD m default).n.data.toList=false->∀j,j<m+1->fu (l.getD k default).n.data.toList (l.getD j default).n.data.toList=false):=by
        intro e j E;by_cases a0:j=m
        . rw[a0];exact e
        . exact ae F j (by omega)
       clear hm F;generalize fu (l.getD k default).n.data.toList (l.getD m default).n.data.toList=u at *
       cases u
       .
        have HX:=af (ae Y rfl);go_wp2_with fail
        go_quiet ((go_at_call 33;exact a1a (ae Q _)))
        go_wp2;go_roundw
        case rel=>exact⟨m+1,by have:=ae O;omega,by go_num,ae HX,below_drewN (ae v) _⟩
        case measure=>have:=ae O;simp[intOf];omega
       .
        have HP:=af (ae I (by rw[ae f,ae Z rfl];simp));go_wp2_with fail
        go_quiet ((go_at_call 33;exact a1a (ae Q _)))
        go_wp2;go_ret;exact⟨ak (ae HP).symm,below_drewN (ae v) _⟩
      .
       obtain rfl:m=n:=by omega
       have HX:=af (ae aa (by rw[ae f,ae N (ae F)];simp));go_wp2;go_roundw
       case rel=>exact⟨k+1,by have:=ae x;omega,by go_num,ae HX,ae v⟩
       case measure=>have:=ae x;simp[intOf];omega
    .
     have HP:=af (ae I (by rw[ae f];simp[hA]));have a2:(A == (k:Int))=false:=by simp[hA]
     go_wp2;go_ret;exact⟨ak (ae HP).symm,ae p⟩
  .
   obtain rfl:k=n:=by omega
   have HY:=af (ae S (ae r));by_cases h6:k<=6
   .
    have ac:(k:Int)<=6:=by omega
    go_wp2;go_ret;exact⟨ak (by rw[ae HY];simp[h6]),ae c⟩
   .
    have ac:¬ (k:Int)<=6:=by omega
    go_wp2;go_ret;exact⟨ak (by rw[ae HY];simp[h6]),ae c⟩
theorem Bl(n:ByteArray)(y mo d h mi s:Int)(t:ByteArray)(b:Nat)(x:ByteArray)(w:World)(hb:w.cell? ⟨b,0,none⟩=some (.string x))(i:(n.size:Int)<=1048576)(j:(x.size:Int)<=1048576) :
  CD 91 #[.agg #[.string n,.int .i64 y,.int .i64 mo,.int .i64 d,.int .i64 h,.int .i64 mi,.int .i64 s,.string t],.pointer (some ⟨b,0,none⟩)] w (.bool (ce n.data.toList x.data.toList)):=by
 have a:b<w.heap.size:=World.block_lt_of_cell? _ _ hb;have g:(w.alloc (.cells #[.string n,.int .i64 y,.int .i64 mo,.int .i64 d,.int .i64 h,.int .i64 mi,.int .i64 s,.string t] 33)).cell? ⟨b,0,none⟩=some (.string x):=by
  rw[World.cell?_alloc_past _ _ _ a];exact hb
 have f:=af (fun W=>uu n x W i j);clear hb;go_enter func91,ntmps91;go_wp2_with fail;refine(ae f _).mono ?_;rintro e w1 ⟨rfl,c⟩;rw[c];clear c;go_wp2;go_ret;exact⟨rfl,(a0c _ _).alloc (a0a _) _⟩
def kQ(l:List En)(x:ByteArray):Bool:=l.any fun e=>ce e.n.data.toList x.data.toList
theorem sO{l:List En}{x:ByteArray}{k:Nat}(a:k<l.length)(e:ce (l.getD k default).n.data.toList x.data.toList=true):kQ l x=true:=by
 unfold kQ;rw[List.any_eq_true];refine⟨l.getD k default,?_,e⟩;simp[List.getD,a]
theorem pQ{l:List En}{x:ByteArray}(h:∀j,j<l.length->ce (l.getD j default).n.data.toList x.data.toList=false):kQ l x=false:=by
 unfold kQ;rw[List.any_eq_false];intro e b;obtain⟨j,a,rfl⟩:=a1N b;have:=h j a;simp only[List.getD,List.getElem?_eq_getElem a,a1L]at this;simp[this]
theorem vv(a:Option Addr)(cap:Nat)(l:List En)(n:Nat)(J:l.length=n)(b:Nat)(x:ByteArray)(w:World)(h:iV w a l)(hl:(n:Int)<=1048576)(hb:w.cell? ⟨b,0,none⟩=some (.string x))(hx:(x.size:Int)<=1048576)
  (Q:∀i,i<n->((l.getD i default).n.size:Int)<=1048576) :
  Calls prog 137 #[.slice a n cap,.func (.func 91) #[] #[.pointer (some ⟨b,0,none⟩)]] w fun e w'=>(∃r:Int,e = .returned (.int .i64 r)/\decide (0<=r)=kQ l x/\r<1048577)/\Below w.heap.size w w':=by
 have A:b<w.heap.size:=World.block_lt_of_cell? _ _ hb;have T:=af Q;have S:=af h;have C:=af hb;have F:=af A;have L:=af (fun k (I:k<l.length)=>@sO l x k I);have M:=af (@pQ l x);rw[J]at L M;have N:=af J;clear h Q J hb A;go_enter func137,ntmps137;go_wp2_with fail
 go_loopw [5,8] (fun _ i wr=>∃k:Nat,k<=n/\i = .int .i64 k/\(∀j,j<k->ce (l.getD j default).n.data.toList x.data.toList=false)/\Below w.heap.size w wr) (fun _ i _=>n-(intOf i).toNat)
 case atStart=>exact⟨0,a0g _,rfl,fun j P=>absurd P (by omega),a0c _ _⟩
 case round=>
  obtain⟨k,I,rfl,q,v⟩:=hrel;have f:=af q;have c:=af v;clear q v;by_cases m:k<n
  .
   have aa:(k:Int)<(n:Int):=by omega
   obtain⟨g,o,rfl,hg,O⟩:=(ae S).later (ae c) (by have:=ae N;omega);obtain⟨c0,c1,c2,c3,c4,V,X,Y⟩:=O k (by have:=ae N;omega);have z:=af m;have E:=af (ae L k m);have R:=af (fun W (Z:Below w.heap.size w W)=>Bl (l.getD k default).n (l.getD k default).y (l.getD k default).mo (l.getD k default).d (l.getD k default).h (l.getD k default).mi (l.getD k default).s (l.getD k default).t b x W ((Z.cell (p:=⟨b,0,none⟩) (ae F)).trans (ae C)) (ae T k m) hx);have G:Hid (ce (l.getD k default).n.data.toList x.data.toList=false->∀j,j<k+1->ce (l.getD j default).n.data.toList x.data.toList=false):=by
    intro e j P;by_cases H:j=k
    . rw[H];exact e
    . exact ae f j (by omega)
   clear O I f m;generalize ce (l.getD k default).n.data.toList x.data.toList=u at *
   go_wp2_with fail;refine(ae R _ (ae c)).mono ?_;rintro e z1 ⟨rfl,B⟩;have K:=af (ah (ae c) B);clear B c0 c1 c2 c3 c4 V X Y;cases u
   .
    have U:=af (ae G rfl);go_wp2;go_roundw
    case rel=>exact⟨k+1,by have:=ae z;omega,by go_num,ae U,ae K⟩
    case measure=>have:=ae z;simp[intOf];omega
   . have D:=af (ae E rfl);go_wp2;go_ret;exact⟨⟨(k:Int),rfl,by rw[ae D];simp,by omega⟩,ae K⟩
  .
   obtain rfl:k=n:=by omega
   have D:=af (ae M (ae f));go_wp2;go_ret;exact⟨⟨-1,rfl,by rw[ae D];rfl,by omega⟩,ae c⟩
theorem pW(a:Option Addr)(cap:Nat)(l:List En)(n:Nat)(d:l.length=n)(b:Nat)(x:ByteArray)(w:World)(h:iV w a l)(o:(n:Int)<=1048576)(hb:w.cell? ⟨b,0,none⟩=some (.string x))(p:(x.size:Int)<=1048576)
  (g:∀i,i<n->((l.getD i default).n.size:Int)<=1048576) :
  CD 90 #[.slice a n cap,.func (.func 91) #[] #[.pointer (some ⟨b,0,none⟩)]] w (.bool (kQ l x)):=by
 have k:=af (vv a cap l n d b x w h o hb p g);clear h hb g d;go_enter func90,ntmps90;go_wp2_with fail;refine(ae k).mono ?_;rintro e w1 ⟨⟨r,rfl,f,_⟩,c⟩;have m:=af f;have j:=af c;clear f c;go_wp2;go_ret;exact⟨ak (ae m),ae j⟩
def bH(l:List En)(e:En):Int:=if ik e then(if kQ l e.n then 3 else if 6<=l.length then 4 else 0)else 1
def fO(c:Int):Value:=if c=0 then .nilIface else .iface 90 (.agg #[.int .i64 c])
theorem rN(a:Option Addr)(cap:Nat)(l:List En)(n:Nat)(C:l.length=n)(e:En)(m:Int)(w:World)(h:iV w a l)(K:(n:Int)<=1048576)
  (D:∀i,i<n->((l.getD i default).n.size:Int)<=1048576) (J:e.n.size<=1048576) (L:(e.t.size:Int)<=9223372036854775807) (z:w.cell? ⟨2,0,none⟩=some (.int .i64 m)) :
  Calls prog 54 #[.slice a n cap,.agg #[.string e.n,.int .i64 e.y,.int .i64 e.mo,.int .i64 e.d,.int .i64 e.h,.int .i64 e.mi,.int .i64 e.s,.string e.t]] w fun f w'=>f = .returned (fO (bH l e))/\Below w.heap.size w w':=by
 have E:Hid ((w.alloc (.cells #[.string e.n,.int .i64 e.y,.int .i64 e.mo,.int .i64 e.d,.int .i64 e.h,.int .i64 e.mi,.int .i64 e.s,.string e.t] 33)).cell? ⟨2,0,none⟩=some (.int .i64 m)):=by
  show _=_;rw[World.cell?_alloc_past _ _ _ (World.block_lt_of_cell? _ _ z)];exact z
 have j:=af (iB e.n e.y e.mo e.d e.h e.mi e.s e.t m _ J L (ae E));have F:=af h;have G:=af D;have A:=af C;have x:(e.n.size:Int)<=1048576:=by omega
 clear h D z C;cases v:ik e
 .
  have I:bH l e=1:=by simp[bH,v]
  rw[I];go_enter func54,ntmps54;go_wp2_with fail;refine(ae j).mono ?_;rintro f w1 ⟨rfl,b⟩;rw[show fy e.n e.y e.mo e.d e.h e.mi e.s e.t=false from v];have c:=af (i6 b).2;clear b;go_wp2;go_ret;exact⟨rfl,ae c⟩
 .
  have k:Hid (bH l e=if kQ l e.n then 3 else if 6<=n then 4 else 0):=by show _=_;rw[←ae A];simp[bH,v]
  go_enter func54,ntmps54;go_wp2_with fail;refine(ae j).mono ?_;rintro f w1 ⟨rfl,b⟩;rw[show fy e.n e.y e.mo e.d e.h e.mi e.s e.t=true from v];have c:=af (i6 b).2;have q:=af (i6 b).1;clear b;have p:=af (pW a cap l n (ae A) w.heap.size e.n w1 ((ae F).later (ae c)) K (ae q).1.1 x (ae G));clear q j;generalize kQ l e.n=u at *
  go_wp2_with fail;refine(ae p).mono ?_;rintro f w2 ⟨rfl,r⟩;have g:=af (ah (ae c) r);clear r p;cases u
  .
   by_cases B:6<=n
   .
    have H:(6:Int)<=(n:Int):=by omega
    have o:Hid (bH l e=4):=by show _=_;rw[ae k];simp[B]
    go_wp2;go_ret;exact⟨by rw[ae o];rfl,ae g⟩
   .
    have o:Hid (bH l e=0):=by show _=_;rw[ae k];simp[B]
    go_wp2;go_ret;exact⟨by rw[ae o];rfl,ae g⟩
  .
   have o:Hid (bH l e=3):=by show _=_;rw[ae k];simp
   go_wp2;go_ret;exact⟨by rw[ae o];rfl,ae g⟩
end Go.Proofs.YtgmfehnnebkaoaaGreatDoor
