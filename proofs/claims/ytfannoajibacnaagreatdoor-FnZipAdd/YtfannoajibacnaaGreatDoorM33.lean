/- Texts. -/
import Derived.Test.YtfannoajibacnaaGreatDoorM5
import Derived.Test.YtfannoajibacnaaGreatDoorM25
import Derived.OpenVars
import Derived.Test.YtfannoajibacnaaGreatDoorM27
set_option linter.all false
set_option maxRecDepth 100000
set_option maxHeartbeats 6400000
namespace Go.Proofs.YtfannoajibacnaaGreatDoor
open Go.Proofs.Tryz
open Go.ChangeShapes Go.WideShapes Go.ChangeAt Go.RowKit
variable {W:World}
def Pq:DataW Unit:=.agg (bK.map fun n=>.lit (.int .i64 (n:Nat)))
theorem EJ{W:World} : ∀(laid:List (String×DataW Unit)) (ps:List MemPlace),DataW.LaidVars prog W laid ps->("loop.example/corbel/impl.lenOrder",Pq)∈laid->∃ps',DataW.LaidVars prog W [("loop.example/corbel/impl.lenOrder",Pq)] ps'
 | [],_,_,h=>by cases h
 | (n,d) :: r,ps,hL,h=>by
  obtain⟨g,t,cs,fuel,p,q,hg,ht,hv,hd,hr,_⟩:=hL;rcases a02.1 h with e|e
  . obtain⟨rfl,rfl⟩:=Prod.mk.inj e;exact⟨_,g,t,cs,fuel,p,[],hg,ht,hv,hd,rfl,rfl⟩
  . exact EJ r q hr e
def zD{ps:List MemPlace}(h:DataW.LaidVars prog W [("loop.example/corbel/impl.lenOrder",Pq)] ps)(r:Nat)(hr:r<19):W.cell? ⟨1,r,none⟩=some (.int .i64 (bK.getD r 0:Nat)):=by
 obtain⟨g,t,cs,fuel,p,q,hg,ht,hv,hd,_,_⟩:=h;obtain rfl:=a1A ((show prog.globalNamed "loop.example/corbel/impl.lenOrder" = some 1 by kernel_rfl).symm.trans hg);obtain rfl:=a1A ((show(prog.globals[1]?).map (·.type)=some 261 by kernel_rfl).symm.trans ht);obtain⟨xs,m,_,ex,_,hl,hel⟩:=DataW.trod_array underlying261 hd;have c5:prog.cellsOf 3=1:=by kernel_rfl
 have hE:=hel r hr;rw[c5,Nat.mul_one,List.getElem?_eq_getElem (by omega)]at hE;obtain⟨z,e1,e2,_⟩:=DataW.trod_int a10 hE;have hlen:bK.length=19:=rfl;have e3:(xs.map (·.1))=bK.map fun n=>.lit (.int .i64 (n:Nat)):=(DataW.agg.inj (Prod.mk.inj ex).1).symm;have e4:(xs.map (·.1))[r]?=(bK.map fun n=>(DataW.lit (.int .i64 (n:Nat)):DataW Unit))[r]?:=by rw[e3]
 rw[List.getElem?_map,List.getElem?_map,List.getElem?_eq_getElem (by omega:r<xs.length),List.getElem?_eq_getElem (by omega:r<bK.length),e2]at e4;have hz:z=(bK.getD r 0:Nat):=by
  simp only[a33,a0l,DataW.lit.injEq,Lit.int.injEq,a1U]at e4;rw[e4,List.getD,List.getElem?_eq_getElem (by omega:r<bK.length)];rfl
 rw[World.var?_cell hg hv r,←hz];have:cs.toList[r]?=some (.int .i64 z):=by
  have h0:((cs.toList.drop r).take 1)[0]?=some (.int .i64 z):=by rw[e1];rfl
  simpa using h0
 simpa using this
def Pr{ps:List MemPlace}(h:DataW.LaidVars prog W [("loop.example/corbel/impl.lenOrder",Pq)] ps):dp W:=by
 refine⟨fun j v hv=>?_,?_⟩
 .
  have hj:j<19:=by
   have:=(List.getElem?_eq_some_iff.1 hv).1;have e:LH.toList.length=19:=rfl;omega
  rw[a0G,zD h j hj];have h1:=EE j hj;rw[Array.getElem?_toList,h1]at hv;exact hv
 .
  have h0:=zD h 0 (by omega);rcases a1o 1 W.heap.size with h1|h1
  . exact h1
  . simp[World.cell?,h1]at h0
def yH{laid:List (String×DataW Unit)}(h:laidMetH prog laid W)(hp:(laid.filter fun x=>x.2.handleName?.isSome).isEmpty=false)(hm:("loop.example/corbel/impl.lenOrder",Pq)∈laid.filter fun x=>x.2.handleName?.isNone):dp W:=by
 have h':laidMet prog (laid.filter fun x=>x.2.handleName?.isNone) W:=by
  unfold laidMetH at h;generalize (laid.filter fun x=>x.2.handleName?.isSome)=fl at *;cases fl with
  | nil=>cases hp
  | cons a r=>exact h.1
 obtain⟨ps,h1,_,_⟩:=h';obtain⟨ps',h2⟩:=EJ _ _ h1 hm;exact Pr h2
end Go.Proofs.YtfannoajibacnaaGreatDoor
namespace Go.Proofs.YtfannoajibacnaaGreatDoor
open Go.Proofs.Tryz
open Go.RowKit Go.Shelf Corb
variable {B n n₀:Nat}{C:Array Value}{W W':World}{e t:TypeId}{v:Value}{xs:List Value}
attribute [local go_sem] Oper.semAt_some
def pP(W:World)(b:Nat)(t:TypeId)(C:Array Value):Prop:=W.heap[b]?=some (.cells C t (0,0))
def Pd{β:Type}(B:Nat)(t:TypeId)(C:Array Value):Own (fun(_:β) W=>pP W B t C):=fun _ X _ row b e a=>
 (e.block B (Array.getElem?_eq_some_iff.1 b).1 (fun e'=>by obtain⟨o,c,d⟩:=a B e'.symm;rw[show X.heap[B]?=_ from b]at c;cases c;cases d)).trans b
def pP.kept{row:Option Nat}(h:pP W B t C)(b:W.grownBy W' row)(a:some B≠row):pP W' B t C:=(b.block B (Array.getElem?_eq_some_iff.1 h).1 a).trans h
def pP.later(h:pP W B t C)(hb:Below W.heap.size W W'):pP W' B t C:=h.kept (fJ hb) (by simp)
def lx{F:Fence}{P:Program}{ops:Array Oper}{o:Oper}{a:Act}{w:World}{K:Act->World->Prop}{Q:Exit->Act->World->Prop}{E:Prop}
  (i:o.guard=none) (ty:TypeId) (x:Operand) (e:o.op = .load ty x) (b off:Nat) (m:a.eval x = .pointer (some ⟨b,off,none⟩)) (C:Array Value) (d:TypeDesc) (h:w.rangeAt b off C.toList)
  (k:P.underlying ty=some d) (hd:d.isRow=true) (j:(P.info? ty).map (·.size)=some C.size) (g:K (a.put o.dst (.agg C)) w) :
  if Region.wanted o (yielded ops a.tmps)=true then Oper.wpIn F n P o a w K Q else E:=by
 have l:Region.wanted o (yielded ops a.tmps)=true:=by simp[Region.wanted,i]
 rw[a0d l];unfold Oper.wpIn;refine⟨?_,?_⟩
 . simp[Oper.about,e]
 . rw[Oper.semAt_plain F _ _ (by rw[e];intro c f;cases f)];unfold execOp;simp only[e,m,Instr.loadAt,Instr.sureAddr,a2N,a3Q,Result.andThen_ok,run_loadVar_mid w b off ty C.toList d h k hd (by simpa using j)];simpa[Oper.uponIn]using g
def gR(L D:List Int)(t:Tk):Prop:=if isB t then t.1.toNat<L.length else 257+fnd 3 4 t.2.1.toNat 27<L.length/\fnd 1 2 t.2.2.toNat 29<D.length
def BL(L D:List Int)(t:Tk):(pcT L D t).length<=4/\1<=(pcT L D t).length:=by unfold pcT;split<;>simp
def wt{t:Tk}(h:isK t=true):3<=t.2.1/\t.2.1<=60/\1<=t.2.2/\t.2.2<=250:=by
 unfold isK inB at h;simp only[a0k,a0v]at h;omega
def sX{t:Tk}(h:isB t=true):0<=t.1/\t.1<=255:=by
 unfold isB inB at h;simp only[a0k,a0v]at h;omega
def iF{s:ByteArray}(L D:List Int)(pre:List (TkS s)):List (Int×Int):=(pre.map Subtype.val).flatMap (pcT L D)
def Dx{s:ByteArray}(L D:List Int)(pre:List (TkS s)):(iF L D pre).length<=4*pre.length:=by
 unfold iF;induction pre with
 | nil=>simp
 | cons x r ih=>have:=(BL L D x.1).1;simp only[a0D,a0W,a0i,a0C];omega
def GF{s:ByteArray}(L D:List Int)(pre:List (TkS s))(x:TkS s):iF L D (pre++[x])=iF L D pre++pcT L D x.1:=by simp[iF]
def PO{l m:List (Int×Int)}(h:W.ownsRow n₀ 167 2 v (l.length+m.length) (aY l++aY m)):W.ownsRow n₀ 167 2 v (l++m).length (aY (l++m)):=by
 rw[ft,a0i];exact h
def PT(t:Tk)(base:Nat)(L D:List Int)(C:Array Value)(w:World)(b:okT t=true)(a:gR L D t)(c:ff w base L D C)(d:L.length<=300)(h:D.length<=300) :
  Calls prog 176 #[.agg C,hH t] w fun e w'=>(∃g,e = .returned (.slice (some ⟨g,0,none⟩) (pcT L D t).length (pcT L D t).length)/\F8 w' g (pcT L D t))/\Below w.heap.size w w':=by
 cases hb:isB t
 .
  have f:isK t=true:=by unfold okT at b;rw[hb]at b;simpa using b
  unfold gR at a;rw[a0e (by simp[hb])]at a;have e1:pcT L D t=[pcS L (257+fnd 3 4 t.2.1.toNat 27),((t.2.1.toNat:Int)-((stF 3 4 (fnd 3 4 t.2.1.toNat 27)).1:Int),((stF 3 4 (fnd 3 4 t.2.1.toNat 27)).2:Nat)),pcS D (fnd 1 2 t.2.2.toNat 29),((t.2.2.toNat:Int)-((stF 1 2 (fnd 1 2 t.2.2.toNat 29)).1:Int),((stF 1 2 (fnd 1 2 t.2.2.toNat 29)).2:Nat))]:=by unfold pcT;rw[a0e (by simp[hb])]
  obtain⟨i,j,k,l⟩:=wt f;have f1:t.2.1=((t.2.1.toNat:Nat):Int):=by omega
  have f2:t.2.2=((t.2.2.toNat:Nat):Int):=by omega
  have e2:hH t = .iface 248 (.agg #[.int .i64 ((t.2.1.toNat:Nat):Int),.int .i64 ((t.2.2.toNat:Nat):Int)]):=by rw[←f1,←f2];exact tM f
  rw[e2,e1];have:=PS t.2.1.toNat t.2.2.toNat base L D C w c (by omega) (by omega) (by omega) (by omega) a.1 a.2 d h;exact this
 .
  obtain⟨i,j⟩:=sX hb;unfold gR at a;rw[a0d hb]at a;have e1:pcT L D t=[pcS L t.1.toNat]:=by unfold pcT;rw[a0d hb]
  have f1:t.1=((t.1.toNat:Nat):Int):=by omega
  have e2:hH t = .iface 246 (.int .u8 ((t.1.toNat:Nat):Int)):=by rw[←f1];exact oH hb
  rw[e2,e1];have:=PR t.1.toNat base L D C w c a (by omega) d;exact this
def uH{x1 w1:World}{w i:Nat}{tn tm:TypeId}{size:Nat}{v' u:Value}{k m:Nat}{ys:List Value}
  (h:Below W.heap.size W x1) (L:Boxed W B t v) (A:Boxed W w tn u) (K:pP W i tm C) (q:t≠e) (H:tn≠e) (G:tm≠e) (E:w≠B) (F:i≠B) (p:W.ownsRow n₀ e size v k xs) (n:n₀<=W.heap.size) (J:n₀<=B)
  (c:w1.ownsRow n₀ e size v' m ys) (a:x1.grownBy w1 v.ownBlock) :
  Boxed w1 B t v/\Boxed (w1.setCell ⟨B,0,none⟩ v') B t v'/\(w1.setCell ⟨B,0,none⟩ v').ownsRow n₀ e size v' m ys/\KeepsOthers W (w1.setCell ⟨B,0,none⟩ v')/\Below n₀ W (w1.setCell ⟨B,0,none⟩ v')/\Boxed (w1.setCell ⟨B,0,none⟩ v') w tn u/\pP (w1.setCell ⟨B,0,none⟩ v') i tm C:=by
 have r:=Boxed.later L h;have f:=Boxed.later A h;have l:=K.later h;have b:x1.ownsRow n₀ e size v k xs:=eR p h;have D:some i≠v.ownBlock:=by
  intro e';rcases b.2 with⟨rfl,_⟩|⟨g,cap,x,rfl,_,d,_⟩
  . cases e'
  .
   simp only[Value.ownBlock,a0l]at e';subst e';rw[show x1.heap[i]?=_ from l]at d;cases d
   exact G rfl
 have y:Boxed w1 B t v:=r.kept a (r.not_row q b);refine⟨y,y.set v',c.kept (grownBy_setCell' w1 B v') (.inr (y.not_row q c).symm),?_,?_,?_,?_⟩
 .
  refine((KeepsOthers.of_grownBy (fJ h) (fun _ _ e=>by cases e)).trans (KeepsOthers.of_grownBy a fun j o ej s=>?_)).trans (KeepsOthers.setCell _ _ _);rcases b.2 with⟨rfl,_⟩|⟨g,cap,x,rfl,_,d,_⟩
  . cases ej
  .
   simp only[Value.ownBlock,a0l]at ej;subst ej;rw[d]at s;cases s
   rfl
 . have I:Below n₀ W x1:=h.mono n;have z:Below n₀ W w1:=I.grown a (a0E n h.size) (fun j s=>(a0z b j s).1);exact ai z J _
 . exact Boxed.other (f.kept a (f.not_row H b)) E v'
 . exact(l.kept a D).kept (grownBy_setCell' w1 B v') (fun e=>F (by cases e;rfl))
def QC(x:World)(a b:Value)(t:TypeId):∀(j:Nat) (u:Value),[a,b][j]?=some u->(x.alloc (.cells #[a,b] t)).cell? ((⟨x.heap.size,0,none⟩:Addr).add j)=some u:=by
 intro j u c
 match j,c with
 | 0,c=>simp at c;subst c;simp[Addr.add]
 | 1,c=>simp at c;subst c;simp[Addr.add]
def QD(p q:Int):∀u∈[Value.int .i64 p,Value.int .i64 q],u.oneCell'=true:=by
 intro u a;simp at a;rcases a with rfl|rfl<;>rfl
def xM{d:Nat}{r:Option (List Deferred)}(h:W.heap[d]?=some (Obj.deferred r))(o:Obj):(W.alloc o).heap[d]?=some (Obj.deferred r):=
 (a1k W o d (Array.getElem?_eq_some_iff.1 h).1).trans h
def PZ{d size:Nat}{r:Option (List Deferred)}(h:W.heap[d]?=some (Obj.deferred r))(c:W.grownBy W' v.ownBlock)(f:W.ownsRow n₀ e size v n xs):W'.heap[d]?=some (Obj.deferred r):=by
 refine(c.block d (Array.getElem?_eq_some_iff.1 h).1 ?_).trans h;intro e';rcases f.2 with⟨rfl,_⟩|⟨g,cap,b,rfl,_,a,_⟩
 . cases e'
 . simp only[Value.ownBlock,a0l]at e';subst e';rw[h]at a;cases a
def L2{l:List (Int×Int)}{p q:Int}(h:W.ownsRow n₀ 167 2 v (l.length+1) (aY l++[.int .i64 p,.int .i64 q])):Pcs W n₀ v (l++[(p,q)]):=by
 show World.ownsRow _ _ _ _ _ (l++[(p,q)]).length _;rw[ft,a0i];exact h
def FE(s:ByteArray)(c:s.size<=300){ys:List (TkS s)}(h:ys.map Subtype.val=bq s.data.toList 0):ys.length<=300:=by
 have a:=congrArg List.length h;rw[a0O]at a;have h2:=zX s.data.toList s.data.toList.length 0 (by omega);have b:s.data.toList.length=s.size:=by simp
 omega
def pP.range{b:Nat}(h:pP W b t C):W.rangeAt b 0 C.toList:=by
 intro j v a;rw[a0G,bH h];simpa using a
def xE{size:Nat}(h:W.ownsRow n₀ e size v n xs)(b:0<n):∃g cap,v = .slice (some ⟨g,0,none⟩) n cap:=by
 rcases h.2 with⟨_,a⟩|⟨g,cap,_,e,_⟩
 . omega
 . exact⟨g,cap,e⟩
theorem xJ(s:ByteArray)(base:Nat)(L D:List Int)(C:Array Value)(w:World)(U:s.size<=300)(u:ff w base L D C)(hL:L.length<=300)(hD:D.length<=300)(M:256<L.length)(A:∀t∈bq s.data.toList 0,gR L D t) :
  Calls prog 149 #[.agg C,s] w fun e w'=>∃v,e = .returned v/\Pcs w' w.heap.size v ((bq s.data.toList 0).flatMap (pcT L D)++[pcS L 256])/\Below w.heap.size w w':=by
 obtain⟨i0,hi,R,S,T⟩:=a0p Tryz.infoPiece;have be:(s.size:Int)<=300:=by omega
 have bc:=cE
 have HS:=af U;have ac:=af u.size;have J:=af (fun(x:TkS s) W (hW:Below w.heap.size w W)=>PT x.1 base L D C W x.2.1 (A x.1 x.2.2) (u.later hW) hL hD);have X:=af u;clear U u A;refine(callsIn_wide (n:=6)).1 ?_;refine callsIn_of_wp_marks func149 rfl trivial ?_ rfl;simp only[ntmps149,a2M,a0C,a0U,Nat.reduceAdd,Nat.reduceSub,Array.replicate_succ,Array.replicate_zero,List.push_toArray,List.append_toArray,a1a,a1q]
 gi_wp2_with (refine⟨trivial,?_⟩;gi_at_call 175;refine(callsIn_wide.2 (rD s _)).mono ?_;rintro e w'⟨rfl,rfl⟩)
 have bO:=Boxed.new (w.alloc (.cells C 200)) 164 (.slice none 0 0);have bN:=Boxed.new ((w.alloc (.cells C 200)).alloc (.cells #[.slice none 0 0] 164)) 9 (.string s);have e1:(w.alloc (.cells C 200)).heap.size=w.heap.size+1:=by simp
 have e2:((w.alloc (.cells C 200)).alloc (.cells #[.slice none 0 0] 164)).heap.size=w.heap.size+2:=by simp
 rw[e1]at bO;rw[e2]at bN;have bM:pP (((w.alloc (.cells C 200)).alloc (.cells #[.slice none 0 0] 164)).alloc (.cells #[s] 9)) w.heap.size 200 C:=(pP.later (pP.later (alloc_at w (.cells C 200)) cC) cC);have ad:Below w.heap.size w (((w.alloc (.cells C 200)).alloc (.cells #[.slice none 0 0] 164)).alloc (.cells #[s] 9)):=(((a0c _ w).alloc (a0a _) _).alloc (by simp) _).alloc (by simp;omega) _;refine wpIn_rangeFunc_ownG rfl (by omega) (gf:=210) (lb:=#[.pointer (some ⟨w.heap.size+2,0,none⟩)]) rfl trivial (enters_of func210 (by kernel_rfl) rfl)
  (uA 5 (by omega) (w.heap.size+2) s (by have:=ae HS;omega) _ bN) Jg (fun W l o o' _ h1 h2 _=>Jf W l o o' h1 h2) (a0c _ _) (fun _=>rfl)
  (fun(pre:List (TkS s)) W=>(((∃v,Boxed W (w.heap.size+1) 164 v/\W.ownsRow w.heap.size 167 2 v (iF L D pre).length (aY (iF L D pre))/\True)/\Below w.heap.size w W)/\Boxed W (w.heap.size+2) 9 (.string s))/\pP W w.heap.size 200 C)
  (fun _ _ _=>False)
  (OwnFrom.and (OwnFrom.and (OwnFrom.and (Own.from (holdsRow_own w.heap.size (w.heap.size+1) 164 167 2 (fun(pre:List (TkS s))=>(iF L D pre).length) (fun(pre:List (TkS s))=>aY (iF L D pre)) (fun _ _=>True)) _) (ownFrom_below (a0a _) (by simp;omega))) (Own.from (boxed_own _ _ _) _)) (Own.from (Pd _ _ _) _))
  (fun _ _ _ _ _ U _ _=>U)
  ⟨⟨⟨⟨_,bO.alloc _,a1b _ _ _ _,trivial⟩,ad⟩,bN⟩,bM⟩
  (fun x=>{ tmps:=#[.agg C,s,.pointer w.heap.size,undef,.slice none 0 0,.pointer (some ⟨w.heap.size+1,0,none⟩),hH x.1,s,.func (.func 210) #[] #[.pointer (some ⟨w.heap.size+2,0,none⟩)],hH x.1,undef,undef,undef,undef,undef,undef,undef,undef,undef,undef,undef],defers:=[] }) ?assign ?body ?done ?stop
 case assign=>
  intro l x W K r
  gi_wp2
  exact r
 case body=>
  rintro l pre x W⟨⟨⟨⟨v,G,i,_⟩,u⟩,hN⟩,z⟩ bb;have hc:=G.cell;have bd:Hid ((iF L D pre).length+(pcT L D x.1).length<=maxLen/\((iF L D pre).length+(pcT L D x.1).length)*16<=140737488355328):=by
   show _/\_;have h1:=ae HS;have h2:=Dx L D pre;have h3:=(BL L D x.1).1;unfold maxLen;omega
  gi_wp2
  refine wpIn_region_any (by assumption) ?_;change wpAnyIn _ _ _ _ _ _ _ _ _ (World.drew _);repeat' first
   | exact AllReadyIn.nil
   | refine AllReadyIn.cons rfl (fun K r=>?_) ?_
   | (refine iC 10 rfl ?_;go_simp;refine r _ _ ?_;clear r K)
   | (refine iC 12 rfl ?_;go_simp;refine r _ _ ?_;clear r K)
   | (refine iC 11 rfl ?_;refine lx rfl 200 (.tmp 2) rfl w.heap.size 0 rfl C _ z.range a3q rfl (by rw[ae ac];exact Tryz.infoBooks) (r _ _ ?_);clear r K)
   | (refine iC 13 rfl ?_;go_simp;refine⟨trivial,?_⟩;refine(CallsIn.inRound l (callsIn_wide.2 (ae J x _ u.drew))).mono ?_;rintro e x1⟨⟨g,rfl,a1⟩,f⟩;have d:Below W.heap.size W x1:=⟨f.os,f.tape,f.output,f.size,f.block⟩;clear f;have a3:=(Boxed.later G d).cell;have F:w.heap.size<=x1.heap.size:=a0E u.size d.size;refine r _ _ ?_;clear r K)
   | (refine iC 14 rfl ?_;refine kR rfl _ _ 164 rfl w.heap.size 167 i0 (.agg #[.int .i64 0,.int .i64 0]) 2 16 a1C hi R S T rfl (by decide) v (iF L D pre).length _ rfl (eR i d) ⟨g,0,none⟩ (pcT L D x.1).length (pcT L D x.1).length (aY (pcT L D x.1)) rfl (mX _) a1.cells (jg _) (ae bd).1 (ae bd).2 F ?_;intro v' w1 m k _;obtain⟨g',cap',rfl⟩:∃g' cap',v' = .slice (some ⟨g',0,none⟩) ((iF L D pre).length+(pcT L D x.1).length) cap':=xE m (by have:=(BL L D x.1).2;omega);obtain⟨Q,a7,a6,a4,a2,P,a5⟩:=uH d G hN z (by decide) (by decide) (by decide) (by omega) (by omega) i u.size (by omega) m k;have a9:=Q.cell;have ba:=Q.frozen;refine r _ _ ?_;clear r K)
   | (refine M5 (Op.store 164 (.tmp 5) (.tmp 14)) rfl ?_;go_simp;refine r _ _ ?_;clear r K)
   | refine wpAnyIn_ready (rs:=[0,1,2]) (by decide +kernel) (by simp) ?_
   | refine wpAnyIn_ready (rs:=[1,2]) (by decide +kernel) (by simp) ?_
   | refine wpAnyIn_ready (rs:=[2]) (by decide +kernel) (by simp) ?_
   | refine wpAnyIn_ready (rs:=[3]) (by decide +kernel) (by simp) ?_
   | refine wpAnyIn_ready (rs:=[4]) (by decide +kernel) (by simp) ?_
   | refine wpAnyIn_ready (rs:=[5]) (by decide +kernel) (by simp) ?_
   | refine wpAnyIn_ready (rs:=[1]) (by decide +kernel) (by simp) ?_
   | refine wpAnyIn_ready (rs:=[0,2]) (by decide +kernel) (by simp) ?_
   | refine wpAnyIn_ready (rs:=[0,3]) (by decide +kernel) (by simp) ?_
   | refine wpAnyIn_ready (rs:=[0]) (by decide +kernel) (by simp) ?_
   | refine wpAnyIn_ready (rs:=[0,1]) (by decide +kernel) (by simp) ?_
   | (refine wpAnyIn_done (by decide +kernel) ?_ _;exact⟨(a4.trans (KeepsOthers.refl _)).from _,fun _=>P,⟨⟨⟨⟨_,a7,by rw[GF];exact PO a6,trivial⟩,u.trans a2⟩,P⟩,a5⟩⟩)
 case done=>
  rintro Dd ys W O H⟨⟨⟨⟨v,G,i,_⟩,u⟩,hN⟩,z⟩ r;have hc:=G.cell;have I:Hid ((iF L D ys).length+1<=maxLen/\((iF L D ys).length+1)*16<=140737488355328):=by
   show _/\_;have h1:=FE s (ae HS) H;have h2:=Dx L D ys;unfold maxLen;omega
  have a0:Hid (iF L D ys=(bq s.data.toList 0).flatMap (pcT L D)):=by show iF L D ys=_;unfold iF;rw[H]
  have Y:=af O;obtain⟨V,C2,N,y,ao⟩:=(ae X).later u;have HL:=af (fun W' (hW:Below W.heap.size W W')=>qh 256 L V base W' (y.later hW) M hL);have aa:=af (by have h0:=jy (b:=w.heap.size) (t:=200) (show W.heap[w.heap.size]?=some (Obj.cells (V++C2) 200) by rw[←N];exact z) y.size;exact h0.1);have ab:=af y.size;have Z:Hid (pcS L 256=(btI ((aW L 15).2.getD 256 0) (L.getD 256 0),L.getD 256 0)):=rfl;generalize btI ((aW L 15).2.getD 256 0) (L.getD 256 0)=p at *
  generalize L.getD 256 0=q at *
  clear H N y ao O
  gi_wp2
  refine wpIn_region_any (by assumption) ?_;change wpAnyIn _ _ _ _ _ _ _ _ _ (World.drew _);repeat' first
   | exact AllReadyIn.nil
   | refine AllReadyIn.cons rfl (fun B a=>?_) ?_
   | (refine iC 15 rfl ?_;go_simp;refine a _ _ ?_;clear a B)
   | (refine iC 16 rfl ?_;go_simp;refine a _ _ ?_;clear a B)
   | (refine iC 17 rfl ?_;refine lx rfl 195 (.tmp 16) rfl w.heap.size 0 rfl V _ (ae aa) a2m rfl (by rw[ae ab];exact Tryz.infoLitB) (a _ _ ?_);clear a B)
   | (refine iC 18 rfl ?_;go_simp;refine⟨trivial,?_⟩;refine(callsIn_wide.2 (ae HL _ (a0c _ W).drew)).mono ?_;rintro e x1⟨rfl,f⟩;have d:Below W.heap.size W x1:=⟨f.os,f.tape,f.output,f.size,f.block⟩;clear f;have a3:=(Boxed.later G d).cell;have a8:=((Boxed.later G d).alloc (.cells #[p,q] 167)).cell;have F:w.heap.size<=x1.heap.size:=a0E u.size d.size;refine a _ _ ?_;clear a B)
   | (refine iC 19 rfl ?_;go_simp;refine a _ _ ?_;clear a B)
   | (refine iC 20 rfl ?_;refine kR rfl _ _ 164 rfl w.heap.size 167 i0 (.agg #[.int .i64 0,.int .i64 0]) 2 16 a1C hi R S T rfl (by decide) v (iF L D ys).length _ rfl (a0o (eR i d) _) ⟨x1.heap.size,0,none⟩ 1 1 [.int .i64 p,.int .i64 q] rfl rfl (QC _ _ _ _) (QD _ _) (ae I).1 (ae I).2 (by simp;omega) ?_;intro v' w1 m k _;have al:Below w.heap.size w w1:=((u.trans (d.mono u.size)).alloc F _).grown k (by simp;omega) (fun j hj=>(a0z (eR i d) j hj).1);have E:=PZ (xM ((d.block Dd (Array.getElem?_eq_some_iff.1 r).1).trans r) (.cells #[p,q] 167)) k (a0o (eR i d) _);refine a _ _ ?_;clear a B)
   | (refine iC 4 rfl ?_;go_simp;refine a _ _ ?_;clear a B)
   | refine wpAnyIn_ready (rs:=[0,1]) (by decide +kernel) (by simp) ?_
   | refine wpAnyIn_ready (rs:=[1]) (by decide +kernel) (by simp) ?_
   | refine wpAnyIn_ready (rs:=[2]) (by decide +kernel) (by simp) ?_
   | refine wpAnyIn_ready (rs:=[3]) (by decide +kernel) (by simp) ?_
   | refine wpAnyIn_ready (rs:=[4]) (by decide +kernel) (by simp) ?_
   | refine wpAnyIn_ready (rs:=[5]) (by decide +kernel) (by simp) ?_
   | refine wpAnyIn_ready (rs:=[6]) (by decide +kernel) (by simp) ?_
   | refine wpAnyIn_ready (rs:=[0,2]) (by decide +kernel) (by simp) ?_
   | refine wpAnyIn_ready (rs:=[0,3]) (by decide +kernel) (by simp) ?_
   | refine wpAnyIn_ready (rs:=[0,4]) (by decide +kernel) (by simp) ?_
   | refine wpAnyIn_ready (rs:=[0]) (by decide +kernel) (by simp) ?_
   | (refine wpAnyIn_done (by decide +kernel) ?_ _;gi_wp2;refine⟨by simp,.inl ⟨_,_,rfl,run_takeDeferred E,?_⟩⟩;refine⟨_,results_tmp rfl _ _ _,_,rfl,?_,al.trans (belowK_b (w:=w) (a0a _) w1 Dd _ _ (by have:=ae Y;simp at this;omega) E rfl rfl)⟩;rw[←ae a0,ae Z];exact L2 (ownsRow_putObj m (.deferred none) E rfl))
 case stop=>
  rintro D c pre W _ _ h _;exact h.elim
