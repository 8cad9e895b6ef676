/- Of what the proof is made: 3 texts, one behind the other. -/
import Derived.Test.YtfhdadkcophoaaaGreatDoorM31
import Derived.OwnWalk
import Derived.Test.YtfhdadkcophoaaaGreatDoorM5
import Derived.Test.YtfhdadkcophoaaaGreatDoorM25
import Derived.ChangeVars
import Derived.OpenVars
import Derived.Test.YtfhdadkcophoaaaGreatDoorM27
set_option linter.unusedSimpArgs false
set_option linter.unusedVariables false
set_option maxHeartbeats 6400000
namespace Go.Proofs.YtfhdadkcophoaaaGreatDoor
open Go.RowKit Corb
def cJ(s:ByteArray):Option (List UInt8×Nat):=if s.size<=700 then jI (ar s) (8*s.size) 0 []else none
def C8(d:Option (List UInt8×Nat)):Value:=match d with
 | none=>.tuple #[.string ⟨#[]⟩,.int .i64 0,.bool false]
 | some (T,q)=>.tuple #[.string ⟨T.toArray⟩,.int .i64 ((q/8:Nat):Int),.bool true]
theorem tR{V sz p q:Nat}{T T':List UInt8}(h:jI V sz p T=some (T',q))(h8:sz%8=0):q<=sz/\p<q/\q%8=0/\(T.length<=300->T'.length<=300):=by
 unfold jI at h;rcases h1:gq V sz p T with _|⟨T1,q1⟩
 · rw[h1]at h;cases h
 rw[h1]at h;simp only[a0f]at h;rcases h2:je V q1 with _|q2
 · rw[h2]at h;cases h
 rw[h2]at h;simp only[a0f,a0k,a0P]at h;obtain⟨rfl,rfl⟩:=h;have b1:=DV h1;have b2:=xK h2;exact⟨by omega,by omega,by omega,b1.2.2⟩
theorem KH(w:World)(s:ByteArray)(t:TypeId):Sou (w.alloc (.cells #[.string s,.int .i64 0,.bool false,.slice none 0 0] t)) w.heap.size s 0 []:=by
 refine⟨?_,.slice none 0 0,by simp,by simp,a00 _ _ _ _⟩;unfold Rdr;simp only[Nat.zero_min,Nat.not_lt_zero,decide_false];exact⟨by simp,by simp,by simp,by simp,by simp,by simp,by simp⟩
set_option maxRecDepth 100000 in
theorem oc(s:ByteArray)(w:World)(hs:s.size<=9223372036854775807)(hO:bY w) :
  Calls Tryz.prog 134 #[.string s] w fun e w'=>e = .returned (C8 (cJ s))/\Below w.heap.size w w':=by
 have hA:Below w.heap.size w (w.alloc (.cells #[.string s,.int .i64 0,.bool false,.slice none 0 0] 248)):=(a0b _ _).alloc (a0a _) _;by_cases hc:s.size<=700
 ·
  have hU:=vi w.heap.size 0 s [] _ (KH w s 248) (by simp) (a0h _) (by omega) (hO.later hA) hO.2;have e:cJ s=jI (ar s) (8*s.size) 0 []:=a0d hc;rw[←e]at hU;have hq:∀T q,cJ s=some (T,q)->q<=8*s.size/\q<=5600:=fun T q h=>by
   rw[e]at h;have:=tR h (by omega);omega
  clear e;generalize cJ s=d at *
  have HU:=af hU;have HA:=af hA;have hcI:(s.size:Int)<=700:=by omega
  clear hU hA hO hs hc;unfold UnP at HU;rcases d with _|⟨T,q⟩
  ·
   unfold C8;simp only;clear hq;go_enter Tryz.func134,Tryz.ntmps134;go_wp2_with fail;refine(ae HU).mono ?_;rintro e x1 ⟨k1,rfl⟩;have HK:=af k1.1;clear k1 HU;go_wp2
   go_ret3
   exact⟨rfl,(ae HA).trans (ae HK)⟩
  ·
   unfold C8;simp only;obtain⟨hq1,hq2⟩:=hq T q rfl;have hqI:(q:Int)<=5600:=by omega
   have Hq:=af hq1;clear hq hq1 hq2;go_enter Tryz.func134,Tryz.ntmps134;go_wp2_with fail;refine(ae HU).mono ?_;rintro e x1 ⟨k1,rfl,r1,v,c3,f3,o3⟩;have HK:=af k1.1;have c1:=(r1.at (ae Hq)).2.1;have hT':(convert 22 9 v).run Tryz.prog x1.drew = .ok (.string ⟨T.toArray⟩) x1.drew:=bG.text (w:=x1.drew) o3;clear k1 HU r1 f3 o3 Hq;go_wp2_with fail;have hmix:Tryz.prog.follows .mixedOrders=true:=by kernel_rfl
   have c1':x1.drew.cell? ⟨w.heap.size,1,none⟩=some (.int .i64 (q:Int)):=c1;have c3':x1.drew.cell? ⟨w.heap.size,3,none⟩=some v:=c3;refine wp_region_held_drew (S:=fun W=>W=x1.drew) hmix rfl (fun hS=>?_);refine ai 0 (.pointer (some ⟨w.heap.size,0,none⟩)) rfl (by kernel_rfl) (fun _ _ _ h=>h) rfl (fun W hSw=>by subst hSw;go_simp) hS ?_;refine ai 1 (.pointer (some ⟨w.heap.size,0,none⟩)) rfl (by kernel_rfl) (fun _ _ _ h=>h) rfl (fun W hSw=>by subst hSw;go_simp) hS ?_;refine ai 2 (.pointer (some ⟨w.heap.size,3,none⟩)) rfl (by kernel_rfl) (fun _ _ _ h=>h) rfl (fun W hSw=>by subst hSw;go_simp) hS ?_;refine ai 3 (v) rfl (by kernel_rfl) (fun _ _ _ h=>h) rfl (fun W hSw=>by subst hSw;go_simp) hS ?_;refine ai 4 (.string ⟨T.toArray⟩) rfl (by kernel_rfl) (fun _ _ _ h=>h) rfl (fun W hSw=>by subst hSw;go_simp) hS ?_;refine ai 5 (.pointer (some ⟨w.heap.size,0,none⟩)) rfl (by kernel_rfl) (fun _ _ _ h=>h) rfl (fun W hSw=>by subst hSw;go_simp) hS ?_;refine ai 6 (.pointer (some ⟨w.heap.size,0,none⟩)) rfl (by kernel_rfl) (fun _ _ _ h=>h) rfl (fun W hSw=>by subst hSw;go_simp) hS ?_;refine ai 7 (.pointer (some ⟨w.heap.size,0,none⟩)) rfl (by kernel_rfl) (fun _ _ _ h=>h) rfl (fun W hSw=>by subst hSw;go_simp) hS ?_;refine ai 8 (.pointer (some ⟨w.heap.size,1,none⟩)) rfl (by kernel_rfl) (fun _ _ _ h=>h) rfl (fun W hSw=>by subst hSw;go_simp) hS ?_;refine ai 9 (.int .i64 (q:Int)) rfl (by kernel_rfl) (fun _ _ _ h=>h) rfl (fun W hSw=>by subst hSw;go_simp) hS ?_;refine ai 10 (.int .i64 ((q/8:Nat):Int)) rfl (by kernel_rfl) (fun _ _ _ h=>h) rfl (fun W hSw=>by subst hSw;go_simp;rw[a1T];omega) hS ?_;refine aj 11 (by kernel_rfl) rfl fun K hK=>?_;go_simp;refine Shut.out hK _ _ rfl (fun hS=>?_);clear hK K;refine aj 12 (by kernel_rfl) rfl fun K hK=>?_;go_simp;refine Shut.out hK _ _ rfl (fun hS=>?_);clear hK K;refine aj 13 (by kernel_rfl) rfl fun K hK=>?_;go_simp;refine Shut.out hK _ _ rfl (fun hS=>?_);clear hK K;refine wpAnyH_done (by kernel_rfl) ?_ _;go_wp2
   go_ret3
   exact⟨rfl,(ae HA).trans (ae HK).drew⟩
 ·
  have e:cJ s=none:=a0e hc;rw[e];have hcI:(700:Int)<(s.size:Int):=by omega
  have HA:=af hA;clear hA hO hs hc e;unfold C8;simp only;go_enter Tryz.func134,Tryz.ntmps134;go_wp2
  go_ret3
  exact⟨rfl,ae HA⟩
end Go.Proofs.YtfhdadkcophoaaaGreatDoor
namespace Go.Proofs.YtfhdadkcophoaaaGreatDoor
open Go.ChangeShapes Go.WideShapes Go.ChangeAt Go.RowKit
def GQ:DataW Unit:=.agg (bD.map fun n=>.lit (.int .i64 (n:Nat)))
theorem xA{W:World} : ∀(laid:List (String×DataW Unit)) (ps:List MemPlace),DataW.LaidVars Tryz.prog W laid ps->("loop.example/corbel/impl.lenOrder",GQ)∈laid->∃ps',DataW.LaidVars Tryz.prog W [("loop.example/corbel/impl.lenOrder",GQ)] ps'
 | [],_,_,h=>by cases h
 | (n,d) :: r,ps,hL,h=>by
  obtain⟨g,t,cs,fuel,p,q,hg,ht,hv,hd,hr,_⟩:=hL;rcases a04.1 h with e|e
  · obtain⟨rfl,rfl⟩:=Prod.mk.inj e;exact⟨_,g,t,cs,fuel,p,[],hg,ht,hv,hd,rfl,rfl⟩
  · exact xA r q hr e
theorem tq{W:World}{ps:List MemPlace}(h:DataW.LaidVars Tryz.prog W [("loop.example/corbel/impl.lenOrder",GQ)] ps)(r:Nat)(hr:r<19):W.cell? ⟨1,r,none⟩=some (.int .i64 (bD.getD r 0:Nat)):=by
 obtain⟨g,t,cs,fuel,p,q,hg,ht,hv,hd,_,_⟩:=h;obtain rfl:=a1u ((show Tryz.prog.globalNamed "loop.example/corbel/impl.lenOrder" = some 1 by kernel_rfl).symm.trans hg);obtain rfl:=a1u ((show(Tryz.prog.globals[1]?).map (·.type)=some 228 by kernel_rfl).symm.trans ht);obtain⟨xs,m,_,ex,_,hl,hel⟩:=DataW.trod_array Tryz.underlying228 hd;have c5:Tryz.prog.cellsOf 3=1:=by kernel_rfl
 have hE:=hel r hr;rw[c5,a2n,List.getElem?_eq_getElem (by omega)]at hE;obtain⟨z,e1,e2,_⟩:=DataW.trod_int a1P hE;have hlen:bD.length=19:=rfl;have e3:(xs.map (·.1))=bD.map fun n=>.lit (.int .i64 (n:Nat)):=(DataW.agg.inj (Prod.mk.inj ex).1).symm;have e4:(xs.map (·.1))[r]?=(bD.map fun n=>(DataW.lit (.int .i64 (n:Nat)):DataW Unit))[r]?:=by rw[e3]
 rw[List.getElem?_map,List.getElem?_map,List.getElem?_eq_getElem (by omega:r<xs.length),List.getElem?_eq_getElem (by omega:r<bD.length),e2]at e4;have hz:z=(bD.getD r 0:Nat):=by
  simp only[a3v,a0k,DataW.lit.injEq,Lit.int.injEq,a1D]at e4;rw[e4,List.getD,List.getElem?_eq_getElem (by omega:r<bD.length)];rfl
 rw[World.var?_cell hg hv r,←hz];have:cs.toList[r]?=some (.int .i64 z):=by
  have h0:((cs.toList.drop r).take 1)[0]?=some (.int .i64 z):=by rw[e1];rfl
  simpa using h0
 simpa using this
theorem GU{W:World}{ps:List MemPlace}(h:DataW.LaidVars Tryz.prog W [("loop.example/corbel/impl.lenOrder",GQ)] ps):bY W:=by
 refine⟨fun j v hv=>?_,?_⟩
 ·
  have hj:j<19:=by
   have:=(List.getElem?_eq_some_iff.1 hv).1;have e:DI.toList.length=19:=rfl;omega
  rw[a0G,tq h j hj];have h1:=xz j hj;rw[Array.getElem?_toList,h1]at hv;exact hv
 ·
  have h0:=tq h 0 (by omega);rcases a1e 1 W.heap.size with h1|h1
  · exact h1
  · simp[World.cell?,h1]at h0
theorem sv{W:World}{laid:List (String×DataW Unit)}(h:laidMetH Tryz.prog laid W)(hp:(laid.filter fun x=>x.2.handleName?.isSome).isEmpty=false)(hm:("loop.example/corbel/impl.lenOrder",GQ)∈laid.filter fun x=>x.2.handleName?.isNone):bY W:=by
 have h':laidMet Tryz.prog (laid.filter fun x=>x.2.handleName?.isNone) W:=by
  unfold laidMetH at h;generalize (laid.filter fun x=>x.2.handleName?.isSome)=fl at *
  cases fl with
  | nil=>cases hp
  | cons a r=>exact h.1
 obtain⟨ps,h1,_,_⟩:=h';obtain⟨ps',h2⟩:=xA _ _ h1 hm;exact GU h2
end Go.Proofs.YtfhdadkcophoaaaGreatDoor
namespace Go.Proofs.YtfhdadkcophoaaaGreatDoor
open Go.RowKit Go.Shelf Corb
attribute [local go_sem] Oper.semAt_some
def lY(W:World)(b:Nat)(t:TypeId)(C:Array Value):Prop:=W.heap[b]?=some (.cells C t (0,0))
theorem GE{β:Type}(B:Nat)(t:TypeId)(C:Array Value):Own (fun(_:β) W=>lY W B t C):=fun _ X _ row hs hg hrow=>
 (hg.block B (Array.getElem?_eq_some_iff.1 hs).1 (fun e'=>by obtain⟨o,ho,hc⟩:=hrow B e'.symm;rw[show X.heap[B]?=_ from hs]at ho;cases ho;cases hc)).trans hs
theorem lY.kept{W W':World}{row:Option Nat}{B:Nat}{t:TypeId}{C:Array Value}(h:lY W B t C)(hg:W.grownBy W' row)(hne:some B≠row):lY W' B t C:=(hg.block B (Array.getElem?_eq_some_iff.1 h).1 hne).trans h
theorem lY.later{W W':World}{B:Nat}{t:TypeId}{C:Array Value}(h:lY W B t C)(hb:Below W.heap.size W W'):lY W' B t C:=h.kept (dF hb) (by simp)
theorem iE{F:Fence}{n:Nat}{P:Program}{ops:Array Oper}{o:Oper}{a:Act}{w:World}{K:Act->World->Prop}{Q:Exit->Act->World->Prop}{E:Prop}
  (hg:o.guard=none) (ty:TypeId) (x:Operand) (hop:o.op = .load ty x) (b off:Nat) (hx:a.eval x = .pointer (some ⟨b,off,none⟩)) (C:Array Value) (d:TypeDesc) (hc:w.rangeAt b off C.toList)
  (hu:P.underlying ty=some d) (hd:d.isRow=true) (hi:(P.info? ty).map (·.size)=some C.size) (hK:K (a.put o.dst (.agg C)) w) :
  if Region.wanted o (yielded ops a.tmps)=true then Oper.wpIn F n P o a w K Q else E:=by
 have hw:Region.wanted o (yielded ops a.tmps)=true:=by simp[Region.wanted,hg]
 rw[a0d hw];unfold Oper.wpIn;refine⟨?_,?_⟩
 · simp[Oper.about,hop]
 · rw[Oper.semAt_plain F _ _ (by rw[hop];intro c hc';cases hc')];unfold execOp;simp only[hop,hx,Instr.loadAt,Instr.sureAddr,a2q,a3k,Result.andThen_ok,run_loadVar_mid w b off ty C.toList d hc hu hd (by simpa using hi)];simpa[Oper.uponIn]using hK
def f9(L D:List Int)(t:Tk):Prop:=if isB t then t.1.toNat<L.length else 257+fnd 3 4 t.2.1.toNat 27<L.length/\fnd 1 2 t.2.2.toNat 29<D.length
theorem uV(L D:List Int)(t:Tk):(pcT L D t).length<=4/\1<=(pcT L D t).length:=by unfold pcT;split<;>simp
theorem zu{t:Tk}(h:isK t=true):3<=t.2.1/\t.2.1<=60/\1<=t.2.2/\t.2.2<=250:=by
 unfold isK inB at h;simp only[a0j,a0o]at h;omega
theorem uJ{t:Tk}(h:isB t=true):0<=t.1/\t.1<=255:=by
 unfold isB inB at h;simp only[a0j,a0o]at h;omega
def ff{s:ByteArray}(L D:List Int)(pre:List (TkS s)):List (Int×Int):=(pre.map Subtype.val).flatMap (pcT L D)
theorem wh{s:ByteArray}(L D:List Int)(pre:List (TkS s)):(ff L D pre).length<=4*pre.length:=by
 unfold ff;induction pre with
 | nil=>simp
 | cons x r ih=>have:=(uV L D x.1).1;simp only[a0p,a0V,a0i,a0y];omega
theorem zg{s:ByteArray}(L D:List Int)(pre:List (TkS s))(x:TkS s):ff L D (pre++[x])=ff L D pre++pcT L D x.1:=by simp[ff]
theorem Hi{W:World}{n₀:Nat}{v:Value}{l m:List (Int×Int)}(h:W.ownsRow n₀ 146 2 v (l.length+m.length) (aL l++aL m)):W.ownsRow n₀ 146 2 v (l++m).length (aL (l++m)):=by
 rw[dr,a0i];exact h
theorem Hw(t:Tk)(base:Nat)(L D:List Int)(C:Array Value)(w:World)(hok:okT t=true)(hf:f9 L D t)(hB:db w base L D C)(hL:L.length<=300)(hD:D.length<=300) :
  Calls Tryz.prog 147 #[.agg C,dW t] w fun e w'=>(∃g,e = .returned (.slice (some ⟨g,0,none⟩) (pcT L D t).length (pcT L D t).length)/\yJ w' g (pcT L D t))/\Below w.heap.size w w':=by
 cases hb:isB t
 ·
  have hk:isK t=true:=by unfold okT at hok;rw[hb]at hok;simpa using hok
  unfold f9 at hf;rw[a0e (by simp[hb])]at hf;have e1:pcT L D t=[pcS L (257+fnd 3 4 t.2.1.toNat 27),((t.2.1.toNat:Int)-((stF 3 4 (fnd 3 4 t.2.1.toNat 27)).1:Int),((stF 3 4 (fnd 3 4 t.2.1.toNat 27)).2:Nat)),pcS D (fnd 1 2 t.2.2.toNat 29),((t.2.2.toNat:Int)-((stF 1 2 (fnd 1 2 t.2.2.toNat 29)).1:Int),((stF 1 2 (fnd 1 2 t.2.2.toNat 29)).2:Nat))]:=by unfold pcT;rw[a0e (by simp[hb])]
  obtain⟨q1,q2,q3,q4⟩:=zu hk;have f1:t.2.1=((t.2.1.toNat:Nat):Int):=by omega
  have f2:t.2.2=((t.2.2.toNat:Nat):Int):=by omega
  have e2:dW t = .iface 215 (.agg #[.int .i64 ((t.2.1.toNat:Nat):Int),.int .i64 ((t.2.2.toNat:Nat):Int)]):=by rw[←f1,←f2];exact my hk
  rw[e2,e1];have:=Hv t.2.1.toNat t.2.2.toNat base L D C w hB (by omega) (by omega) (by omega) (by omega) hf.1 hf.2 hL hD;exact this
 ·
  obtain⟨q1,q2⟩:=uJ hb;unfold f9 at hf;rw[a0d hb]at hf;have e1:pcT L D t=[pcS L t.1.toNat]:=by unfold pcT;rw[a0d hb]
  have f1:t.1=((t.1.toNat:Nat):Int):=by omega
  have e2:dW t = .iface 213 (.int .u8 ((t.1.toNat:Nat):Int)):=by rw[←f1];exact jF hb
  rw[e2,e1];have:=Hu t.1.toNat base L D C w hB hf (by omega) hL;exact this
theorem pj{W x1 w1:World}{n₀ B Bn Bm:Nat}{t e tn tm:TypeId}{size:Nat}{v v' u:Value}{C:Array Value}{k m:Nat}{xs ys:List Value}
  (hW:Below W.heap.size W x1) (hv:Boxed W B t v) (hbn:Boxed W Bn tn u) (hm:lY W Bm tm C) (hte:t≠e) (htn:tn≠e) (htm:tm≠e) (hne:Bn≠B) (hnm:Bm≠B) (hrow:W.ownsRow n₀ e size v k xs) (hn₀:n₀<=W.heap.size) (hB:n₀<=B)
  (hown':w1.ownsRow n₀ e size v' m ys) (hgrow:x1.grownBy w1 v.ownBlock) :
  Boxed w1 B t v/\Boxed (w1.setCell ⟨B,0,none⟩ v') B t v'/\(w1.setCell ⟨B,0,none⟩ v').ownsRow n₀ e size v' m ys/\KeepsOthers W (w1.setCell ⟨B,0,none⟩ v')/\Below n₀ W (w1.setCell ⟨B,0,none⟩ v')/\Boxed (w1.setCell ⟨B,0,none⟩ v') Bn tn u/\lY (w1.setCell ⟨B,0,none⟩ v') Bm tm C:=by
 have hv1:=Boxed.later hv hW;have hbn1:=Boxed.later hbn hW;have hm1:=hm.later hW;have hrow1:x1.ownsRow n₀ e size v k xs:=eG hrow hW;have hmr:some Bm≠v.ownBlock:=by
  intro e';rcases hrow1.2 with⟨rfl,_⟩|⟨g,cap,cur,rfl,_,hgb,_⟩
  · cases e'
  ·
   simp only[Value.ownBlock,a0k]at e';subst e';rw[show x1.heap[Bm]?=_ from hm1]at hgb;cases hgb
   exact htm rfl
 have h1:Boxed w1 B t v:=hv1.kept hgrow (hv1.not_row hte hrow1);refine⟨h1,h1.set v',hown'.kept (grownBy_setCell' w1 B v') (.inr (h1.not_row hte hown').symm),?_,?_,?_,?_⟩
 ·
  refine((KeepsOthers.of_grownBy (dF hW) (fun _ _ e=>by cases e)).trans (KeepsOthers.of_grownBy hgrow fun j o ej hj=>?_)).trans (KeepsOthers.setCell _ _ _);rcases hrow1.2 with⟨rfl,_⟩|⟨g,cap,cur,rfl,_,hgb,_⟩
  · cases ej
  ·
   simp only[Value.ownBlock,a0k]at ej;subst ej;rw[hgb]at hj;cases hj
   rfl
 · have hA:Below n₀ W x1:=hW.mono hn₀;have hA1:Below n₀ W w1:=hA.grown hgrow (a0D hn₀ hW.size) (fun j hj=>(a0C hrow1 j hj).1);exact ah hA1 hB _
 · exact Boxed.other (hbn1.kept hgrow (hbn1.not_row htn hrow1)) hne v'
 · exact(hm1.kept hgrow hmr).kept (grownBy_setCell' w1 B v') (fun e=>hnm (by cases e;rfl))
theorem IM(x:World)(a b:Value)(t:TypeId):∀(j:Nat) (u:Value),[a,b][j]?=some u->(x.alloc (.cells #[a,b] t)).cell? ((⟨x.heap.size,0,none⟩:Addr).add j)=some u:=by
 intro j u hj
 match j,hj with
 | 0,hj=>simp at hj;subst hj;simp[Addr.add]
 | 1,hj=>simp at hj;subst hj;simp[Addr.add]
theorem IP(p q:Int):∀u∈[Value.int .i64 p,Value.int .i64 q],u.oneCell'=true:=by
 intro u hu;simp at hu;rcases hu with rfl|rfl<;>rfl
theorem rD{W:World}{d:Nat}{r:Option (List Deferred)}(h:W.heap[d]?=some (Obj.deferred r))(o:Obj):(W.alloc o).heap[d]?=some (Obj.deferred r):=
 (a09 W o d (Array.getElem?_eq_some_iff.1 h).1).trans h
theorem H7{W W':World}{d n₀ n size:Nat}{e:TypeId}{v:Value}{xs:List Value}{r:Option (List Deferred)}(h:W.heap[d]?=some (Obj.deferred r))(hg:W.grownBy W' v.ownBlock)(ho:W.ownsRow n₀ e size v n xs):W'.heap[d]?=some (Obj.deferred r):=by
 refine(hg.block d (Array.getElem?_eq_some_iff.1 h).1 ?_).trans h;intro e';rcases ho.2 with⟨rfl,_⟩|⟨g,cap,cur,rfl,_,hgb,_⟩
 · cases e'
 · simp only[Value.ownBlock,a0k]at e';subst e';rw[h]at hgb;cases hgb
theorem D3{W:World}{n₀:Nat}{v:Value}{l:List (Int×Int)}{p q:Int}(h:W.ownsRow n₀ 146 2 v (l.length+1) (aL l++[.int .i64 p,.int .i64 q])):Pcs W n₀ v (l++[(p,q)]):=by
 show World.ownsRow _ _ _ _ _ (l++[(p,q)]).length _;rw[dr,a0i];exact h
theorem yg(s:ByteArray)(hs:s.size<=300){ys:List (TkS s)}(h:ys.map Subtype.val=bi s.data.toList 0):ys.length<=300:=by
 have h1:=congrArg List.length h;rw[a0N]at h1;have h2:=tL s.data.toList s.data.toList.length 0 (by omega);have h3:s.data.toList.length=s.size:=by simp
 omega
theorem lY.range{W:World}{b:Nat}{t:TypeId}{C:Array Value}(h:lY W b t C):W.rangeAt b 0 C.toList:=by
 intro j v hv;rw[a0G,bo h];simpa using hv
theorem ru{W:World}{n₀ n:Nat}{e:TypeId}{size:Nat}{v:Value}{xs:List Value}(h:W.ownsRow n₀ e size v n xs)(hn:0<n):∃g cap,v = .slice (some ⟨g,0,none⟩) n cap:=by
 rcases h.2 with⟨_,h0⟩|⟨g,cap,_,e,_⟩
 · omega
 · exact⟨g,cap,e⟩
set_option maxRecDepth 100000 in
theorem rz(s:ByteArray)(base:Nat)(L D:List Int)(C:Array Value)(w:World)(hs:s.size<=300)(hB:db w base L D C)(hL:L.length<=300)(hD:D.length<=300)(h256:256<L.length)(hfit:∀t∈bi s.data.toList 0,f9 L D t) :
  Calls Tryz.prog 118 #[.agg C,.string s] w fun e w'=>∃v,e = .returned v/\Pcs w' w.heap.size v ((bi s.data.toList 0).flatMap (pcT L D)++[pcS L 256])/\Below w.heap.size w w':=by
 obtain⟨i0,hi,hz0,hz1,hz2⟩:=a0r Tryz.infoPiece;have hsI:(s.size:Int)<=300:=by omega
 have hmx:Tryz.prog.follows .mixedOrders=true:=by kernel_rfl
 have HS:=af hs;have HSz:=af hB.size;have HPut:=af (fun(x:TkS s) W (hW:Below w.heap.size w W)=>Hw x.1 base L D C W x.2.1 (hfit x.1 x.2.2) (hB.later hW) hL hD);have HBk:=af hB;clear hs hB hfit;refine(callsIn_wide (n:=6)).1 ?_;refine callsIn_of_wp_marks Tryz.func118 rfl trivial ?_ rfl;simp only[Tryz.ntmps118,a2p,a0y,a02,Nat.reduceAdd,Nat.reduceSub,Array.replicate_succ,Array.replicate_zero,List.push_toArray,List.append_toArray,a0R,a08]
 gi_wp2_with (refine⟨trivial,?_⟩;gi_at_call 146;refine(callsIn_wide.2 (nh s _)).mono ?_;rintro e w' ⟨rfl,rfl⟩)
 have bO:=Boxed.new (w.alloc (.cells C 157)) 143 (.slice none 0 0);have bN:=Boxed.new ((w.alloc (.cells C 157)).alloc (.cells #[.slice none 0 0] 143)) 9 (.string s);have e1:(w.alloc (.cells C 157)).heap.size=w.heap.size+1:=by simp
 have e2:((w.alloc (.cells C 157)).alloc (.cells #[.slice none 0 0] 143)).heap.size=w.heap.size+2:=by simp
 rw[e1]at bO;rw[e2]at bN;have bM:lY (((w.alloc (.cells C 157)).alloc (.cells #[.slice none 0 0] 143)).alloc (.cells #[.string s] 9)) w.heap.size 157 C:=(lY.later (lY.later (alloc_at w (.cells C 157)) ((a0b _ _).alloc (a0a _) _)) ((a0b _ _).alloc (a0a _) _));have hB0:Below w.heap.size w (((w.alloc (.cells C 157)).alloc (.cells #[.slice none 0 0] 143)).alloc (.cells #[.string s] 9)):=(((a0b _ w).alloc (a0a _) _).alloc (by simp) _).alloc (by simp;omega) _;refine wpIn_rangeFunc_ownG rfl (by omega) (gf:=173) (lb:=#[.pointer (some ⟨w.heap.size+2,0,none⟩)]) rfl trivial (enters_of Tryz.func173 (by kernel_rfl) rfl)
  (pe 5 (by omega) (w.heap.size+2) s (by have:=ae HS;omega) _ bN) Bb (fun W l o o' _ h1 h2 _=>Ba W l o o' h1 h2) (a0b _ _) (fun _=>rfl)
  (fun(pre:List (TkS s)) W=>(((∃v,Boxed W (w.heap.size+1) 143 v/\W.ownsRow w.heap.size 146 2 v (ff L D pre).length (aL (ff L D pre))/\True)/\Below w.heap.size w W)/\Boxed W (w.heap.size+2) 9 (.string s))/\lY W w.heap.size 157 C)
  (fun _ _ _=>False)
  (OwnFrom.and (OwnFrom.and (OwnFrom.and (Own.from (holdsRow_own w.heap.size (w.heap.size+1) 143 146 2 (fun(pre:List (TkS s))=>(ff L D pre).length) (fun(pre:List (TkS s))=>aL (ff L D pre)) (fun _ _=>True)) _) (ownFrom_below (a0a _) (by simp;omega))) (Own.from (boxed_own _ _ _) _)) (Own.from (GE _ _ _) _))
  (fun _ _ _ _ _ hs _ _=>hs)
  ⟨⟨⟨⟨_,bO.alloc _,a00 _ _ _ _,trivial⟩,hB0⟩,bN⟩,bM⟩
  (fun x=>{ tmps:=#[.agg C,.string s,.pointer (some ⟨w.heap.size,0,none⟩),undef,.slice none 0 0,.pointer (some ⟨w.heap.size+1,0,none⟩),dW x.1,.string s,.func (.func 173) #[] #[.pointer (some ⟨w.heap.size+2,0,none⟩)],dW x.1,undef,undef,undef,undef,undef,undef,undef,undef,undef,undef,undef],defers:=[] }) ?assign ?body ?done ?stop
 case assign=>
  intro l x W K hK
  gi_wp2
  exact hK
 case body=>
  rintro l pre x W ⟨⟨⟨⟨v,hv,hrow,_⟩,hB⟩,hN⟩,hmM⟩ hlt;have hc:=hv.cell;have bd:Hid ((ff L D pre).length+(pcT L D x.1).length<=maxLen/\((ff L D pre).length+(pcT L D x.1).length)*16<=140737488355328):=by
   show _/\_;have h1:=ae HS;have h2:=wh L D pre;have h3:=(uV L D x.1).1;unfold maxLen;omega
  gi_wp2
  refine wpIn_region_any (by assumption) ?_;change wpAnyIn _ _ _ _ _ _ _ _ _ (World.drew _);repeat' first
   | exact AllReadyIn.nil
   | refine AllReadyIn.cons rfl (fun K hK=>?_) ?_
   | (refine eO 10 rfl ?_;go_simp;refine hK _ _ ?_;clear hK K)
   | (refine eO 12 rfl ?_;go_simp;refine hK _ _ ?_;clear hK K)
   | (refine eO 11 rfl ?_;refine iE rfl 157 (.tmp 2) rfl w.heap.size 0 rfl C _ hmM.range a22 rfl (by rw[ae HSz];exact Tryz.infoBooks) (hK _ _ ?_);clear hK K)
   | (refine eO 13 rfl ?_;go_simp;refine⟨trivial,?_⟩;refine(CallsIn.inRound l (callsIn_wide.2 (ae HPut x _ hB.drew))).mono ?_;rintro e x1 ⟨⟨g,rfl,hPB⟩,hbd⟩;have hb1:Below W.heap.size W x1:=⟨hbd.os,hbd.tape,hbd.output,hbd.size,hbd.block⟩;clear hbd;have hc1:=(Boxed.later hv hb1).cell;have hbs:w.heap.size<=x1.heap.size:=a0D hB.size hb1.size;refine hK _ _ ?_;clear hK K)
   | (refine eO 14 rfl ?_;refine ie rfl _ _ 143 rfl w.heap.size 146 i0 (.agg #[.int .i64 0,.int .i64 0]) 2 16 a1h hi hz0 hz1 hz2 rfl (by decide) v (ff L D pre).length _ rfl (eG hrow hb1) ⟨g,0,none⟩ (pcT L D x.1).length (pcT L D x.1).length (aL (pcT L D x.1)) rfl (jA _) hPB.cells (fI _) (ae bd).1 (ae bd).2 hbs ?_;intro v' w1 hown' hgrow _;obtain⟨g',cap',rfl⟩:∃g' cap',v' = .slice (some ⟨g',0,none⟩) ((ff L D pre).length+(pcT L D x.1).length) cap':=ru hown' (by have:=(uV L D x.1).2;omega);obtain⟨hv1,hv2,hr2,hk2,hb2,hn2,hm2⟩:=pj hb1 hv hN hmM (by decide) (by decide) (by decide) (by omega) (by omega) hrow hB.size (by omega) hown' hgrow;have hc2:=hv1.cell;have hf2:=hv1.frozen;refine hK _ _ ?_;clear hK K)
   | (refine E4 (Op.store 143 (.tmp 5) (.tmp 14)) rfl ?_;go_simp;refine hK _ _ ?_;clear hK K)
   | refine wpAnyIn_ready (rs:=[0,1,2]) (by decide +kernel) (by simp) ?_
   | refine wpAnyIn_ready (rs:=[1,2]) (by decide +kernel) (by simp) ?_
   | refine wpAnyIn_ready (rs:=[2]) (by decide +kernel) (by simp) ?_
   | refine wpAnyIn_ready (rs:=[3]) (by decide +kernel) (by simp) ?_
   | refine wpAnyIn_ready (rs:=[4]) (by decide +kernel) (by simp) ?_
   | refine wpAnyIn_ready (rs:=[5]) (by decide +kernel) (by simp) ?_
   | refine wpAnyIn_ready (rs:=[1]) (by decide +kernel) (by simp) ?_
   | refine wpAnyIn_ready (rs:=[0,2]) (by decide +kernel) (by simp) ?_
   | refine wpAnyIn_ready (rs:=[0,3]) (by decide +kernel) (by simp) ?_
   | refine wpAnyIn_ready (rs:=[0]) (by decide +kernel) (by simp) ?_
   | refine wpAnyIn_ready (rs:=[0,1]) (by decide +kernel) (by simp) ?_
   | (refine wpAnyIn_done (by decide +kernel) ?_ _;exact⟨(hk2.trans (KeepsOthers.refl _)).from _,fun _=>hn2,⟨⟨⟨⟨_,hv2,by rw[zg];exact Hi hr2,trivial⟩,hB.trans hb2⟩,hn2⟩,hm2⟩⟩)
 case done=>
  rintro Dd ys W hDd hys ⟨⟨⟨⟨v,hv,hrow,_⟩,hB⟩,hN⟩,hmM⟩ hK;have hc:=hv.cell;have HFl:Hid ((ff L D ys).length+1<=maxLen/\((ff L D ys).length+1)*16<=140737488355328):=by
   show _/\_;have h1:=yg s (ae HS) hys;have h2:=wh L D ys;unfold maxLen;omega
  have hFe:Hid (ff L D ys=(bi s.data.toList 0).flatMap (pcT L D)):=by show ff L D ys=_;unfold ff;rw[hys]
  have HDd:=af hDd;obtain⟨C1,C2,hCe,hC1,hC2⟩:=(ae HBk).later hB;have HL:=af (fun W' (hW:Below W.heap.size W W')=>mf 256 L C1 base W' (hC1.later hW) h256 hL);have HR1:=af (by have h0:=fZ (b:=w.heap.size) (t:=157) (show W.heap[w.heap.size]?=some (Obj.cells (C1++C2) 157) by rw[←hCe];exact hmM) hC1.size;exact h0.1);have HS1:=af hC1.size;have HPc:Hid (pcS L 256=(btI ((bF L 15).2.getD 256 0) (L.getD 256 0),L.getD 256 0)):=rfl;generalize btI ((bF L 15).2.getD 256 0) (L.getD 256 0)=p at *
  generalize L.getD 256 0=q at *
  clear hys hCe hC1 hC2 hDd
  gi_wp2
  refine wpIn_region_any (by assumption) ?_;change wpAnyIn _ _ _ _ _ _ _ _ _ (World.drew _);repeat' first
   | exact AllReadyIn.nil
   | refine AllReadyIn.cons rfl (fun Kk hKk=>?_) ?_
   | (refine eO 15 rfl ?_;go_simp;refine hKk _ _ ?_;clear hKk Kk)
   | (refine eO 16 rfl ?_;go_simp;refine hKk _ _ ?_;clear hKk Kk)
   | (refine eO 17 rfl ?_;refine iE rfl 152 (.tmp 16) rfl w.heap.size 0 rfl C1 _ (ae HR1) a1X rfl (by rw[ae HS1];exact Tryz.infoLitB) (hKk _ _ ?_);clear hKk Kk)
   | (refine eO 18 rfl ?_;go_simp;refine⟨trivial,?_⟩;refine(callsIn_wide.2 (ae HL _ (a0b _ W).drew)).mono ?_;rintro e x1 ⟨rfl,hbd⟩;have hb1:Below W.heap.size W x1:=⟨hbd.os,hbd.tape,hbd.output,hbd.size,hbd.block⟩;clear hbd;have hc1:=(Boxed.later hv hb1).cell;have hc1b:=((Boxed.later hv hb1).alloc (.cells #[.int .i64 p,.int .i64 q] 146)).cell;have hbs:w.heap.size<=x1.heap.size:=a0D hB.size hb1.size;refine hKk _ _ ?_;clear hKk Kk)
   | (refine eO 19 rfl ?_;go_simp;refine hKk _ _ ?_;clear hKk Kk)
   | (refine eO 20 rfl ?_;refine ie rfl _ _ 143 rfl w.heap.size 146 i0 (.agg #[.int .i64 0,.int .i64 0]) 2 16 a1h hi hz0 hz1 hz2 rfl (by decide) v (ff L D ys).length _ rfl (a0m (eG hrow hb1) _) ⟨x1.heap.size,0,none⟩ 1 1 [.int .i64 p,.int .i64 q] rfl rfl (IM _ _ _ _) (IP _ _) (ae HFl).1 (ae HFl).2 (by simp;omega) ?_;intro v' w1 hown' hgrow _;have hB1:Below w.heap.size w w1:=((hB.trans (hb1.mono hB.size)).alloc hbs _).grown hgrow (by simp;omega) (fun j hj=>(a0C (eG hrow hb1) j hj).1);have hK1:=H7 (rD ((hb1.block Dd (Array.getElem?_eq_some_iff.1 hK).1).trans hK) (.cells #[.int .i64 p,.int .i64 q] 146)) hgrow (a0m (eG hrow hb1) _);refine hKk _ _ ?_;clear hKk Kk)
   | (refine eO 4 rfl ?_;go_simp;refine hKk _ _ ?_;clear hKk Kk)
   | refine wpAnyIn_ready (rs:=[0,1]) (by decide +kernel) (by simp) ?_
   | refine wpAnyIn_ready (rs:=[1]) (by decide +kernel) (by simp) ?_
   | refine wpAnyIn_ready (rs:=[2]) (by decide +kernel) (by simp) ?_
   | refine wpAnyIn_ready (rs:=[3]) (by decide +kernel) (by simp) ?_
   | refine wpAnyIn_ready (rs:=[4]) (by decide +kernel) (by simp) ?_
   | refine wpAnyIn_ready (rs:=[5]) (by decide +kernel) (by simp) ?_
   | refine wpAnyIn_ready (rs:=[6]) (by decide +kernel) (by simp) ?_
   | refine wpAnyIn_ready (rs:=[0,2]) (by decide +kernel) (by simp) ?_
   | refine wpAnyIn_ready (rs:=[0,3]) (by decide +kernel) (by simp) ?_
   | refine wpAnyIn_ready (rs:=[0,4]) (by decide +kernel) (by simp) ?_
   | refine wpAnyIn_ready (rs:=[0]) (by decide +kernel) (by simp) ?_
   | (refine wpAnyIn_done (by decide +kernel) ?_ _;gi_wp2;refine⟨by simp,.inl ⟨_,_,rfl,run_takeDeferred hK1,?_⟩⟩;refine⟨_,results_tmp rfl _ _ _,_,rfl,?_,hB1.trans (belowK_b (w:=w) (a0a _) w1 Dd _ _ (by have:=ae HDd;simp at this;omega) hK1 rfl rfl)⟩;rw[←ae hFe,ae HPc];exact D3 (ownsRow_putObj hown' (.deferred none) hK1 rfl))
 case stop=>
  rintro D c pre W _ _ h _;exact h.elim
end Go.Proofs.YtfhdadkcophoaaaGreatDoor
