/- Of what the proof is made: 3 texts, one behind the other. -/
import Derived.RangeFuncNested
import Derived.RangeFuncBound
import Derived.RangeFuncCalls
import Derived.RangeFuncLeaves
import Derived.RangeFuncBox
import Derived.Shelf.Abstract
import Derived.Shelf.RegionOpen
import Derived.WalkKit
import Derived.OwnWalkIn
import Derived.TacticsInMore
import Derived.LoopNIn
import Derived.LoopIn
import Derived.Maps.AppendAt
import Derived.Test.YtchidddpplangaaGreatDoorTo3
set_option maxRecDepth 100000
set_option linter.unusedSimpArgs false
set_option linter.unusedVariables false
set_option maxHeartbeats 6400000
namespace Go.Proofs.YtchidddpplangaaGreatDoor
open Go.RowKit Go.Shelf
attribute [local go_sem] Oper.semAt_some
theorem eU{w w':World}(h:Below w.heap.size w w'):w.grownBy w' none:=⟨h.os,h.tape,h.output,h.size,fun k a _=>h.block k a⟩
def vC(b:Nat)(t:TypeId)(v:Value)(W W':World):Prop:=Boxed W b t v->Boxed W' b t v
theorem Boxed.later{W W':World}{B:Nat}{t:TypeId}{v:Value}(h:Boxed W B t v)(hb:Below W.heap.size W W'):Boxed W' B t v:=h.kept (eU hb) (by simp)
theorem Ik(L:List UInt8)(p:Nat):(∃x:Int,fG (gK L p) = .iface 257 (.int .u8 x)/\kb L p=1)∨(∃y z:Int,fG (gK L p) = .iface 259 (.agg #[.int .i64 y,.int .i64 z])/\(kb L p:Int)=y):=by
 have a:=sF L p;unfold kb;by_cases b:(br L p (min p 250)).1<3
 .
  left;have e:gK L p=(((L.getD p 0).toNat:Int),0,0):=by unfold gK;rw[a0e b]
  rw[e,a0e b];refine⟨_,lB ?_,rfl⟩;have:=a2I (L.getD p 0);generalize L.getD p 0=c at *
  simp only[isB,inB];simp;omega
 .
  right;have e:gK L p=(0,((br L p (min p 250)).1:Int),((br L p (min p 250)).2:Int)):=by unfold gK;rw[a0d b]
  rw[e,a0d b];rw[e]at a;refine⟨_,_,oH ?_,rfl⟩;simp only[okT,isB,isK,inB]at a ⊢;simp at a ⊢;omega
theorem pq(s:ByteArray)(w:World) :
  Calls Tryz.prog 182 #[.string s] w fun e w'=>e = .returned (.func (.func 212) #[] #[.pointer (some ⟨w.heap.size,0,none⟩)])/\w'=w.alloc (.cells #[.string s] 9):=by
 go_enter Tryz.func182,Tryz.ntmps182;go_wp2;go_ret;exact⟨rfl,rfl⟩
end Go.Proofs.YtchidddpplangaaGreatDoor
namespace Go.Proofs.YtchidddpplangaaGreatDoor
open Go.RowKit Go.Shelf
variable {E:Prop}{K:Act->World->Prop}{P:Program}{Q:Exit->Act->World->Prop}{a:Act}{n:Nat}{o:Oper}{ops:Array Oper}{v:Value}{w:World}
attribute [local go_sem] Oper.semAt_some
theorem ER{b:Nat}{t:TypeId}{A B C:World}(h:vC b t v A B)(k:vC b t v B C):vC b t v A C:=fun x=>k (h x)
theorem EQ{b:Nat}{t:TypeId}(W:World)(l:Nat)(o o':Obj)(a:W.heap[l]?=some o)(c:o.isCells=false):vC b t v W (W.putObj l o'):=by
 intro h;refine h.kept (grownBy_putObj' W l o') ?_;intro e;cases e
 rw[show W.heap[b]?=_ from h]at a;cases a
 cases c
theorem dR{W x1:World}{n₀:Nat}{e:TypeId}{size k:Nat}{xs:List Value}(a:W.ownsRow n₀ e size v k xs)(b:Below W.heap.size W x1):x1.ownsRow n₀ e size v k xs:=
 a.kept (eU b) (by cases v.ownBlock with
  | none=>exact .inl rfl
  | some _=>exact .inr (by simp))
theorem gi{F:Fence}(d:Nat)(_:o.dst=some d)(h:if Region.wanted o (yielded ops a.tmps)=true then Oper.wpIn F n P o a w K Q else E):if Region.wanted o (yielded ops a.tmps)=true then Oper.wpIn F n P o a w K Q else E:=h
theorem IV{F:Fence}(p:Op)(_:o.op=p)(h:if Region.wanted o (yielded ops a.tmps)=true then Oper.wpIn F n P o a w K Q else E):if Region.wanted o (yielded ops a.tmps)=true then Oper.wpIn F n P o a w K Q else E:=h
theorem jA{F:Fence}
  (I:o.guard=none) (s x:Operand) (t:TypeId) (b:o.op=Op.call { callee:=Callee.builtin Builtin.append,args:=#[s,x],argTypes:=#[t,t] })
  (base:Nat) (e:TypeId) (i:TypeInfo) (z:Value) (size bytes:Nat) (r:P.underlying t=some (.slice e)) (h2:P.info? e=some i) (y:i.zero=some z) (A:i.size=size) (B:i.bytes=bytes) (C:z.cells.size=size) (D:0<size)
  (v:Value) (k:Nat) (xs:List Value) (L:a.eval s=v) (d:w.ownsRow base e size v k xs) (ad:Addr) (m c:Nat) (news:List Value) (N:a.eval x = .slice (some ad) m c) (J:news.length=m*size)
  (H:∀j u,news[j]?=some u->w.cell? (ad.add j)=some u) (g:∀u∈news,u.oneCell'=true) (l:k+m<=maxLen) (p:(k+m)*bytes<=140737488355328) (q:base<=w.heap.size)
  (G:∀v' w',w'.ownsRow base e size v' (k+m) (xs++news)->w.grownBy w' v.ownBlock->(v' = .slice none 0 0<->v = .slice none 0 0/\m=0)->K (a.put o.dst v') w') :
  if Region.wanted o (yielded ops a.tmps)=true then Oper.wpIn F n P o a w K Q else E:=by
 have M:Region.wanted o (yielded ops a.tmps)=true:=by simp[Region.wanted,I]
 rw[a0e M];obtain⟨v',w',f,O,R,S⟩:=run_append_own (P:=P) w base t o.type e i z size bytes r h2 y A B C D v k xs d ad m c news J H g l p q;unfold Oper.wpIn;refine⟨?_,?_⟩
 . simp[Oper.about,b,resolve,Target.leads,a3F]
 . rw[Oper.semAt_plain F _ _ (by rw[b];intro c h;cases h)];simp[execOp,b,resolve,invoke,builtin,L,N,f,Result.andThen];exact G v' w' O R S
end Go.Proofs.YtchidddpplangaaGreatDoor
namespace Go.Proofs.YtchidddpplangaaGreatDoor
open Go.RowKit Go.Shelf
attribute [local go_sem] Oper.semAt_some
abbrev TkS(s:ByteArray):={ t:Tk // okT t=true/\t∈bJ s.data.toList 0 }
theorem Lq(n:Nat)(hn:1<=n)(l A:Nat)(s:ByteArray)(X:s.size<=100000)(J Jx:List (TkS s)->World->Prop)(W:World)(O:AbidesFrom W.heap.size J)
  (U:∀pre x W1,J pre W1->pre.length<s.size->YieldAt Fence.wide (n-1) Tryz.prog l #[fG x.1] W1 fun e W'=>
   (e = .returned (.bool true)/\J (pre++[x]) W'/\vC A 9 (.string s) W1 W')∨(e = .returned (.bool false)/\Jx (pre++[x]) W'))
  (N:Boxed W A 9 (.string s)) (h0:J [] W) :
  CallsIn Fence.wide n Tryz.prog 212 #[.func (.yield l) #[] #[],.pointer (some ⟨A,0,none⟩)] W fun e W'=>(∃v,e = .returned v) /\
   ((∃ys,ys.map Subtype.val=bJ s.data.toList 0/\J ys W')∨(∃pre,True/\Jx pre W')):=by
 have ac:(s.size:Int)<=100000:=by omega
 have Z:=ae X;have D:=ae (jX s);have m1:=um;have m2:=uk;clear X;refine callsIn_of_wp Tryz.func212 rfl trivial ?_ rfl;simp only[Tryz.ntmps212,a2B,a0D,a0S,Nat.reduceAdd,Nat.reduceSub,Array.replicate_succ,Array.replicate_zero,List.push_toArray,List.append_toArray,a1G,a18]
 gi_wp2
 gi_loopw [3,4] (fun i _ wr=>∃(p:Nat) (pre:List (TkS s)),p<=s.size/\i = .int .i64 p/\pre.map Subtype.val++bJ s.data.toList p=bJ s.data.toList 0/\pre.length<=p/\J pre wr/\Boxed wr A 9 (.string s)) (fun i _ _=>s.size-(intOf i).toNat)
 case atStart=>exact⟨0,[],a0g _,rfl,rfl,a0a _,h0,N⟩
 case round=>
  obtain⟨p,pre,V,rfl,a,F,o,t⟩:=hrel;have hc:=t.cell;by_cases h:p<s.size
  .
   have E:(p:Int)<(s.size:Int):=by omega
   have w:=ae (lC (L:=s.data.toList) (p:=p) (by rw[ab D];exact h));have G:=ae (Fp (L:=s.data.toList) (p:=p) (by rw[ab D];exact h));have f:=ae (jy s.data.toList p);have I:=ae (fun W1=>DL s p W1 (ab Z) h);have j:=ae (sF s.data.toList p);have c:Hid (gK s.data.toList p∈bJ s.data.toList 0):=by
    show _∈_;rw[←a,ab w];simp
   have HP:=ae (a0b a (a0b F V));have T:=ae o;have K:=ae t;clear a F V o t;rcases Ik s.data.toList p with⟨x,ex,H⟩|⟨y,z,ex,H⟩
   .
    have EX:=ae (a0b ex H);rw[ex]at I;clear ex H
    gi_wp2_with (refine⟨trivial,?_⟩;gi_at_call 213;refine(callsIn_wide.2 (ab I _)).mono ?_;rintro e x1 ⟨rfl,b⟩;have Q:=(Boxed.later (ab K) b).cell;obtain⟨fn,tmps,assign,body,R,P⟩:=U pre ⟨gK s.data.toList p,ab j,ab c⟩ x1 (O _ _ _ none (ab T) (eU b) (fun r e=>by cases e)) (by have:=(ab HP).2.1;omega);simp only[(ab EX).1]at R)
    refine P.mono ?_;rintro e W3 (⟨rfl,m,u⟩|⟨rfl,d⟩)
    .
     have k:Boxed W3 A 9 (.string s):=u (Boxed.later (ab K) b)
     gi_wp2_with (refine⟨trivial,?_⟩;gi_at_call 294;refine(callsIn_wide.2 (gj x _)).mono ?_;rintro e y1 ⟨rfl,g⟩;rw[g];clear g y1)
     go_roundw
     case rel=>
      have B:=ab G;have h2:=(ab EX).2;obtain⟨M,h4,h5⟩:=ab HP;rw[h2,ab D]at B;refine⟨p+1,pre++[⟨gK s.data.toList p,ab j,ab c⟩],B,by go_num,?_,by have:=ab f;rw[a0j,a1o];omega,m,k⟩;have C:=ab w;rw[h2]at C;refine Eq.trans ?_ M;rw[C,a0I,a0L];rfl
     case measure=>have h6:=ab f;have h7:=(ab EX).2;simp[intOf];omega
    .
     gi_wp2
     refine a0F (a3c rfl _ _ _) rfl ?_;exact⟨⟨_,rfl⟩,.inr ⟨_,trivial,d⟩⟩
   .
    obtain⟨q,hq⟩:∃q,kb s.data.toList p=q:=⟨_,rfl⟩;have S:y=(q:Int):=by rw[←H,hq]
    subst S;have aa:(q:Int)<=60:=by have:=(ab f).2;omega
    have EX:=ae (a0b ex hq);rw[ex]at I;clear ex H hq
    gi_wp2_with (refine⟨trivial,?_⟩;gi_at_call 213;refine(callsIn_wide.2 (ab I _)).mono ?_;rintro e x1 ⟨rfl,b⟩;have Q:=(Boxed.later (ab K) b).cell;obtain⟨fn,tmps,assign,body,R,P⟩:=U pre ⟨gK s.data.toList p,ab j,ab c⟩ x1 (O _ _ _ none (ab T) (eU b) (fun r e=>by cases e)) (by have:=(ab HP).2.1;omega);simp only[(ab EX).1]at R)
    refine P.mono ?_;rintro e W3 (⟨rfl,m,u⟩|⟨rfl,d⟩)
    .
     have k:Boxed W3 A 9 (.string s):=u (Boxed.later (ab K) b)
     gi_wp2_with (refine⟨trivial,?_⟩;gi_at_call 295;refine(callsIn_wide.2 (kW _ z _)).mono ?_;rintro e y1 ⟨rfl,g⟩;rw[g];clear g y1)
     go_roundw
     case rel=>
      have B:=ab G;have h2:=(ab EX).2;obtain⟨M,h4,h5⟩:=ab HP;rw[h2,ab D]at B;refine⟨p+q,pre++[⟨gK s.data.toList p,ab j,ab c⟩],B,by go_num,?_,by have:=ab f;rw[a0j,a1o];omega,(O _ _ _ none m (eU ((a0c _ _).alloc (a0a _) _)) (fun r e=>by cases e)),(Boxed.alloc k _)⟩;have C:=ab w;rw[h2]at C;refine Eq.trans ?_ M;rw[C,a0I,a0L];rfl
     case measure=>have h6:=ab f;have h7:=(ab EX).2;simp[intOf];omega
    .
     gi_wp2
     refine a0F (a3c rfl _ _ _) rfl ?_;exact⟨⟨_,rfl⟩,.inr ⟨_,trivial,d⟩⟩
  .
   have E:¬ (p:Int)<(s.size:Int):=by omega
   have e0:bJ s.data.toList p=[]:=jl (by rw[ab D];exact h);rw[e0,a1c]at a;have Y:=ae a;clear a e0
   gi_wp2
   go_end0
   exact⟨⟨_,rfl⟩,.inl ⟨pre,ab Y,o⟩⟩
theorem rM(n:Nat)(g:1<=n)(a:Nat)(s:ByteArray)(h:s.size<=100000)(w:World)(b:Boxed w a 9 (.string s)) :
  SeqStopsK Fence.wide n Tryz.prog 212 #[.pointer (some ⟨a,0,none⟩)] (fun x:TkS s=>#[fG x.1]) (vC a 9 (.string s)) (fun ys=>ys.map Subtype.val=bJ s.data.toList 0) (fun _=>True) s.size w:=fun l J Jx W e d _ f c=>
 Lq n g l a s h J Jx W d f (Boxed.later b e) c
end Go.Proofs.YtchidddpplangaaGreatDoor
