/- Texts. -/
import Derived.RangeFuncNested
import Derived.RangeFuncBound
import Derived.Shelf.RegionOpen
import Derived.OwnWalkIn
import Derived.LoopNIn
import Derived.LoopIn
import Derived.Test.YtckocaibjciplaaGreatDoorTo3
set_option linter.all false
set_option maxRecDepth 100000
set_option maxHeartbeats 6400000
namespace Go.Proofs.YtckocaibjciplaaGreatDoor
open Go.RowKit Go.Shelf
attribute [local go_sem] Oper.semAt_some
def fq{w w':World}(h:Below w.heap.size w w'):w.grownBy w' none:=⟨h.os,h.tape,h.output,h.size,fun k a _=>h.block k a⟩
def xS(b:Nat)(t:TypeId)(v:Value)(W W':World):Prop:=Boxed W b t v->Boxed W' b t v
def Boxed.later{W W':World}{B:Nat}{t:TypeId}{v:Value}(h:Boxed W B t v)(hb:Below W.heap.size W W'):Boxed W' B t v:=h.kept (fq hb) (by simp)
def Ll(L:List UInt8)(p:Nat):(∃x:Int,gF (fV L p) = .iface 237 (.int .u8 x)/\jm L p=1)∨(∃y z:Int,gF (fV L p) = .iface 239 (.agg #[y,z])/\(jm L p:Int)=y):=by
 have a:=uD L p;unfold jm;by_cases b:(bg L p (min p 250)).1<3
 .
  left;have e:fV L p=(((L.getD p 0).toNat:Int),0,0):=by unfold fV;rw[a0d b]
  rw[e,a0d b];refine⟨_,nY ?_,rfl⟩;have:=a2u (L.getD p 0);generalize L.getD p 0=c at *;simp only[isB,inB];simp;omega
 .
  right;have e:fV L p=(0,((bg L p (min p 250)).1:Int),((bg L p (min p 250)).2:Int)):=by unfold fV;rw[a0e b]
  rw[e,a0e b];rw[e]at a;refine⟨_,_,sT ?_,rfl⟩;simp only[okT,isB,isK,inB]at a ⊢;simp at a ⊢;omega
def qO(s:ByteArray)(w:World) :
  Calls Tryz.prog 163 #[s] w fun e w'=>e = .returned (.func (.func 197) #[] #[.pointer w.heap.size])/\w'=w.alloc (.cells #[s] 9):=by
 go_enter Tryz.func163,Tryz.ntmps163;go_wp2;go_ret;exact⟨rfl,rfl⟩
end Go.Proofs.YtckocaibjciplaaGreatDoor
namespace Go.Proofs.YtckocaibjciplaaGreatDoor
open Go.RowKit Go.Shelf
variable {E:Prop}{K:Act->World->Prop}{P:Program}{Q:Exit->Act->World->Prop}{a:Act}{n:Nat}{o:Oper}{ops:Array Oper}{v:Value}{w:World}
attribute [local go_sem] Oper.semAt_some
def Is{b:Nat}{t:TypeId}{A B C:World}(h:xS b t v A B)(k:xS b t v B C):xS b t v A C:=fun x=>k (h x)
def Ir{b:Nat}{t:TypeId}(W:World)(l:Nat)(o o':Obj)(a:W.heap[l]?=some o)(c:o.isCells=false):xS b t v W (W.putObj l o'):=by
 intro h;refine h.kept (grownBy_putObj' W l o') ?_;intro e;cases e
 rw[show W.heap[b]?=_ from h]at a;cases a
 cases c
def eq{W x1:World}{n₀:Nat}{e:TypeId}{size k:Nat}{xs:List Value}(a:W.ownsRow n₀ e size v k xs)(b:Below W.heap.size W x1):x1.ownsRow n₀ e size v k xs:=
 a.kept (fq b) (by cases v.ownBlock with
  | none=>exact .inl rfl
  | some _=>exact .inr (by simp))
def g9{F:Fence}(d:Nat)(_:o.dst=some d)(h:if Region.wanted o (yielded ops a.tmps)=true then Oper.wpIn F n P o a w K Q else E):if Region.wanted o (yielded ops a.tmps)=true then Oper.wpIn F n P o a w K Q else E:=h
def L3{F:Fence}(p:Op)(_:o.op=p)(h:if Region.wanted o (yielded ops a.tmps)=true then Oper.wpIn F n P o a w K Q else E):if Region.wanted o (yielded ops a.tmps)=true then Oper.wpIn F n P o a w K Q else E:=h
def ko{F:Fence}
  (I:o.guard=none) (s x:Operand) (t:TypeId) (b:o.op=Op.call { callee:=Callee.builtin Builtin.append,args:=#[s,x],argTypes:=#[t,t] })
  (base:Nat) (e:TypeId) (i:TypeInfo) (z:Value) (size bytes:Nat) (r:P.underlying t=some (.slice e)) (h2:P.info? e=some i) (y:i.zero=some z) (A:i.size=size) (B:i.bytes=bytes) (C:z.cells.size=size) (D:0<size)
  (v:Value) (k:Nat) (xs:List Value) (L:a.eval s=v) (d:w.ownsRow base e size v k xs) (ad:Addr) (m c:Nat) (news:List Value) (N:a.eval x = .slice (some ad) m c) (J:news.length=m*size)
  (H:∀j u,news[j]?=some u->w.cell? (ad.add j)=some u) (g:∀u∈news,u.oneCell'=true) (l:k+m<=maxLen) (p:(k+m)*bytes<=140737488355328) (q:base<=w.heap.size)
  (G:∀v' w',w'.ownsRow base e size v' (k+m) (xs++news)->w.grownBy w' v.ownBlock->(v' = .slice none 0 0<->v = .slice none 0 0/\m=0)->K (a.put o.dst v') w') :
  if Region.wanted o (yielded ops a.tmps)=true then Oper.wpIn F n P o a w K Q else E:=by
 have M:Region.wanted o (yielded ops a.tmps)=true:=by simp[Region.wanted,I]
 rw[a0d M];obtain⟨v',w',f,O,R,S⟩:=run_append_own (P:=P) w base t o.type e i z size bytes r h2 y A B C D v k xs d ad m c news J H g l p q;unfold Oper.wpIn;refine⟨?_,?_⟩
 . simp[Oper.about,b,resolve,Target.leads,a3K]
 . rw[Oper.semAt_plain F _ _ (by rw[b];intro c h;cases h)];simp[execOp,b,resolve,invoke,builtin,L,N,f,Result.andThen];exact G v' w' O R S
end Go.Proofs.YtckocaibjciplaaGreatDoor
namespace Go.Proofs.YtckocaibjciplaaGreatDoor
open Go.RowKit Go.Shelf
attribute [local go_sem] Oper.semAt_some
abbrev TkS(s:ByteArray):={ t:Tk // okT t=true/\t∈bj s.data.toList 0 }
def Pl(n:Nat)(hn:1<=n)(l A:Nat)(s:ByteArray)(X:s.size<=100000)(J Jx:List (TkS s)->World->Prop)(W:World)(O:AbidesFrom W.heap.size J)
  (U:∀pre x W1,J pre W1->pre.length<s.size->YieldAt Fence.wide (n-1) Tryz.prog l #[gF x.1] W1 fun e W'=>
   (e = .returned (.bool true)/\J (pre++[x]) W'/\xS A 9 (.string s) W1 W')∨(e = .returned (.bool false)/\Jx (pre++[x]) W'))
  (N:Boxed W A 9 (.string s)) (h0:J [] W) :
  CallsIn Fence.wide n Tryz.prog 197 #[.func (.yield l) #[] #[],.pointer A] W fun e W'=>(∃v,e = .returned v) /\
   ((∃ys,ys.map Subtype.val=bj s.data.toList 0/\J ys W')∨(∃pre,True/\Jx pre W')):=by
 have ab:(s.size:Int)<=100000:=by omega
 have Z:=af X;have D:=af (jQ s);have m1:=DK;have m2:=DJ;clear X;refine callsIn_of_wp Tryz.func197 rfl trivial ?_ rfl;simp only[Tryz.ntmps197,a2L,a0C,a0U,Nat.reduceAdd,Nat.reduceSub,Array.replicate_succ,Array.replicate_zero,List.push_toArray,List.append_toArray,a1a,a1o]
 gi_wp2
 gi_loopw [3,4] (fun i _ wr=>∃(p:Nat) (pre:List (TkS s)),p<=s.size/\i = .int .i64 p/\pre.map Subtype.val++bj s.data.toList p=bj s.data.toList 0/\pre.length<=p/\J pre wr/\Boxed wr A 9 (.string s)) (fun i _ _=>s.size-(intOf i).toNat)
 case atStart=>exact⟨0,[],a0g _,rfl,rfl,a0a _,h0,N⟩
 case round=>
  obtain⟨p,pre,V,rfl,a,F,o,t⟩:=hrel;have hc:=t.cell;by_cases h:p<s.size
  .
   have E:(p:Int)<(s.size:Int):=(by omega);have w:=af (iW (L:=s.data.toList) (p:=p) (by rw[ae D];exact h));have G:=af (rf (L:=s.data.toList) (p:=p) (by rw[ae D];exact h));have f:=af (iq s.data.toList p);have I:=af (fun W1=>Gs s p W1 Z h);have j:=af (uD s.data.toList p);have c:Hid (fV s.data.toList p∈bj s.data.toList 0):=by
    show _∈_;rw[←a,ae w];simp
   have HP:=af (a0b a (a0b F V));have T:=af o;have K:=af t;clear a F V o t;rcases Ll s.data.toList p with⟨x,ex,H⟩|⟨y,z,ex,H⟩
   .
    have EX:=af (a0b ex H);rw[ex]at I;clear ex H
    gi_wp2_with (refine⟨trivial,?_⟩;gi_at_call 198;apply(callsIn_wide.2 (I _)).mono;rintro e x1⟨rfl,b⟩;have Q:=(Boxed.later K b).cell;obtain⟨fn,tmps,assign,body,R,P⟩:=U pre ⟨fV s.data.toList p,j,c⟩ x1 (O _ _ _ none T (fq b) (fun r e=>by cases e)) (by have:=HP.2.1;omega);simp only[EX.1]at R)
    apply P.mono;rintro e W3 (⟨rfl,m,u⟩|⟨rfl,d⟩)
    .
     have k:Boxed W3 A 9 (.string s):=u (Boxed.later K b)
     gi_wp2_with (refine⟨trivial,?_⟩;gi_at_call 316;apply(callsIn_wide.2 (lU x _)).mono;rintro e y1⟨rfl,g⟩;rw[g];clear g y1)
     go_roundw
     case rel=>
      have B:=ae G;have h2:=EX.2;obtain⟨M,h4,h5⟩:=ae HP;rw[h2,ae D]at B;refine⟨p+1,pre++[⟨fV s.data.toList p,j,c⟩],B,by go_num,?_,by have:=ae f;rw[a0j,a1j];omega,m,k⟩;have C:=ae w;rw[h2]at C;refine Eq.trans ?_ M;rw[C,a0J,a0K];rfl
     case measure=>have h6:=ae f;have h7:=EX.2;simp[intOf];omega
    .
     gi_wp2
     refine a0x (a3k rfl _ _ _) rfl ?_;exact⟨⟨_,rfl⟩,.inr ⟨_,trivial,d⟩⟩
   .
    obtain⟨q,hq⟩:∃q,jm s.data.toList p=q:=⟨_,rfl⟩;have S:y=(q:Int):=(by rw[←H,hq]);subst S;have aa:(q:Int)<=60:=by have:=f.2;omega
    have EX:=af (a0b ex hq);rw[ex]at I;clear ex H hq
    gi_wp2_with (refine⟨trivial,?_⟩;gi_at_call 198;apply(callsIn_wide.2 (I _)).mono;rintro e x1⟨rfl,b⟩;have Q:=(Boxed.later K b).cell;obtain⟨fn,tmps,assign,body,R,P⟩:=U pre ⟨fV s.data.toList p,j,c⟩ x1 (O _ _ _ none T (fq b) (fun r e=>by cases e)) (by have:=HP.2.1;omega);simp only[EX.1]at R)
    apply P.mono;rintro e W3 (⟨rfl,m,u⟩|⟨rfl,d⟩)
    .
     have k:Boxed W3 A 9 (.string s):=u (Boxed.later K b)
     gi_wp2_with (refine⟨trivial,?_⟩;gi_at_call 317;apply(callsIn_wide.2 (qf _ z _)).mono;rintro e y1⟨rfl,g⟩;rw[g];clear g y1)
     go_roundw
     case rel=>
      have B:=ae G;have h2:=EX.2;obtain⟨M,h4,h5⟩:=ae HP;rw[h2,ae D]at B;refine⟨p+q,pre++[⟨fV s.data.toList p,j,c⟩],B,by go_num,?_,by have:=ae f;rw[a0j,a1j];omega,(O _ _ _ none m (fq cC) (fun r e=>by cases e)),(Boxed.alloc k _)⟩;have C:=ae w;rw[h2]at C;refine Eq.trans ?_ M;rw[C,a0J,a0K];rfl
     case measure=>have h6:=ae f;have h7:=EX.2;simp[intOf];omega
    .
     gi_wp2
     refine a0x (a3k rfl _ _ _) rfl ?_;exact⟨⟨_,rfl⟩,.inr ⟨_,trivial,d⟩⟩
  .
   have E:¬ (p:Int)<(s.size:Int):=(by omega);have e0:bj s.data.toList p=[]:=fe (by rw[ae D];exact h);rw[e0,a03]at a;have Y:=af a;clear a e0
   gi_wp2
   go_end0
   exact⟨⟨_,rfl⟩,.inl ⟨pre,Y,o⟩⟩
def tR(n:Nat)(g:1<=n)(a:Nat)(s:ByteArray)(h:s.size<=100000)(w:World)(b:Boxed w a 9 (.string s)) :
  SeqStopsK Fence.wide n Tryz.prog 197 #[.pointer a] (fun x:TkS s=>#[gF x.1]) (xS a 9 (.string s)) (fun ys=>ys.map Subtype.val=bj s.data.toList 0) (fun _=>True) s.size w:=fun l J Jx W e d _ f c=>
 Pl n g l a s h J Jx W d f (Boxed.later b e) c
