/- Texts. -/
import Derived.RangeFuncNested
import Derived.RangeFuncBound
import Derived.Shelf.RegionOpen
import Derived.OwnWalkIn
import Derived.LoopNIn
import Derived.LoopIn
import Derived.Test.YtfannoajibacnaaGreatDoorTo3
set_option linter.all false
set_option maxRecDepth 100000
set_option maxHeartbeats 6400000
namespace Go.Proofs.YtfannoajibacnaaGreatDoor
open Go.RowKit Go.Shelf
attribute [local go_sem] Oper.semAt_some
def fJ{w w':World}(h:Below w.heap.size w w'):w.grownBy w' none:=⟨h.os,h.tape,h.output,h.size,fun k a _=>h.block k a⟩
def yQ(b:Nat)(t:TypeId)(v:Value)(W W':World):Prop:=Boxed W b t v->Boxed W' b t v
def Boxed.later{W W':World}{B:Nat}{t:TypeId}{v:Value}(h:Boxed W B t v)(hb:Below W.heap.size W W'):Boxed W' B t v:=h.kept (fJ hb) (by simp)
def Mp(L:List UInt8)(p:Nat):(∃x:Int,hH (gq L p) = .iface 246 (.int .u8 x)/\jH L p=1)∨(∃y z:Int,hH (gq L p) = .iface 248 (.agg #[y,z])/\(jH L p:Int)=y):=by
 have a:=vt L p;unfold jH;by_cases b:(bm L p (min p 250)).1<3
 .
  left;have e:gq L p=(((L.getD p 0).toNat:Int),0,0):=by unfold gq;rw[a0d b]
  rw[e,a0d b];refine⟨_,oH ?_,rfl⟩;have:=a2v (L.getD p 0);generalize L.getD p 0=c at *;simp only[isB,inB];simp;omega
 .
  right;have e:gq L p=(0,((bm L p (min p 250)).1:Int),((bm L p (min p 250)).2:Int)):=by unfold gq;rw[a0e b]
  rw[e,a0e b];rw[e]at a;refine⟨_,_,tM ?_,rfl⟩;simp only[okT,isB,isK,inB]at a ⊢;simp at a ⊢;omega
def rD(s:ByteArray)(w:World) :
  Calls Tryz.prog 175 #[s] w fun e w'=>e = .returned (.func (.func 210) #[] #[.pointer w.heap.size])/\w'=w.alloc (.cells #[s] 9):=by
 go_enter Tryz.func175,Tryz.ntmps175;go_wp2;go_ret;exact⟨rfl,rfl⟩
end Go.Proofs.YtfannoajibacnaaGreatDoor
namespace Go.Proofs.YtfannoajibacnaaGreatDoor
open Go.RowKit Go.Shelf
variable {E:Prop}{K:Act->World->Prop}{P:Program}{Q:Exit->Act->World->Prop}{a:Act}{n:Nat}{o:Oper}{ops:Array Oper}{v:Value}{w:World}
attribute [local go_sem] Oper.semAt_some
def Jg{b:Nat}{t:TypeId}{A B C:World}(h:yQ b t v A B)(k:yQ b t v B C):yQ b t v A C:=fun x=>k (h x)
def Jf{b:Nat}{t:TypeId}(W:World)(l:Nat)(o o':Obj)(a:W.heap[l]?=some o)(c:o.isCells=false):yQ b t v W (W.putObj l o'):=by
 intro h;refine h.kept (grownBy_putObj' W l o') ?_;intro e;cases e
 rw[show W.heap[b]?=_ from h]at a;cases a
 cases c
def eR{W x1:World}{n₀:Nat}{e:TypeId}{size k:Nat}{xs:List Value}(a:W.ownsRow n₀ e size v k xs)(b:Below W.heap.size W x1):x1.ownsRow n₀ e size v k xs:=
 a.kept (fJ b) (by cases v.ownBlock with
  | none=>exact .inl rfl
  | some _=>exact .inr (by simp))
def iC{F:Fence}(d:Nat)(_:o.dst=some d)(h:if Region.wanted o (yielded ops a.tmps)=true then Oper.wpIn F n P o a w K Q else E):if Region.wanted o (yielded ops a.tmps)=true then Oper.wpIn F n P o a w K Q else E:=h
def M5{F:Fence}(p:Op)(_:o.op=p)(h:if Region.wanted o (yielded ops a.tmps)=true then Oper.wpIn F n P o a w K Q else E):if Region.wanted o (yielded ops a.tmps)=true then Oper.wpIn F n P o a w K Q else E:=h
def kR{F:Fence}
  (I:o.guard=none) (s x:Operand) (t:TypeId) (b:o.op=Op.call { callee:=Callee.builtin Builtin.append,args:=#[s,x],argTypes:=#[t,t] })
  (base:Nat) (e:TypeId) (i:TypeInfo) (z:Value) (size bytes:Nat) (r:P.underlying t=some (.slice e)) (h2:P.info? e=some i) (y:i.zero=some z) (A:i.size=size) (B:i.bytes=bytes) (C:z.cells.size=size) (D:0<size)
  (v:Value) (k:Nat) (xs:List Value) (L:a.eval s=v) (d:w.ownsRow base e size v k xs) (ad:Addr) (m c:Nat) (news:List Value) (N:a.eval x = .slice (some ad) m c) (J:news.length=m*size)
  (H:∀j u,news[j]?=some u->w.cell? (ad.add j)=some u) (g:∀u∈news,u.oneCell'=true) (l:k+m<=maxLen) (p:(k+m)*bytes<=140737488355328) (q:base<=w.heap.size)
  (G:∀v' w',w'.ownsRow base e size v' (k+m) (xs++news)->w.grownBy w' v.ownBlock->(v' = .slice none 0 0<->v = .slice none 0 0/\m=0)->K (a.put o.dst v') w') :
  if Region.wanted o (yielded ops a.tmps)=true then Oper.wpIn F n P o a w K Q else E:=by
 have M:Region.wanted o (yielded ops a.tmps)=true:=by simp[Region.wanted,I]
 rw[a0d M];obtain⟨v',w',f,O,R,S⟩:=run_append_own (P:=P) w base t o.type e i z size bytes r h2 y A B C D v k xs d ad m c news J H g l p q;unfold Oper.wpIn;refine⟨?_,?_⟩
 . simp[Oper.about,b,resolve,Target.leads,a3Q]
 . rw[Oper.semAt_plain F _ _ (by rw[b];intro c h;cases h)];simp[execOp,b,resolve,invoke,builtin,L,N,f,Result.andThen];exact G v' w' O R S
end Go.Proofs.YtfannoajibacnaaGreatDoor
namespace Go.Proofs.YtfannoajibacnaaGreatDoor
open Go.RowKit Go.Shelf
attribute [local go_sem] Oper.semAt_some
abbrev TkS(s:ByteArray):={ t:Tk // okT t=true/\t∈bq s.data.toList 0 }
def Qw(n:Nat)(hn:1<=n)(l A:Nat)(s:ByteArray)(X:s.size<=100000)(J Jx:List (TkS s)->World->Prop)(W:World)(O:AbidesFrom W.heap.size J)
  (U:∀pre x W1,J pre W1->pre.length<s.size->YieldAt Fence.wide (n-1) Tryz.prog l #[hH x.1] W1 fun e W'=>
   (e = .returned (.bool true)/\J (pre++[x]) W'/\yQ A 9 (.string s) W1 W')∨(e = .returned (.bool false)/\Jx (pre++[x]) W'))
  (N:Boxed W A 9 (.string s)) (h0:J [] W) :
  CallsIn Fence.wide n Tryz.prog 210 #[.func (.yield l) #[] #[],.pointer A] W fun e W'=>(∃v,e = .returned v) /\
   ((∃ys,ys.map Subtype.val=bq s.data.toList 0/\J ys W')∨(∃pre,True/\Jx pre W')):=by
 have ab:(s.size:Int)<=100000:=by omega
 have Z:=af X;have D:=af (kv s);have m1:=Ey;have m2:=Ex;clear X;refine callsIn_of_wp Tryz.func210 rfl trivial ?_ rfl;simp only[Tryz.ntmps210,a2M,a0C,a0U,Nat.reduceAdd,Nat.reduceSub,Array.replicate_succ,Array.replicate_zero,List.push_toArray,List.append_toArray,a1a,a1q]
 gi_wp2
 gi_loopw [3,4] (fun i _ wr=>∃(p:Nat) (pre:List (TkS s)),p<=s.size/\i = .int .i64 p/\pre.map Subtype.val++bq s.data.toList p=bq s.data.toList 0/\pre.length<=p/\J pre wr/\Boxed wr A 9 (.string s)) (fun i _ _=>s.size-(intOf i).toNat)
 case atStart=>exact⟨0,[],a0g _,rfl,rfl,a0a _,h0,N⟩
 case round=>
  obtain⟨p,pre,V,rfl,a,F,o,t⟩:=hrel;have hc:=t.cell;by_cases h:p<s.size
  .
   have E:(p:Int)<(s.size:Int):=(by omega);have w:=af (jp (L:=s.data.toList) (p:=p) (by rw[ae D];exact h));have G:=af (rR (L:=s.data.toList) (p:=p) (by rw[ae D];exact h));have f:=af (iM s.data.toList p);have I:=af (fun W1=>H5 s p W1 Z h);have j:=af (vt s.data.toList p);have c:Hid (gq s.data.toList p∈bq s.data.toList 0):=by
    show _∈_;rw[←a,ae w];simp
   have HP:=af (a0b a (a0b F V));have T:=af o;have K:=af t;clear a F V o t;rcases Mp s.data.toList p with⟨x,ex,H⟩|⟨y,z,ex,H⟩
   .
    have EX:=af (a0b ex H);rw[ex]at I;clear ex H
    gi_wp2_with (refine⟨trivial,?_⟩;gi_at_call 211;apply(callsIn_wide.2 (I _)).mono;rintro e x1⟨rfl,b⟩;have Q:=(Boxed.later K b).cell;obtain⟨fn,tmps,assign,body,R,P⟩:=U pre ⟨gq s.data.toList p,j,c⟩ x1 (O _ _ _ none T (fJ b) (fun r e=>by cases e)) (by have:=HP.2.1;omega);simp only[EX.1]at R)
    apply P.mono;rintro e W3 (⟨rfl,m,u⟩|⟨rfl,d⟩)
    .
     have k:Boxed W3 A 9 (.string s):=u (Boxed.later K b)
     gi_wp2_with (refine⟨trivial,?_⟩;gi_at_call 325;apply(callsIn_wide.2 (mB x _)).mono;rintro e y1⟨rfl,g⟩;rw[g];clear g y1)
     go_roundw
     case rel=>
      have B:=ae G;have h2:=EX.2;obtain⟨M,h4,h5⟩:=ae HP;rw[h2,ae D]at B;refine⟨p+1,pre++[⟨gq s.data.toList p,j,c⟩],B,by go_num,?_,by have:=ae f;rw[a0i,a1l];omega,m,k⟩;have C:=ae w;rw[h2]at C;refine Eq.trans ?_ M;rw[C,a0K,a0I];rfl
     case measure=>have h6:=ae f;have h7:=EX.2;simp[intOf];omega
    .
     gi_wp2
     refine a0x (a3n rfl _ _ _) rfl ?_;exact⟨⟨_,rfl⟩,.inr ⟨_,trivial,d⟩⟩
   .
    obtain⟨q,hq⟩:∃q,jH s.data.toList p=q:=⟨_,rfl⟩;have S:y=(q:Int):=(by rw[←H,hq]);subst S;have aa:(q:Int)<=60:=by have:=f.2;omega
    have EX:=af (a0b ex hq);rw[ex]at I;clear ex H hq
    gi_wp2_with (refine⟨trivial,?_⟩;gi_at_call 211;apply(callsIn_wide.2 (I _)).mono;rintro e x1⟨rfl,b⟩;have Q:=(Boxed.later K b).cell;obtain⟨fn,tmps,assign,body,R,P⟩:=U pre ⟨gq s.data.toList p,j,c⟩ x1 (O _ _ _ none T (fJ b) (fun r e=>by cases e)) (by have:=HP.2.1;omega);simp only[EX.1]at R)
    apply P.mono;rintro e W3 (⟨rfl,m,u⟩|⟨rfl,d⟩)
    .
     have k:Boxed W3 A 9 (.string s):=u (Boxed.later K b)
     gi_wp2_with (refine⟨trivial,?_⟩;gi_at_call 326;apply(callsIn_wide.2 (qO _ z _)).mono;rintro e y1⟨rfl,g⟩;rw[g];clear g y1)
     go_roundw
     case rel=>
      have B:=ae G;have h2:=EX.2;obtain⟨M,h4,h5⟩:=ae HP;rw[h2,ae D]at B;refine⟨p+q,pre++[⟨gq s.data.toList p,j,c⟩],B,by go_num,?_,by have:=ae f;rw[a0i,a1l];omega,(O _ _ _ none m (fJ cC) (fun r e=>by cases e)),(Boxed.alloc k _)⟩;have C:=ae w;rw[h2]at C;refine Eq.trans ?_ M;rw[C,a0K,a0I];rfl
     case measure=>have h6:=ae f;have h7:=EX.2;simp[intOf];omega
    .
     gi_wp2
     refine a0x (a3n rfl _ _ _) rfl ?_;exact⟨⟨_,rfl⟩,.inr ⟨_,trivial,d⟩⟩
  .
   have E:¬ (p:Int)<(s.size:Int):=(by omega);have e0:bq s.data.toList p=[]:=fu (by rw[ae D];exact h);rw[e0,a05]at a;have Y:=af a;clear a e0
   gi_wp2
   go_end0
   exact⟨⟨_,rfl⟩,.inl ⟨pre,Y,o⟩⟩
def uA(n:Nat)(g:1<=n)(a:Nat)(s:ByteArray)(h:s.size<=100000)(w:World)(b:Boxed w a 9 (.string s)) :
  SeqStopsK Fence.wide n Tryz.prog 210 #[.pointer a] (fun x:TkS s=>#[hH x.1]) (yQ a 9 (.string s)) (fun ys=>ys.map Subtype.val=bq s.data.toList 0) (fun _=>True) s.size w:=fun l J Jx W e d _ f c=>
 Qw n g l a s h J Jx W d f (Boxed.later b e) c
