/- Of what the proof is made: 3 texts, one behind the other. -/
import Derived.RangeFuncNested
import Derived.RangeFuncBound
import Derived.RangeFuncCalls
import Derived.RangeFuncLeaves
import Derived.RangeFuncBox
import Derived.Shelf.Abstract
import Derived.Shelf.RegionOpen
import Derived.WalkKit
import Derived.OwnWalkIn
import Derived.TacticsInMore
import Derived.LoopNIn
import Derived.LoopIn
import Derived.Maps.AppendAt
import Derived.Test.YtkpfkgoiaicgbaaGreatDoorTo3
set_option linter.unusedSimpArgs false
set_option linter.unusedVariables false
set_option maxHeartbeats 6400000
namespace Go.Proofs.YtkpfkgoiaicgbaaGreatDoor
open Go.RowKit Go.Shelf
attribute [local go_sem] Oper.semAt_some
theorem dI{w w':World}(h:Below w.heap.size w w'):w.grownBy w' none:=⟨h.os,h.tape,h.output,h.size,fun k hk _=>h.block k hk⟩
def sU(b:Nat)(t:TypeId)(v:Value)(W W':World):Prop:=Boxed W b t v->Boxed W' b t v
theorem Boxed.later{W W':World}{B:Nat}{t:TypeId}{v:Value}(h:Boxed W B t v)(hb:Below W.heap.size W W'):Boxed W' B t v:=h.kept (dI hb) (by simp)
theorem EJ(L:List UInt8)(p:Nat):(∃x:Int,dX (ft L p) = .iface 252 (.int .u8 x)/\iq L p=1)∨(∃y z:Int,dX (ft L p) = .iface 254 (.agg #[.int .i64 y,.int .i64 z])/\(iq L p:Int)=y):=by
 have hok:=qh L p;unfold iq;by_cases hc:(bf L p (min p 250)).1<3
 ·
  left;have e:ft L p=(((L.getD p 0).toNat:Int),0,0):=by unfold ft;rw[if_pos hc]
  rw[e,if_pos hc];refine⟨_,jB ?_,rfl⟩;have:=UInt8.toNat_lt (L.getD p 0);generalize L.getD p 0=c at *
  simp only[isB,inB];simp;omega
 ·
  right;have e:ft L p=(0,((bf L p (min p 250)).1:Int),((bf L p (min p 250)).2:Int)):=by unfold ft;rw[if_neg hc]
  rw[e,if_neg hc];rw[e]at hok;refine⟨_,_,mF ?_,rfl⟩;simp only[okT,isB,isK,inB]at hok ⊢;simp at hok ⊢;omega
theorem nt(s:ByteArray)(w:World) :
  Calls Tryz.prog 159 #[.string s] w fun e w'=>e = .returned (.func (.func 186) #[] #[.pointer (some ⟨w.heap.size,0,none⟩)])/\w'=w.alloc (.cells #[.string s] 9):=by
 go_enter Tryz.func159,Tryz.ntmps159;go_wp2;go_ret;exact⟨rfl,rfl⟩
end Go.Proofs.YtkpfkgoiaicgbaaGreatDoor
namespace Go.Proofs.YtkpfkgoiaicgbaaGreatDoor
open Go.RowKit Go.Shelf
attribute [local go_sem] Oper.semAt_some
theorem Bu{b:Nat}{t:TypeId}{v:Value}{A B C:World}(h:sU b t v A B)(k:sU b t v B C):sU b t v A C:=fun x=>k (h x)
theorem Bt{b:Nat}{t:TypeId}{v:Value}(W:World)(l:Nat)(o o':Obj)(hl:W.heap[l]?=some o)(ho:o.isCells=false):sU b t v W (W.putObj l o'):=by
 intro h;refine h.kept (grownBy_putObj' W l o') ?_;intro e;cases e
 rw[show W.heap[b]?=_ from h]at hl;cases hl
 cases ho
theorem eG{W x1:World}{n₀:Nat}{e:TypeId}{size k:Nat}{v:Value}{xs:List Value}(hrow:W.ownsRow n₀ e size v k xs)(hW:Below W.heap.size W x1):x1.ownsRow n₀ e size v k xs:=
 hrow.kept (dI hW) (by cases v.ownBlock with
  | none=>exact .inl rfl
  | some _=>exact .inr (by simp))
theorem eO{F:Fence}{n:Nat}{P:Program}{ops:Array Oper}{o:Oper}{a:Act}{w:World}{K:Act->World->Prop}{Q:Exit->Act->World->Prop}{E:Prop}(d:Nat)(_:o.dst=some d)(h:if Region.wanted o (yielded ops a.tmps)=true then Oper.wpIn F n P o a w K Q else E):if Region.wanted o (yielded ops a.tmps)=true then Oper.wpIn F n P o a w K Q else E:=h
theorem Ft{F:Fence}{n:Nat}{P:Program}{ops:Array Oper}{o:Oper}{a:Act}{w:World}{K:Act->World->Prop}{Q:Exit->Act->World->Prop}{E:Prop}(p:Op)(_:o.op=p)(h:if Region.wanted o (yielded ops a.tmps)=true then Oper.wpIn F n P o a w K Q else E):if Region.wanted o (yielded ops a.tmps)=true then Oper.wpIn F n P o a w K Q else E:=h
theorem ib{F:Fence}{n:Nat}{P:Program}{ops:Array Oper}{o:Oper}{a:Act}{w:World}{K:Act->World->Prop}{Q:Exit->Act->World->Prop}{E:Prop}
  (hg:o.guard=none) (s x:Operand) (t:TypeId) (hop:o.op=Op.call { callee:=Callee.builtin Builtin.append,args:=#[s,x],argTypes:=#[t,t] })
  (base:Nat) (e:TypeId) (i:TypeInfo) (z:Value) (size bytes:Nat) (h1:P.underlying t=some (.slice e)) (h2:P.info? e=some i) (h3:i.zero=some z) (h4:i.size=size) (h5:i.bytes=bytes) (h6:z.cells.size=size) (h7:0<size)
  (v:Value) (k:Nat) (xs:List Value) (hs:a.eval s=v) (hown:w.ownsRow base e size v k xs) (ad:Addr) (m c:Nat) (news:List Value) (hx:a.eval x = .slice (some ad) m c) (hn:news.length=m*size)
  (hc:∀j u,news[j]?=some u->w.cell? (ad.add j)=some u) (h1c:∀u∈news,u.oneCell'=true) (b1:k+m<=maxLen) (b2:(k+m)*bytes<=140737488355328) (b3:base<=w.heap.size)
  (hK:∀v' w',w'.ownsRow base e size v' (k+m) (xs++news)->w.grownBy w' v.ownBlock->(v' = .slice none 0 0<->v = .slice none 0 0/\m=0)->K (a.put o.dst v') w') :
  if Region.wanted o (yielded ops a.tmps)=true then Oper.wpIn F n P o a w K Q else E:=by
 have hw:Region.wanted o (yielded ops a.tmps)=true:=by simp[Region.wanted,hg]
 rw[if_pos hw];obtain⟨v',w',hrun,r1,r2,r3⟩:=run_append_own (P:=P) w base t o.type e i z size bytes h1 h2 h3 h4 h5 h6 h7 v k xs hown ad m c news hn hc h1c b1 b2 b3;unfold Oper.wpIn;refine⟨?_,?_⟩
 · simp[Oper.about,hop,resolve,Target.leads,Sem.run_pure]
 · rw[Oper.semAt_plain F _ _ (by rw[hop];intro c hc';cases hc')];simp[execOp,hop,resolve,invoke,builtin,hs,hx,hrun,Result.andThen];exact hK v' w' r1 r2 r3
end Go.Proofs.YtkpfkgoiaicgbaaGreatDoor
namespace Go.Proofs.YtkpfkgoiaicgbaaGreatDoor
open Go.RowKit Go.Shelf
attribute [local go_sem] Oper.semAt_some
abbrev TkS(s:ByteArray):={ t:Tk // okT t=true/\t∈bh s.data.toList 0 }
set_option maxRecDepth 100000 in
theorem I6(n:Nat)(hn:1<=n)(l Bn:Nat)(s:ByteArray)(hs:s.size<=100000)(J Jx:List (TkS s)->World->Prop)(W:World)(hJ:AbidesFrom W.heap.size J)
  (hY:∀pre x W1,J pre W1->pre.length<s.size->YieldAt Fence.wide (n-1) Tryz.prog l #[dX x.1] W1 fun e W'=>
   (e = .returned (.bool true)/\J (pre++[x]) W'/\sU Bn 9 (.string s) W1 W')∨(e = .returned (.bool false)/\Jx (pre++[x]) W'))
  (hBn:Boxed W Bn 9 (.string s)) (h0:J [] W) :
  CallsIn Fence.wide n Tryz.prog 186 #[.func (.yield l) #[] #[],.pointer (some ⟨Bn,0,none⟩)] W fun e W'=>(∃v,e = .returned v) /\
   ((∃ys,ys.map Subtype.val=bh s.data.toList 0/\J ys W')∨(∃pre,True/\Jx pre W')):=by
 have hsI:(s.size:Int)<=100000:=by omega
 have HS:=af hs;have hL:=af (lF s);have m1:=rC;have m2:=rz;clear hs;refine callsIn_of_wp Tryz.func186 rfl trivial ?_ rfl;simp only[Tryz.ntmps186,List.size_toArray,List.length_cons,List.length_nil,Nat.reduceAdd,Nat.reduceSub,Array.replicate_succ,Array.replicate_zero,List.push_toArray,List.append_toArray,List.nil_append,List.cons_append]
 gi_wp2
 gi_loopw [3,4] (fun i _ wr=>∃(p:Nat) (pre:List (TkS s)),p<=s.size/\i = .int .i64 p/\pre.map Subtype.val++bh s.data.toList p=bh s.data.toList 0/\pre.length<=p/\J pre wr/\Boxed wr Bn 9 (.string s)) (fun i _ _=>s.size-(intOf i).toNat)
 case atStart=>exact⟨0,[],Nat.zero_le _,rfl,rfl,Nat.le_refl _,h0,hBn⟩
 case round=>
  obtain⟨p,pre,hp,rfl,hpre,hpl,hJs,hbx⟩:=hrel;have hc:=hbx.cell;by_cases hlt:p<s.size
  ·
   have hltI:(p:Int)<(s.size:Int):=by omega
   have hst:=af (ij (L:=s.data.toList) (p:=p) (by rw[ae hL];exact hlt));have hsi:=af (qg (L:=s.data.toList) (p:=p) (by rw[ae hL];exact hlt));have hsp:=af (fo s.data.toList p);have HB:=af (fun W1=>z8 s p W1 (ae HS) hlt);have hok:=af (qh s.data.toList p);have hmem:Hid (ft s.data.toList p∈bh s.data.toList 0):=by
    show _∈_;rw[←hpre,ae hst];simp
   have HP:=af (And.intro hpre (And.intro hpl hp));have HJ:=af hJs;have HX:=af hbx;clear hpre hpl hp hJs hbx;rcases EJ s.data.toList p with⟨x,ex,hz⟩|⟨y,z,ex,hz⟩
   ·
    have EX:=af (And.intro ex hz);rw[ex]at HB;clear ex hz
    gi_wp2_with (refine⟨trivial,?_⟩;gi_at_call 187;refine(callsIn_wide.2 (ae HB _)).mono ?_;rintro e x1 ⟨rfl,hb1⟩;have hc1:=(Boxed.later (ae HX) hb1).cell;obtain⟨fn,tmps,assign,body,hy,hR⟩:=hY pre ⟨ft s.data.toList p,ae hok,ae hmem⟩ x1 (hJ _ _ _ none (ae HJ) (dI hb1) (fun r e=>by cases e)) (by have:=(ae HP).2.1;omega);simp only[(ae EX).1]at hy)
    refine hR.mono ?_;rintro e W3 (⟨rfl,hJ3,hk3⟩|⟨rfl,hJx3⟩)
    ·
     have HX3:Boxed W3 Bn 9 (.string s):=hk3 (Boxed.later (ae HX) hb1)
     gi_wp2_with (refine⟨trivial,?_⟩;gi_at_call 268;refine(callsIn_wide.2 (eQ x _)).mono ?_;rintro e y1 ⟨rfl,hy1⟩;rw[hy1];clear hy1 y1)
     go_roundw
     case rel=>
      have h1:=ae hsi;have h2:=(ae EX).2;obtain⟨h3,h4,h5⟩:=ae HP;rw[h2,ae hL]at h1;refine⟨p+1,pre++[⟨ft s.data.toList p,ae hok,ae hmem⟩],h1,by go_num,?_,by have:=ae hsp;rw[List.length_append,List.length_singleton];omega,hJ3,HX3⟩;have h8:=ae hst;rw[h2]at h8;refine Eq.trans ?_ h3;rw[h8,List.map_append,List.append_assoc];rfl
     case measure=>have h6:=ae hsp;have h7:=(ae EX).2;simp[intOf];omega
    ·
     gi_wp2
     refine bodyPost_ret (results_none rfl _ _ _) rfl ?_;exact⟨⟨_,rfl⟩,.inr ⟨_,trivial,hJx3⟩⟩
   ·
    obtain⟨q,hq⟩:∃q,iq s.data.toList p=q:=⟨_,rfl⟩;have hyq:y=(q:Int):=by rw[←hz,hq]
    subst hyq;have hq6:(q:Int)<=60:=by have:=(ae hsp).2;omega
    have EX:=af (And.intro ex hq);rw[ex]at HB;clear ex hz hq
    gi_wp2_with (refine⟨trivial,?_⟩;gi_at_call 187;refine(callsIn_wide.2 (ae HB _)).mono ?_;rintro e x1 ⟨rfl,hb1⟩;have hc1:=(Boxed.later (ae HX) hb1).cell;obtain⟨fn,tmps,assign,body,hy,hR⟩:=hY pre ⟨ft s.data.toList p,ae hok,ae hmem⟩ x1 (hJ _ _ _ none (ae HJ) (dI hb1) (fun r e=>by cases e)) (by have:=(ae HP).2.1;omega);simp only[(ae EX).1]at hy)
    refine hR.mono ?_;rintro e W3 (⟨rfl,hJ3,hk3⟩|⟨rfl,hJx3⟩)
    ·
     have HX3:Boxed W3 Bn 9 (.string s):=hk3 (Boxed.later (ae HX) hb1)
     gi_wp2_with (refine⟨trivial,?_⟩;gi_at_call 269;refine(callsIn_wide.2 (je _ z _)).mono ?_;rintro e y1 ⟨rfl,hy1⟩;rw[hy1];clear hy1 y1)
     go_roundw
     case rel=>
      have h1:=ae hsi;have h2:=(ae EX).2;obtain⟨h3,h4,h5⟩:=ae HP;rw[h2,ae hL]at h1;refine⟨p+q,pre++[⟨ft s.data.toList p,ae hok,ae hmem⟩],h1,by go_num,?_,by have:=ae hsp;rw[List.length_append,List.length_singleton];omega,(hJ _ _ _ none hJ3 (dI ((Below.refl _ _).alloc (Nat.le_refl _) _)) (fun r e=>by cases e)),(Boxed.alloc HX3 _)⟩;have h8:=ae hst;rw[h2]at h8;refine Eq.trans ?_ h3;rw[h8,List.map_append,List.append_assoc];rfl
     case measure=>have h6:=ae hsp;have h7:=(ae EX).2;simp[intOf];omega
    ·
     gi_wp2
     refine bodyPost_ret (results_none rfl _ _ _) rfl ?_;exact⟨⟨_,rfl⟩,.inr ⟨_,trivial,hJx3⟩⟩
  ·
   have hltI:¬ (p:Int)<(s.size:Int):=by omega
   have e0:bh s.data.toList p=[]:=dR (by rw[ae hL];exact hlt);rw[e0,List.append_nil]at hpre;have HD:=af hpre;clear hpre e0
   gi_wp2
   go_end0
   exact⟨⟨_,rfl⟩,.inl ⟨pre,ae HD,hJs⟩⟩
theorem py(n:Nat)(hn:1<=n)(Bn:Nat)(s:ByteArray)(hs:s.size<=100000)(w:World)(hBn:Boxed w Bn 9 (.string s)) :
  SeqStopsK Fence.wide n Tryz.prog 186 #[.pointer (some ⟨Bn,0,none⟩)] (fun x:TkS s=>#[dX x.1]) (sU Bn 9 (.string s)) (fun ys=>ys.map Subtype.val=bh s.data.toList 0) (fun _=>True) s.size w:=fun l J Jx W hW hJ _ hY h0=>
 I6 n hn l Bn s hs J Jx W hJ hY (Boxed.later hBn hW) h0
end Go.Proofs.YtkpfkgoiaicgbaaGreatDoor
