/- Of what the proof is made: 3 texts, one behind the other. -/
import Derived.Test.YtkpfkgoiaicgbaaGreatDoorM27
import Derived.Deep.Strs
import Derived.ShutString
import Derived.Test.YtkpfkgoiaicgbaaGreatDoorM5
import Derived.Deep.Slices
import Derived.ChangeSame
import Derived.Test.YtkpfkgoiaicgbaaGreatDoorM35
import Derived.LaidHandle
import Derived.LaidLaws
import Derived.Lay
import Derived.RowKitTokens
import Derived.Stop.Joined
import Derived.Test.YtkpfkgoiaicgbaaGreatDoorWk2
import Derived.Test.YtkpfkgoiaicgbaaGreatDoorM30
import Derived.Test.YtkpfkgoiaicgbaaGreatDoorTv3
set_option linter.unusedSimpArgs false
set_option linter.unusedVariables false
set_option maxHeartbeats 3200000
namespace Go.Proofs.YtkpfkgoiaicgbaaGreatDoor
open Go.RowKit Go.Deep Go.ChangeShapes Go.WideShapes
theorem Tryz.et:Tryz.prog.globalNamed "errors.errorType" = some 0:=by kernel_rfl
theorem Tryz.rtt:(Tryz.prog.cutTypes.find? (·.1 == "internal/reflectlite.rtype")).map (·.2)=some 227:=by kernel_rfl
theorem Tryz.tsize:∃n,Tryz.prog.types.size=n/\((List.range n).filter fun t=>Tryz.prog.rowNamed t [101,114,114,111,114])=[77]:=⟨_,rfl,by kernel_rfl⟩
theorem JU{laid:List (String×DataW Unit)}{W:World}(h:laidMetH Tryz.prog laid W)
  (hm:("errors.errorType",(DataW.iface "internal/reflectlite.rtype" (.agg [.ptr (.lit (.string [101,114,114,111,114]))]):DataW Unit))∈laid.filter fun x=>x.2.handleName?.isSome):pG W:=by
 have h':handlesMet Tryz.prog (laid.filter fun x=>x.2.handleName?.isSome) W:=by
  unfold laidMetH at h;generalize (laid.filter fun x=>x.2.handleName?.isSome)=fl at *
  cases fl with
  | nil=>cases hm
  | cons a r=>exact h.2
 obtain⟨name,u,ty,e1,e2,e3,e4,e5⟩:=h' _ hm;have en:name=[101,114,114,111,114]:=(Option.some.inj e1).symm;subst en;obtain rfl:=Option.some.inj (Tryz.rtt.symm.trans e2);obtain⟨n,hn,hone⟩:=Tryz.tsize;have hmm:ty∈(List.range n).filter fun t=>Tryz.prog.rowNamed t [101,114,114,111,114]:=List.mem_filter.2 ⟨List.mem_range.2 (by rw[←hn];exact e3),e4⟩;rw[hone]at hmm;obtain rfl:=List.mem_singleton.1 hmm;have hh:typeHandle Tryz.prog 77 = .pointer (some ⟨5,77,none⟩):=by kernel_rfl
 rw[hh]at e5;unfold pG;simpa using World.var?_cell Tryz.et e5 0
noncomputable def handW (os:Os):World:=
 let w0:=World.holding Tryz.prog os ⟨#[],#[],[]⟩
 { w0 with heap:=w0.heap.modify 0 fun
   | .cells _ t frozen=>.cells #[.iface 227 (.agg #[.pointer (some ⟨5,77,none⟩)])] t frozen
   | o=>o }
theorem uY{P:Program}{w0:World}{laid:List (String×DataW Unit)}(args:Array Value)(hf:w0.layFits P laid []=true)(hi:w0.layIfaces P laid (w0.layVars P laid)=true) :
  laidMet P laid ((w0.layVars P laid).forCall (fun _ _=>0) ⟨#[],args,[]⟩).memory:=by
 have e1:(laid.filter fun x=>(laid.map (·.1)).contains x.1)=laid:=List.filter_eq_self.2 fun x hx=>List.contains_iff_mem.2 (List.mem_map.2 ⟨x,hx,rfl⟩);have e2:(laid.filter fun x=>!(laid.map (·.1)).contains x.1)=[]:=List.filter_eq_nil_iff.2 fun x hx=>by rw[List.contains_iff_mem.2 (List.mem_map.2 ⟨x,hx,rfl⟩)];simp
 have h:laidMet P laid (w0.layVars P laid):=laidMet_layVars (w0:=w0) (laid.map (·.1)) [] (by rw[e1]) (by rw[e1];exact hf) (by rw[e1];exact hi) (by rw[e2];exact LaidIn.none);exact h.of_heap (by simp[World.memory,World.forCall,Input.heap])
end Go.Proofs.YtkpfkgoiaicgbaaGreatDoor
namespace Go.Proofs.YtkpfkgoiaicgbaaGreatDoor
open Go.RowKit Corb
set_option maxRecDepth 100000
def mt:List Fl->ByteArray->Option Value
 | [],_=>none
 | f :: l,q=>if q=f.p then some (.agg #[.string f.p,.string f.t])else mt l q
theorem GY(l:List Fl)(f:Fl):mt (bq l f)=Eo (mt l) f.p (.agg #[.string f.p,.string f.t]):=by
 funext q
 induction l with
 | nil=>simp only[bq,mt,Eo]
 | cons e l ih=>
  unfold bq
  split
  ·
   rename_i h1;have hne:¬ e.p=f.p:=fun h=>by rw[h,rt]at h1;cases h1
   simp only[mt,ih,Eo];by_cases hq:q=e.p
   · have:¬ q=f.p:=fun h=>hne (hq.symm.trans h);rw[if_pos hq,if_neg this,if_pos hq]
   · rw[if_neg hq,if_neg hq]
  ·
   split
   ·
    rename_i h2;simp only[mt,Eo,h2]
    split<;>rfl
   · simp only[mt,Eo]
theorem Kw{l:List Fl}{f:Fl}(hs:fS l)(h:f∈l):mt l f.p=some (.agg #[.string f.p,.string f.t]):=by
 unfold fS at hs;induction l with
 | nil=>cases h
 | cons e l ih=>
  obtain⟨h1,h2⟩:=List.pairwise_cons.1 hs;unfold mt;rcases List.mem_cons.1 h with rfl|h
  · simp
  ·
   have:=h1 f h;have hne:¬ f.p=e.p:=fun e2=>by rw[e2,rt]at this;cases this
   rw[if_neg hne];exact ih h2 h
def aF(l:List Fl):List ByteArray:=l.map (·.p)
theorem BV(l:List Fl)(x:ByteArray):sR (aF l) x=dG l x:=by
 induction l with
 | nil=>rfl
 | cons e l ih=>simp only[aF,List.map_cons,sR,dG];rw[show sR (l.map (·.p)) x=dG l x from ih]
theorem pp{l:List Fl}(h:fS l):(aF l).Pairwise fun a b=>ltP a b=true:=List.pairwise_map.2 h
theorem ju(l:List Fl)(k:Nat):(aF l).getD k default=(l.getD k default).p:=by
 by_cases h:k<l.length
 · simp[aF,h]
 ·
  have h1:(aF l).getD k default=default:=by rw[List.getD,List.getElem?_eq_none (by simp[aF];omega)];rfl
  have h2:l.getD k default=default:=by rw[List.getD,List.getElem?_eq_none (by omega)];rfl
  rw[h1,h2];rfl
theorem rM{l:List Fl}{f:Fl}(h:dG l f.p<l.length)(he:(l.getD (dG l f.p) default).p=f.p):aF (bq l f)=aF l:=by
 have hg:l.getD (dG l f.p) default=l[dG l f.p]:=by simp[h]
 rw[hg]at he;rw[tR h (by rw[hg];exact he)];unfold aF;rw[List.map_append,List.map_cons,←he,←List.map_cons (f:=Fl.p),←List.map_append,he,List.getElem_cons_drop,List.take_append_drop]
theorem tQ{l:List Fl}{f:Fl}(h:dG l f.p<l.length->(l.getD (dG l f.p) default).p≠f.p):aF (bq l f)=(aF l).take (dG l f.p)++f.p :: (aF l).drop (dG l f.p):=by
 rw[rQ h];simp[aF]
theorem yo(l:List ByteArray):∀v∈l.map Value.string,v.oneCell'=true:=by
 intro v hv;obtain⟨x,_,rfl⟩:=List.mem_map.1 hv;rfl
def pH(w:World)(base b:Nat)(l:List Fl):Prop:=
 ∃mb v,base<=b/\base<=mb/\w.heap[b]?=some (.cells #[.map (some mb),v] 84 (0,0))/\jR w mb (mt l)/\w.ownsRow base 9 1 v l.length ((aF l).map .string)
theorem lz{w:World}{base cap n:Nat}{a:Option Addr}{l:List ByteArray}(hn:l.length=n)(h:w.ownsRow base 9 1 (.slice a n cap) n (l.map .string)):JB w a l:=by
 intro h0;rcases h.2 with⟨e,e0⟩|⟨g,cap',cur,e,_,hg,_⟩
 · omega
 · simp only[Value.slice.injEq]at e;obtain⟨rfl,_,rfl⟩:=e;refine⟨g,rfl,(Array.getElem?_eq_some_iff.1 hg).1,fun i hi=>?_⟩;rw[World.ownsRow.cellAt h i (by omega)];simp[hi]
theorem mH{w w':World}{a:Option Addr}{l:List ByteArray}(h:JB w a l)(hb:Below w.heap.size w w'):JB w' a l:=by
 intro h0;obtain⟨g,e,hg,hc⟩:=h h0;exact⟨g,e,Nat.lt_of_lt_of_le hg hb.size,fun i hi=>(hb.cell (p:=⟨g,i,none⟩) hg).trans (hc i hi)⟩
theorem lx{w:World}{base c n b:Nat}{T T2:TypeId}{v:Value}{xs:List Value}{cs:Array Value}(h:w.ownsRow base T c v n xs)(hb:w.heap[b]?=some (.cells cs T2 (0,0)))(hT:T≠T2):v.ownBlock≠some b:=by
 rcases h.2 with⟨e2,_⟩|⟨g,cap',cur,e2,hbg,hg,_⟩
 · rw[e2];exact fun e=>nomatch e
 ·
  rw[e2];intro e;have:g=b:=by simpa[Value.ownBlock]using e
  subst this;rw[hg]at hb;simp only[Option.some.injEq,Obj.cells.injEq]at hb;exact hT hb.2.1
theorem gG{w:World}{base c n:Nat}{T:TypeId}{v:Value}{xs:List Value}(h:w.ownsRow base T c v n xs):∃a cap,v = .slice a n cap:=by
 rcases h.2 with⟨rfl,rfl⟩|⟨g,cap',cur,rfl,_⟩
 · exact⟨_,_,rfl⟩
 · exact⟨_,_,rfl⟩
theorem qd{w:World}{base c n j:Nat}{T:TypeId}{v:Value}{xs:List Value}(h:w.ownsRow base T c v n xs)(e:v.ownBlock=some j):base<=j/\∃cur,w.heap[j]?=some (.cells cur T (0,0)):=by
 rcases h.2 with⟨e2,_⟩|⟨g,cap',cur,e2,hbg,hg,_⟩
 · rw[e2]at e;cases e
 ·
  rw[e2]at e;have:g=j:=by simpa[Value.ownBlock]using e
  subst this;exact⟨hbg,cur,hg⟩
def Lo(w V:World)(base b bx mb:Nat)(l:List Fl)(p t:ByteArray):Prop:=
 ∃v,V.heap[b]?=some (.cells #[.map (some mb),v] 84 (0,0))/\jR V mb (mt l)/\V.ownsRow base 9 1 v (bq l ⟨p,t⟩).length ((aF (bq l ⟨p,t⟩)).map .string)/\V.heap[bx]?=some (.cells #[.string p,.string t] 39 (0,0))/\Below base w V
theorem er(w:World)(b:Nat)(o:Obj){j:Nat}(h:j≠b):(w.putObj b o).heap[j]?=w.heap[j]?:=by
 simp[World.putObj,Ne.symm h]
theorem rR{B:Nat}{a w:World}{b:Nat}(h:Below B a w)(hb:B<=b)(o:Obj):Below B a (w.putObj b o):=
 h.trans ⟨rfl,rfl,rfl,by simp[World.putObj],fun k hk=>er w b o (by omega)⟩
theorem rx(b:Nat)(l:List Fl)(p t:ByteArray)(base:Nat)(w:World)(h:pH w base b l)(hs:fS l)(hl:l.length<=90)(hB:base<=w.heap.size) :
  Calls Tryz.prog 21 #[.pointer (some ⟨b,0,none⟩),.string p,.agg #[.string p,.string t]] w fun e w'=>e = .returned (.tuple #[])/\pH w' base b (bq l ⟨p,t⟩)/\Below base w w':=by
 have hmix:Tryz.prog.follows .mixedOrders=true:=by kernel_rfl
 obtain⟨mb,v,hb,hmb,hc,hM,hO⟩:=h;obtain⟨n,hn⟩:∃n,l.length=n:=⟨_,rfl⟩;rw[hn]at hO hl;have hpl:(aF l).length=n:=by rw[←hn];simp[aF]
 obtain⟨a,cap,rfl⟩:=gG hO;have hbl:b<w.heap.size:=(Array.getElem?_eq_some_iff.1 hc).1;have c0:w.cell? ⟨b,0,none⟩=some (.map (some mb)):=by rw[cell_of_row w b 0 _ _ (0,0) hc];rfl
 have c1:w.cell? ⟨b,1,none⟩=some (.slice a n cap):=by rw[cell_of_row w b 1 _ _ (0,0) hc];rfl
 go_enter Tryz.func21,Tryz.ntmps21;go_wp2_with fail;have hRow:=lz hpl hO;have hA:Below w.heap.size w (w.alloc (.cells #[.string p,.string t] 39)):=(Below.refl _ _).alloc (Nat.le_refl _) _;have hbox:(w.alloc (.cells #[.string p,.string t] 39)).heap[w.heap.size]?=some (.cells #[.string p,.string t] 39 (0,0)):=World.alloc_heap_new w _;have HB:=af (lQ a cap n (aF l) p (w.alloc (.cells #[.string p,.string t] 39)) hpl (mH hRow hA) (by omega) (pp hs));have hc1:(w.alloc (.cells #[.string p,.string t] 39)).heap[b]?=_:=(hA.block b hbl).trans hc;have hM1:=hM.later hA hM.lt;have hO1:=World.ownsRow.alloc hO (.cells #[.string p,.string t] 39);obtain⟨bx,hbx⟩:∃bx,w.heap.size=bx:=⟨_,rfl⟩;have hBel:Below base w (w.alloc (.cells #[.string p,.string t] 39)):=hA.mono hB;have hbs:b<bx:=by omega
 have hBx:base<=bx:=by omega
 rw[hbx]at hbox;have HBel:=af hBel;have HBox:=af hbox;have HC:=af hc1;have HM:=af hM1;have HO:=af hO1;have HN:=af hn;have HS:=af hs;have HPl:=af hpl;clear hc hM hO hRow hA hc1 hM1 hO1 hbl c0 c1 hBel hbox hn hs hpl;rw[hbx];generalize w.alloc (.cells #[.string p,.string t] 39)=W at *
 refine(ae HB).mono ?_;rintro e W1 ⟨rfl,rfl⟩;clear HB;have hP:=af (BV l p);obtain⟨k,hk⟩:∃k,dG l p=k:=⟨_,rfl⟩;rw[ae hP,hk,ju];have hkn:k<=n:=by rw[←hk,←ae HN];exact BW l p
 have c0:W1.cell? ⟨b,0,none⟩=some (.map (some mb)):=by rw[cell_of_row W1 b 0 _ _ (0,0) (ae HC)];rfl
 have c1:W1.cell? ⟨b,1,none⟩=some (.slice a n cap):=by rw[cell_of_row W1 b 1 _ _ (0,0) (ae HC)];rfl
 have HK:=af hk;by_cases hf:k<n/\(l.getD k default).p=p
 case' pos=>
  rw[decide_eq_true hf];have hpp:aF (bq l ⟨p,t⟩)=aF l:=rM (f:=⟨p,t⟩) (by show dG l p<_;rw[ae HK,ae HN];exact hf.1) (by show(l.getD (dG l p) default).p=_;rw[ae HK];exact hf.2);have hnn:n=(bq l ⟨p,t⟩).length:=by
   have h1:=congrArg List.length hpp;rw[ae HPl]at h1;simpa[aF]using h1.symm
  have HR:Hid (Lo w W1 base b bx mb l p t):=⟨_,ae HC,ae HM,(show W1.ownsRow base 9 1 (.slice a n cap) (bq l ⟨p,t⟩).length ((aF (bq l ⟨p,t⟩)).map .string) by rw[hpp,←hnn];exact ae HO),ae HBox,ae HBel⟩;clear hf hpp hnn HO HC HM HBox HBel;go_wp2_with fail;clear c1 c0 hkn hP HK HN HPl;generalize W1=V at HR ⊢
 case' neg=>
  rw[decide_eq_false hf];have hpp:aF (bq l ⟨p,t⟩)=(aF l).take k++p :: (aF l).drop k:=by
   rw[←ae HK];refine tQ (f:=⟨p,t⟩) (fun h1 h2=>hf ⟨by rw[←ae HK,←ae HN];exact h1,?_⟩);rw[←ae HK];exact h2
  have hnn:n+1=(bq l ⟨p,t⟩).length:=by
   have h1:=congrArg List.length hpp;have:=ae HPl;simp only[List.length_append,List.length_cons,List.length_take,List.length_drop]at h1;simp only[aF,List.length_map]at h1 this;omega
  have hA:Below W1.heap.size W1 (W1.alloc (.cells #[.string p] 9)):=(Below.refl _ _).alloc (Nat.le_refl _) _;have hbW:b<W1.heap.size:=(Array.getElem?_eq_some_iff.1 (ae HC)).1;have hsz:=(ae HBel).size;have HI:=af (qT a cap n k W1.heap.size base ((aF l).map .string) p (W1.alloc (.cells #[.string p] 9)) (World.ownsRow.alloc (ae HO) _) (by simp;omega) hkn (by omega) (yo _) (World.alloc_heap_new W1 _) (by
   intro e;have:=(World.ownsRow.lt (ae HO) _ e).2;omega))
  have HC1:=af ((hA.block b hbW).trans (ae HC));have HM1:=af ((ae HM).later hA (ae HM).lt);have HX1:=af ((hA.block bx (Array.getElem?_eq_some_iff.1 (ae HBox)).1).trans (ae HBox));have HB1:=af ((ae HBel).trans (hA.mono (by omega)));have HO1:=af (World.ownsRow.alloc (ae HO) (.cells #[.string p] 9));have HH:=af (show(aF (bq l ⟨p,t⟩)).map Value.string=((aF l).map .string).take k ++ .string p :: ((aF l).map .string).drop k by rw[hpp];simp);have HL:=af hnn;clear hf hpp hnn hA HO HC HM HBox HBel;go_wp2_with fail;refine(ae HI).mono ?_;rintro e W2 ⟨u,rfl,hU,hG⟩;clear HI c0 c1;obtain⟨ua,uc,rfl⟩:=gG hU;obtain⟨u,hu⟩:∃u,Value.slice ua (n+1) uc=u:=⟨_,rfl⟩;rw[hu]at hU;have HUu:=af hu;clear hu;have hrow:∀j,(Value.slice a n cap).ownBlock=some j->base<=j/\∃cur,(W1.alloc (.cells #[.string p] 9)).heap[j]?=some (.cells cur 9 (0,0)):=fun j e=>qd (ae HO1) e;have hne:some b≠(Value.slice a n cap).ownBlock:=(lx (ae HO1) (ae HC1) (by decide)).symm;have hbW2:b<(W1.alloc (.cells #[.string p] 9)).heap.size:=(Array.getElem?_eq_some_iff.1 (ae HC1)).1;have C2:=(hG.block b hbW2 hne).trans (ae HC1);have c1:W2.cell? ⟨b,1,none⟩=some (.slice a n cap):=by rw[cell_of_row W2 b 1 _ _ (0,0) C2];rfl
  have f1:W2.frozen? ⟨b,1,none⟩=false:=frozen_of_row W2 b 1 _ _ C2;have hmbW:mb<(W1.alloc (.cells #[.string p] 9)).heap.size:=(ae HM1).lt;have hmne:mb≠b:=fun e=>by
   obtain⟨kv,c,e2,_⟩:=ae HM1;rw[e,ae HC1]at e2;cases e2
  have M2:jR W2 mb (mt l):=by
   obtain⟨kv,c,e2,e3⟩:=ae HM1;refine⟨kv,c,(hG.block mb hmbW fun e=>?_).trans e2,e3⟩;obtain⟨_,cur,hg⟩:=hrow mb e.symm;rw[e2]at hg;cases hg
  have X2:W2.heap[bx]?=some (.cells #[.string p,.string t] 39 (0,0)):=(hG.block bx (Array.getElem?_eq_some_iff.1 (ae HX1)).1 (lx (ae HO1) (ae HX1) (by decide)).symm).trans (ae HX1);have B2:Below base w W2:=(ae HB1).trans ⟨hG.os,hG.tape,hG.output,hG.size,fun j hj=>hG.block j (by omega) fun e=>by have:=(hrow j e.symm).1;omega⟩;have HR:Hid (Lo w (W2.setCell ⟨b,1,none⟩ u) base b bx mb l p t):=by
   refine⟨u,heap_setCell_same W2 b 1 _ _ u C2,?_,?_,(Below.heap_setCell W2 ⟨b,1,none⟩ u bx (by show bx≠b;omega)).trans X2,ai B2 hb u⟩
   · obtain⟨kv,c,e2,e3⟩:=M2;exact⟨kv,c,(Below.heap_setCell W2 ⟨b,1,none⟩ u mb hmne).trans e2,e3⟩
   · rw[ae HH,←ae HL];exact World.ownsRow.kept hU (row:=some b) ⟨rfl,rfl,rfl,by simp,fun k _ hk=>Below.heap_setCell W2 ⟨b,1,none⟩ u k fun e=>hk (by rw[e])⟩ (.inr (lx hU C2 (by decide)))
  clear hU hG HC1 HM1 HX1 HB1 HO1 HH HL hne hbW2 C2 hmbW hmne hrow M2 X2 B2 hkn;go_wp2_with fail;rw[ae HUu];generalize W2.setCell ⟨b,1,none⟩ u=V at *
  clear c1 f1
 all_goals
  obtain⟨v',hc,hM,hO,hx,hB⟩:=ae HR;have hne1:b≠mb:=fun e=>by
   obtain⟨kv,c,e2,_⟩:=hM;rw[←e,hc]at e2;cases e2
  have hne2:bx≠mb:=fun e=>by
   obtain⟨kv,c,e2,_⟩:=hM;rw[←e,hx]at e2;cases e2
  have hbm:base<=mb:=hmb;obtain⟨V',hrun,hM',es,c,hV'⟩:=xz Tryz.underlying82 Tryz.underlying9 V.drew mb (mt l) p (.agg #[.string p,.string t]) hM;rw[←GY l ⟨p,t⟩]at hM';have k1:V'.heap[b]?=some (.cells #[.map (some mb),v'] 84 (0,0)):=by rw[hV'];exact(er _ mb _ hne1).trans hc
  have k2:V'.heap[bx]?=some (.cells #[.string p,.string t] 39 (0,0)):=by rw[hV'];exact(er _ mb _ hne2).trans hx
  have k3:Below base w V':=by rw[hV'];exact rR hB.drew hbm _
  have k4:V'.ownsRow base 9 1 v' (bq l ⟨p,t⟩).length ((aF (bq l ⟨p,t⟩)).map .string):=by
   refine World.ownsRow.kept hO (row:=some mb) ⟨by rw[hV'];rfl,by rw[hV'];rfl,by rw[hV'];rfl,by rw[hV'];simp[World.putObj],fun k _ hk=>by rw[hV'];exact er _ mb _ fun e=>hk (by rw[e])⟩ (.inr fun e=>?_);obtain⟨_,cur,hg⟩:=qd hO e;obtain⟨kv,c,e2,_⟩:=hM;rw[hg]at e2;cases e2
  have HP:=af (show pH V' base b (bq l ⟨p,t⟩)from⟨mb,v',hb,hmb,k1,hM',k4⟩);have HB:=af k3;have cc:∀W:World,W.heap[b]?=some (.cells #[.map (some mb),v'] 84 (0,0))->W.heap[bx]?=some (.cells #[.string p,.string t] 39 (0,0))->W.cell? ⟨b,0,none⟩=some (.map (some mb))/\W.cell? ⟨bx,0,none⟩=some (.string p)/\W.cell? ⟨bx,1,none⟩=some (.string t):=fun W e1 e2=>
   ⟨by rw[cell_of_row W b 0 _ _ (0,0) e1];rfl,by rw[cell_of_row W bx 0 _ _ (0,0) e2];rfl,by rw[cell_of_row W bx 1 _ _ (0,0) e2];rfl⟩
  have S0:=cc V.drew hc hx;have S1:=af (cc V' k1 k2);clear hc hM hO hx hB HR hne1 hne2 hM' k1 k2 k3 k4 cc hV' es c hb hmb hbm;refine wp_region_held_drew (S:=fun W=>W.cell? ⟨b,0,none⟩=some (.map (some mb))/\W.cell? ⟨bx,0,none⟩=some (.string p)/\W.cell? ⟨bx,1,none⟩=some (.string t)) hmix S0 (fun hS=>?_);refine ge 0 (.pointer (some ⟨b,0,none⟩)) rfl (fun W hW=>by go_simp) hS ?_;refine ge 1 (.pointer (some ⟨b,0,none⟩)) rfl (fun W hW=>by go_simp) hS ?_;refine ge 2 (.pointer (some ⟨b,0,none⟩)) rfl (fun W hW=>by go_simp) hS ?_;refine ge 3 (.map (some mb)) rfl (fun W hW=>by obtain⟨s0,s1,s2⟩:=hW;go_simp) hS ?_;refine ge 4 (.string p) rfl (fun W hW=>by go_simp) hS ?_;refine ge 5 (.agg #[.string p,.string t]) rfl (fun W hW=>by obtain⟨s0,s1,s2⟩:=hW;go_simp) hS ?_;refine rU 6 fun K hK=>?_;go_simp;refine Shut.out hK _ _ (ae S1) (fun hS'=>?_);clear hK K;refine wpAnyH_done (by kernel_rfl) ?_ _;go_wp2
  go_end0
  exact⟨rfl,ae HP,ae HB⟩
end Go.Proofs.YtkpfkgoiaicgbaaGreatDoor
