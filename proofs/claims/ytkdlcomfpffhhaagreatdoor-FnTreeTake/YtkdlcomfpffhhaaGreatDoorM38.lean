/- Of what the proof is made: 3 texts, one behind the other. -/
import Derived.Test.YtkdlcomfpffhhaaGreatDoorM27
import Derived.Deep.Strs
import Derived.ShutString
import Derived.Test.YtkdlcomfpffhhaaGreatDoorM4
import Derived.Deep.Slices
import Derived.ChangeSame
import Derived.Test.YtkdlcomfpffhhaaGreatDoorM33
import Derived.LaidHandle
import Derived.LaidLaws
import Derived.Lay
import Derived.RowKitTokens
import Derived.Stop.Joined
import Derived.Test.YtkdlcomfpffhhaaGreatDoorM2
import Derived.Test.YtkdlcomfpffhhaaGreatDoorM28
import Derived.Test.YtkdlcomfpffhhaaGreatDoorM36
import Derived.Test.YtkdlcomfpffhhaaGreatDoorM26
set_option maxRecDepth 100000
set_option linter.unusedSimpArgs false
set_option linter.unusedVariables false
set_option maxHeartbeats 3200000
namespace Go.Proofs.YtkdlcomfpffhhaaGreatDoor
open Go.Proofs.Tryz
open Go.RowKit Go.Deep Go.ChangeShapes Go.WideShapes
theorem Tryz.et:prog.globalNamed "errors.errorType" = some 0:=by kernel_rfl
theorem Tryz.rtt:(prog.cutTypes.find? (·.1 == "internal/reflectlite.rtype")).map (·.2)=some 221:=by kernel_rfl
theorem Tryz.tsize:∃n,prog.types.size=n/\((List.range n).filter fun t=>prog.rowNamed t [101,114,114,111,114])=[80]:=⟨_,rfl,by kernel_rfl⟩
theorem KP{laid:List (String×DataW Unit)}{W:World}(h:laidMetH prog laid W)
  (hm:("errors.errorType",(DataW.iface "internal/reflectlite.rtype" (.agg [.ptr (.lit (.string [101,114,114,111,114]))]):DataW Unit))∈laid.filter fun x=>x.2.handleName?.isSome):tr W:=by
 have h':handlesMet prog (laid.filter fun x=>x.2.handleName?.isSome) W:=by
  unfold laidMetH at h;generalize (laid.filter fun x=>x.2.handleName?.isSome)=fl at *
  cases fl with
  | nil=>cases hm
  | cons a r=>exact h.2
 obtain⟨name,u,ty,e1,e2,e3,e4,e5⟩:=h' _ hm;have en:name=[101,114,114,111,114]:=(a0Z e1).symm;subst en;obtain rfl:=a0Z (Tryz.rtt.symm.trans e2);obtain⟨n,hn,hone⟩:=Tryz.tsize;have hmm:ty∈(List.range n).filter fun t=>prog.rowNamed t [101,114,114,111,114]:=List.mem_filter.2 ⟨List.mem_range.2 (by rw[←hn];exact e3),e4⟩;rw[hone]at hmm;obtain rfl:=a1g.1 hmm;have hh:typeHandle prog 80 = .pointer (some ⟨5,80,none⟩):=by kernel_rfl
 rw[hh]at e5;unfold tr;simpa using World.var?_cell Tryz.et e5 0
noncomputable def handW (os:Os):World:=
 let w0:=World.holding prog os ⟨#[],#[],[]⟩
 { w0 with heap:=w0.heap.modify 0 fun
   | .cells _ t frozen=>.cells #[.iface 221 (.agg #[.pointer (some ⟨5,80,none⟩)])] t frozen
   | o=>o }
theorem wh{P:Program}{w0:World}{laid:List (String×DataW Unit)}(args:Array Value)(b:w0.layFits P laid []=true)(c:w0.layIfaces P laid (w0.layVars P laid)=true) :
  laidMet P laid ((w0.layVars P laid).forCall (fun _ _=>0) ⟨#[],args,[]⟩).memory:=by
 have e1:(laid.filter fun x=>(laid.map (·.1)).contains x.1)=laid:=List.filter_eq_self.2 fun x a=>List.contains_iff_mem.2 (a2S.2 ⟨x,a,rfl⟩);have e2:(laid.filter fun x=>!(laid.map (·.1)).contains x.1)=[]:=List.filter_eq_nil_iff.2 fun x a=>by rw[List.contains_iff_mem.2 (a2S.2 ⟨x,a,rfl⟩)];simp
 have h:laidMet P laid (w0.layVars P laid):=laidMet_layVars (w0:=w0) (laid.map (·.1)) [] (by rw[e1]) (by rw[e1];exact b) (by rw[e1];exact c) (by rw[e2];exact LaidIn.none);exact h.of_heap (by simp[World.memory,World.forCall,Input.heap])
end Go.Proofs.YtkdlcomfpffhhaaGreatDoor
namespace Go.Proofs.YtkdlcomfpffhhaaGreatDoor
open Go.Proofs.Tryz
open Go.RowKit Corb
variable {T:TypeId}{c n:Nat}{v:Value}{w:World}{xs:List Value}
def mQ:List Fl->ByteArray->Option Value
 | [],_=>none
 | f :: l,q=>if q=f.p then some (.agg #[.string f.p,.string f.t])else mQ l q
theorem IV(l:List Fl)(f:Fl):mQ (bH l f)=FI (mQ l) f.p (.agg #[.string f.p,.string f.t]):=by
 funext q
 induction l with
 | nil=>simp only[bH,mQ,FI]
 | cons e l ih=>
  unfold bH
  split
  .
   rename_i h1;have a:¬ e.p=f.p:=fun h=>by rw[h,iz]at h1;cases h1
   simp only[mQ,ih,FI];by_cases hq:q=e.p
   . have:¬ q=f.p:=fun h=>a (hq.symm.trans h);rw[a0e hq,a0d this,a0e hq]
   . rw[a0d hq,a0d hq]
  .
   split
   .
    rename_i h2;simp only[mQ,FI,h2]
    split<;>rfl
   . simp only[mQ,FI]
theorem Ls{l:List Fl}{f:Fl}(b:eR l)(h:f∈l):mQ l f.p=some (.agg #[.string f.p,.string f.t]):=by
 unfold eR at b;induction l with
 | nil=>cases h
 | cons e l ih=>
  obtain⟨c,h2⟩:=List.pairwise_cons.1 b;unfold mQ;rcases a1h.1 h with rfl|h
  . simp
  .
   have:=c f h;have a:¬ f.p=e.p:=fun e2=>by rw[e2,iz]at this;cases this
   rw[a0d a];exact ih h2 h
def bg(l:List Fl):List ByteArray:=l.map (·.p)
theorem LV(l:List Fl)(x:ByteArray):tP (bg l) x=eJ l x:=by
 induction l with
 | nil=>rfl
 | cons e l ih=>simp only[bg,a0K,tP,eJ];rw[show tP (l.map (·.p)) x=eJ l x from ih]
theorem yY{l:List Fl}(h:eR l):(bg l).Pairwise fun a b=>ltP a b=true:=List.pairwise_map.2 h
theorem sG(l:List Fl)(k:Nat):(bg l).getD k default=(l.getD k default).p:=by
 by_cases h:k<l.length
 . simp[bg,h]
 .
  have a:(bg l).getD k default=default:=by rw[List.getD,List.getElem?_eq_none (by simp[bg];omega)];rfl
  have h2:l.getD k default=default:=by rw[List.getD,List.getElem?_eq_none (by omega)];rfl
  rw[a,h2];rfl
theorem BA{l:List Fl}{f:Fl}(h:eJ l f.p<l.length)(a:(l.getD (eJ l f.p) default).p=f.p):bg (bH l f)=bg l:=by
 have b:l.getD (eJ l f.p) default=l[eJ l f.p]:=by simp[h]
 rw[b]at a;rw[uQ h (by rw[b];exact a)];unfold bg;rw[a1d,a0K,←a,←a0K (f:=Fl.p),←a1d,a,List.getElem_cons_drop,a13]
theorem FE{l:List Fl}{f:Fl}(h:eJ l f.p<l.length->(l.getD (eJ l f.p) default).p≠f.p):bg (bH l f)=(bg l).take (eJ l f.p)++f.p :: (bg l).drop (eJ l f.p):=by
 rw[sM h];simp[bg]
theorem JR(l:List ByteArray):∀v∈l.map Value.string,v.oneCell'=true:=by
 intro v a;obtain⟨x,_,rfl⟩:=a2S.1 a;rfl
def qp(w:World)(base b:Nat)(l:List Fl):Prop:=
 ∃mb v,base<=b/\base<=mb/\w.heap[b]?=some (.cells #[.map (some mb),v] 103 (0,0))/\ow w mb (mQ l)/\w.ownsRow base 9 1 v l.length ((bg l).map .string)
theorem uO{base cap:Nat}{a:Option Addr}{l:List ByteArray}(k:l.length=n)(h:w.ownsRow base 9 1 (.slice a n cap) n (l.map .string)):Kr w a l:=by
 intro j;rcases h.2 with⟨e,e0⟩|⟨g,b,c,e,_,d,_⟩
 . omega
 . simp only[a0O]at e;obtain⟨rfl,_,rfl⟩:=e;refine⟨g,rfl,(Array.getElem?_eq_some_iff.1 d).1,fun i f=>?_⟩;rw[a02 h i (by omega)];simp[f]
theorem tp{w':World}{a:Option Addr}{l:List ByteArray}(h:Kr w a l)(hb:Below w.heap.size w w'):Kr w' a l:=by
 intro c;obtain⟨g,e,b,d⟩:=h c;exact⟨g,e,a0i b hb.size,fun i f=>(hb.cell (p:=⟨g,i,none⟩) b).trans (d i f)⟩
theorem wm{base b:Nat}{T2:TypeId}{d:Array Value}(h:w.ownsRow base T c v n xs)(hb:w.heap[b]?=some (.cells d T2 (0,0)))(i:T≠T2):v.ownBlock≠some b:=by
 rcases h.2 with⟨e2,_⟩|⟨g,a,f,e2,j,k,_⟩
 . rw[e2];exact fun e=>nomatch e
 .
  rw[e2];intro e;have:g=b:=by simpa[Value.ownBlock]using e
  subst this;rw[k]at hb;simp only[a0m,a29]at hb;exact i hb.2.1
theorem pa{base:Nat}(h:w.ownsRow base T c v n xs):∃a cap,v = .slice a n cap:=by
 rcases h.2 with⟨rfl,rfl⟩|⟨g,b,d,rfl,_⟩
 . exact⟨_,_,rfl⟩
 . exact⟨_,_,rfl⟩
theorem Dp{base j:Nat}(h:w.ownsRow base T c v n xs)(e:v.ownBlock=some j):base<=j/\∃a,w.heap[j]?=some (.cells a T (0,0)):=by
 rcases h.2 with⟨e2,_⟩|⟨g,d,a,e2,b,f,_⟩
 . rw[e2]at e;cases e
 .
  rw[e2]at e;have:g=j:=by simpa[Value.ownBlock]using e
  subst this;exact⟨b,a,f⟩
def MA(w V:World)(base b bx mb:Nat)(l:List Fl)(p t:ByteArray):Prop:=
 ∃v,V.heap[b]?=some (.cells #[.map (some mb),v] 103 (0,0))/\ow V mb (mQ l)/\V.ownsRow base 9 1 v (bH l ⟨p,t⟩).length ((bg (bH l ⟨p,t⟩)).map .string)/\V.heap[bx]?=some (.cells #[.string p,.string t] 28 (0,0))/\Below base w V
theorem jV(w:World)(b:Nat)(o:Obj){j:Nat}(h:j≠b):(w.putObj b o).heap[j]?=w.heap[j]?:=by
 simp[World.putObj,Ne.symm h]
theorem BF{B:Nat}{a:World}{b:Nat}(h:Below B a w)(hb:B<=b)(o:Obj):Below B a (w.putObj b o):=
 h.trans ⟨rfl,rfl,rfl,by simp[World.putObj],fun k c=>jV w b o (by omega)⟩
theorem sq(b:Nat)(l:List Fl)(p t:ByteArray)(base:Nat)(w:World)(h:qp w base b l)(hs:eR l)(hl:l.length<=90)(hB:base<=w.heap.size) :
  Calls prog 36 #[.pointer (some ⟨b,0,none⟩),.string p,.agg #[.string p,.string t]] w fun e w'=>e = .returned (.tuple #[])/\qp w' base b (bH l ⟨p,t⟩)/\Below base w w':=by
 have a0:prog.follows .mixedOrders=true:=by kernel_rfl
 obtain⟨mb,v,hb,aa,y,D,E⟩:=h;obtain⟨n,hn⟩:∃n,l.length=n:=⟨_,rfl⟩;rw[hn]at E hl;have F:(bg l).length=n:=by rw[←hn];simp[bg]
 obtain⟨a,cap,rfl⟩:=pa E;have al:b<w.heap.size:=(Array.getElem?_eq_some_iff.1 y).1;have c0:w.cell? ⟨b,0,none⟩=some (.map (some mb)):=by rw[a1t w b 0 _ _ (0,0) y];rfl
 have c1:w.cell? ⟨b,1,none⟩=some (.slice a n cap):=by rw[a1t w b 1 _ _ (0,0) y];rfl
 go_enter func36,ntmps36;go_wp2_with fail;have H:=uO F E;have q:Below w.heap.size w (w.alloc (.cells #[.string p,.string t] 28)):=(a0c _ _).alloc (a0a _) _;have r:(w.alloc (.cells #[.string p,.string t] 28)).heap[w.heap.size]?=some (.cells #[.string p,.string t] 28 (0,0)):=World.alloc_heap_new w _;have HB:=af (tA a cap n (bg l) p (w.alloc (.cells #[.string p,.string t] 28)) F (tp H q) (by omega) (yY hs));have ao:(w.alloc (.cells #[.string p,.string t] 28)).heap[b]?=_:=(q.block b al).trans y;have ac:=D.later q D.lt;have ad:=a0k E (.cells #[.string p,.string t] 28);obtain⟨bx,hbx⟩:∃bx,w.heap.size=bx:=⟨_,rfl⟩;have G:Below base w (w.alloc (.cells #[.string p,.string t] 28)):=q.mono hB;have a7:b<bx:=by omega
 have a5:base<=bx:=by omega
 rw[hbx]at r;have g:=af G;have i:=af r;have O:=af ao;have HM:=af ac;have HO:=af ad;have HN:=af hn;have HS:=af hs;have P:=af F;clear y D E H q ao ac ad al c0 c1 G r hn hs F;rw[hbx];generalize w.alloc (.cells #[.string p,.string t] 28)=W at *
 refine(ae HB).mono ?_;rintro e W1 ⟨rfl,rfl⟩;clear HB;have hP:=af (LV l p);obtain⟨k,Y⟩:∃k,eJ l p=k:=⟨_,rfl⟩;rw[ae hP,Y,sG];have Z:k<=n:=by rw[←Y,←ae HN];exact LW l p
 have c0:W1.cell? ⟨b,0,none⟩=some (.map (some mb)):=by rw[a1t W1 b 0 _ _ (0,0) (ae O)];rfl
 have c1:W1.cell? ⟨b,1,none⟩=some (.slice a n cap):=by rw[a1t W1 b 1 _ _ (0,0) (ae O)];rfl
 have HK:=af Y;by_cases X:k<n/\(l.getD k default).p=p
 case' pos=>
  rw[a0w X];have m:bg (bH l ⟨p,t⟩)=bg l:=BA (f:=⟨p,t⟩) (by show eJ l p<_;rw[ae HK,ae HN];exact X.1) (by show(l.getD (eJ l p) default).p=_;rw[ae HK];exact X.2);have s:n=(bH l ⟨p,t⟩).length:=by
   have R:=congrArg List.length m;rw[ae P]at R;simpa[bg]using R.symm
  have HR:Hid (MA w W1 base b bx mb l p t):=⟨_,ae O,ae HM,(show W1.ownsRow base 9 1 (.slice a n cap) (bH l ⟨p,t⟩).length ((bg (bH l ⟨p,t⟩)).map .string) by rw[m,←s];exact ae HO),ae i,ae g⟩;clear X m s HO O HM i g;go_wp2_with fail;clear c1 c0 Z hP HK HN P;generalize W1=V at HR ⊢
 case' neg=>
  rw[a0j X];have m:bg (bH l ⟨p,t⟩)=(bg l).take k++p :: (bg l).drop k:=by
   rw[←ae HK];refine FE (f:=⟨p,t⟩) (fun R h2=>X ⟨by rw[←ae HK,←ae HN];exact R,?_⟩);rw[←ae HK];exact h2
  have s:n+1=(bH l ⟨p,t⟩).length:=by
   have R:=congrArg List.length m;have:=ae P;simp only[a0o,a0J,a0t,a01]at R;simp only[bg,a1l]at R this;omega
  have q:Below W1.heap.size W1 (W1.alloc (.cells #[.string p] 9)):=(a0c _ _).alloc (a0a _) _;have a3:b<W1.heap.size:=(Array.getElem?_eq_some_iff.1 (ae O)).1;have a9:=(ae g).size;have HI:=af (AU a cap n k W1.heap.size base ((bg l).map .string) p (W1.alloc (.cells #[.string p] 9)) (a0k (ae HO) _) (by simp;omega) Z (by omega) (JR _) (World.alloc_heap_new W1 _) (by
   intro e;have:=(a0p (ae HO) _ e).2;omega))
  have o:=af ((q.block b a3).trans (ae O));have z:=af ((ae HM).later q (ae HM).lt);have B:=af ((q.block bx (Array.getElem?_eq_some_iff.1 (ae i)).1).trans (ae i));have ab:=af ((ae g).trans (q.mono (by omega)));have A:=af (a0k (ae HO) (.cells #[.string p] 9));have HH:=af (show(bg (bH l ⟨p,t⟩)).map Value.string=((bg l).map .string).take k ++ .string p :: ((bg l).map .string).drop k by rw[m];simp);have HL:=af s;clear X m s q HO O HM i g;go_wp2_with fail;refine(ae HI).mono ?_;rintro e W2 ⟨u,rfl,hU,C⟩;clear HI c0 c1;obtain⟨ua,uc,rfl⟩:=pa hU;obtain⟨u,hu⟩:∃u,Value.slice ua (n+1) uc=u:=⟨_,rfl⟩;rw[hu]at hU;have a2:=af hu;clear hu;have x:∀j,(Value.slice a n cap).ownBlock=some j->base<=j/\∃Q,(W1.alloc (.cells #[.string p] 9)).heap[j]?=some (.cells Q 9 (0,0)):=fun j e=>Dp (ae A) e;have a1:some b≠(Value.slice a n cap).ownBlock:=(wm (ae A) (ae o) (by decide)).symm;have I:b<(W1.alloc (.cells #[.string p] 9)).heap.size:=(Array.getElem?_eq_some_iff.1 (ae o)).1;have C2:=(C.block b I a1).trans (ae o);have c1:W2.cell? ⟨b,1,none⟩=some (.slice a n cap):=by rw[a1t W2 b 1 _ _ (0,0) C2];rfl
  have f1:W2.frozen? ⟨b,1,none⟩=false:=frozen_of_row W2 b 1 _ _ C2;have J:mb<(W1.alloc (.cells #[.string p] 9)).heap.size:=(ae z).lt;have L:mb≠b:=fun e=>by
   obtain⟨kv,c,e2,_⟩:=ae z;rw[e,ae o]at e2;cases e2
  have M2:ow W2 mb (mQ l):=by
   obtain⟨kv,c,e2,e3⟩:=ae z;refine⟨kv,c,(C.block mb J fun e=>?_).trans e2,e3⟩;obtain⟨_,Q,hg⟩:=x mb e.symm;rw[e2]at hg;cases hg
  have X2:W2.heap[bx]?=some (.cells #[.string p,.string t] 28 (0,0)):=(C.block bx (Array.getElem?_eq_some_iff.1 (ae B)).1 (wm (ae A) (ae B) (by decide)).symm).trans (ae B);have B2:Below base w W2:=(ae ab).trans ⟨C.os,C.tape,C.output,C.size,fun j hj=>C.block j (by omega) fun e=>by have:=(x j e.symm).1;omega⟩;have HR:Hid (MA w (W2.setCell ⟨b,1,none⟩ u) base b bx mb l p t):=by
   refine⟨u,heap_setCell_same W2 b 1 _ _ u C2,?_,?_,(a0T W2 ⟨b,1,none⟩ u bx (by show bx≠b;omega)).trans X2,ap B2 hb u⟩
   . obtain⟨kv,c,e2,e3⟩:=M2;exact⟨kv,c,(a0T W2 ⟨b,1,none⟩ u mb L).trans e2,e3⟩
   . rw[ae HH,←ae HL];exact a1y hU (row:=some b) ⟨rfl,rfl,rfl,by simp,fun k _ Y=>a0T W2 ⟨b,1,none⟩ u k fun e=>Y (by rw[e])⟩ (.inr (wm hU C2 (by decide)))
  clear hU C o z B ab A HH HL a1 I C2 J L x M2 X2 B2 Z;go_wp2_with fail;rw[ae a2];generalize W2.setCell ⟨b,1,none⟩ u=V at *
  clear c1 f1
 all_goals
  obtain⟨v',y,D,E,hx,hB⟩:=ae HR;have M:b≠mb:=fun e=>by
   obtain⟨kv,c,e2,_⟩:=D;rw[←e,y]at e2;cases e2
  have N:bx≠mb:=fun e=>by
   obtain⟨kv,c,e2,_⟩:=D;rw[←e,hx]at e2;cases e2
  have an:base<=mb:=aa;obtain⟨V',a4,T,es,c,d⟩:=IY underlying101 a1T V.drew mb (mQ l) p (.agg #[.string p,.string t]) D;rw[←IV l ⟨p,t⟩]at T;have k1:V'.heap[b]?=some (.cells #[.map (some mb),v'] 103 (0,0)):=by rw[d];exact(jV _ mb _ M).trans y
  have k2:V'.heap[bx]?=some (.cells #[.string p,.string t] 28 (0,0)):=by rw[d];exact(jV _ mb _ N).trans hx
  have k3:Below base w V':=by rw[d];exact BF hB.drew an _
  have k4:V'.ownsRow base 9 1 v' (bH l ⟨p,t⟩).length ((bg (bH l ⟨p,t⟩)).map .string):=by
   refine a1y E (row:=some mb) ⟨by rw[d];rfl,by rw[d];rfl,by rw[d];rfl,by rw[d];simp[World.putObj],fun k _ Y=>by rw[d];exact jV _ mb _ fun e=>Y (by rw[e])⟩ (.inr fun e=>?_);obtain⟨_,Q,hg⟩:=Dp E e;obtain⟨kv,c,e2,_⟩:=D;rw[hg]at e2;cases e2
  have HP:=af (show qp V' base b (bH l ⟨p,t⟩)from⟨mb,v',hb,aa,k1,T,k4⟩);have HB:=af k3;have cc:∀W:World,W.heap[b]?=some (.cells #[.map (some mb),v'] 103 (0,0))->W.heap[bx]?=some (.cells #[.string p,.string t] 28 (0,0))->W.cell? ⟨b,0,none⟩=some (.map (some mb))/\W.cell? ⟨bx,0,none⟩=some (.string p)/\W.cell? ⟨bx,1,none⟩=some (.string t):=fun W e1 e2=>
   ⟨by rw[a1t W b 0 _ _ (0,0) e1];rfl,by rw[a1t W bx 0 _ _ (0,0) e2];rfl,by rw[a1t W bx 1 _ _ (0,0) e2];rfl⟩
  have S0:=cc V.drew y hx;have S1:=af (cc V' k1 k2);clear y D E hx hB HR M N T k1 k2 k3 k4 cc d es c hb aa an;refine a0H (S:=fun W=>W.cell? ⟨b,0,none⟩=some (.map (some mb))/\W.cell? ⟨bx,0,none⟩=some (.string p)/\W.cell? ⟨bx,1,none⟩=some (.string t)) a0 S0 (fun hS=>?_);refine dP 0 (.pointer (some ⟨b,0,none⟩)) rfl (fun W U=>by go_simp) hS ?_;refine dP 1 (.pointer (some ⟨b,0,none⟩)) rfl (fun W U=>by go_simp) hS ?_;refine dP 2 (.pointer (some ⟨b,0,none⟩)) rfl (fun W U=>by go_simp) hS ?_;refine dP 3 (.map (some mb)) rfl (fun W U=>by obtain⟨s0,s1,s2⟩:=U;go_simp) hS ?_;refine dP 4 (.string p) rfl (fun W U=>by go_simp) hS ?_;refine dP 5 (.agg #[.string p,.string t]) rfl (fun W U=>by obtain⟨s0,s1,s2⟩:=U;go_simp) hS ?_;refine sP 6 fun K hK=>?_;go_simp;refine a0f hK _ _ (ae S1) (fun a6=>?_);clear hK K;refine a0u (by kernel_rfl) ?_ _;go_wp2
  go_end0
  exact⟨rfl,ae HP,ae HB⟩
end Go.Proofs.YtkdlcomfpffhhaaGreatDoor
