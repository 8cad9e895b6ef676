/- Of what the proof is made: 4 texts, one behind the other. -/
import Derived.Test.YtkpfkgoiaicgbaaGreatDoorFrm
import Derived.Test.YtkpfkgoiaicgbaaGreatDoorM24
import Derived.ChangeVars
import Derived.OpenVars
import Derived.Test.YtkpfkgoiaicgbaaGreatDoorM9
import Derived.Test.YtkpfkgoiaicgbaaGreatDoorM23
import Derived.Test.YtkpfkgoiaicgbaaGreatDoorM3
import Derived.Sort.Walk0
set_option linter.unusedSimpArgs false
set_option linter.unusedVariables false
set_option maxHeartbeats 1600000
namespace Go.Proofs.YtkpfkgoiaicgbaaGreatDoor
open Go.ChangeShapes Go.WideShapes Go.ChangeAt Go.RowKit
def Hu:DataW Unit:=.agg (bw.map fun n=>.lit (.int .i64 (n:Nat)))
theorem xK{W:World} : ∀(laid:List (String×DataW Unit)) (ps:List MemPlace),DataW.LaidVars Tryz.prog W laid ps->("loop.example/corbel/impl.lenOrder",Hu)∈laid->∃ps',DataW.LaidVars Tryz.prog W [("loop.example/corbel/impl.lenOrder",Hu)] ps'
 | [],_,_,h=>by cases h
 | (n,d) :: r,ps,hL,h=>by
  obtain⟨g,t,cs,fuel,p,q,hg,ht,hv,hd,hr,_⟩:=hL;rcases List.mem_cons.1 h with e|e
  · obtain⟨rfl,rfl⟩:=Prod.mk.inj e;exact⟨_,g,t,cs,fuel,p,[],hg,ht,hv,hd,rfl,rfl⟩
  · exact xK r q hr e
theorem tL{W:World}{ps:List MemPlace}(h:DataW.LaidVars Tryz.prog W [("loop.example/corbel/impl.lenOrder",Hu)] ps)(r:Nat)(hr:r<19):W.cell? ⟨1,r,none⟩=some (.int .i64 (bw.getD r 0:Nat)):=by
 obtain⟨g,t,cs,fuel,p,q,hg,ht,hv,hd,_,_⟩:=h;obtain rfl:=Option.some.inj ((show Tryz.prog.globalNamed "loop.example/corbel/impl.lenOrder" = some 1 by kernel_rfl).symm.trans hg);obtain rfl:=Option.some.inj ((show(Tryz.prog.globals[1]?).map (·.type)=some 268 by kernel_rfl).symm.trans ht);obtain⟨xs,m,_,ex,_,hl,hel⟩:=DataW.trod_array Tryz.underlying268 hd;have c5:Tryz.prog.cellsOf 3=1:=by kernel_rfl
 have hE:=hel r hr;rw[c5,Nat.mul_one,List.getElem?_eq_getElem (by omega)]at hE;obtain⟨z,e1,e2,_⟩:=DataW.trod_int Tryz.underlying3 hE;have hlen:bw.length=19:=rfl;have e3:(xs.map (·.1))=bw.map fun n=>.lit (.int .i64 (n:Nat)):=(DataW.agg.inj (Prod.mk.inj ex).1).symm;have e4:(xs.map (·.1))[r]?=(bw.map fun n=>(DataW.lit (.int .i64 (n:Nat)):DataW Unit))[r]?:=by rw[e3]
 rw[List.getElem?_map,List.getElem?_map,List.getElem?_eq_getElem (by omega:r<xs.length),List.getElem?_eq_getElem (by omega:r<bw.length),e2]at e4;have hz:z=(bw.getD r 0:Nat):=by
  simp only[Option.map_some,Option.some.injEq,DataW.lit.injEq,Lit.int.injEq,true_and]at e4;rw[e4,List.getD,List.getElem?_eq_getElem (by omega:r<bw.length)];rfl
 rw[World.var?_cell hg hv r,←hz];have:cs.toList[r]?=some (.int .i64 z):=by
  have h0:((cs.toList.drop r).take 1)[0]?=some (.int .i64 z):=by rw[e1];rfl
  simpa using h0
 simpa using this
theorem Hz{W:World}{ps:List MemPlace}(h:DataW.LaidVars Tryz.prog W [("loop.example/corbel/impl.lenOrder",Hu)] ps):dk W:=by
 refine⟨fun j v hv=>?_,?_⟩
 ·
  have hj:j<19:=by
   have:=(List.getElem?_eq_some_iff.1 hv).1;have e:D4.toList.length=19:=rfl;omega
  rw[Nat.zero_add,tL h j hj];have h1:=xJ j hj;rw[Array.getElem?_toList,h1]at hv;exact hv
 ·
  have h0:=tL h 0 (by omega);rcases Nat.lt_or_ge 1 W.heap.size with h1|h1
  · exact h1
  · simp[World.cell?,h1]at h0
theorem sO{W:World}{laid:List (String×DataW Unit)}(h:laidMetH Tryz.prog laid W)(hp:(laid.filter fun x=>x.2.handleName?.isSome).isEmpty=false)(hm:("loop.example/corbel/impl.lenOrder",Hu)∈laid.filter fun x=>x.2.handleName?.isNone):dk W:=by
 have h':laidMet Tryz.prog (laid.filter fun x=>x.2.handleName?.isNone) W:=by
  unfold laidMetH at h;generalize (laid.filter fun x=>x.2.handleName?.isSome)=fl at *
  cases fl with
  | nil=>cases hp
  | cons a r=>exact h.1
 obtain⟨ps,h1,_,_⟩:=h';obtain⟨ps',h2⟩:=xK _ _ h1 hm;exact Hz h2
end Go.Proofs.YtkpfkgoiaicgbaaGreatDoor
namespace Go.Proofs.YtkpfkgoiaicgbaaGreatDoor
open Go.RowKit
structure Fl where
 p:ByteArray
 t:ByteArray
instance:Inhabited Fl:=⟨⟨ByteArray.empty,ByteArray.empty⟩⟩
def aI(e:Fl):List Value:=[.string e.p,.string e.t]
theorem cR(e:Fl):(aI e).length=2:=rfl
theorem db(e:Fl):∀u∈aI e,u.oneCell'=true:=by
 intro u hu;simp only[aI,List.mem_cons,List.not_mem_nil,or_false]at hu;rcases hu with rfl|rfl<;>rfl
def Cg(w:World)(g o:Nat)(e:Fl):Prop:=w.cell? ⟨g,o,none⟩=some (.string e.p)/\w.cell? ⟨g,o+1,none⟩=some (.string e.t)
def mM(w:World)(a:Option Addr)(l:List Fl):Prop:=0<l.length->∃g o,a=some ⟨g,o,none⟩/\g<w.heap.size/\∀i,i<l.length->Cg w g (o+i*2) (l.getD i default)
theorem mM.later{w w':World}{a:Option Addr}{l:List Fl}(h:mM w a l)(hb:Below w.heap.size w w'):mM w' a l:=by
 intro h0;obtain⟨g,o,e,hg,hc⟩:=h h0;refine⟨g,o,e,Nat.lt_of_lt_of_le hg hb.size,fun i hi=>?_⟩;obtain⟨c0,c1⟩:=hc i hi;exact⟨(hb.cell (p:=⟨g,o+i*2,none⟩) hg).trans c0,(hb.cell (p:=⟨g,o+i*2+1,none⟩) hg).trans c1⟩
theorem mM.at{w:World}{g o:Nat}{l:List Fl}(h:mM w (some ⟨g,o,none⟩) l)(i:Nat)(hi:i<l.length):Cg w g (o+i*2) (l.getD i default):=by
 obtain⟨g',o',e,_,hc⟩:=h (by omega);simp only[Option.some.injEq,Addr.mk.injEq,and_true]at e;obtain⟨rfl,rfl⟩:=e;exact hc i hi
abbrev gO(w:World)(base:Nat)(v:Value)(l:List Fl):Prop:=be 39 2 aI w base v l
theorem ME{w:World}{g o:Nat}{e:Fl}(h:∀j,j<2->w.cell? ⟨g,o+j,none⟩=(aI e)[j]?):Cg w g o e:=⟨h 0 (by omega),h 1 (by omega)⟩
theorem J3{w:World}{base g cap n:Nat}{l:List Fl}(hn:l.length=n)(h:gO w base (.slice (some ⟨g,0,none⟩) n cap) l)(i:Nat)(hi:i<n):Cg w g (i*2) (l.getD i default):=
 ME fun j hj=>(be.at cR default hn h i j hi hj).1
theorem kb{w:World}{base cap n:Nat}{a:Option Addr}{l:List Fl}(hn:l.length=n)(h:gO w base (.slice a n cap) l):mM w a l:=by
 intro h0;obtain⟨g,rfl⟩:=h.somes h0;refine⟨g,0,rfl,h.below.2,fun i hi=>?_⟩;rw[Nat.zero_add];exact J3 hn h i (by omega)
theorem Tryz.infoFile:(Tryz.prog.info? 39).map (fun i=>(i.zero,i.size,i.bytes))=some (some (.agg #[.string ⟨#[]⟩,.string ⟨#[]⟩]),2,32):=by kernel_rfl
def pA(l:List Fl)(i:Nat):ByteArray:=(l.getD i default).p
def ltP(a b:ByteArray):Bool:=Op.bytesLess a.toList b.toList
theorem lr(a b:ByteArray):ltP a b=true<->a.data.toList<b.data.toList:=by
 unfold ltP;rw[bytesLess_eq,Lib.toList_data,Lib.toList_data];simp
def upT(l:List Fl)(i:Nat):Bool:=decide (i=0) || ltP (pA l (i-1)) (pA l i)
def oV(l:List Fl)(i:Nat):Bool:=(List.range l.length).all fun k=>!di (pA l i).data.toList (pA l k).data.toList
def pu(l:List Fl)(i:Nat):Bool:=f8 (pA l i).data.toList&&decide ((l.getD i default).t.size<=300)
def lN(l:List Fl)(i:Nat):Bool:=pu l i&&(upT l i&&oV l i)
def dh(l:List Fl):Bool:=(List.range l.length).all (lN l)&&decide (l.length<=8)
def kA(l:List Fl)(i j:Nat):Bool:=(ltP (pA l j) (pA l i) || (pA l j).toList == (pA l i).toList)&&!bE (pA l j).data.toList (pA l i).data.toList
def lM(l:List Fl)(i:Nat):Bool:=pu l i&&(List.range i).all (kA l i)
theorem Ld{l:List Fl}{i:Nat}(hi:i<l.length)(h:lN l i=false):dh l=false:=by
 unfold dh;have:(List.range l.length).all (lN l)=false:=by
  rw[List.all_eq_false];exact⟨i,List.mem_range.2 hi,by simp[h]⟩
 rw[this];rfl
theorem I9{l:List Fl}(h:∀i,i<l.length->lN l i=true):dh l=decide (l.length<=8):=by
 unfold dh;have:(List.range l.length).all (lN l)=true:=List.all_eq_true.2 fun i hi=>h i (List.mem_range.1 hi);rw[this];rfl
theorem Gg{l:List Fl}{i k:Nat}(hk:k<l.length)(h:di (pA l i).data.toList (pA l k).data.toList=true):oV l i=false:=by
 unfold oV;rw[List.all_eq_false];exact⟨k,List.mem_range.2 hk,by simp[h]⟩
theorem tr{l:List Fl}{i:Nat}(h:∀k,k<l.length->di (pA l i).data.toList (pA l k).data.toList=false):oV l i=true:=by
 unfold oV;rw[List.all_eq_true];exact fun k hk=>by rw[h k (List.mem_range.1 hk)];rfl
theorem ES(a:List UInt8):di a a=false:=by
 unfold di;cases h:(a++[47]).isPrefixOf a
 · rfl
 · have:=(List.isPrefixOf_iff_prefix.1 h).length_le;simp at this;omega
theorem rr(a:List UInt8):¬ a<a:=List.lt_irrefl a
theorem Jk{l:List Fl}(n:Nat)(h:∀i,i<n->upT l i=true):∀i,i<n->∀j,j<i->ltP (pA l j) (pA l i)=true:=by
 intro i;induction i with
 | zero=>intro _ j hj;omega
 | succ i ih=>
  intro hi j hj;have h1:=h (i+1) hi;unfold upT at h1;simp only[Nat.add_eq_zero_iff,Nat.one_ne_zero,and_false,decide_false,Bool.false_or,Nat.add_sub_cancel]at h1;by_cases e:j=i
  · rw[e];exact h1
  ·
   have h2:=ih (by omega) j (by omega);rw[lr]at *
   exact List.lt_trans h2 h1
theorem nB{l:List Fl}{i j:Nat} : kA l i j=true<->ltP (pA l j) (pA l i)=true/\di (pA l i).data.toList (pA l j).data.toList=false/\di (pA l j).data.toList (pA l i).data.toList=false:=by
 unfold kA bE;simp only[Bool.and_eq_true,Bool.or_eq_true,Bool.not_eq_true',Bool.or_eq_false_iff,beq_iff_eq,beq_eq_false_iff_ne,ne_eq];constructor
 ·
  rintro⟨h1,h2,h3,h4⟩;rcases h1 with h1|h1
  · exact⟨h1,h3,h4⟩
  · exact absurd (by rw[Lib.toList_data,Lib.toList_data]at h1;exact h1) h2
 · rintro⟨h1,h3,h4⟩;refine⟨.inl h1,?_,h3,h4⟩;intro e;rw[lr,e]at h1;exact rr _ h1
theorem uk(l:List Fl):((List.range l.length).all (lN l))=((List.range l.length).all (lM l)):=by
 rw[Bool.eq_iff_iff,List.all_eq_true,List.all_eq_true];simp only[List.mem_range,lN,lM,Bool.and_eq_true,List.all_eq_true];constructor
 ·
  intro h i hi;refine⟨(h i hi).1,fun j hj=>nB.2 ?_⟩;have hf:∀i,i<l.length->∀k,k<l.length->di (pA l i).data.toList (pA l k).data.toList=false:=by
   intro i hi k hk;have:=(h i hi).2.2;unfold oV at this;rw[List.all_eq_true]at this;simpa using this k (List.mem_range.2 hk)
  exact⟨Jk l.length (fun i hi=>(h i hi).2.1) i hi j hj,hf i hi j (by omega),hf j (by omega) i hi⟩
 ·
  intro h i hi;refine⟨(h i hi).1,?_,?_⟩
  ·
   unfold upT;by_cases e:i=0
   · simp[e]
   · simp only[e,decide_false,Bool.false_or];exact(nB.1 ((h i hi).2 (i-1) (by omega))).1
  ·
   refine tr fun k hk=>?_;rcases Nat.lt_trichotomy k i with hlt|rfl|hgt
   · exact(nB.1 ((h i hi).2 k hlt)).2.1
   · exact ES _
   · exact(nB.1 ((h k hk).2 i hgt)).2.2
theorem I8{l:List Fl}{i:Nat}(hi:i<l.length)(h:lM l i=false):dh l=false:=by
 unfold dh;rw[uk];have:(List.range l.length).all (lM l)=false:=by
  rw[List.all_eq_false];exact⟨i,List.mem_range.2 hi,by simp[h]⟩
 rw[this];rfl
theorem EO{l:List Fl}(h:∀i,i<l.length->lM l i=true):dh l=decide (l.length<=8):=by
 unfold dh;rw[uk];have:(List.range l.length).all (lM l)=true:=List.all_eq_true.2 fun i hi=>h i (List.mem_range.1 hi);rw[this];rfl
theorem KC{l:List Fl}{i j:Nat}(hj:j<i)(h:kA l i j=false):lM l i=false:=by
 unfold lM;have:(List.range i).all (kA l i)=false:=by
  rw[List.all_eq_false];exact⟨j,List.mem_range.2 hj,by simp[h]⟩
 rw[this];simp
theorem Hi{l:List Fl}{i:Nat}(h:∀j,j<i->kA l i j=true):lM l i=pu l i:=by
 unfold lM;have:(List.range i).all (kA l i)=true:=List.all_eq_true.2 fun j hj=>h j (List.mem_range.1 hj);rw[this];simp
def dG:List Fl->ByteArray->Nat
 | [],_=>0
 | e :: l,x=>if ltP e.p x=true then dG l x+1 else 0
def bq:List Fl->Fl->List Fl
 | [],f=>[f]
 | e :: l,f=>if ltP e.p f.p=true then e :: bq l f else if e.p=f.p then f :: l else f :: e :: l
def fS(l:List Fl):Prop:=l.Pairwise fun a b=>ltP a.p b.p=true
theorem rt(a:ByteArray):ltP a a=false:=by
 cases h:ltP a a
 · rfl
 · exact absurd ((lr _ _).1 h) (rr _)
theorem oC{a b c:ByteArray}(h:ltP a b=true)(k:ltP b c=true):ltP a c=true:=by
 rw[lr]at *;exact List.lt_trans h k
theorem Kt{a b:ByteArray}(h:ltP a b=false)(hne:a≠b):ltP b a=true:=by
 rw[lr];have h1:¬ a.data.toList<b.data.toList:=fun e=>by rw[(lr a b).2 e]at h;cases h
 rcases Std.le_iff_lt_or_eq.1 (List.not_lt.1 h1)with h2|h2
 · exact h2
 · exact absurd (ByteArray.ext (Array.toList_inj.1 h2.symm)) hne
theorem BW(l:List Fl)(x:ByteArray):dG l x<=l.length:=by
 induction l with
 | nil=>exact Nat.le_refl _
 | cons e l ih=>unfold dG;split<;>simp;exact ih
theorem vn{l:List Fl}{x:ByteArray}{k:Nat}(hk:k<=l.length)(h1:∀i,i<k->ltP (l.getD i default).p x=true)(h2:k<l.length->ltP (l.getD k default).p x=false):dG l x=k:=by
 induction l generalizing k with
 | nil=>simp at hk;simp[dG,hk]
 | cons e l ih=>
  unfold dG;cases k with
  | zero=>
   have:=h2 (by simp);simp only[List.getD_cons_zero]at this;rw[if_neg (by simp[this])]
  | succ k=>
   have:=h1 0 (by omega);simp only[List.getD_cons_zero]at this;rw[if_pos this,ih (by simpa using hk) (fun i hi=>by simpa using h1 (i+1) (by omega)) (fun h=>by simpa using h2 (by simpa using h))]
theorem tR{l:List Fl}{f:Fl}(h:dG l f.p<l.length)(he:(l.getD (dG l f.p) default).p=f.p):bq l f=l.take (dG l f.p)++f :: l.drop (dG l f.p+1):=by
 induction l with
 | nil=>simp at h
 | cons e l ih=>
  unfold dG at h he ⊢;unfold bq
  split at h
  · rename_i h1;rw[if_pos h1,if_pos h1];rw[if_pos h1]at he;simp only[List.take_succ_cons,List.cons_append,List.drop_succ_cons];rw[ih (by simpa using h) (by simpa using he)]
  · rename_i h1;rw[if_neg h1,if_neg h1];rw[if_neg h1]at he;rw[if_pos (by simpa using he)];simp
theorem rQ{l:List Fl}{f:Fl}(he:dG l f.p<l.length->(l.getD (dG l f.p) default).p≠f.p):bq l f=l.take (dG l f.p)++f :: l.drop (dG l f.p):=by
 induction l with
 | nil=>rfl
 | cons e l ih=>
  unfold dG at he ⊢;unfold bq;by_cases h1:ltP e.p f.p=true
  · rw[if_pos h1,if_pos h1];rw[if_pos h1]at he;simp only[List.take_succ_cons,List.cons_append,List.drop_succ_cons];rw[ih (fun h=>by have:=he (by simpa using h);simpa using this)]
  · rw[if_neg h1,if_neg h1];rw[if_neg h1]at he;rw[if_neg (by simpa using he (by simp))];simp
theorem Ir(l:List Fl)(f:Fl):(bq l f).length<=l.length+1:=by
 induction l with
 | nil=>simp[bq]
 | cons e l ih=>
  unfold bq
  split
  · simpa using ih
  · split<;>simp
theorem rP{l:List Fl}{f e:Fl}(h:e∈bq l f):e=f∨e∈l:=by
 induction l with
 | nil=>simpa[bq]using h
 | cons d l ih=>
  unfold bq at h
  split at h
  ·
   rcases List.mem_cons.1 h with rfl|h
   · exact .inr (by simp)
   ·
    rcases ih h with rfl|h
    · exact .inl rfl
    · exact .inr (List.mem_cons_of_mem _ h)
  ·
   split at h
   ·
    rcases List.mem_cons.1 h with rfl|h
    · exact .inl rfl
    · exact .inr (List.mem_cons_of_mem _ h)
   ·
    rcases List.mem_cons.1 h with rfl|h
    · exact .inl rfl
    · exact .inr h
theorem Em{l:List Fl}(f:Fl)(h:fS l):fS (bq l f):=by
 unfold fS at *
 induction l with
 | nil=>simp[bq]
 | cons e l ih=>
  obtain⟨h1,h2⟩:=List.pairwise_cons.1 h;unfold bq
  split
  ·
   rename_i h3;refine List.pairwise_cons.2 ⟨fun x hx=>?_,ih h2⟩;rcases rP hx with rfl|hx
   · exact h3
   · exact h1 x hx
  ·
   rename_i h3
   split
   · rename_i h4;exact List.pairwise_cons.2 ⟨fun x hx=>by rw[←h4];exact h1 x hx,h2⟩
   ·
    rename_i h4;have h5:=Kt (by simpa using h3) h4;refine List.pairwise_cons.2 ⟨fun x hx=>?_,h⟩;rcases List.mem_cons.1 hx with rfl|hx
    · exact h5
    · exact oC h5 (h1 x hx)
theorem El{l:List Fl}{f:Fl}(h:∀e∈l,ltP e.p f.p=true):bq l f=l++[f]:=by
 induction l with
 | nil=>rfl
 | cons e l ih=>
  unfold bq;rw[if_pos (h e (by simp)),ih fun x hx=>h x (List.mem_cons_of_mem _ hx)];rfl
theorem Ep{a l:List Fl}(h:fS (a++l)):l.foldl bq a=a++l:=by
 induction l generalizing a with
 | nil=>simp
 | cons f l ih=>
  have h1:∀e∈a,ltP e.p f.p=true:=fun e he=>(List.pairwise_append.1 h).2.2 e he f (by simp);rw[List.foldl_cons,El h1,ih (by simpa using h)];simp
set_option maxRecDepth 100000
theorem Dv(x:ByteArray)(w:World):Calls Tryz.prog 71 #[.string x] w fun e w'=>e = .returned (.bool false)/\w'=w:=by
 go_enter Tryz.func71,Tryz.ntmps71;go_wp2;go_ret;exact⟨by simp,rfl⟩
theorem zl(x:ByteArray)(w:World):Calls Tryz.prog 118 #[.string x] w fun e w'=>e = .returned (.bool false)/\w'=w:=by
 go_enter Tryz.func118,Tryz.ntmps118;go_wp2;go_ret;exact⟨by simp,rfl⟩
theorem vS(x y:ByteArray)(w:World):Calls Tryz.prog 70 #[.string x,.string y] w fun e w'=>e = .returned (.bool (ltP x y))/\w'=w:=by
 go_enter Tryz.func70,Tryz.ntmps70;go_wp2_with fail;refine(zl x w).mono ?_;rintro e w1 ⟨rfl,rfl⟩;go_wp2;go_ret;exact⟨by simp[ltP],rfl⟩
def JB(w:World)(a:Option Addr)(l:List ByteArray):Prop:=0<l.length->∃g,a=some ⟨g,0,none⟩/\g<w.heap.size/\∀i,i<l.length->w.cell? ⟨g,i,none⟩=some (.string (l.getD i default))
def sR:List ByteArray->ByteArray->Nat
 | [],_=>0
 | e :: l,x=>if ltP e x=true then sR l x+1 else 0
theorem KM{l:List ByteArray}{x:ByteArray}{k:Nat}(hk:k<=l.length)(h1:∀i,i<k->ltP (l.getD i default) x=true)(h2:k<l.length->ltP (l.getD k default) x=false):sR l x=k:=by
 induction l generalizing k with
 | nil=>simp at hk;simp[sR,hk]
 | cons e l ih=>
  unfold sR;cases k with
  | zero=>
   have:=h2 (by simp);simp only[List.getD_cons_zero]at this;rw[if_neg (by simp[this])]
  | succ k=>
   have:=h1 0 (by omega);simp only[List.getD_cons_zero]at this;rw[if_pos this,ih (by simpa using hk) (fun i hi=>by simpa using h1 (i+1) (by omega)) (fun h=>by simpa using h2 (by simpa using h))]
theorem B8{l:List ByteArray}(h:l.Pairwise fun a b=>ltP a b=true){i j:Nat}(hij:i<j)(hj:j<l.length):ltP (l.getD i default) (l.getD j default)=true:=by
 have:=List.pairwise_iff_getElem.1 h i j (by omega) hj hij;have e1:l.getD i default=l[i]:=by simp[show i<l.length by omega]
 have e2:l.getD j default=l[j]:=by simp[hj]
 rw[e1,e2];exact this
theorem lQ(a:Option Addr)(cap n:Nat)(l:List ByteArray)(x:ByteArray)(w:World)(hn:l.length=n)(h:JB w a l)(hl:n<=1000)(hs:l.Pairwise fun a b=>ltP a b=true) :
  Calls Tryz.prog 44 #[.slice a n cap,.string x] w fun e w'=>e = .returned (.tuple #[.int .i64 (sR l x:Nat),.bool (decide (sR l x<n/\l.getD (sR l x) default=x))])/\w'=w:=by
 have HN:=af hn;have HR:=af h;have HS:=af hs;have hnI:(n:Int)<=1000:=by omega
 clear h hs hn;go_enter Tryz.func44,Tryz.ntmps44;go_wp2_with fail
 go_loopw [7,8,9] (fun i j _ wr=>∃p q:Nat,i = .int .i64 p/\j = .int .i64 q/\p<=q/\q<=n/\(∀k,k<p->ltP (l.getD k default) x=true)/\(∀k,q<=k->k<n->ltP (l.getD k default) x=false)/\wr=w) (fun i j _ _=>(intOf j).toNat-(intOf i).toNat)
 case atStart=>exact⟨0,n,rfl,rfl,Nat.zero_le _,Nat.le_refl _,fun k hk=>absurd hk (by omega),fun k h1 h2=>absurd h2 (by omega),rfl⟩
 case round=>
  obtain⟨p,q,rfl,rfl,hpq,hq,hlo,hhi,rfl⟩:=hrel;have HLo:=af hlo;have HHi:=af hhi;clear hlo hhi;have hpI:(p:Int)<=1000:=by omega
  have hqI:(q:Int)<=1000:=by omega
  by_cases hlt:p<q
  ·
   have hltI:(p:Int)<(q:Int):=by omega
   obtain⟨g,rfl,hg,hc⟩:=ae HR (by have:=ae HN;omega);obtain⟨m,hm⟩:∃m,m=(p+q)/2:=⟨_,rfl⟩;have hmI:((p:Int)+(q:Int))/2=((m:Nat):Int):=by omega
   have hm1:p<=m/\m<q:=by omega
   have hmn:(m:Int)<(n:Int):=by omega
   have hmB:(m:Int)<=1000:=by omega
   have cm:=hc m (by have:=ae HN;omega);have HC:=af hc;clear hc hm;obtain⟨y,hy⟩:∃y,l.getD m default=y:=⟨_,rfl⟩;rw[hy]at cm;have HY:=af hy;clear hy;go_wp2_with fail;refine(vS y x _).mono ?_;rintro e w1 ⟨rfl,rfl⟩;cases hb:ltP y x
   ·
    have HB:=af hb;clear hb;go_wp2_with fail;go_roundw
    case rel=>
     refine⟨p,m,rfl,rfl,hm1.1,by omega,ae HLo,fun k h1 h2=>?_,trivial⟩;by_cases e:k=m
     · rw[e,ae HY];exact ae HB
     ·
      cases hk:ltP (l.getD k default) x
      · rfl
      · have:=oC (B8 (ae HS) (show m<k by omega) (by have:=ae HN;omega)) hk;rw[ae HY,ae HB]at this;cases this
    case measure=>simp[intOf];omega
   ·
    have HB:=af hb;clear hb;go_wp2_with fail;go_roundw
    case rel=>
     refine⟨m+1,q,by go_num,rfl,hm1.2,hq,fun k hk=>?_,ae HHi,trivial⟩;by_cases e:k=m
     · rw[e,ae HY];exact ae HB
     · exact oC (B8 (ae HS) (show k<m by omega) (by have:=ae HN;omega)) (by rw[ae HY];exact ae HB)
    case measure=>simp[intOf];omega
  ·
   have hge:(q:Int)<=(p:Int):=by omega
   obtain rfl:p=q:=by omega
   have HP:=af (KM (l:=l) (x:=x) (k:=p) (by have:=ae HN;omega) (ae HLo) (fun h=>ae HHi p (Nat.le_refl _) (by have:=ae HN;omega)));by_cases hpn:p<n
   ·
    have hpnI:(p:Int)<(n:Int):=by omega
    obtain⟨g,rfl,hg,hc⟩:=ae HR (by have:=ae HN;omega);obtain⟨y,hy⟩:∃y,l.getD p default=y:=⟨_,rfl⟩;have cy:wr.cell? ⟨g,p,none⟩=some (.string y):=by rw[←hy];exact hc p (by have:=ae HN;omega)
    have HY:=af hy;clear hy hc;by_cases he:y.toList=x.toList
    ·
     have hb:(y.toList == x.toList)=true:=by simpa using he
     have HE:=af he;go_wp2_with fail
     go_ret2
     have hyx:y=x:=ByteArray.ext (Array.toList_inj.1 (by have:=ae HE;rw[Lib.toList_data,Lib.toList_data]at this;exact this));exact⟨by rw[ae HP,ae HY];simp[hpn,hyx],rfl⟩
    ·
     have hb:(y.toList == x.toList)=false:=by simpa using he
     have HE:=af he;go_wp2_with fail;refine(Dv y _).mono ?_;rintro e w1 ⟨rfl,rfl⟩;go_wp2_with fail
     go_ret2
     have hxy:y≠x:=fun h=>ae HE (by rw[h]);exact⟨by rw[ae HP,ae HY];simp[hxy],rfl⟩
   ·
    have hge2:(n:Int)<=(p:Int):=by omega
    go_wp2_with fail
    go_ret2
    exact⟨by rw[ae HP];simp[hpn],rfl⟩
end Go.Proofs.YtkpfkgoiaicgbaaGreatDoor
