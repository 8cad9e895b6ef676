/- Of what the proof is made: 10 texts, one behind the other. -/
import Derived.Test.YtkpfkgoiaicgbaaGreatDoorM43
import Derived.Test.YtkpfkgoiaicgbaaGreatDoorM42
import Derived.Test.YtkpfkgoiaicgbaaGreatDoorM5
import Derived.Test.YtkpfkgoiaicgbaaGreatDoorM27
import Derived.Lib.QuietBelow
import Derived.Test.YtkpfkgoiaicgbaaGreatDoorM20
import Derived.Deep.QuietTactic
import Derived.BigQuiet
import Derived.Test.YtkpfkgoiaicgbaaGreatDoorM35
import Derived.Test.YtkpfkgoiaicgbaaGreatDoorM31
import Derived.Test.YtkpfkgoiaicgbaaGreatDoorM40
set_option linter.unusedSimpArgs false
set_option linter.unusedVariables false
set_option maxHeartbeats 12800000
namespace Go.Proofs.YtkpfkgoiaicgbaaGreatDoor
open Corb
set_option maxRecDepth 100000
def sub(s:ByteArray)(p:Nat):ByteArray:=s.extract p s.size
theorem yr(s:ByteArray)(p:Nat):(sub s p).data.toList=s.data.toList.drop p:=by
 rw[sub,ext_list];exact List.take_of_length_le (by simp)
theorem nN(s:ByteArray)(p:Nat):(sub s p).size=s.size-p:=by
 rw[sub,ByteArray.size_extract];omega
def nn(s:ByteArray):Nat:=30+wd s.data.toList 26 2+wd s.data.toList 18 4
def enO(s T:ByteArray):En:=⟨nmB s,gY (wd s.data.toList 10 4:Nat),gM (wd s.data.toList 10 4:Nat),gD (wd s.data.toList 10 4:Nat),gH (wd s.data.toList 10 4:Nat),gI (wd s.data.toList 10 4:Nat),gS (wd s.data.toList 10 4:Nat),T⟩
def ctO(s:ByteArray)(p:Nat):ByteArray:=lT (wd s.data.toList 8 2) (wd s.data.toList 10 4) (wd s.data.toList 14 4) (wd s.data.toList 18 4) (wd s.data.toList 22 4) (nmB s) p
theorem np{s T:ByteArray}(h:gj s=some T):hdB s=true/\jN (enO s T)=true:=by
 unfold gj at h
 split at h
 ·
  rename_i h0;refine⟨h0,?_⟩
  split at h
  ·
   split at h
   ·
    rename_i h2;cases h
    simp only[JY,Bool.and_eq_true]at h2;exact h2.2.2
   · cases h
  · cases h
 · cases h
def zst(s:ByteArray):Nat->Option (List En×ByteArray×Nat)
 | 0=>some ([],⟨#[]⟩,0)
 | i+1=>(zst s i).bind fun q=>(gj (sub s q.2.2)).map fun T=>(q.1++[enO (sub s q.2.2) T],q.2.1++ctO (sub s q.2.2) q.2.2,q.2.2+nn (sub s q.2.2))
theorem Ce{s T:ByteArray}{i:Nat}{q:List En×ByteArray×Nat}(h:zst s i=some q)(hT:gj (sub s q.2.2)=some T) :
  zst s (i+1)=some (q.1++[enO (sub s q.2.2) T],q.2.1++ctO (sub s q.2.2) q.2.2,q.2.2+nn (sub s q.2.2)):=by
 rw[zst,h,Option.bind_some,hT,Option.map_some]
theorem io{s:ByteArray}{i:Nat}{q:List En×ByteArray×Nat}(h:zst s (i+1)=some q):∃r T,zst s i=some r/\gj (sub s r.2.2)=some T/\q=(r.1++[enO (sub s r.2.2) T],r.2.1++ctO (sub s r.2.2) r.2.2,r.2.2+nn (sub s r.2.2)):=by
 rw[zst]at h;rcases hr:zst s i with _|r
 · rw[hr]at h;cases h
 ·
  rw[hr,Option.bind_some]at h;rcases hT:gj (sub s r.2.2)with _|T
  · rw[hT]at h;cases h
  ·
   rw[hT,Option.map_some]at h;cases h
   exact⟨r,T,rfl,hT,rfl⟩
theorem GN{s T:ByteArray}(h:gj s=some T):nn s<=s.size:=(uO.1 (np h).1).2.2
theorem jH{s:ByteArray} : ∀{i:Nat} {q:List En×ByteArray×Nat},zst s i=some q->q.1.length=i/\q.2.2<=s.size/\(∀e∈q.1,jN e=true)/\(q.2.1=⟨#[]⟩∨q.2.1.data.toList.take 4=[80,75,1,2])/\q.2.1.size<=100*i
 | 0,q,h=>by cases h;exact⟨rfl,Nat.zero_le _,(fun e he=>by cases he),.inl rfl,Nat.zero_le _⟩
 | i+1,q,h=>by
  obtain⟨r,T,h1,h2,rfl⟩:=io h;obtain⟨a1,a2,a3,a4,a5⟩:=jH h1;have hf:=GN h2;rw[nN]at hf;have hE:=(np h2).2;have hn:=(cM (n:=(enO (sub s r.2.2) T).n) (t:=(enO (sub s r.2.2) T).t) hE).1;have hc:(ctO (sub s r.2.2) r.2.2).size=46+(nmB (sub s r.2.2)).size:=jh _ _ _ _ _ _ _;have hn2:(nmB (sub s r.2.2)).size<=43:=hn;refine⟨by simp[a1],?_,?_,?_,?_⟩
  · show r.2.2+nn (sub s r.2.2)<=s.size;omega
  ·
   intro e he;rcases List.mem_append.1 he with he|he
   · exact a3 e he
   · rw[List.mem_singleton.1 he];exact hE
  ·
   refine .inr ?_;show(r.2.1++ctO (sub s r.2.2) r.2.2).data.toList.take 4=_;have e0:(ctO (sub s r.2.2) r.2.2).data.toList.take 4=[80,75,1,2]:=by simp[ctO,lT]
   rcases a4 with e|e
   · rw[e];simpa using e0
   ·
    have:4<=r.2.1.data.toList.length:=by
     have:=congrArg List.length e;rw[List.length_take]at this;simp at this ⊢;omega
    simp only[ByteArray.data_append,Array.toList_append];rw[List.take_append_of_le_length this];exact e
  · show(r.2.1++ctO (sub s r.2.2) r.2.2).size<=_;rw[ByteArray.size_append,hc];omega
theorem kR{s:ByteArray}{k:Nat} : ∀{m:Nat} {q:List En×ByteArray×Nat},zst s m=some q->k<=m->∃r,zst s k=some r/\r.1=q.1.take k
 | 0,q,h,hk=>by
  have:k=0:=by omega
  subst this;exact⟨q,h,by cases h;rfl⟩
 | m+1,q,h,hk=>by
  by_cases e:k=m+1
  · subst e;exact⟨q,h,by rw[List.take_of_length_le (by rw[(jH h).1];exact Nat.le_refl _)]⟩
  · obtain⟨r,T,h1,h2,rfl⟩:=io h;obtain⟨r',h3,h4⟩:=kR h1 (by omega:k<=m);refine⟨r',h3,?_⟩;rw[h4];show _=(r.1++_).take k;rw[List.take_append_of_le_length (by rw[(jH h1).1];omega)]
theorem pm{s T:ByteArray}(h:gj s=some T):s.data.toList.take 4=[80,75,3,4]:=by
 obtain⟨h1,h2,_⟩:=uO.1 (np h).1;simp only[pL,Bool.and_eq_true,decide_eq_true_eq]at h2;have h3:30<=s.data.toList.length:=by simpa using h1
 have:=(yM (l:=s.data.toList) (i:=0) (k:=4) (by omega) (by decide)).1 h2.1;rw[List.drop_zero]at this;rw[this];decide +kernel
theorem tg(k z p:Nat):(dY k z p).data.toList=[80,75,5,6]++(leS 2 0++(leS 2 0++(leS 2 k++(leS 2 k++(leS 4 z++(leS 4 p++leS 2 0)))))):=by
 simp[dY,aZ]
theorem BJ{c:ByteArray}(k z p:Nat)(hc:c=⟨#[]⟩∨c.data.toList.take 4=[80,75,1,2]):(c++dY k z p).data.toList.take 4≠[80,75,3,4]:=by
 simp only[ByteArray.data_append,Array.toList_append];rcases hc with e|e
 · rw[e,tg];simp
 ·
  have:4<=c.data.toList.length:=by
   have:=congrArg List.length e;rw[List.length_take]at this;simp at this ⊢;omega
  rw[List.take_append_of_le_length this,e];decide
theorem F5{s c:ByteArray}{k z p q:Nat}(h:sub s p=c++dY k z q)(hk:k<65536):22<=s.size/\wd s.data.toList (s.size-12) 2=k:=by
 have h1:s.size-p=c.size+22:=by rw[←nN,h,ByteArray.size_append,oe]
 refine⟨by omega,?_⟩;have h2:s.data.toList=(s.data.toList.take p++(c.data.toList++([80,75,5,6]++(leS 2 0++(leS 2 0++leS 2 k)))))++(leS 2 k++(leS 4 z++(leS 4 q++leS 2 0))):=by
  have:s.data.toList.drop p=(c++dY k z q).data.toList:=by rw[←yr,h]
  conv=>lhs;rw[←List.take_append_drop p s.data.toList,this]
  simp only[ByteArray.data_append,Array.toList_append,tg,List.append_assoc]
 have h3:(s.data.toList.take p++(c.data.toList++([80,75,5,6]++(leS 2 0++(leS 2 0++leS 2 k))))).length=s.size-12:=by
  simp only[List.length_append,List.length_take,az];have e1:s.data.toList.length=s.size:=by simp
  have e2:c.data.toList.length=c.size:=by simp
  rw[e1,e2];simp;omega
 rw[h2];have:=AM (b:=leS 2 k++(leS 4 z++(leS 4 q++leS 2 0))) (i:=0) 2 h3;rw[Nat.add_zero]at this;rw[this];exact fp _ (by omega)
def eK(s:ByteArray):Option (List En):=
 if 12<=s.size/\wd s.data.toList (s.size-12) 2<=6 then
  (match zst s (wd s.data.toList (s.size-12) 2)with
  | some q=>if fq q.1=true/\sub s q.2.2=q.2.1++dY (wd s.data.toList (s.size-12) 2) q.2.1.size q.2.2 then some q.1 else none
  | none=>none)
 else none
theorem oO{s:ByteArray}{l:List En}(h:eK s=some l):∃m q,zst s m=some q/\l=q.1/\fq q.1=true/\sub s q.2.2=q.2.1++dY m q.2.1.size q.2.2:=by
 unfold eK at h
 split at h
 ·
  split at h
  ·
   rename_i q hq
   split at h
   ·
    rename_i h2;cases h
    exact⟨_,q,hq,rfl,h2.1,h2.2⟩
   · cases h
  · cases h
 · cases h
theorem yU{s:ByteArray}{m:Nat}{q:List En×ByteArray×Nat}(h:zst s m=some q)(hz:fq q.1=true)(he:sub s q.2.2=q.2.1++dY m q.2.1.size q.2.2):eK s=some q.1:=by
 have h6:=(jG hz).2;have hl:=(jH h).1;obtain⟨e1,e2⟩:=F5 he (by omega);unfold eK;rw[if_pos ⟨by omega,by omega⟩,e2,h];simp only;rw[if_pos ⟨hz,he⟩]
theorem uv{s:ByteArray}{k m:Nat}{q r:List En×ByteArray×Nat}(hk:zst s k=some q)(hm:zst s m=some r)(he:sub s r.2.2=r.2.1++dY m r.2.1.size r.2.2):k<=m:=by
 rcases Nat.lt_or_ge m k with h|h
 ·
  exfalso;obtain⟨x,hx,_⟩:=kR hk (by omega:m+1<=k);obtain⟨y,T,h1,h2,_⟩:=io hx;rw[hm]at h1;cases h1
  have:=pm h2;rw[he]at this;exact BJ _ _ _ (jH hm).2.2.2.1 this
 · exact h
theorem E9{s:ByteArray}{k:Nat}{q:List En×ByteArray×Nat}(hk:zst s k=some q)(hz:fq q.1=true)(hn:(sub s q.2.2).data.toList.take 4≠[80,75,3,4]) :
  eK s=if sub s q.2.2=q.2.1++dY k q.2.1.size q.2.2 then some q.1 else none:=by
 split
 · rename_i he;exact yU hk hz he
 ·
  rename_i he;rcases h:eK s with _|l
  · rfl
  ·
   exfalso;obtain⟨m,r,h1,h2,h3,h4⟩:=oO h;have hle:=uv hk h1 h4;by_cases e:k=m
   ·
    subst e;rw[hk]at h1;cases h1
    exact he h4
   ·
    obtain⟨x,hx,_⟩:=kR h1 (by omega:k+1<=m);obtain⟨y,T,y1,y2,_⟩:=io hx;rw[hk]at y1;cases y1
    exact hn (pm y2)
theorem yT{s:ByteArray}{k:Nat}{q:List En×ByteArray×Nat}(hk:zst s k=some q)(hm:(sub s q.2.2).data.toList.take 4=[80,75,3,4])(hT:∀T,gj (sub s q.2.2)=some T->fq (q.1++[enO (sub s q.2.2) T])=false):eK s=none:=by
 rcases h:eK s with _|l
 · rfl
 ·
  exfalso;obtain⟨m,r,h1,h2,h3,h4⟩:=oO h;have hle:=uv hk h1 h4;by_cases e:k=m
  ·
   subst e;rw[hk]at h1;cases h1
   rw[h4]at hm;exact BJ _ _ _ (jH hk).2.2.2.1 hm
  ·
   obtain⟨x,hx,hx2⟩:=kR h1 (by omega:k+1<=m);obtain⟨y,T,y1,y2,y3⟩:=io hx;rw[hk]at y1;cases y1
   have h5:=hT T y2;have h6:fq (r.1.take (k+1))=true:=by
    rw[oP]at h3 ⊢;intro i hi;have hi2:i<k+1/\i<r.1.length:=by rw[List.length_take]at hi;omega
    have:=h3 i hi2.2;unfold gp at this ⊢;rw[lH r.1 (k+1) i hi2.1,List.take_take,Nat.min_eq_left (by omega)];exact this
   rw[←hx2,y3]at h6;rw[h6]at h5;cases h5
def hqO(x:ByteArray)(p:Nat):Hq:=⟨wd x.data.toList 8 2,wd x.data.toList 10 4,wd x.data.toList 14 4,wd x.data.toList 18 4,wd x.data.toList 22 4,nmB x,p⟩
def qK(s:ByteArray)(k:Nat):Hq:=match zst s k with
 | some q=>hqO (sub s q.2.2) q.2.2
 | none=>hqO ⟨#[]⟩ 0
def hqL(s:ByteArray)(n:Nat):List Hq:=(List.range n).map (qK s)
theorem pY(s:ByteArray)(n:Nat):(hqL s n).length=n:=by simp[hqL]
theorem Gt(s:ByteArray)(n:Nat):hqL s (n+1)=hqL s n++[qK s n]:=by simp[hqL,List.range_succ]
theorem Kc(s:ByteArray)(n i:Nat)(d:Hq)(h:i<n):(hqL s n).getD i d=qK s i:=by simp[hqL,List.getD,h]
theorem uT{s:ByteArray}{k:Nat}{q:List En×ByteArray×Nat}(h:zst s k=some q):qK s k=hqO (sub s q.2.2) q.2.2:=by
 unfold qK;rw[h]
theorem xi{s:ByteArray} : ∀{k:Nat} {q:List En×ByteArray×Nat},zst s k=some q->dK (qK s) k=q.2.1
 | 0,q,h=>by cases h;rfl
 | k+1,q,h=>by
  obtain⟨r,T,h1,h2,rfl⟩:=io h;rw[dK,xi h1,uT h1];rfl
theorem Kb{s:ByteArray}(hs:s.size<=1048576){k:Nat}{q:List En×ByteArray×Nat}(h:zst s k=some q):∀i,i<k->okQ (qK s i):=by
 intro i hi;obtain⟨x,hx,_⟩:=kR h (by omega:i+1<=k);obtain⟨r,T,h1,h2,_⟩:=io hx;rw[uT h1];have hE:=(np h2).2;have hn:=(cM (n:=(enO (sub s r.2.2) T).n) (t:=(enO (sub s r.2.2) T).t) hE).1;have hn2:(nmB (sub s r.2.2)).size<=43:=hn;have hp:=(jH h1).2.1;exact⟨kQ _ _,ec _ _,ec _ _,ec _ _,ec _ _,by show(nmB (sub s r.2.2)).size<=54;omega,by show r.2.2<4294967296;omega⟩
theorem Cx(l:List En)(e:En)(i:Nat)(hi:i<l.length):gp (l++[e]) i=gp l i:=by
 unfold gp;rw[List.take_append_of_le_length (by omega)]
 congr 1
 simp only[List.getD];rw[List.getElem?_append_left hi]
theorem sZ(l:List En)(e:En):gp (l++[e]) l.length=cB l e:=by
 unfold gp;rw[List.take_append_of_le_length (Nat.le_refl _),List.take_of_length_le (Nat.le_refl _)]
 congr 1
 simp[List.getD]
theorem ut{l:List En}(h:fq l=true)(e:En):fq (l++[e])=true<->cB l e=0:=by
 rw[oP]at h ⊢;constructor
 · intro k;have:=k l.length (by simp);rw[sZ]at this;exact this
 ·
  intro k i hi;by_cases hl:i<l.length
  · rw[Cx l e i hl];exact h i hl
  ·
   have:i=l.length:=by simp at hi;omega
   rw[this,sZ];exact k
theorem G3(s:ByteArray):Lib.hasPrefix s.data.toList [80,75,3,4]=decide (s.data.toList.take 4=[80,75,3,4]):=by
 rw[Bool.eq_iff_iff,decide_eq_true_eq];unfold Lib.hasPrefix;rw[List.isPrefixOf_iff_prefix,List.prefix_iff_eq_take];exact eq_comm
end Go.Proofs.YtkpfkgoiaicgbaaGreatDoor
namespace Go.Proofs.YtkpfkgoiaicgbaaGreatDoor
open Go.RowKit Corb
set_option maxRecDepth 100000
theorem Mf{x n t:ByteArray}{y mo d h mi c k:Int}(hv:z7 x = .tuple #[.agg #[.string n,.int .i64 y,.int .i64 mo,.int .i64 d,.int .i64 h,.int .i64 mi,.int .i64 c,.string t],.int .i64 k,.bool true]) :
  ∃T,gj x=some T/\enO x T=⟨n,y,mo,d,h,mi,c,t⟩/\k=((nn x:Nat):Int):=by
 unfold z7 at hv;rcases hG:gj x with _|T
 · rw[hG]at hv;simp at hv
 ·
  rw[hG]at hv;simp only[GL,Value.tuple.injEq,Array.mk.injEq,List.cons.injEq,Value.agg.injEq,Value.string.injEq,Value.int.injEq,true_and,and_true]at hv;obtain⟨⟨e0,e1,e2,e3,e4,e5,e6,e7⟩,e8⟩:=hv;refine⟨T,rfl,?_,?_⟩
  · unfold enO;rw[e0,e1,e2,e3,e4,e5,e6,e7]
  · rw[←e8];rfl
theorem MV{x:ByteArray}(hv:z7 x = .tuple #[noE,.int .i64 0,.bool false]):gj x=none:=by
 unfold z7 at hv;rcases hG:gj x with _|T
 · rfl
 · rw[hG]at hv;simp at hv
theorem Fb{s:ByteArray}{k:Nat}{q:List En×ByteArray×Nat}(h:zst s k=some q):∀i,i<k->(q.1.getD i default).n.size<=1048576/\((q.1.getD i default).t.size:Int)<=9223372036854775807:=by
 intro i hi;obtain⟨h1,_,h3,_⟩:=jH h;have hm:q.1.getD i default∈q.1:=by
  rw[List.getD,List.getElem?_eq_getElem (by omega:i<q.1.length)];exact List.getElem_mem _
 obtain⟨f1,f2,_⟩:=cM (n:=(q.1.getD i default).n) (t:=(q.1.getD i default).t) (h3 _ hm);exact⟨by omega,by omega⟩
theorem below_drewN{B:Nat}{a w:World}(h:Below B a w)(n:Nat):Below B a (w.drewN n):=⟨h.os,h.tape,h.output,h.size,h.block⟩
theorem Fw{a b:ByteArray}{c:Bool}(h:(a.toList == b.toList)=c):c=true<->a=b:=by
 rw[←h,beq_iff_eq,eq];exact⟨fun e=>eg e,fun e=>by rw[e]⟩
abbrev Mt:=be (α:=Hq) 91 7 wj
theorem qV{w w':World}{o:Obj}{b1 b2 e1 e2 s1 s2 n1 n2:Nat}{v1 v2:Value}{x1 x2:List Value}(h1:w.ownsRow b1 e1 s1 v1 n1 x1)(h2:w.ownsRow b2 e2 s2 v2 n2 x2)(he:e1≠e2)(hg:(w.alloc o).grownBy w' v2.ownBlock):w'.ownsRow b1 e1 s1 v1 n1 x1:=
 World.ownsRow.kept (World.ownsRow.alloc h1 o) hg (su (World.ownsRow.alloc h1 o) (World.ownsRow.alloc h2 o) he)
theorem Lm:fq []=true:=by decide
theorem GP{x:ByteArray}(h:hdB x=false):gj x=none:=by
 unfold gj;rw[if_neg (by rw[h];decide)]
theorem vH{s:ByteArray}{k:Nat}{q:List En×ByteArray×Nat}(hk:zst s k=some q)(hm:(sub s q.2.2).data.toList.take 4=[80,75,3,4])(hT:gj (sub s q.2.2)=none):eK s=none:=
 yT hk hm (fun T h=>by rw[hT]at h;cases h)
theorem Fz{s:ByteArray}{k:Nat}{q:List En×ByteArray×Nat}(hk:zst s k=some q)(hz:fq q.1=true)(hm:(sub s q.2.2).data.toList.take 4=[80,75,3,4]){T:ByteArray}(hT:gj (sub s q.2.2)=some T)(hr:cB q.1 (enO (sub s q.2.2) T)≠0):eK s=none:=
 yT hk hm (fun T' h=>by
  rw[hT]at h;cases h
  cases hb:fq (q.1++[enO (sub s q.2.2) T])
  · rfl
  · exact absurd ((ut hz _).1 hb) hr)
def ZrP(s:ByteArray)(w:World)(e:Ending)(w':World):Prop:=∃v c,e = .returned (.tuple #[v,eo c])/\(c=0->∃l,eK s=some l/\Cf w' w.heap.size v l)/\(c≠0->eK s=none)
theorem yW{s:ByteArray}{w w':World}(h:eK s=none)(c:Int)(hc:c≠0):ZrP s w (.returned (.tuple #[.slice none 0 0,.iface 124 (.agg #[.int .i64 c])])) w':=
 ⟨.slice none 0 0,c,by unfold eo;rw[if_neg hc],fun h0=>absurd h0 hc,fun _=>h⟩
theorem yV(s:ByteArray)(m:Int)(w:World)(hs:s.size<=1048576)(hm:w.cell? ⟨2,0,none⟩=some (.int .i64 m))(hO:dk w) :
  Calls Tryz.prog 41 #[.string s] w fun e w'=>ZrP s w e w'/\Below w.heap.size w w':=by
 have hmix:Tryz.prog.follows .mixedOrders=true:=by kernel_rfl
 have hsI:(s.size:Int)<=1048576:=by omega
 have HS:=af hs;have HM:=af hm;have hmb:=af (World.block_lt_of_cell? _ _ hm);have CM:=af (fun W (hb:Below w.heap.size w W)=>(hb.cell (p:=⟨2,0,none⟩) (ae hmb)).trans (ae HM));have HO:=af (fun W (hb:Below w.heap.size w W)=>hO.later hb);obtain⟨i0,hi,hz0,hz1,hz2⟩:=info_parts Tryz.infoEnt;obtain⟨j0,hj,hy0,hy1,hy2⟩:=info_parts Tryz.infoHd;clear hs hm hO;go_enter Tryz.func41,Tryz.ntmps41;go_wp2_with fail
 go_loopw [4,5,6,7,8,9,10,11] (fun f h p _ _ _ _ _ wr=>∃(k:Nat) (q:List En×ByteArray×Nat),zst s k=some q/\fq q.1=true/\p = .int .i64 (q.2.2:Nat)/\Cf wr w.heap.size f q.1/\Mt wr w.heap.size h (hqL s k)/\Below w.heap.size w wr) (fun _ _ p _ _ _ _ _ _=>s.size-(intOf p).toNat)
 case atStart=>exact⟨0,([],⟨#[]⟩,0),rfl,Lm,rfl,be.nil _ _,be.nil _ _,Below.refl _ _⟩
 case round=>
  obtain⟨k,q,hz,hzb,rfl,hf,hh,hbel⟩:=hrel;have hzat:=jH hz;have hk6:k<=6:=by have:=(jG hzb).2;omega
  have hpI:(q.2.2:Int)<=(s.size:Int):=by have:=hzat.2.1;omega
  have CX:Hid (∀W,Calls Tryz.prog 64 #[.string (sub s q.2.2),.string ⟨#[80,75,3,4]⟩] W fun e w'=>e = .returned (.bool (decide ((sub s q.2.2).data.toList.take 4=[80,75,3,4])))/\w'=W):=fun W=>by
   have h:=Tryz.strings_HasPrefix (sub s q.2.2) (⟨#[80,75,3,4]⟩:ByteArray) W;rw[←G3];exact h
  have HE:Hid (s.extract q.2.2 s.size=sub s q.2.2):=rfl;have HZ:=af hz;have HZB:=af hzb;have HF:=af hf;have HH:=af hh;have HBel:=af hbel;have HAt:=af hzat
  have hss:(sub s q.2.2).size<=1048576:=by rw[nN];have:=ae HS;omega
  by_cases hmk:(sub s q.2.2).data.toList.take 4=[80,75,3,4]
  ·
   have HMk:=af hmk;rw[decide_eq_true hmk]at CX;have CH:=af (fun W=>oB (sub s q.2.2) W hss);have HSS:=af hss;clear hmk hf hh hbel hzat hz hzb hss;go_wp2_with fail;refine(ae CX _).mono ?_;rintro e x0 ⟨rfl,hx0⟩;subst hx0;clear CX;go_wp2_with fail;refine(ae CH _).mono ?_;rintro e x1 ⟨hp,hb1⟩;have HB1:=af (aj (ae HBel) hb1);have HF1:=af ((ae HF).later hb1 (Nat.le_refl _));have HH1:=af ((ae HH).later hb1 (Nat.le_refl _));have hap1:Hid (∀j,Value.ownBlock u4=some j->j<x1.heap.size):=fun j hj=>(World.ownsRow.lt (ae HF1) j hj).2;have hap2:Hid (∀j,Value.ownBlock u5=some j->j<x1.heap.size):=fun j hj=>(World.ownsRow.lt (ae HH1) j hj).2;clear hb1 CH HF HH HBel;rcases hp with⟨hd,rfl⟩|⟨hd,a,b,c,d,f,n,t,ho,rfl⟩
   ·
    obtain⟨h30,hfx,hto⟩:=uO.1 hd;have hnm:=xF (s:=sub s q.2.2) (by omega);have hbd:=FB (s:=sub s q.2.2) hto;have l1:=kQ (sub s q.2.2).data.toList 8;have l2:=ec (sub s q.2.2).data.toList 10;have l3:=ec (sub s q.2.2).data.toList 14;have l4:=ec (sub s q.2.2).data.toList 18;have l5:=ec (sub s q.2.2).data.toList 22;have l6:=kQ (sub s q.2.2).data.toList 26;have HSz:=ae HSS;have CEn:=af (fun W (hb:Below w.heap.size w W)=>pf (wd (sub s q.2.2).data.toList 8 2) (wd (sub s q.2.2).data.toList 10 4) (wd (sub s q.2.2).data.toList 14 4) (wd (sub s q.2.2).data.toList 18 4) (wd (sub s q.2.2).data.toList 22 4) (nmB (sub s q.2.2)) (bdB (sub s q.2.2)) m W (by omega) l1 l2 l3 l5 (by omega) (ae CM _ hb) (ae HO _ hb));have CPu:=af (fun(hen:enB (wd (sub s q.2.2).data.toList 8 2) (wd (sub s q.2.2).data.toList 10 4) (wd (sub s q.2.2).data.toList 14 4) (wd (sub s q.2.2).data.toList 22 4) (nmB (sub s q.2.2)) (bdB (sub s q.2.2))=true) W=>oY (wd (sub s q.2.2).data.toList 8 2) (wd (sub s q.2.2).data.toList 10 4) (wd (sub s q.2.2).data.toList 14 4) (wd (sub s q.2.2).data.toList 18 4) (wd (sub s q.2.2).data.toList 22 4) (nmB (sub s q.2.2)) (bdB (sub s q.2.2)) W l1 l2 l3 l4 l5 (by omega) (by have:=FX hen;omega));have hps:(bJ (wd (sub s q.2.2).data.toList 8 2) (wd (sub s q.2.2).data.toList 10 4) (wd (sub s q.2.2).data.toList 14 4) (wd (sub s q.2.2).data.toList 18 4) (wd (sub s q.2.2).data.toList 22 4) (nmB (sub s q.2.2))++bdB (sub s q.2.2)).size=nn (sub s q.2.2):=by
     unfold bJ nn;rw[ByteArray.size_append,ByteArray.size_append,ByteArray.size_append,fL,hnm,hbd];show 4+26+_+_=_;omega
    have hLN:nn (sub s q.2.2)<=(sub s q.2.2).size/\30<=nn (sub s q.2.2):=⟨hto,by unfold nn;omega⟩;have HY:Hid (enB (wd (sub s q.2.2).data.toList 8 2) (wd (sub s q.2.2).data.toList 10 4) (wd (sub s q.2.2).data.toList 14 4) (wd (sub s q.2.2).data.toList 22 4) (nmB (sub s q.2.2)) (bdB (sub s q.2.2))=true->∃T,gj (sub s q.2.2)=some T/\enO (sub s q.2.2) T=⟨nmB (sub s q.2.2),zz (gOk (wd (sub s q.2.2).data.toList 10 4:Nat)) (gY (wd (sub s q.2.2).data.toList 10 4:Nat)),zz (gOk (wd (sub s q.2.2).data.toList 10 4:Nat)) (gM (wd (sub s q.2.2).data.toList 10 4:Nat)),zz (gOk (wd (sub s q.2.2).data.toList 10 4:Nat)) (gD (wd (sub s q.2.2).data.toList 10 4:Nat)),zz (gOk (wd (sub s q.2.2).data.toList 10 4:Nat)) (gH (wd (sub s q.2.2).data.toList 10 4:Nat)),zz (gOk (wd (sub s q.2.2).data.toList 10 4:Nat)) (gI (wd (sub s q.2.2).data.toList 10 4:Nat)),zz (gOk (wd (sub s q.2.2).data.toList 10 4:Nat)) (gS (wd (sub s q.2.2).data.toList 10 4:Nat)),uxT (wd (sub s q.2.2).data.toList 8 2) (bdB (sub s q.2.2))⟩):=fun h=>by
     have:=GM hd;rw[if_pos h]at this;obtain⟨T,a,b,_⟩:=Mf this;exact⟨T,a,b⟩
    have HN:Hid (enB (wd (sub s q.2.2).data.toList 8 2) (wd (sub s q.2.2).data.toList 10 4) (wd (sub s q.2.2).data.toList 14 4) (wd (sub s q.2.2).data.toList 22 4) (nmB (sub s q.2.2)) (bdB (sub s q.2.2))=false->gj (sub s q.2.2)=none):=fun h=>by
     have:=GM hd;rw[if_neg (by rw[h];decide)]at this;exact MV this
    have HQA:Hid (qK s k=⟨wd (sub s q.2.2).data.toList 8 2,wd (sub s q.2.2).data.toList 10 4,wd (sub s q.2.2).data.toList 14 4,wd (sub s q.2.2).data.toList 18 4,wd (sub s q.2.2).data.toList 22 4,nmB (sub s q.2.2),q.2.2⟩):=uT (ae HZ);have hNs:(nmB (sub s q.2.2)).size<=1048576:=by omega
    have hUs:(uxT (wd (sub s q.2.2).data.toList 8 2) (bdB (sub s q.2.2))).size<=1048576:=yK (by omega);have hss2:(sub s q.2.2).size=s.size-q.2.2:=nN _ _;unfold enE at CEn;generalize bJ (wd (sub s q.2.2).data.toList 8 2) (wd (sub s q.2.2).data.toList 10 4) (wd (sub s q.2.2).data.toList 14 4) (wd (sub s q.2.2).data.toList 18 4) (wd (sub s q.2.2).data.toList 22 4) (nmB (sub s q.2.2))++bdB (sub s q.2.2)=PB at *
    generalize enB (wd (sub s q.2.2).data.toList 8 2) (wd (sub s q.2.2).data.toList 10 4) (wd (sub s q.2.2).data.toList 14 4) (wd (sub s q.2.2).data.toList 22 4) (nmB (sub s q.2.2)) (bdB (sub s q.2.2))=EB at *
    generalize uxT (wd (sub s q.2.2).data.toList 8 2) (bdB (sub s q.2.2))=UT at *
    generalize zz (gOk (wd (sub s q.2.2).data.toList 10 4:Nat)) (gY (wd (sub s q.2.2).data.toList 10 4:Nat))=yy at *
    generalize zz (gOk (wd (sub s q.2.2).data.toList 10 4:Nat)) (gM (wd (sub s q.2.2).data.toList 10 4:Nat))=mo at *
    generalize zz (gOk (wd (sub s q.2.2).data.toList 10 4:Nat)) (gD (wd (sub s q.2.2).data.toList 10 4:Nat))=dd at *
    generalize zz (gOk (wd (sub s q.2.2).data.toList 10 4:Nat)) (gH (wd (sub s q.2.2).data.toList 10 4:Nat))=hh at *
    generalize zz (gOk (wd (sub s q.2.2).data.toList 10 4:Nat)) (gI (wd (sub s q.2.2).data.toList 10 4:Nat))=mi at *
    generalize zz (gOk (wd (sub s q.2.2).data.toList 10 4:Nat)) (gS (wd (sub s q.2.2).data.toList 10 4:Nat))=ss at *
    generalize bdB (sub s q.2.2)=BD at *
    generalize nmB (sub s q.2.2)=NM at *
    generalize wd (sub s q.2.2).data.toList 8 2=HW at *
    generalize wd (sub s q.2.2).data.toList 10 4=ST at *
    generalize wd (sub s q.2.2).data.toList 14 4=CR at *
    generalize wd (sub s q.2.2).data.toList 18 4=PK at *
    generalize wd (sub s q.2.2).data.toList 22 4=LN at *
    generalize wd (sub s q.2.2).data.toList 26 2=NL at *
    obtain⟨LO,hLO⟩:∃x,nn (sub s q.2.2)=x:=⟨_,rfl⟩;rw[hLO]at hps hLN;have hpJ:(q.2.2:Int)+(PB.size:Int)<=(s.size:Int):=by omega
    have hp30:30<=(PB.size:Int):=by omega
    have HLO:=af (hLO.trans hps.symm);clear hd h30 hfx hto hnm hbd l1 l2 l3 l4 l5 l6 HSz hps hLN hLO hss2;have HB2:=af ((Below.refl x1.heap.size x1).alloc (Nat.le_refl _) (.cells #[.int .i64 (HW:Nat),.int .i64 (ST:Nat),.int .i64 (CR:Nat),.int .i64 (PK:Nat),.int .i64 (LN:Nat),.string NM,.string BD] 60));have R2:=af (aS x1 #[.int .i64 (HW:Nat),.int .i64 (ST:Nat),.int .i64 (CR:Nat),.int .i64 (PK:Nat),.int .i64 (LN:Nat),.string NM,.string BD] 60);go_wp2_with fail;refine(ae CEn _ (aj (ae HB1) (ae HB2))).mono ?_;rintro e x2 ⟨rfl,hb2⟩;have hb12:=aj (ae HB2) hb2;have HB3:=af (aj (ae HB1) hb12);have HF3:=af ((ae HF1).later hb12 (Nat.le_refl _));have HH3:=af ((ae HH1).later hb12 (Nat.le_refl _));have R3:=af ((ae R2).later hb2 (ae R2).1);obtain⟨HB,hHB⟩:∃x,x1.heap.size=x:=⟨_,rfl⟩;rw[hHB]at R3 hap1 hap2;rw[hHB];clear hb2 hb12 HB2 R2 hHB CEn HB1 HF1 HH1;cases EB
    ·
     have HNone:=af (vH (ae HZ) (ae HMk) (ae HN rfl));rw[show(if false=true then Value.tuple #[.agg #[.string NM,.int .i64 yy,.int .i64 mo,.int .i64 dd,.int .i64 hh,.int .i64 mi,.int .i64 ss,.string UT],.bool true]else .tuple #[noE,.bool false]) = .tuple #[.agg #[.string ⟨#[]⟩,.int .i64 0,.int .i64 0,.int .i64 0,.int .i64 0,.int .i64 0,.int .i64 0,.string ⟨#[]⟩],.bool false]from rfl];have HB4:=af (aj (ae HB3) ((Below.refl x2.heap.size x2).alloc (Nat.le_refl _) (.cells #[.string ⟨#[]⟩,.int .i64 0,.int .i64 0,.int .i64 0,.int .i64 0,.int .i64 0,.int .i64 0,.string ⟨#[]⟩] 51)));go_wp2
     go_ret2
     exact⟨yW (ae HNone) 1 (by decide),ae HB4⟩
    ·
     rw[show(if true=true then Value.tuple #[.agg #[.string NM,.int .i64 yy,.int .i64 mo,.int .i64 dd,.int .i64 hh,.int .i64 mi,.int .i64 ss,.string UT],.bool true]else .tuple #[noE,.bool false]) = .tuple #[.agg #[.string NM,.int .i64 yy,.int .i64 mo,.int .i64 dd,.int .i64 hh,.int .i64 mi,.int .i64 ss,.string UT],.bool true]from rfl];have HEX:Hid (∃T,gj (sub s q.2.2)=some T/\enO (sub s q.2.2) T=⟨NM,yy,mo,dd,hh,mi,ss,UT⟩):=ae HY rfl;have HPu:Hid (∀W,_):=ae CPu rfl;have hA:=(Below.refl x2.heap.size x2).alloc (Nat.le_refl _) (.cells #[.string NM,.int .i64 yy,.int .i64 mo,.int .i64 dd,.int .i64 hh,.int .i64 mi,.int .i64 ss,.string UT] 51);have HB4:=af (aj (ae HB3) hA);have HF4:=af ((ae HF3).later hA (Nat.le_refl _));have HH4:=af ((ae HH3).later hA (Nat.le_refl _));have R4:=af ((ae R3).later hA (ae R3).1);have Q4:=af (aS x2 #[.string NM,.int .i64 yy,.int .i64 mo,.int .i64 dd,.int .i64 hh,.int .i64 mi,.int .i64 ss,.string UT] 51);obtain⟨fa,fc,hu4,_,_⟩:=(ae HF4).formN (ae HAt).1;have hQB:HB<x2.heap.size:=(ae R3).1;have CRo:=af (pF fa fc q.1 k (ae HAt).1 ⟨NM,yy,mo,dd,hh,mi,ss,UT⟩ m _ (wk (ae HAt).1 (by have:=ae HF4;rw[hu4]at this;exact this)) (by omega) (fun i hi=>by have:=(Fb (ae HZ) i hi).1;omega) hNs (by show(UT.size:Int)<=_;omega) (ae CM _ (ae HB4)));rw[←hu4]at CRo;clear hA HY HN CPu HF3 HH3 R3 hu4 HB3 hNs hUs;go_wp2_with fail;refine(ae CRo).mono ?_;rintro e x4 ⟨rfl,hb4⟩;have HB5:=af (aj (ae HB4) hb4);have HF5:=af ((ae HF4).later hb4 (Nat.le_refl _));have HH5:=af ((ae HH4).later hb4 (Nat.le_refl _));have R5:=af ((ae R4).later hb4 (ae R4).1);have Q5:=af ((ae Q4).later hb4 (ae Q4).1);obtain⟨QB,hQBe⟩:∃x,x2.heap.size=x:=⟨_,rfl⟩;rw[hQBe]at Q5 hQB;rw[hQBe];clear hb4 HB4 HF4 HH4 R4 Q4 CRo hQBe;by_cases hc0:cB q.1 ⟨NM,yy,mo,dd,hh,mi,ss,UT⟩=0
     ·
      rw[show eo (cB q.1 ⟨NM,yy,mo,dd,hh,mi,ss,UT⟩) = .nilIface by rw[hc0];rfl];have HNX:Hid (∃T,zst s (k+1)=some (q.1++[⟨NM,yy,mo,dd,hh,mi,ss,UT⟩],T,q.2.2+PB.size)/\fq (q.1++[⟨NM,yy,mo,dd,hh,mi,ss,UT⟩])=true):=by
       obtain⟨T,hT,hE⟩:=ae HEX;have h2:=Ce (ae HZ) hT;rw[hE,ae HLO]at h2;exact⟨_,h2,(ut (ae HZB) _).2 hc0⟩
      have hlen1:Hid ((k+1<=maxLen/\(k+1)*80<=140737488355328)/\(k+1)*64<=140737488355328):=by
       show(_/\_)/\_;unfold maxLen;omega
      have hf1:=be.own (ae HAt).1 (ae HF5);have hh1:=be.own (pY s k) (ae HH5);have hbs1:=(ae HB5).size;have pA:=(ae Q5).cells (n:=8) rfl;clear hc0 HEX HMk HSS HE;go_wp2_with (first
       | (at_builtin;refine wpList_append_own _ rfl _ _ 42 rfl w.heap.size 51 i0 (.agg #[.string ⟨#[]⟩,.int .i64 0,.int .i64 0,.int .i64 0,.int .i64 0,.int .i64 0,.int .i64 0,.string ⟨#[]⟩]) 8 80 Tryz.underlying42 hi hz0 hz1 hz2 rfl (by decide) _ _ _ rfl (World.ownsRow.alloc hf1 _) ⟨x4.heap.size,0,none⟩ 1 1 (C3 ⟨NM,yy,mo,dd,hh,mi,ss,UT⟩) rfl rfl (gF x4 _ _) (FZ _) (ae hlen1).1.1 (ae hlen1).1.2 (aB hbs1 _) ?_;intro v5 x5 hown hgrow hnil;clear hnil;have R6:=af (Blk.grown (Blk.later (ae R5) ((Below.refl _ _).alloc (Nat.le_refl _) _) (ae R5).1) hgrow (fun e=>absurd (ae hap1 _ e.symm) (Nat.lt_irrefl _)));have rA:=(ae R6).cells (n:=7) rfl;have hh2:=qV hh1 hf1 (by decide) hgrow;have hb6:=aK (v:=u4) hgrow hf1 (Nat.le_refl _) hbs1 (ae HB5);have hbs2:=hb6.size)
       | (at_builtin;refine wpList_append_own _ rfl _ _ 89 rfl w.heap.size 91 j0 (.agg #[.int .i64 0,.int .i64 0,.int .i64 0,.int .i64 0,.int .i64 0,.string ⟨#[]⟩,.int .i64 0]) 7 64 Tryz.underlying89 hj hy0 hy1 hy2 rfl (by decide) _ _ _ rfl (World.ownsRow.alloc hh2 _) ⟨x5.heap.size,0,none⟩ 1 1 (wj ⟨HW,ST,CR,PK,LN,NM,q.2.2⟩) rfl rfl (gF x5 _ _) (F3 _) (ae hlen1).1.1 (ae hlen1).2 (aB hbs2 _) ?_;intro v6 x6 hown2 hgrow2 hnil;clear hnil;have R7:=af (Blk.grown (Blk.later (ae R6) ((Below.refl _ _).alloc (Nat.le_refl _) _) (ae R6).1) hgrow2 (fun e=>absurd (ae hap2 _ e.symm) (Nat.lt_irrefl _)));have rA:=(ae R7).cells (n:=7) rfl;have hf2:=qV hown hh2 (by decide) hgrow2;have hb7:=aK (v:=u5) hgrow2 hh2 (Nat.le_refl _) hbs2 hb6))
      refine(ae HPu _).mono ?_;rintro e x7 ⟨rfl,hb8⟩;have hq2:Cf x6 w.heap.size v5 (q.1++[⟨NM,yy,mo,dd,hh,mi,ss,UT⟩]):=be.snoc (ae HAt).1 hf2;have hq3:Mt x6 w.heap.size v6 (hqL s k++[qK s k]):=be.snoc (pY s k) (by rw[ae HQA];exact hown2);rw[←Gt]at hq3;have HF8:=af (hq2.later hb8 (Nat.le_refl _));have HH8:=af (hq3.later hb8 (Nat.le_refl _));have HB8:=af (aj hb7 hb8);clear hown hown2 hgrow hgrow2 hq2 hq3 hb8 hb7 hb6 hbs1 hbs2 hf1 hf2 hh1 hh2 rA R5 R6 R7 Q5 pA HF5 HH5 HB5;go_wp2;go_roundw
      case rel=>
       obtain⟨C,hz2,hb2⟩:=ae HNX;exact⟨k+1,_,hz2,hb2,by go_num,ae HF8,ae HH8,ae HB8⟩
      case measure=>simp[intOf];omega
     ·
      rw[show eo (cB q.1 ⟨NM,yy,mo,dd,hh,mi,ss,UT⟩) = .iface 124 (.agg #[.int .i64 (cB q.1 ⟨NM,yy,mo,dd,hh,mi,ss,UT⟩)]) by unfold eo;rw[if_neg hc0]];have HNone:Hid (eK s=none):=by
       obtain⟨T,hT,hE⟩:=ae HEX;exact Fz (ae HZ) (ae HZB) (ae HMk) hT (by rw[hE];exact hc0)
      have HC:=af hc0;clear hc0 HEX;generalize cB q.1 ⟨NM,yy,mo,dd,hh,mi,ss,UT⟩=c at *
      go_wp2
      go_ret2
      exact⟨yW (ae HNone) c (ae HC),ae HB5⟩
   ·
    have HNone:=af (vH (ae HZ) (ae HMk) (GP hd));obtain⟨o1,o2,o3,o4,o5,o6,o7⟩:=ho;have CEn:=af (fun W (hb:Below w.heap.size w W)=>pf a b c d f n t m W (by have:=ae HSS;omega) o1 o2 o3 o5 (by have:=ae HSS;omega) (ae CM _ hb) (ae HO _ hb));unfold enE at CEn;generalize enB a b c f n t=EB at *
    generalize uxT a t=UT at *
    generalize zz (gOk (b:Nat)) (gY (b:Nat))=yy at *
    generalize zz (gOk (b:Nat)) (gM (b:Nat))=mo at *
    generalize zz (gOk (b:Nat)) (gD (b:Nat))=dd at *
    generalize zz (gOk (b:Nat)) (gH (b:Nat))=hh at *
    generalize zz (gOk (b:Nat)) (gI (b:Nat))=mi at *
    generalize zz (gOk (b:Nat)) (gS (b:Nat))=ss at *
    have HB2:=af (aj (ae HB1) ((Below.refl x1.heap.size x1).alloc (Nat.le_refl _) (.cells #[.int .i64 (a:Nat),.int .i64 (b:Nat),.int .i64 (c:Nat),.int .i64 (d:Nat),.int .i64 (f:Nat),.string n,.string t] 60)));clear o1 o2 o3 o4 o5 o6 o7 HF1 HH1 hap1 hap2 hd HSS HAt HE;go_wp2_with fail;refine(ae CEn _ (ae HB2)).mono ?_;rintro e x2 ⟨rfl,hb2⟩;have HB3:=af (aj (ae HB2) hb2);clear hb2 HB2 CEn;cases EB
    ·
     rw[show(if false=true then Value.tuple #[.agg #[.string n,.int .i64 yy,.int .i64 mo,.int .i64 dd,.int .i64 hh,.int .i64 mi,.int .i64 ss,.string UT],.bool true]else .tuple #[noE,.bool false]) = .tuple #[.agg #[.string ⟨#[]⟩,.int .i64 0,.int .i64 0,.int .i64 0,.int .i64 0,.int .i64 0,.int .i64 0,.string ⟨#[]⟩],.bool false]from rfl];have HB4:=af (aj (ae HB3) ((Below.refl x2.heap.size x2).alloc (Nat.le_refl _) (.cells #[.string ⟨#[]⟩,.int .i64 0,.int .i64 0,.int .i64 0,.int .i64 0,.int .i64 0,.int .i64 0,.string ⟨#[]⟩] 51)));go_wp2
     go_ret2
     exact⟨yW (ae HNone) 1 (by decide),ae HB4⟩
    ·
     rw[show(if true=true then Value.tuple #[.agg #[.string n,.int .i64 yy,.int .i64 mo,.int .i64 dd,.int .i64 hh,.int .i64 mi,.int .i64 ss,.string UT],.bool true]else .tuple #[noE,.bool false]) = .tuple #[.agg #[.string n,.int .i64 yy,.int .i64 mo,.int .i64 dd,.int .i64 hh,.int .i64 mi,.int .i64 ss,.string UT],.bool true]from rfl];have HB4:=af (aj (ae HB3) ((Below.refl x2.heap.size x2).alloc (Nat.le_refl _) (.cells #[.string n,.int .i64 yy,.int .i64 mo,.int .i64 dd,.int .i64 hh,.int .i64 mi,.int .i64 ss,.string UT] 51)));go_wp2
     go_ret2
     exact⟨yW (ae HNone) 1 (by decide),ae HB4⟩
  ·
   rw[decide_eq_false hmk]at CX;have HSt:=af (E9 hz hzb hmk);obtain⟨ha,hc,hu5,_,_⟩:=hh.formN (pY s k);have HW:Hid (sA wr ha k fun i=>wj (qK s i)):=by
    rw[hu5]at hh;intro h0;obtain⟨g,e,hg,hc⟩:=rI F2 ⟨0,0,0,0,0,⟨#[]⟩,0⟩ (pY s k) hh h0;exact⟨g,e,hg,fun i hi j u hu=>hc i hi j u (by show(wj ((hqL s k).getD i _))[j]?=_;rw[Kc s k i _ hi];exact hu)⟩
   have CEnd:Hid (∀W,Below wr.heap.size wr W->Calls Tryz.prog 48 #[.slice ha k hc,.int .i64 (q.2.2:Nat)] W fun e w'=>e = .returned (.string (q.2.1++dY k q.2.1.size q.2.2))/\Below W.heap.size W w'):=fun W hb=>by
    have:=yS ha hc k q.2.2 (qK s) W ((ae HW).later hb) hk6 (Kb (ae HS) (ae HZ)) (by omega);rw[xi (ae HZ)]at this;exact this
   rw[←hu5]at CEnd;rw[←ae HE]at CX HSt;have q1:=fun d os=>Calls.regrown_of (w:=wr) (d:=d) (os:=os) (ae CEnd _ (below_regrown wr d os));have z1:((q.2.2:Nat):Int).toNat=q.2.2:=Int.toNat_natCast _;generalize q.2.1++dY k q.2.1.size q.2.2=EN at *
   obtain⟨X,hX⟩:∃x,s.extract q.2.2 s.size=x:=⟨_,rfl⟩;rw[hX]at CX HSt;obtain⟨B,hB⟩:∃b,(X.toList == EN.toList)=b:=⟨_,rfl⟩;have HB:=af hB;clear hf hh hbel hzat hz hzb hss hmk HH HW CEnd hu5 HZ HZB HAt HE;go_wp2_with fail;refine(ae CX _).mono ?_;rintro e x0 ⟨rfl,hx0⟩;subst hx0;clear CX;go_wp2_with fail;refine wp_region_quiet_below hmix (by kernel_rfl) ?_;cases B
   all_goals
    quiet_step (fail)
    quiet_step (fail)
    quiet_step (fail)
    quiet_step (fail)
    quiet_step (fail)
    quiet_step (exact q1 _ _)
    quiet_step (fail)
    refine wpQuiet_nil ?_;intro zw hw';obtain⟨⟨dq,osq⟩,hw2⟩:=hw';have HZ:=below_regrown x0 dq osq;rw[←hw2]at HZ;have T9:=af (aj (ae HBel) HZ);have O9:=af ((ae HF).later HZ (Nat.le_refl _));clear hw2 HZ q1
   ·
    have HN:Hid (eK s=none):=by show _=_;rw[ae HSt,if_neg (fun e=>by have:=(Fw (ae HB)).2 e;cases this)]
    go_wp2
    go_ret2
    exact⟨yW (ae HN) 1 (by decide),ae T9⟩
   ·
    have HY:Hid (eK s=some q.1):=by show _=_;rw[ae HSt,if_pos ((Fw (ae HB)).1 rfl)]
    go_wp2
    go_ret2
    exact⟨⟨_,0,rfl,fun _=>⟨_,ae HY,ae O9⟩,fun h=>absurd rfl h⟩,ae T9⟩
theorem pG.later{w W:World}(hg:pG w)(hb:Below w.heap.size w W):pG W:=(hb.cell (p:=⟨0,0,none⟩) (World.block_lt_of_cell? _ _ hg)).trans hg
theorem qQ(s:ByteArray)(m:Int)(w:World)(hs:s.size<=1048576)(hm:w.cell? ⟨2,0,none⟩=some (.int .i64 m))(hg:pG w)(hO:dk w) :
  Calls Tryz.prog 17 #[.string s] w fun e w'=>(∃v,e = .returned (.tuple #[v,.bool (eK s).isSome])/\Cf w' w.heap.size v ((eK s).getD []))/\Below w.heap.size w w':=by
 have C:=af (yV s m w hs hm hO);have HG:=af hg;clear hm hg hO hs;go_enter Tryz.func17,Tryz.ntmps17;go_wp2_with fail;refine(ae C).mono ?_;rintro e x1 ⟨⟨v,c,rfl,h0,h1⟩,hb1⟩;have HB1:=af hb1;have C2:=af (pD c x1 ((ae HG).later hb1));have H0:=af h0;have H1:=af h1;clear h0 h1 hb1 C HG;generalize eo c=FV at *
 go_wp2_with fail;refine(ae C2).mono ?_;rintro e x2 ⟨rfl,hb2⟩;have HB2:=af (aj (ae HB1) hb2);by_cases hc:c=0
 ·
  obtain⟨l,hl,hown⟩:=ae H0 hc;have HL:=af hl;have HO:=af (hown.later hb2 (Nat.le_refl _));subst hc;clear hl hown hb2 C2 H0 H1 HB1;go_wp2
  go_ret2
  exact⟨⟨_,by rw[ae HL];rfl,by rw[ae HL];exact ae HO⟩,ae HB2⟩
 ·
  have HL:=af (ae H1 hc);have hd:decide (c=0)=false:=decide_eq_false hc;clear hb2 C2 H0 H1 HB1;go_wp2
  go_ret2
  exact⟨⟨_,by rw[ae HL];rfl,by rw[ae HL];exact be.nil _ _⟩,ae HB2⟩
def goes(e f:En):Prop:=bE e.n.data.toList f.n.data.toList=false
end Go.Proofs.YtkpfkgoiaicgbaaGreatDoor
namespace Go.Proofs.YtkpfkgoiaicgbaaGreatDoor
open Corb
set_option maxRecDepth 100000
theorem Kr{e:En}(k:jN e=true)(r:ByteArray):gj (loE e++r)=some e.t/\enO (loE e++r) e.t=e/\(∀p,ctO (loE e++r) p=heE e p)/\nn (loE e++r)=(loE e).size:=by
 have k':j8 e.n e.y e.mo e.d e.h e.mi e.s e.t=true:=k;obtain⟨f1,f2,f3⟩:=cM k';obtain⟨g1,g2,g3,g4⟩:=nK f3;have e2:(((stN e.y e.mo e.d e.h e.mi e.s).toNat:Nat):Int)=stN e.y e.mo e.d e.h e.mi e.s:=by rw[←g4];simp[stI,f3]
 have hz:=(pj (n:=e.n) (t:=e.t) g3 (by omega) (by omega)).1;obtain⟨r0,r1,r2,r3,r4,r5,r6,r7,r8⟩:=xr (n:=e.n) (t:=e.t) g3 (by omega) (by omega) r;obtain⟨s0,s1,s2,s3,s4,s5⟩:=K7 f3;have el:loE e=cJ e.n e.t (stN e.y e.mo e.d e.h e.mi e.s).toNat:=rfl;rw[el];refine⟨?_,?_,fun p=>?_,?_⟩
 · unfold gj;rw[if_pos r0,r1,r8,Jj e.t f2];simp only;rw[if_pos];unfold JY Db;rw[r3,r5,r2,r7,e2,s0,s1,s2,s3,s4,s5,k'];simp
 · unfold enO;rw[r7,r2,e2,s0,s1,s2,s3,s4,s5]
 · unfold ctO heE eN;rw[r1,r2,r3,r4,r5,r7]
 · unfold nn;rw[r6,r4,hz]
theorem B9(a b:ByteArray):sub (a++b) a.size=b:=eg (by
 rw[yr];simp only[ByteArray.data_append,Array.toList_append];exact List.drop_left' (by simp))
theorem uu(l:List En)(k:Nat):∀j,k<=j->j<=l.length->∃x,(aH (l.take j)).1=(aH (l.take k)).1++x
 | 0,h,_=>by
  have:k=0:=by omega
  subst this;exact⟨⟨#[]⟩,eg (by simp)⟩
 | j+1,h,hj=>by
  by_cases e:k=j+1
  · subst e;exact⟨⟨#[]⟩,eg (by simp)⟩
  · obtain⟨x,hx⟩:=uu l k j (by omega) (by omega);refine⟨x++loE (l.getD j default),?_⟩;rw[gN l j (by omega)];show(aH (l.take j)).1++loE _=_;rw[hx,ByteArray.append_assoc]
theorem Jz{l:List En}(h:fq l=true){k:Nat}(hk:k<l.length):∃r,im l=(aH (l.take k)).1++(loE (l.getD k default)++r):=by
 obtain⟨x,hx⟩:=uu l (k+1) l.length (by omega) (Nat.le_refl _);rw[List.take_length,gN l k hk]at hx;have hx:(aH l).1=(aH (l.take k)).1++loE (l.getD k default)++x:=hx;refine⟨x++((aH l).2++dY l.length (aH l).2.size (aH l).1.size),?_⟩;unfold im;rw[if_pos h,ByteArray.append_assoc];generalize (aH l).2++dY l.length (aH l).2.size (aH l).1.size=T;rw[hx];simp only[ByteArray.append_assoc]
theorem yX{l:List En}(h:fq l=true):∀k,k<=l.length->zst (im l) k=some (l.take k,(aH (l.take k)).2,(aH (l.take k)).1.size)
 | 0,_=>rfl
 | k+1,hk=>by
  have ih:=yX h k (by omega);obtain⟨r,hr⟩:=Jz h (by omega:k<l.length);have hs:sub (im l) (aH (l.take k)).1.size=loE (l.getD k default)++r:=by rw[hr,B9]
  obtain⟨b1,b2,b3,b4⟩:=Kr ((jG h).1 k (by omega)) r;have:=Ce (T:=(l.getD k default).t) ih (by show gj (sub _ _)=_;rw[hs];exact b1);rw[this];simp only[hs,b2,b3,b4];rw[gN l k (by omega),ez l default k (by omega)];simp only[Ll,ByteArray.size_append]
theorem Jw{l:List En}(h:fq l=true):eK (im l)=some l:=by
 have hz:=yX h l.length (Nat.le_refl _);rw[List.take_length]at hz;refine yU hz h ?_;show sub (im l) (aH l).1.size=(aH l).2++dY l.length (aH l).2.size (aH l).1.size;unfold im;rw[if_pos h,ByteArray.append_assoc,B9]
theorem Jv{l:List En}(h:fq l=true):(im l).size=(aH l).1.size+(aH l).2.size+22:=by
 unfold im;rw[if_pos h,ByteArray.size_append,ByteArray.size_append,oe]
theorem AR(l:List En):(im l).size<=4000:=by
 by_cases h:fq l=true
 · rw[Jv h];obtain⟨h1,h2⟩:=jG h;have:=lK l h1 l.length (Nat.le_refl _);rw[List.take_length]at this;omega
 · unfold im;rw[if_neg h];exact Nat.zero_le _
end Go.Proofs.YtkpfkgoiaicgbaaGreatDoor
