/- Of what the proof is made: 11 texts, one behind the other. -/
import Derived.Test.YtkdlcomfpffhhaaGreatDoorM43
import Derived.Test.YtkdlcomfpffhhaaGreatDoorM42
import Derived.Test.YtkdlcomfpffhhaaGreatDoorM3
import Derived.Test.YtkdlcomfpffhhaaGreatDoorM27
import Derived.Test.YtkdlcomfpffhhaaGreatDoorM44
import Derived.Lib.QuietBelow
import Derived.Test.YtkdlcomfpffhhaaGreatDoorM19
import Derived.Deep.QuietTactic
import Derived.BigQuiet
import Derived.Test.YtkdlcomfpffhhaaGreatDoorM34
import Derived.Test.YtkdlcomfpffhhaaGreatDoorM30
import Derived.Test.YtkdlcomfpffhhaaGreatDoorM41
set_option linter.unusedSimpArgs false
set_option linter.unusedVariables false
set_option maxHeartbeats 12800000
namespace Go.Proofs.YtkdlcomfpffhhaaGreatDoor
open Corb
set_option maxRecDepth 100000
def sub(s:ByteArray)(p:Nat):ByteArray:=s.extract p s.size
theorem xW(s:ByteArray)(p:Nat):(sub s p).data.toList=s.data.toList.drop p:=by
 rw[sub,ext_list];exact a0s (by simp)
theorem nv(s:ByteArray)(p:Nat):(sub s p).size=s.size-p:=by
 rw[sub,a2Y];omega
def m8(s:ByteArray):Nat:=30+wd s.data.toList 26 2+wd s.data.toList 18 4
def enO(s T:ByteArray):En:=⟨nmB s,gY (wd s.data.toList 10 4:Nat),gM (wd s.data.toList 10 4:Nat),gD (wd s.data.toList 10 4:Nat),gH (wd s.data.toList 10 4:Nat),gI (wd s.data.toList 10 4:Nat),gS (wd s.data.toList 10 4:Nat),T⟩
def ctO(s:ByteArray)(p:Nat):ByteArray:=lK (wd s.data.toList 8 2) (wd s.data.toList 10 4) (wd s.data.toList 14 4) (wd s.data.toList 18 4) (wd s.data.toList 22 4) (nmB s) p
theorem m9{s T:ByteArray}(h:f9 s=some T):hdB s=true/\jI (enO s T)=true:=by
 unfold f9 at h
 split at h
 ·
  rename_i h0;refine⟨h0,?_⟩
  split at h
  ·
   split at h
   ·
    rename_i h2;cases h
    simp only[JJ,a0i]at h2;exact h2.2.2
   · cases h
  · cases h
 · cases h
def zst(s:ByteArray):Nat->Option (List En×ByteArray×Nat)
 | 0=>some ([],⟨#[]⟩,0)
 | i+1=>(zst s i).bind fun q=>(f9 (sub s q.2.2)).map fun T=>(q.1++[enO (sub s q.2.2) T],q.2.1++ctO (sub s q.2.2) q.2.2,q.2.2+m8 (sub s q.2.2))
theorem BS{s T:ByteArray}{i:Nat}{q:List En×ByteArray×Nat}(h:zst s i=some q)(hT:f9 (sub s q.2.2)=some T) :
  zst s (i+1)=some (q.1++[enO (sub s q.2.2) T],q.2.1++ctO (sub s q.2.2) q.2.2,q.2.2+m8 (sub s q.2.2)):=by
 rw[zst,h,a0g,hT,a3L]
theorem ii{s:ByteArray}{i:Nat}{q:List En×ByteArray×Nat}(h:zst s (i+1)=some q):∃r T,zst s i=some r/\f9 (sub s r.2.2)=some T/\q=(r.1++[enO (sub s r.2.2) T],r.2.1++ctO (sub s r.2.2) r.2.2,r.2.2+m8 (sub s r.2.2)):=by
 rw[zst]at h;rcases hr:zst s i with _|r
 · rw[hr]at h;cases h
 ·
  rw[hr,a0g]at h;rcases hT:f9 (sub s r.2.2)with _|T
  · rw[hT]at h;cases h
  ·
   rw[hT,a3L]at h;cases h
   exact⟨r,T,rfl,hT,rfl⟩
theorem Gx{s T:ByteArray}(h:f9 s=some T):m8 s<=s.size:=(uA.1 (m9 h).1).2.2
theorem jC{s:ByteArray} : ∀{i:Nat} {q:List En×ByteArray×Nat},zst s i=some q->q.1.length=i/\q.2.2<=s.size/\(∀e∈q.1,jI e=true)/\(q.2.1=⟨#[]⟩∨q.2.1.data.toList.take 4=[80,75,1,2])/\q.2.1.size<=100*i
 | 0,q,h=>by cases h;exact⟨rfl,a0h _,(fun e he=>by cases he),.inl rfl,a0h _⟩
 | i+1,q,h=>by
  obtain⟨r,T,h1,h2,rfl⟩:=ii h;obtain⟨a1,a2,a3,a4,a5⟩:=jC h1;have hf:=Gx h2;rw[nv]at hf;have hE:=(m9 h2).2;have hn:=(cK (n:=(enO (sub s r.2.2) T).n) (t:=(enO (sub s r.2.2) T).t) hE).1;have hc:(ctO (sub s r.2.2) r.2.2).size=46+(nmB (sub s r.2.2)).size:=ja _ _ _ _ _ _ _;have hn2:(nmB (sub s r.2.2)).size<=43:=hn;refine⟨by simp[a1],?_,?_,?_,?_⟩
  · show r.2.2+m8 (sub s r.2.2)<=s.size;omega
  ·
   intro e he;rcases a00.1 he with he|he
   · exact a3 e he
   · rw[a01.1 he];exact hE
  ·
   refine .inr ?_;show(r.2.1++ctO (sub s r.2.2) r.2.2).data.toList.take 4=_;have e0:(ctO (sub s r.2.2) r.2.2).data.toList.take 4=[80,75,1,2]:=by simp[ctO,lK]
   rcases a4 with e|e
   · rw[e];simpa using e0
   ·
    have:4<=r.2.1.data.toList.length:=by
     have:=congrArg List.length e;rw[a0t]at this;simp at this ⊢;omega
    simp only[a3Q,a1R];rw[a1p this];exact e
  · show(r.2.1++ctO (sub s r.2.2) r.2.2).size<=_;rw[a0D,hc];omega
theorem kP{s:ByteArray}{k:Nat} : ∀{m:Nat} {q:List En×ByteArray×Nat},zst s m=some q->k<=m->∃r,zst s k=some r/\r.1=q.1.take k
 | 0,q,h,hk=>by
  have:k=0:=by omega
  subst this;exact⟨q,h,by cases h;rfl⟩
 | m+1,q,h,hk=>by
  by_cases e:k=m+1
  · subst e;exact⟨q,h,by rw[a0s (by rw[(jC h).1];exact a0a _)]⟩
  · obtain⟨r,T,h1,h2,rfl⟩:=ii h;obtain⟨r',h3,h4⟩:=kP h1 (by omega:k<=m);refine⟨r',h3,?_⟩;rw[h4];show _=(r.1++_).take k;rw[a1p (by rw[(jC h1).1];omega)]
theorem oX{s T:ByteArray}(h:f9 s=some T):s.data.toList.take 4=[80,75,3,4]:=by
 obtain⟨h1,h2,_⟩:=uA.1 (m9 h).1;simp only[px,a0i,a0q]at h2;have h3:30<=s.data.toList.length:=by simpa using h1
 have:=(yu (l:=s.data.toList) (i:=0) (k:=4) (by omega) (by decide)).1 h2.1;rw[a2n]at this;rw[this];decide +kernel
theorem sP(k z p:Nat):(eo k z p).data.toList=[80,75,5,6]++(leS 2 0++(leS 2 0++(leS 2 k++(leS 2 k++(leS 4 z++(leS 4 p++leS 2 0)))))):=by
 simp[eo,aZ]
theorem Bu{c:ByteArray}(k z p:Nat)(hc:c=⟨#[]⟩∨c.data.toList.take 4=[80,75,1,2]):(c++eo k z p).data.toList.take 4≠[80,75,3,4]:=by
 simp only[a3Q,a1R];rcases hc with e|e
 · rw[e,sP];simp
 ·
  have:4<=c.data.toList.length:=by
   have:=congrArg List.length e;rw[a0t]at this;simp at this ⊢;omega
  rw[a1p this,e];decide
theorem FM{s c:ByteArray}{k z p q:Nat}(h:sub s p=c++eo k z q)(hk:k<65536):22<=s.size/\wd s.data.toList (s.size-12) 2=k:=by
 have h1:s.size-p=c.size+22:=by rw[←nv,h,a0D,nR]
 refine⟨by omega,?_⟩;have h2:s.data.toList=(s.data.toList.take p++(c.data.toList++([80,75,5,6]++(leS 2 0++(leS 2 0++leS 2 k)))))++(leS 2 k++(leS 4 z++(leS 4 q++leS 2 0))):=by
  have:s.data.toList.drop p=(c++eo k z q).data.toList:=by rw[←xW,h]
  conv=>lhs;rw[←a1C p s.data.toList,this]
  simp only[a3Q,a1R,sP,a0U]
 have h3:(s.data.toList.take p++(c.data.toList++([80,75,5,6]++(leS 2 0++(leS 2 0++leS 2 k))))).length=s.size-12:=by
  simp only[a0l,a0t,az];have e1:s.data.toList.length=s.size:=by simp
  have e2:c.data.toList.length=c.size:=by simp
  rw[e1,e2];simp;omega
 rw[h2];have:=Ax (b:=leS 2 k++(leS 4 z++(leS 4 q++leS 2 0))) (i:=0) 2 h3;rw[a1e]at this;rw[this];exact fo _ (by omega)
def eM(s:ByteArray):Option (List En):=
 if 12<=s.size/\wd s.data.toList (s.size-12) 2<=6 then
  (match zst s (wd s.data.toList (s.size-12) 2)with
  | some q=>if eK q.1=true/\sub s q.2.2=q.2.1++eo (wd s.data.toList (s.size-12) 2) q.2.1.size q.2.2 then some q.1 else none
  | none=>none)
 else none
theorem oD{s:ByteArray}{l:List En}(h:eM s=some l):∃m q,zst s m=some q/\l=q.1/\eK q.1=true/\sub s q.2.2=q.2.1++eo m q.2.1.size q.2.2:=by
 unfold eM at h
 split at h
 ·
  split at h
  ·
   rename_i q hq
   split at h
   ·
    rename_i h2;cases h
    exact⟨_,q,hq,rfl,h2.1,h2.2⟩
   · cases h
  · cases h
 · cases h
theorem yE{s:ByteArray}{m:Nat}{q:List En×ByteArray×Nat}(h:zst s m=some q)(hz:eK q.1=true)(he:sub s q.2.2=q.2.1++eo m q.2.1.size q.2.2):eM s=some q.1:=by
 have h6:=(jB hz).2;have hl:=(jC h).1;obtain⟨e1,e2⟩:=FM he (by omega);unfold eM;rw[a0d ⟨by omega,by omega⟩,e2,h];simp only;rw[a0d ⟨hz,he⟩]
theorem ud{s:ByteArray}{k m:Nat}{q r:List En×ByteArray×Nat}(hk:zst s k=some q)(hm:zst s m=some r)(he:sub s r.2.2=r.2.1++eo m r.2.1.size r.2.2):k<=m:=by
 rcases a1q m k with h|h
 ·
  exfalso;obtain⟨x,hx,_⟩:=kP hk (by omega:m+1<=k);obtain⟨y,T,h1,h2,_⟩:=ii hx;rw[hm]at h1;cases h1
  have:=oX h2;rw[he]at this;exact Bu _ _ _ (jC hm).2.2.2.1 this
 · exact h
theorem EQ{s:ByteArray}{k:Nat}{q:List En×ByteArray×Nat}(hk:zst s k=some q)(hz:eK q.1=true)(hn:(sub s q.2.2).data.toList.take 4≠[80,75,3,4]) :
  eM s=if sub s q.2.2=q.2.1++eo k q.2.1.size q.2.2 then some q.1 else none:=by
 split
 · rename_i he;exact yE hk hz he
 ·
  rename_i he;rcases h:eM s with _|l
  · rfl
  ·
   exfalso;obtain⟨m,r,h1,h2,h3,h4⟩:=oD h;have hle:=ud hk h1 h4;by_cases e:k=m
   ·
    subst e;rw[hk]at h1;cases h1
    exact he h4
   ·
    obtain⟨x,hx,_⟩:=kP h1 (by omega:k+1<=m);obtain⟨y,T,y1,y2,_⟩:=ii hx;rw[hk]at y1;cases y1
    exact hn (oX y2)
theorem yC{s:ByteArray}{k:Nat}{q:List En×ByteArray×Nat}(hk:zst s k=some q)(hm:(sub s q.2.2).data.toList.take 4=[80,75,3,4])(hT:∀T,f9 (sub s q.2.2)=some T->eK (q.1++[enO (sub s q.2.2) T])=false):eM s=none:=by
 rcases h:eM s with _|l
 · rfl
 ·
  exfalso;obtain⟨m,r,h1,h2,h3,h4⟩:=oD h;have hle:=ud hk h1 h4;by_cases e:k=m
  ·
   subst e;rw[hk]at h1;cases h1
   rw[h4]at hm;exact Bu _ _ _ (jC hk).2.2.2.1 hm
  ·
   obtain⟨x,hx,hx2⟩:=kP h1 (by omega:k+1<=m);obtain⟨y,T,y1,y2,y3⟩:=ii hx;rw[hk]at y1;cases y1
   have h5:=hT T y2;have h6:eK (r.1.take (k+1))=true:=by
    rw[oE]at h3 ⊢;intro i hi;have hi2:i<k+1/\i<r.1.length:=by rw[a0t]at hi;omega
    have:=h3 i hi2.2;unfold gi at this ⊢;rw[lB r.1 (k+1) i hi2.1,List.take_take,a16 (by omega)];exact this
   rw[←hx2,y3]at h6;rw[h6]at h5;cases h5
theorem yD{s:ByteArray}(h:¬ (12<=s.size/\wd s.data.toList (s.size-12) 2<=6)):eM s=none:=a0e h
end Go.Proofs.YtkdlcomfpffhhaaGreatDoor
namespace Go.Proofs.YtkdlcomfpffhhaaGreatDoor
open Go.RowKit Corb
set_option maxRecDepth 100000
theorem LU{x n t:ByteArray}{y mo d h mi c k:Int}(hv:zM x = .tuple #[.agg #[.string n,.int .i64 y,.int .i64 mo,.int .i64 d,.int .i64 h,.int .i64 mi,.int .i64 c,.string t],.int .i64 k,.bool true]) :
  ∃T,f9 x=some T/\enO x T=⟨n,y,mo,d,h,mi,c,t⟩/\k=((m8 x:Nat):Int):=by
 unfold zM at hv;rcases hG:f9 x with _|T
 · rw[hG]at hv;simp at hv
 ·
  rw[hG]at hv;simp only[Gv,Value.tuple.injEq,Array.mk.injEq,List.cons.injEq,Value.agg.injEq,Value.string.injEq,Value.int.injEq,a1v,a0V]at hv;obtain⟨⟨e0,e1,e2,e3,e4,e5,e6,e7⟩,e8⟩:=hv;refine⟨T,rfl,?_,?_⟩
  · unfold enO;rw[e0,e1,e2,e3,e4,e5,e6,e7]
  · rw[←e8];rfl
theorem MB{x:ByteArray}(hv:zM x = .tuple #[noE,.int .i64 0,.bool false]):f9 x=none:=by
 unfold zM at hv;rcases hG:f9 x with _|T
 · rfl
 · rw[hG]at hv;simp at hv
theorem ES{s:ByteArray}{k:Nat}{q:List En×ByteArray×Nat}(h:zst s k=some q):∀i,i<k->(q.1.getD i default).n.size<=1048576/\((q.1.getD i default).t.size:Int)<=9223372036854775807:=by
 intro i hi;obtain⟨h1,_,h3,_⟩:=jC h;have hm:q.1.getD i default∈q.1:=by
  rw[List.getD,List.getElem?_eq_getElem (by omega:i<q.1.length)];exact a1P _
 obtain⟨f1,f2,_⟩:=cK (n:=(q.1.getD i default).n) (t:=(q.1.getD i default).t) (h3 _ hm);exact⟨by omega,by omega⟩
theorem below_drewN{B:Nat}{a w:World}(h:Below B a w)(n:Nat):Below B a (w.drewN n):=⟨h.os,h.tape,h.output,h.size,h.block⟩
theorem Fb{a b:ByteArray}{c:Bool}(h:(a.toList == b.toList)=c):c=true<->a=b:=by
 rw[←h,a3o,er];exact⟨fun e=>eg e,fun e=>by rw[e]⟩
end Go.Proofs.YtkdlcomfpffhhaaGreatDoor
namespace Go.Proofs.YtkdlcomfpffhhaaGreatDoor
open Corb
set_option maxRecDepth 100000
def hqO(x:ByteArray)(p:Nat):Hq:=⟨wd x.data.toList 8 2,wd x.data.toList 10 4,wd x.data.toList 14 4,wd x.data.toList 18 4,wd x.data.toList 22 4,nmB x,p⟩
def qx(s:ByteArray)(k:Nat):Hq:=match zst s k with
 | some q=>hqO (sub s q.2.2) q.2.2
 | none=>hqO ⟨#[]⟩ 0
def hqL(s:ByteArray)(n:Nat):List Hq:=(List.range n).map (qx s)
theorem pJ(s:ByteArray)(n:Nat):(hqL s n).length=n:=by simp[hqL]
theorem Gc(s:ByteArray)(n:Nat):hqL s (n+1)=hqL s n++[qx s n]:=by simp[hqL,List.range_succ]
theorem JV(s:ByteArray)(n i:Nat)(d:Hq)(h:i<n):(hqL s n).getD i d=qx s i:=by simp[hqL,List.getD,h]
theorem uF{s:ByteArray}{k:Nat}{q:List En×ByteArray×Nat}(h:zst s k=some q):qx s k=hqO (sub s q.2.2) q.2.2:=by
 unfold qx;rw[h]
theorem wS{s:ByteArray} : ∀{k:Nat} {q:List En×ByteArray×Nat},zst s k=some q->dK (qx s) k=q.2.1
 | 0,q,h=>by cases h;rfl
 | k+1,q,h=>by
  obtain⟨r,T,h1,h2,rfl⟩:=ii h;rw[dK,wS h1,uF h1];rfl
theorem JU{s:ByteArray}(hs:s.size<=1048576){k:Nat}{q:List En×ByteArray×Nat}(h:zst s k=some q):∀i,i<k->okQ (qx s i):=by
 intro i hi;obtain⟨x,hx,_⟩:=kP h (by omega:i+1<=k);obtain⟨r,T,h1,h2,_⟩:=ii hx;rw[uF h1];have hE:=(m9 h2).2;have hn:=(cK (n:=(enO (sub s r.2.2) T).n) (t:=(enO (sub s r.2.2) T).t) hE).1;have hn2:(nmB (sub s r.2.2)).size<=43:=hn;have hp:=(jC h1).2.1;exact⟨kO _ _,ec _ _,ec _ _,ec _ _,ec _ _,by show(nmB (sub s r.2.2)).size<=54;omega,by show r.2.2<4294967296;omega⟩
theorem Cl(l:List En)(e:En)(i:Nat)(hi:i<l.length):gi (l++[e]) i=gi l i:=by
 unfold gi;rw[a1p (by omega)]
 congr 1
 simp only[List.getD];rw[List.getElem?_append_left hi]
theorem sK(l:List En)(e:En):gi (l++[e]) l.length=cA l e:=by
 unfold gi;rw[a1p (a0a _),a0s (a0a _)]
 congr 1
 simp[List.getD]
theorem tZ{l:List En}(h:eK l=true)(e:En):eK (l++[e])=true<->cA l e=0:=by
 rw[oE]at h ⊢;constructor
 · intro k;have:=k l.length (by simp);rw[sK]at this;exact this
 ·
  intro k i hi;by_cases hl:i<l.length
  · rw[Cl l e i hl];exact h i hl
  ·
   have:i=l.length:=by simp at hi;omega
   rw[this,sK];exact k
theorem GK(s:ByteArray):Lib.hasPrefix s.data.toList [80,75,3,4]=decide (s.data.toList.take 4=[80,75,3,4]):=by
 rw[a2g,a0q];unfold Lib.hasPrefix;rw[a3t,List.prefix_iff_eq_take];exact eq_comm
end Go.Proofs.YtkdlcomfpffhhaaGreatDoor
namespace Go.Proofs.YtkdlcomfpffhhaaGreatDoor
open Go.RowKit Corb
set_option maxRecDepth 100000
abbrev Mg:=aY (α:=Hq) 95 7 vT
theorem qH{w w':World}{o:Obj}{b1 b2 e1 e2 s1 s2 n1 n2:Nat}{v1 v2:Value}{x1 x2:List Value}(h1:w.ownsRow b1 e1 s1 v1 n1 x1)(h2:w.ownsRow b2 e2 s2 v2 n2 x2)(he:e1≠e2)(hg:(w.alloc o).grownBy w' v2.ownBlock):w'.ownsRow b1 e1 s1 v1 n1 x1:=
 a1I (a0n h1 o) hg (rS (a0n h1 o) (a0n h2 o) he)
theorem K8:eK []=true:=by decide
theorem Gy{x:ByteArray}(h:hdB x=false):f9 x=none:=by
 unfold f9;rw[a0e (by rw[h];decide)]
theorem vu{s:ByteArray}{k:Nat}{q:List En×ByteArray×Nat}(hk:zst s k=some q)(hm:(sub s q.2.2).data.toList.take 4=[80,75,3,4])(hT:f9 (sub s q.2.2)=none):eM s=none:=
 yC hk hm (fun T h=>by rw[hT]at h;cases h)
theorem Ff{s:ByteArray}{k:Nat}{q:List En×ByteArray×Nat}(hk:zst s k=some q)(hz:eK q.1=true)(hm:(sub s q.2.2).data.toList.take 4=[80,75,3,4]){T:ByteArray}(hT:f9 (sub s q.2.2)=some T)(hr:cA q.1 (enO (sub s q.2.2) T)≠0):eM s=none:=
 yC hk hm (fun T' h=>by
  rw[hT]at h;cases h
  cases hb:eK (q.1++[enO (sub s q.2.2) T])
  · rfl
  · exact absurd ((tZ hz _).1 hb) hr)
def ZrP(s:ByteArray)(w:World)(e:Ending)(w':World):Prop:=∃v c,e = .returned (.tuple #[v,eq c])/\(c=0->∃l,eM s=some l/\BU w' w.heap.size v l)/\(c≠0->eM s=none)
theorem yH{s:ByteArray}{w w':World}(h:eM s=none)(c:Int)(hc:c≠0):ZrP s w (.returned (.tuple #[.slice none 0 0,.iface 121 (.agg #[.int .i64 c])])) w':=
 ⟨.slice none 0 0,c,by unfold eq;rw[a0e hc],fun h0=>absurd h0 hc,fun _=>h⟩
theorem yG(s:ByteArray)(m:Int)(w:World)(hs:s.size<=1048576)(hm:w.cell? ⟨2,0,none⟩=some (.int .i64 m))(hO:dk w) :
  Calls Tryz.prog 46 #[.string s] w fun e w'=>ZrP s w e w'/\Below w.heap.size w w':=by
 have hmix:Tryz.prog.follows .mixedOrders=true:=by kernel_rfl
 have hsI:(s.size:Int)<=1048576:=by omega
 have HS:=af hs;have HM:=af hm;have hmb:=af (World.block_lt_of_cell? _ _ hm);have CM:=af (fun W (hb:Below w.heap.size w W)=>(hb.cell (p:=⟨2,0,none⟩) (ae hmb)).trans (ae HM));have HO:=af (fun W (hb:Below w.heap.size w W)=>hO.later hb);obtain⟨i0,hi,hz0,hz1,hz2⟩:=a0z Tryz.infoEnt;obtain⟨j0,hj,hy0,hy1,hy2⟩:=a0z Tryz.infoHd;clear hs hm hO;go_enter Tryz.func46,Tryz.ntmps46;go_wp2_with fail
 go_loopw [4,5,6,7,8,9,10,11] (fun f h p _ _ _ _ _ wr=>∃(k:Nat) (q:List En×ByteArray×Nat),zst s k=some q/\eK q.1=true/\p = .int .i64 (q.2.2:Nat)/\BU wr w.heap.size f q.1/\Mg wr w.heap.size h (hqL s k)/\Below w.heap.size w wr) (fun _ _ p _ _ _ _ _ _=>s.size-(intOf p).toNat)
 case atStart=>exact⟨0,([],⟨#[]⟩,0),rfl,K8,rfl,aY.nil _ _,aY.nil _ _,a0c _ _⟩
 case round=>
  obtain⟨k,q,hz,hzb,rfl,hf,hh,hbel⟩:=hrel;have hzat:=jC hz;have hk6:k<=6:=by have:=(jB hzb).2;omega
  have hpI:(q.2.2:Int)<=(s.size:Int):=by have:=hzat.2.1;omega
  have CX:Hid (∀W,Calls Tryz.prog 77 #[.string (sub s q.2.2),.string ⟨#[80,75,3,4]⟩] W fun e w'=>e = .returned (.bool (decide ((sub s q.2.2).data.toList.take 4=[80,75,3,4])))/\w'=W):=fun W=>by
   have h:=Tryz.strings_HasPrefix (sub s q.2.2) (⟨#[80,75,3,4]⟩:ByteArray) W;rw[←GK];exact h
  have HE:Hid (s.extract q.2.2 s.size=sub s q.2.2):=rfl;have HZ:=af hz;have HZB:=af hzb;have HF:=af hf;have HH:=af hh;have HBel:=af hbel;have HAt:=af hzat
  have hss:(sub s q.2.2).size<=1048576:=by rw[nv];have:=ae HS;omega
  by_cases hmk:(sub s q.2.2).data.toList.take 4=[80,75,3,4]
  ·
   have HMk:=af hmk;rw[a0G hmk]at CX;have CH:=af (fun W=>ol (sub s q.2.2) W hss);have HSS:=af hss;clear hmk hf hh hbel hzat hz hzb hss;go_wp2_with fail;refine(ae CX _).mono ?_;rintro e x0 ⟨rfl,hx0⟩;subst hx0;clear CX;go_wp2_with fail;refine(ae CH _).mono ?_;rintro e x1 ⟨hp,hb1⟩;have HB1:=af (aj (ae HBel) hb1);have HF1:=af ((ae HF).later hb1 (a0a _));have HH1:=af ((ae HH).later hb1 (a0a _));have hap1:Hid (∀j,Value.ownBlock u4=some j->j<x1.heap.size):=fun j hj=>(a0y (ae HF1) j hj).2;have hap2:Hid (∀j,Value.ownBlock u5=some j->j<x1.heap.size):=fun j hj=>(a0y (ae HH1) j hj).2;clear hb1 CH HF HH HBel;rcases hp with⟨hd,rfl⟩|⟨hd,a,b,c,d,f,n,t,ho,rfl⟩
   ·
    obtain⟨h30,hfx,hto⟩:=uA.1 hd;have hnm:=xj (s:=sub s q.2.2) (by omega);have hbd:=Fh (s:=sub s q.2.2) hto;have l1:=kO (sub s q.2.2).data.toList 8;have l2:=ec (sub s q.2.2).data.toList 10;have l3:=ec (sub s q.2.2).data.toList 14;have l4:=ec (sub s q.2.2).data.toList 18;have l5:=ec (sub s q.2.2).data.toList 22;have l6:=kO (sub s q.2.2).data.toList 26;have HSz:=ae HSS;have CEn:=af (fun W (hb:Below w.heap.size w W)=>oT (wd (sub s q.2.2).data.toList 8 2) (wd (sub s q.2.2).data.toList 10 4) (wd (sub s q.2.2).data.toList 14 4) (wd (sub s q.2.2).data.toList 18 4) (wd (sub s q.2.2).data.toList 22 4) (nmB (sub s q.2.2)) (bdB (sub s q.2.2)) m W (by omega) l1 l2 l3 l5 (by omega) (ae CM _ hb) (ae HO _ hb));have CPu:=af (fun(hen:enB (wd (sub s q.2.2).data.toList 8 2) (wd (sub s q.2.2).data.toList 10 4) (wd (sub s q.2.2).data.toList 14 4) (wd (sub s q.2.2).data.toList 22 4) (nmB (sub s q.2.2)) (bdB (sub s q.2.2))=true) W=>oM (wd (sub s q.2.2).data.toList 8 2) (wd (sub s q.2.2).data.toList 10 4) (wd (sub s q.2.2).data.toList 14 4) (wd (sub s q.2.2).data.toList 18 4) (wd (sub s q.2.2).data.toList 22 4) (nmB (sub s q.2.2)) (bdB (sub s q.2.2)) W l1 l2 l3 l4 l5 (by omega) (by have:=FG hen;omega));have hps:(bJ (wd (sub s q.2.2).data.toList 8 2) (wd (sub s q.2.2).data.toList 10 4) (wd (sub s q.2.2).data.toList 14 4) (wd (sub s q.2.2).data.toList 18 4) (wd (sub s q.2.2).data.toList 22 4) (nmB (sub s q.2.2))++bdB (sub s q.2.2)).size=m8 (sub s q.2.2):=by
     unfold bJ m8;rw[a0D,a0D,a0D,fK,hnm,hbd];show 4+26+_+_=_;omega
    have hLN:m8 (sub s q.2.2)<=(sub s q.2.2).size/\30<=m8 (sub s q.2.2):=⟨hto,by unfold m8;omega⟩;have HY:Hid (enB (wd (sub s q.2.2).data.toList 8 2) (wd (sub s q.2.2).data.toList 10 4) (wd (sub s q.2.2).data.toList 14 4) (wd (sub s q.2.2).data.toList 22 4) (nmB (sub s q.2.2)) (bdB (sub s q.2.2))=true->∃T,f9 (sub s q.2.2)=some T/\enO (sub s q.2.2) T=⟨nmB (sub s q.2.2),zz (gOk (wd (sub s q.2.2).data.toList 10 4:Nat)) (gY (wd (sub s q.2.2).data.toList 10 4:Nat)),zz (gOk (wd (sub s q.2.2).data.toList 10 4:Nat)) (gM (wd (sub s q.2.2).data.toList 10 4:Nat)),zz (gOk (wd (sub s q.2.2).data.toList 10 4:Nat)) (gD (wd (sub s q.2.2).data.toList 10 4:Nat)),zz (gOk (wd (sub s q.2.2).data.toList 10 4:Nat)) (gH (wd (sub s q.2.2).data.toList 10 4:Nat)),zz (gOk (wd (sub s q.2.2).data.toList 10 4:Nat)) (gI (wd (sub s q.2.2).data.toList 10 4:Nat)),zz (gOk (wd (sub s q.2.2).data.toList 10 4:Nat)) (gS (wd (sub s q.2.2).data.toList 10 4:Nat)),uxT (wd (sub s q.2.2).data.toList 8 2) (bdB (sub s q.2.2))⟩):=fun h=>by
     have:=Gw hd;rw[a0d h]at this;obtain⟨T,a,b,_⟩:=LU this;exact⟨T,a,b⟩
    have HN:Hid (enB (wd (sub s q.2.2).data.toList 8 2) (wd (sub s q.2.2).data.toList 10 4) (wd (sub s q.2.2).data.toList 14 4) (wd (sub s q.2.2).data.toList 22 4) (nmB (sub s q.2.2)) (bdB (sub s q.2.2))=false->f9 (sub s q.2.2)=none):=fun h=>by
     have:=Gw hd;rw[a0e (by rw[h];decide)]at this;exact MB this
    have HQA:Hid (qx s k=⟨wd (sub s q.2.2).data.toList 8 2,wd (sub s q.2.2).data.toList 10 4,wd (sub s q.2.2).data.toList 14 4,wd (sub s q.2.2).data.toList 18 4,wd (sub s q.2.2).data.toList 22 4,nmB (sub s q.2.2),q.2.2⟩):=uF (ae HZ);have hNs:(nmB (sub s q.2.2)).size<=1048576:=by omega
    have hUs:(uxT (wd (sub s q.2.2).data.toList 8 2) (bdB (sub s q.2.2))).size<=1048576:=yr (by omega);have hss2:(sub s q.2.2).size=s.size-q.2.2:=nv _ _;unfold enE at CEn;generalize bJ (wd (sub s q.2.2).data.toList 8 2) (wd (sub s q.2.2).data.toList 10 4) (wd (sub s q.2.2).data.toList 14 4) (wd (sub s q.2.2).data.toList 18 4) (wd (sub s q.2.2).data.toList 22 4) (nmB (sub s q.2.2))++bdB (sub s q.2.2)=PB at *
    generalize enB (wd (sub s q.2.2).data.toList 8 2) (wd (sub s q.2.2).data.toList 10 4) (wd (sub s q.2.2).data.toList 14 4) (wd (sub s q.2.2).data.toList 22 4) (nmB (sub s q.2.2)) (bdB (sub s q.2.2))=EB at *
    generalize uxT (wd (sub s q.2.2).data.toList 8 2) (bdB (sub s q.2.2))=UT at *
    generalize zz (gOk (wd (sub s q.2.2).data.toList 10 4:Nat)) (gY (wd (sub s q.2.2).data.toList 10 4:Nat))=yy at *
    generalize zz (gOk (wd (sub s q.2.2).data.toList 10 4:Nat)) (gM (wd (sub s q.2.2).data.toList 10 4:Nat))=mo at *
    generalize zz (gOk (wd (sub s q.2.2).data.toList 10 4:Nat)) (gD (wd (sub s q.2.2).data.toList 10 4:Nat))=dd at *
    generalize zz (gOk (wd (sub s q.2.2).data.toList 10 4:Nat)) (gH (wd (sub s q.2.2).data.toList 10 4:Nat))=hh at *
    generalize zz (gOk (wd (sub s q.2.2).data.toList 10 4:Nat)) (gI (wd (sub s q.2.2).data.toList 10 4:Nat))=mi at *
    generalize zz (gOk (wd (sub s q.2.2).data.toList 10 4:Nat)) (gS (wd (sub s q.2.2).data.toList 10 4:Nat))=ss at *
    generalize bdB (sub s q.2.2)=BD at *
    generalize nmB (sub s q.2.2)=NM at *
    generalize wd (sub s q.2.2).data.toList 8 2=HW at *
    generalize wd (sub s q.2.2).data.toList 10 4=ST at *
    generalize wd (sub s q.2.2).data.toList 14 4=CR at *
    generalize wd (sub s q.2.2).data.toList 18 4=PK at *
    generalize wd (sub s q.2.2).data.toList 22 4=LN at *
    generalize wd (sub s q.2.2).data.toList 26 2=NL at *
    obtain⟨LO,hLO⟩:∃x,m8 (sub s q.2.2)=x:=⟨_,rfl⟩;rw[hLO]at hps hLN;have hpJ:(q.2.2:Int)+(PB.size:Int)<=(s.size:Int):=by omega
    have hp30:30<=(PB.size:Int):=by omega
    have HLO:=af (hLO.trans hps.symm);clear hd h30 hfx hto hnm hbd l1 l2 l3 l4 l5 l6 HSz hps hLN hLO hss2;have HB2:=af ((a0c x1.heap.size x1).alloc (a0a _) (.cells #[.int .i64 (HW:Nat),.int .i64 (ST:Nat),.int .i64 (CR:Nat),.int .i64 (PK:Nat),.int .i64 (LN:Nat),.string NM,.string BD] 63));have R2:=af (aR x1 #[.int .i64 (HW:Nat),.int .i64 (ST:Nat),.int .i64 (CR:Nat),.int .i64 (PK:Nat),.int .i64 (LN:Nat),.string NM,.string BD] 63);go_wp2_with fail;refine(ae CEn _ (aj (ae HB1) (ae HB2))).mono ?_;rintro e x2 ⟨rfl,hb2⟩;have hb12:=aj (ae HB2) hb2;have HB3:=af (aj (ae HB1) hb12);have HF3:=af ((ae HF1).later hb12 (a0a _));have HH3:=af ((ae HH1).later hb12 (a0a _));have R3:=af ((ae R2).later hb2 (ae R2).1);obtain⟨HB,hHB⟩:∃x,x1.heap.size=x:=⟨_,rfl⟩;rw[hHB]at R3 hap1 hap2;rw[hHB];clear hb2 hb12 HB2 R2 hHB CEn HB1 HF1 HH1;cases EB
    ·
     have HNone:=af (vu (ae HZ) (ae HMk) (ae HN rfl));rw[show(if false=true then Value.tuple #[.agg #[.string NM,.int .i64 yy,.int .i64 mo,.int .i64 dd,.int .i64 hh,.int .i64 mi,.int .i64 ss,.string UT],.bool true]else .tuple #[noE,.bool false]) = .tuple #[.agg #[.string ⟨#[]⟩,.int .i64 0,.int .i64 0,.int .i64 0,.int .i64 0,.int .i64 0,.int .i64 0,.string ⟨#[]⟩],.bool false]from rfl];have HB4:=af (aj (ae HB3) ((a0c x2.heap.size x2).alloc (a0a _) (.cells #[.string ⟨#[]⟩,.int .i64 0,.int .i64 0,.int .i64 0,.int .i64 0,.int .i64 0,.int .i64 0,.string ⟨#[]⟩] 32)));go_wp2
     go_ret2
     exact⟨yH (ae HNone) 1 (by decide),ae HB4⟩
    ·
     rw[show(if true=true then Value.tuple #[.agg #[.string NM,.int .i64 yy,.int .i64 mo,.int .i64 dd,.int .i64 hh,.int .i64 mi,.int .i64 ss,.string UT],.bool true]else .tuple #[noE,.bool false]) = .tuple #[.agg #[.string NM,.int .i64 yy,.int .i64 mo,.int .i64 dd,.int .i64 hh,.int .i64 mi,.int .i64 ss,.string UT],.bool true]from rfl];have HEX:Hid (∃T,f9 (sub s q.2.2)=some T/\enO (sub s q.2.2) T=⟨NM,yy,mo,dd,hh,mi,ss,UT⟩):=ae HY rfl;have HPu:Hid (∀W,_):=ae CPu rfl;have hA:=(a0c x2.heap.size x2).alloc (a0a _) (.cells #[.string NM,.int .i64 yy,.int .i64 mo,.int .i64 dd,.int .i64 hh,.int .i64 mi,.int .i64 ss,.string UT] 32);have HB4:=af (aj (ae HB3) hA);have HF4:=af ((ae HF3).later hA (a0a _));have HH4:=af ((ae HH3).later hA (a0a _));have R4:=af ((ae R3).later hA (ae R3).1);have Q4:=af (aR x2 #[.string NM,.int .i64 yy,.int .i64 mo,.int .i64 dd,.int .i64 hh,.int .i64 mi,.int .i64 ss,.string UT] 32);obtain⟨fa,fc,hu4,_,_⟩:=(ae HF4).formN (ae HAt).1;have hQB:HB<x2.heap.size:=(ae R3).1;have CRo:=af (pp fa fc q.1 k (ae HAt).1 ⟨NM,yy,mo,dd,hh,mi,ss,UT⟩ m _ (vU (ae HAt).1 (by have:=ae HF4;rw[hu4]at this;exact this)) (by omega) (fun i hi=>by have:=(ES (ae HZ) i hi).1;omega) hNs (by show(UT.size:Int)<=_;omega) (ae CM _ (ae HB4)));rw[←hu4]at CRo;clear hA HY HN CPu HF3 HH3 R3 hu4 HB3 hNs hUs;go_wp2_with fail;refine(ae CRo).mono ?_;rintro e x4 ⟨rfl,hb4⟩;have HB5:=af (aj (ae HB4) hb4);have HF5:=af ((ae HF4).later hb4 (a0a _));have HH5:=af ((ae HH4).later hb4 (a0a _));have R5:=af ((ae R4).later hb4 (ae R4).1);have Q5:=af ((ae Q4).later hb4 (ae Q4).1);obtain⟨QB,hQBe⟩:∃x,x2.heap.size=x:=⟨_,rfl⟩;rw[hQBe]at Q5 hQB;rw[hQBe];clear hb4 HB4 HF4 HH4 R4 Q4 CRo hQBe;by_cases hc0:cA q.1 ⟨NM,yy,mo,dd,hh,mi,ss,UT⟩=0
     ·
      rw[show eq (cA q.1 ⟨NM,yy,mo,dd,hh,mi,ss,UT⟩) = .nilIface by rw[hc0];rfl];have HNX:Hid (∃T,zst s (k+1)=some (q.1++[⟨NM,yy,mo,dd,hh,mi,ss,UT⟩],T,q.2.2+PB.size)/\eK (q.1++[⟨NM,yy,mo,dd,hh,mi,ss,UT⟩])=true):=by
       obtain⟨T,hT,hE⟩:=ae HEX;have h2:=BS (ae HZ) hT;rw[hE,ae HLO]at h2;exact⟨_,h2,(tZ (ae HZB) _).2 hc0⟩
      have hlen1:Hid ((k+1<=maxLen/\(k+1)*80<=140737488355328)/\(k+1)*64<=140737488355328):=by
       show(_/\_)/\_;unfold maxLen;omega
      have hf1:=aY.own (ae HAt).1 (ae HF5);have hh1:=aY.own (pJ s k) (ae HH5);have hbs1:=(ae HB5).size;have pA:=(ae Q5).cells (n:=8) rfl;clear hc0 HEX HMk HSS HE;go_wp2_with (first
       | (at_builtin;refine a0H _ rfl _ _ 33 rfl w.heap.size 32 i0 (.agg #[.string ⟨#[]⟩,.int .i64 0,.int .i64 0,.int .i64 0,.int .i64 0,.int .i64 0,.int .i64 0,.string ⟨#[]⟩]) 8 80 Tryz.underlying33 hi hz0 hz1 hz2 rfl (by decide) _ _ _ rfl (a0n hf1 _) ⟨x4.heap.size,0,none⟩ 1 1 (ut ⟨NM,yy,mo,dd,hh,mi,ss,UT⟩) rfl rfl (gE x4 _ _) (FI _) (ae hlen1).1.1 (ae hlen1).1.2 (aB hbs1 _) ?_;intro v5 x5 hown hgrow hnil;clear hnil;have R6:=af (Blk.grown (Blk.later (ae R5) ((a0c _ _).alloc (a0a _) _) (ae R5).1) hgrow (fun e=>absurd (ae hap1 _ e.symm) (a2O _)));have rA:=(ae R6).cells (n:=7) rfl;have hh2:=qH hh1 hf1 (by decide) hgrow;have hb6:=aJ (v:=u4) hgrow hf1 (a0a _) hbs1 (ae HB5);have hbs2:=hb6.size)
       | (at_builtin;refine a0H _ rfl _ _ 93 rfl w.heap.size 95 j0 (.agg #[.int .i64 0,.int .i64 0,.int .i64 0,.int .i64 0,.int .i64 0,.string ⟨#[]⟩,.int .i64 0]) 7 64 Tryz.underlying93 hj hy0 hy1 hy2 rfl (by decide) _ _ _ rfl (a0n hh2 _) ⟨x5.heap.size,0,none⟩ 1 1 (vT ⟨HW,ST,CR,PK,LN,NM,q.2.2⟩) rfl rfl (gE x5 _ _) (FK _) (ae hlen1).1.1 (ae hlen1).2 (aB hbs2 _) ?_;intro v6 x6 hown2 hgrow2 hnil;clear hnil;have R7:=af (Blk.grown (Blk.later (ae R6) ((a0c _ _).alloc (a0a _) _) (ae R6).1) hgrow2 (fun e=>absurd (ae hap2 _ e.symm) (a2O _)));have rA:=(ae R7).cells (n:=7) rfl;have hf2:=qH hown hh2 (by decide) hgrow2;have hb7:=aJ (v:=u5) hgrow2 hh2 (a0a _) hbs2 hb6))
      refine(ae HPu _).mono ?_;rintro e x7 ⟨rfl,hb8⟩;have hq2:BU x6 w.heap.size v5 (q.1++[⟨NM,yy,mo,dd,hh,mi,ss,UT⟩]):=aY.snoc (ae HAt).1 hf2;have hq3:Mg x6 w.heap.size v6 (hqL s k++[qx s k]):=aY.snoc (pJ s k) (by rw[ae HQA];exact hown2);rw[←Gc]at hq3;have HF8:=af (hq2.later hb8 (a0a _));have HH8:=af (hq3.later hb8 (a0a _));have HB8:=af (aj hb7 hb8);clear hown hown2 hgrow hgrow2 hq2 hq3 hb8 hb7 hb6 hbs1 hbs2 hf1 hf2 hh1 hh2 rA R5 R6 R7 Q5 pA HF5 HH5 HB5;go_wp2;go_roundw
      case rel=>
       obtain⟨C,hz2,hb2⟩:=ae HNX;exact⟨k+1,_,hz2,hb2,by go_num,ae HF8,ae HH8,ae HB8⟩
      case measure=>simp[intOf];omega
     ·
      rw[show eq (cA q.1 ⟨NM,yy,mo,dd,hh,mi,ss,UT⟩) = .iface 121 (.agg #[.int .i64 (cA q.1 ⟨NM,yy,mo,dd,hh,mi,ss,UT⟩)]) by unfold eq;rw[a0e hc0]];have HNone:Hid (eM s=none):=by
       obtain⟨T,hT,hE⟩:=ae HEX;exact Ff (ae HZ) (ae HZB) (ae HMk) hT (by rw[hE];exact hc0)
      have HC:=af hc0;clear hc0 HEX;generalize cA q.1 ⟨NM,yy,mo,dd,hh,mi,ss,UT⟩=c at *
      go_wp2
      go_ret2
      exact⟨yH (ae HNone) c (ae HC),ae HB5⟩
   ·
    have HNone:=af (vu (ae HZ) (ae HMk) (Gy hd));obtain⟨o1,o2,o3,o4,o5,o6,o7⟩:=ho;have CEn:=af (fun W (hb:Below w.heap.size w W)=>oT a b c d f n t m W (by have:=ae HSS;omega) o1 o2 o3 o5 (by have:=ae HSS;omega) (ae CM _ hb) (ae HO _ hb));unfold enE at CEn;generalize enB a b c f n t=EB at *
    generalize uxT a t=UT at *
    generalize zz (gOk (b:Nat)) (gY (b:Nat))=yy at *
    generalize zz (gOk (b:Nat)) (gM (b:Nat))=mo at *
    generalize zz (gOk (b:Nat)) (gD (b:Nat))=dd at *
    generalize zz (gOk (b:Nat)) (gH (b:Nat))=hh at *
    generalize zz (gOk (b:Nat)) (gI (b:Nat))=mi at *
    generalize zz (gOk (b:Nat)) (gS (b:Nat))=ss at *
    have HB2:=af (aj (ae HB1) ((a0c x1.heap.size x1).alloc (a0a _) (.cells #[.int .i64 (a:Nat),.int .i64 (b:Nat),.int .i64 (c:Nat),.int .i64 (d:Nat),.int .i64 (f:Nat),.string n,.string t] 63)));clear o1 o2 o3 o4 o5 o6 o7 HF1 HH1 hap1 hap2 hd HSS HAt HE;go_wp2_with fail;refine(ae CEn _ (ae HB2)).mono ?_;rintro e x2 ⟨rfl,hb2⟩;have HB3:=af (aj (ae HB2) hb2);clear hb2 HB2 CEn;cases EB
    ·
     rw[show(if false=true then Value.tuple #[.agg #[.string n,.int .i64 yy,.int .i64 mo,.int .i64 dd,.int .i64 hh,.int .i64 mi,.int .i64 ss,.string UT],.bool true]else .tuple #[noE,.bool false]) = .tuple #[.agg #[.string ⟨#[]⟩,.int .i64 0,.int .i64 0,.int .i64 0,.int .i64 0,.int .i64 0,.int .i64 0,.string ⟨#[]⟩],.bool false]from rfl];have HB4:=af (aj (ae HB3) ((a0c x2.heap.size x2).alloc (a0a _) (.cells #[.string ⟨#[]⟩,.int .i64 0,.int .i64 0,.int .i64 0,.int .i64 0,.int .i64 0,.int .i64 0,.string ⟨#[]⟩] 32)));go_wp2
     go_ret2
     exact⟨yH (ae HNone) 1 (by decide),ae HB4⟩
    ·
     rw[show(if true=true then Value.tuple #[.agg #[.string n,.int .i64 yy,.int .i64 mo,.int .i64 dd,.int .i64 hh,.int .i64 mi,.int .i64 ss,.string UT],.bool true]else .tuple #[noE,.bool false]) = .tuple #[.agg #[.string n,.int .i64 yy,.int .i64 mo,.int .i64 dd,.int .i64 hh,.int .i64 mi,.int .i64 ss,.string UT],.bool true]from rfl];have HB4:=af (aj (ae HB3) ((a0c x2.heap.size x2).alloc (a0a _) (.cells #[.string n,.int .i64 yy,.int .i64 mo,.int .i64 dd,.int .i64 hh,.int .i64 mi,.int .i64 ss,.string UT] 32)));go_wp2
     go_ret2
     exact⟨yH (ae HNone) 1 (by decide),ae HB4⟩
  ·
   rw[a0p hmk]at CX;have HSt:=af (EQ hz hzb hmk);obtain⟨ha,hc,hu5,_,_⟩:=hh.formN (pJ s k);have HW:Hid (rX wr ha k fun i=>vT (qx s i)):=by
    rw[hu5]at hh;intro h0;obtain⟨g,e,hg,hc⟩:=rq FJ ⟨0,0,0,0,0,⟨#[]⟩,0⟩ (pJ s k) hh h0;exact⟨g,e,hg,fun i hi j u hu=>hc i hi j u (by show(vT ((hqL s k).getD i _))[j]?=_;rw[JV s k i _ hi];exact hu)⟩
   have CEnd:Hid (∀W,Below wr.heap.size wr W->Calls Tryz.prog 61 #[.slice ha k hc,.int .i64 (q.2.2:Nat)] W fun e w'=>e = .returned (.string (q.2.1++eo k q.2.1.size q.2.2))/\Below W.heap.size W w'):=fun W hb=>by
    have:=yB ha hc k q.2.2 (qx s) W ((ae HW).later hb) hk6 (JU (ae HS) (ae HZ)) (by omega);rw[wS (ae HZ)]at this;exact this
   rw[←hu5]at CEnd;rw[←ae HE]at CX HSt;have q1:=fun d os=>Calls.regrown_of (w:=wr) (d:=d) (os:=os) (ae CEnd _ (below_regrown wr d os));have z1:((q.2.2:Nat):Int).toNat=q.2.2:=a0r _;generalize q.2.1++eo k q.2.1.size q.2.2=EN at *
   obtain⟨X,hX⟩:∃x,s.extract q.2.2 s.size=x:=⟨_,rfl⟩;rw[hX]at CX HSt;obtain⟨B,hB⟩:∃b,(X.toList == EN.toList)=b:=⟨_,rfl⟩;have HB:=af hB;clear hf hh hbel hzat hz hzb hss hmk HH HW CEnd hu5 HZ HZB HAt HE;go_wp2_with fail;refine(ae CX _).mono ?_;rintro e x0 ⟨rfl,hx0⟩;subst hx0;clear CX;go_wp2_with fail;refine wp_region_quiet_below hmix (by kernel_rfl) ?_;cases B
   all_goals
    quiet_step (fail)
    quiet_step (fail)
    quiet_step (fail)
    quiet_step (fail)
    quiet_step (fail)
    quiet_step (exact q1 _ _)
    quiet_step (fail)
    refine a1s ?_;intro zw hw';obtain⟨⟨dq,osq⟩,hw2⟩:=hw';have HZ:=below_regrown x0 dq osq;rw[←hw2]at HZ;have T9:=af (aj (ae HBel) HZ);have O9:=af ((ae HF).later HZ (a0a _));clear hw2 HZ q1
   ·
    have HN:Hid (eM s=none):=by show _=_;rw[ae HSt,a0e (fun e=>by have:=(Fb (ae HB)).2 e;cases this)]
    go_wp2
    go_ret2
    exact⟨yH (ae HN) 1 (by decide),ae T9⟩
   ·
    have HY:Hid (eM s=some q.1):=by show _=_;rw[ae HSt,a0d ((Fb (ae HB)).1 rfl)]
    go_wp2
    go_ret2
    exact⟨⟨_,0,rfl,fun _=>⟨_,ae HY,ae O9⟩,fun h=>absurd rfl h⟩,ae T9⟩
theorem pq.later{w W:World}(hg:pq w)(hb:Below w.heap.size w W):pq W:=(hb.cell (p:=⟨0,0,none⟩) (World.block_lt_of_cell? _ _ hg)).trans hg
theorem qD(s:ByteArray)(m:Int)(w:World)(hs:s.size<=1048576)(hm:w.cell? ⟨2,0,none⟩=some (.int .i64 m))(hg:pq w)(hO:dk w) :
  Calls Tryz.prog 19 #[.string s] w fun e w'=>(∃v,e = .returned (.tuple #[v,.bool (eM s).isSome])/\BU w' w.heap.size v ((eM s).getD []))/\Below w.heap.size w w':=by
 have C:=af (yG s m w hs hm hO);have HG:=af hg;clear hm hg hO hs;go_enter Tryz.func19,Tryz.ntmps19;go_wp2_with fail;refine(ae C).mono ?_;rintro e x1 ⟨⟨v,c,rfl,h0,h1⟩,hb1⟩;have HB1:=af hb1;have C2:=af (po c x1 ((ae HG).later hb1));have H0:=af h0;have H1:=af h1;clear h0 h1 hb1 C HG;generalize eq c=FV at *
 go_wp2_with fail;refine(ae C2).mono ?_;rintro e x2 ⟨rfl,hb2⟩;have HB2:=af (aj (ae HB1) hb2);by_cases hc:c=0
 ·
  obtain⟨l,hl,hown⟩:=ae H0 hc;have HL:=af hl;have HO:=af (hown.later hb2 (a0a _));subst hc;clear hl hown hb2 C2 H0 H1 HB1;go_wp2
  go_ret2
  exact⟨⟨_,by rw[ae HL];rfl,by rw[ae HL];exact ae HO⟩,ae HB2⟩
 ·
  have HL:=af (ae H1 hc);have hd:decide (c=0)=false:=a0p hc;clear hb2 C2 H0 H1 HB1;go_wp2
  go_ret2
  exact⟨⟨_,by rw[ae HL];rfl,by rw[ae HL];exact aY.nil _ _⟩,ae HB2⟩
def goes(e f:En):Prop:=bD e.n.data.toList f.n.data.toList=false
end Go.Proofs.YtkdlcomfpffhhaaGreatDoor
namespace Go.Proofs.YtkdlcomfpffhhaaGreatDoor
open Corb
set_option maxRecDepth 100000
theorem Ka{e:En}(k:jI e=true)(r:ByteArray):f9 (loE e++r)=some e.t/\enO (loE e++r) e.t=e/\(∀p,ctO (loE e++r) p=heE e p)/\m8 (loE e++r)=(loE e).size:=by
 have k':jW e.n e.y e.mo e.d e.h e.mi e.s e.t=true:=k;obtain⟨f1,f2,f3⟩:=cK k';obtain⟨g1,g2,g3,g4⟩:=nt f3;have e2:(((stN e.y e.mo e.d e.h e.mi e.s).toNat:Nat):Int)=stN e.y e.mo e.d e.h e.mi e.s:=by rw[←g4];simp[stI,f3]
 have hz:=(oW (n:=e.n) (t:=e.t) g3 (by omega) (by omega)).1;obtain⟨r0,r1,r2,r3,r4,r5,r6,r7,r8⟩:=wW (n:=e.n) (t:=e.t) g3 (by omega) (by omega) r;obtain⟨s0,s1,s2,s3,s4,s5⟩:=KQ f3;have el:loE e=cH e.n e.t (stN e.y e.mo e.d e.h e.mi e.s).toNat:=rfl;rw[el];refine⟨?_,?_,fun p=>?_,?_⟩
 · unfold f9;rw[a0d r0,r1,r8,I6 e.t f2];simp only;rw[a0d];unfold JJ Cz;rw[r3,r5,r2,r7,e2,s0,s1,s2,s3,s4,s5,k'];simp
 · unfold enO;rw[r7,r2,e2,s0,s1,s2,s3,s4,s5]
 · unfold ctO heE eN;rw[r1,r2,r3,r4,r5,r7]
 · unfold m8;rw[r6,r4,hz]
theorem BM(a b:ByteArray):sub (a++b) a.size=b:=eg (by
 rw[xW];simp only[a3Q,a1R];exact a3N (by simp))
theorem ub(l:List En)(k:Nat):∀j,k<=j->j<=l.length->∃x,(aG (l.take j)).1=(aG (l.take k)).1++x
 | 0,h,_=>by
  have:k=0:=by omega
  subst this;exact⟨⟨#[]⟩,eg (by simp)⟩
 | j+1,h,hj=>by
  by_cases e:k=j+1
  · subst e;exact⟨⟨#[]⟩,eg (by simp)⟩
  · obtain⟨x,hx⟩:=ub l k j (by omega) (by omega);refine⟨x++loE (l.getD j default),?_⟩;rw[gJ l j (by omega)];show(aG (l.take j)).1++loE _=_;rw[hx,a2Z]
theorem Jk{l:List En}(h:eK l=true){k:Nat}(hk:k<l.length):∃r,gz l=(aG (l.take k)).1++(loE (l.getD k default)++r):=by
 obtain⟨x,hx⟩:=ub l (k+1) l.length (by omega) (a0a _);rw[a2s,gJ l k hk]at hx;have hx:(aG l).1=(aG (l.take k)).1++loE (l.getD k default)++x:=hx;refine⟨x++((aG l).2++eo l.length (aG l).2.size (aG l).1.size),?_⟩;unfold gz;rw[a0d h,a2Z];generalize (aG l).2++eo l.length (aG l).2.size (aG l).1.size=T;rw[hx];simp only[a2Z]
theorem yI{l:List En}(h:eK l=true):∀k,k<=l.length->zst (gz l) k=some (l.take k,(aG (l.take k)).2,(aG (l.take k)).1.size)
 | 0,_=>rfl
 | k+1,hk=>by
  have ih:=yI h k (by omega);obtain⟨r,hr⟩:=Jk h (by omega:k<l.length);have hs:sub (gz l) (aG (l.take k)).1.size=loE (l.getD k default)++r:=by rw[hr,BM]
  obtain⟨b1,b2,b3,b4⟩:=Ka ((jB h).1 k (by omega)) r;have:=BS (T:=(l.getD k default).t) ih (by show f9 (sub _ _)=_;rw[hs];exact b1);rw[this];simp only[hs,b2,b3,b4];rw[gJ l k (by omega),fI l default k (by omega)];simp only[K7,a0D]
theorem Jj{l:List En}(h:eK l=true):eM (gz l)=some l:=by
 have hz:=yI h l.length (a0a _);rw[a2s]at hz;refine yE hz h ?_;show sub (gz l) (aG l).1.size=(aG l).2++eo l.length (aG l).2.size (aG l).1.size;unfold gz;rw[a0d h,a2Z,BM]
theorem Ji{l:List En}(h:eK l=true):(gz l).size=(aG l).1.size+(aG l).2.size+22:=by
 unfold gz;rw[a0d h,a0D,a0D,nR]
theorem AC(l:List En):(gz l).size<=4000:=by
 by_cases h:eK l=true
 · rw[Ji h];obtain⟨h1,h2⟩:=jB h;have:=lE l h1 l.length (a0a _);rw[a2s]at this;omega
 · unfold gz;rw[a0e h];exact a0h _
end Go.Proofs.YtkdlcomfpffhhaaGreatDoor
