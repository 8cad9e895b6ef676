/- Of what the proof is made: 15 texts, one behind the other. -/
import Derived.Test.YtfhdadkcophoaaaGreatDoorM40
import Derived.Test.YtfhdadkcophoaaaGreatDoorM38
import Derived.Test.YtfhdadkcophoaaaGreatDoorM3
import Derived.Test.YtfhdadkcophoaaaGreatDoorM29
import Derived.Test.YtfhdadkcophoaaaGreatDoorM39
import Derived.Lib.QuietBelow
import Derived.Test.YtfhdadkcophoaaaGreatDoorM20
import Derived.Deep.QuietTactic
import Derived.BigQuiet
import Derived.Test.YtfhdadkcophoaaaGreatDoorM33
import Derived.Test.YtfhdadkcophoaaaGreatDoorM31
import Derived.Test.YtfhdadkcophoaaaGreatDoorM37
import Derived.Test.YtfhdadkcophoaaaGreatDoorM9
set_option linter.unusedSimpArgs false
set_option linter.unusedVariables false
set_option maxHeartbeats 12800000
namespace Go.Proofs.YtfhdadkcophoaaaGreatDoor
open Corb
set_option maxRecDepth 100000
def sub(s:ByteArray)(p:Nat):ByteArray:=s.extract p s.size
theorem xV(s:ByteArray)(p:Nat):(sub s p).data.toList=s.data.toList.drop p:=by
 rw[sub,ext_list];exact a0t (by simp)
theorem nB(s:ByteArray)(p:Nat):(sub s p).size=s.size-p:=by
 rw[sub,a2I];omega
def nd(s:ByteArray):Nat:=30+wd s.data.toList 26 2+wd s.data.toList 18 4
def enO(s T:ByteArray):En:=⟨nmB s,gY (wd s.data.toList 10 4:Nat),gM (wd s.data.toList 10 4:Nat),gD (wd s.data.toList 10 4:Nat),gH (wd s.data.toList 10 4:Nat),gI (wd s.data.toList 10 4:Nat),gS (wd s.data.toList 10 4:Nat),T⟩
def ctO(s:ByteArray)(p:Nat):ByteArray:=lP (wd s.data.toList 8 2) (wd s.data.toList 10 4) (wd s.data.toList 14 4) (wd s.data.toList 18 4) (wd s.data.toList 22 4) (nmB s) p
theorem nf{s T:ByteArray}(h:gp s=some T):hdB s=true/\fe (enO s T)=true:=by
 unfold gp at h
 split at h
 ·
  rename_i h0;refine⟨h0,?_⟩
  split at h
  ·
   split at h
   ·
    rename_i h2;cases h
    simp only[JD,a0j]at h2;exact h2.2.2
   · cases h
  · cases h
 · cases h
def zst(s:ByteArray):Nat->Option (List En×ByteArray×Nat)
 | 0=>some ([],⟨#[]⟩,0)
 | i+1=>(zst s i).bind fun q=>(gp (sub s q.2.2)).map fun T=>(q.1++[enO (sub s q.2.2) T],q.2.1++ctO (sub s q.2.2) q.2.2,q.2.2+nd (sub s q.2.2))
theorem BN{s T:ByteArray}{i:Nat}{q:List En×ByteArray×Nat}(h:zst s i=some q)(hT:gp (sub s q.2.2)=some T) :
  zst s (i+1)=some (q.1++[enO (sub s q.2.2) T],q.2.1++ctO (sub s q.2.2) q.2.2,q.2.2+nd (sub s q.2.2)):=by
 rw[zst,h,a0f,hT,a3v]
theorem ip{s:ByteArray}{i:Nat}{q:List En×ByteArray×Nat}(h:zst s (i+1)=some q):∃r T,zst s i=some r/\gp (sub s r.2.2)=some T/\q=(r.1++[enO (sub s r.2.2) T],r.2.1++ctO (sub s r.2.2) r.2.2,r.2.2+nd (sub s r.2.2)):=by
 rw[zst]at h;rcases hr:zst s i with _|r
 · rw[hr]at h;cases h
 ·
  rw[hr,a0f]at h;rcases hT:gp (sub s r.2.2)with _|T
  · rw[hT]at h;cases h
  ·
   rw[hT,a3v]at h;cases h
   exact⟨r,T,rfl,hT,rfl⟩
theorem Gw{s T:ByteArray}(h:gp s=some T):nd s<=s.size:=(uA.1 (nf h).1).2.2
theorem jK{s:ByteArray} : ∀{i:Nat} {q:List En×ByteArray×Nat},zst s i=some q->q.1.length=i/\q.2.2<=s.size/\(∀e∈q.1,fe e=true)/\(q.2.1=⟨#[]⟩∨q.2.1.data.toList.take 4=[80,75,1,2])/\q.2.1.size<=100*i
 | 0,q,h=>by cases h;exact⟨rfl,a0h _,(fun e he=>by cases he),.inl rfl,a0h _⟩
 | i+1,q,h=>by
  obtain⟨r,T,h1,h2,rfl⟩:=ip h;obtain⟨a1,a2,a3,a4,a5⟩:=jK h1;have hf:=Gw h2;rw[nB]at hf;have hE:=(nf h2).2;have hn:=(ck (n:=(enO (sub s r.2.2) T).n) (t:=(enO (sub s r.2.2) T).t) hE).1;have hc:(ctO (sub s r.2.2) r.2.2).size=46+(nmB (sub s r.2.2)).size:=jp _ _ _ _ _ _ _;have hn2:(nmB (sub s r.2.2)).size<=43:=hn;refine⟨by simp[a1],?_,?_,?_,?_⟩
  · show r.2.2+nd (sub s r.2.2)<=s.size;omega
  ·
   intro e he;rcases a0S.1 he with he|he
   · exact a3 e he
   · rw[a0T.1 he];exact hE
  ·
   refine .inr ?_;show(r.2.1++ctO (sub s r.2.2) r.2.2).data.toList.take 4=_;have e0:(ctO (sub s r.2.2) r.2.2).data.toList.take 4=[80,75,1,2]:=by simp[ctO,lP]
   rcases a4 with e|e
   · rw[e];simpa using e0
   ·
    have:4<=r.2.1.data.toList.length:=by
     have:=congrArg List.length e;rw[a0x]at this;simp at this ⊢;omega
    simp only[a23,a1U];rw[a1d this];exact e
  · show(r.2.1++ctO (sub s r.2.2) r.2.2).size<=_;rw[a0z,hc];omega
theorem kV{s:ByteArray}{k:Nat} : ∀{m:Nat} {q:List En×ByteArray×Nat},zst s m=some q->k<=m->∃r,zst s k=some r/\r.1=q.1.take k
 | 0,q,h,hk=>by
  have:k=0:=by omega
  subst this;exact⟨q,h,by cases h;rfl⟩
 | m+1,q,h,hk=>by
  by_cases e:k=m+1
  · subst e;exact⟨q,h,by rw[a0t (by rw[(jK h).1];exact a0a _)]⟩
  · obtain⟨r,T,h1,h2,rfl⟩:=ip h;obtain⟨r',h3,h4⟩:=kV h1 (by omega:k<=m);refine⟨r',h3,?_⟩;rw[h4];show _=(r.1++_).take k;rw[a1d (by rw[(jK h1).1];omega)]
theorem oW{s T:ByteArray}(h:gp s=some T):s.data.toList.take 4=[80,75,3,4]:=by
 obtain⟨h1,h2,_⟩:=uA.1 (nf h).1;simp only[pn,a0j,a0o]at h2;have h3:30<=s.data.toList.length:=by simpa using h1
 have:=(yr (l:=s.data.toList) (i:=0) (k:=4) (by omega) (by decide)).1 h2.1;rw[a1W]at this;rw[this];decide +kernel
theorem sN(k z p:Nat):(ep k z p).data.toList=[80,75,5,6]++(leS 2 0++(leS 2 0++(leS 2 k++(leS 2 k++(leS 4 z++(leS 4 p++leS 2 0)))))):=by
 simp[ep,aZ]
theorem Br{c:ByteArray}(k z p:Nat)(hc:c=⟨#[]⟩∨c.data.toList.take 4=[80,75,1,2]):(c++ep k z p).data.toList.take 4≠[80,75,3,4]:=by
 simp only[a23,a1U];rcases hc with e|e
 · rw[e,sN];simp
 ·
  have:4<=c.data.toList.length:=by
   have:=congrArg List.length e;rw[a0x]at this;simp at this ⊢;omega
  rw[a1d this,e];decide
theorem FL{s c:ByteArray}{k z p q:Nat}(h:sub s p=c++ep k z q)(hk:k<65536):22<=s.size/\wd s.data.toList (s.size-12) 2=k:=by
 have h1:s.size-p=c.size+22:=by rw[←nB,h,a0z,nV]
 refine⟨by omega,?_⟩;have h2:s.data.toList=(s.data.toList.take p++(c.data.toList++([80,75,5,6]++(leS 2 0++(leS 2 0++leS 2 k)))))++(leS 2 k++(leS 4 z++(leS 4 q++leS 2 0))):=by
  have:s.data.toList.drop p=(c++ep k z q).data.toList:=by rw[←xV,h]
  conv=>lhs;rw[←a1s p s.data.toList,this]
  simp only[a23,a1U,sN,a0O]
 have h3:(s.data.toList.take p++(c.data.toList++([80,75,5,6]++(leS 2 0++(leS 2 0++leS 2 k))))).length=s.size-12:=by
  simp only[a0i,a0x,aC];have e1:s.data.toList.length=s.size:=by simp
  have e2:c.data.toList.length=c.size:=by simp
  rw[e1,e2];simp;omega
 rw[h2];have:=Ap (b:=leS 2 k++(leS 4 z++(leS 4 q++leS 2 0))) (i:=0) 2 h3;rw[a0X]at this;rw[this];exact fs _ (by omega)
def dp(s:ByteArray):Option (List En):=
 if 12<=s.size/\wd s.data.toList (s.size-12) 2<=6 then
  (match zst s (wd s.data.toList (s.size-12) 2)with
  | some q=>if aY q.1=true/\sub s q.2.2=q.2.1++ep (wd s.data.toList (s.size-12) 2) q.2.1.size q.2.2 then some q.1 else none
  | none=>none)
 else none
theorem lI{s:ByteArray}{l:List En}(h:dp s=some l):∃m q,zst s m=some q/\l=q.1/\aY q.1=true/\sub s q.2.2=q.2.1++ep m q.2.1.size q.2.2:=by
 unfold dp at h
 split at h
 ·
  split at h
  ·
   rename_i q hq
   split at h
   ·
    rename_i h2;cases h
    exact⟨_,q,hq,rfl,h2.1,h2.2⟩
   · cases h
  · cases h
 · cases h
theorem yC{s:ByteArray}{m:Nat}{q:List En×ByteArray×Nat}(h:zst s m=some q)(hz:aY q.1=true)(he:sub s q.2.2=q.2.1++ep m q.2.1.size q.2.2):dp s=some q.1:=by
 have h6:=(da hz).2;have hl:=(jK h).1;obtain⟨e1,e2⟩:=FL he (by omega);unfold dp;rw[a0d ⟨by omega,by omega⟩,e2,h];simp only;rw[a0d ⟨hz,he⟩]
theorem tU{s:ByteArray}{k m:Nat}{q r:List En×ByteArray×Nat}(hk:zst s k=some q)(hm:zst s m=some r)(he:sub s r.2.2=r.2.1++ep m r.2.1.size r.2.2):k<=m:=by
 rcases a1e m k with h|h
 ·
  exfalso;obtain⟨x,hx,_⟩:=kV hk (by omega:m+1<=k);obtain⟨y,T,h1,h2,_⟩:=ip hx;rw[hm]at h1;cases h1
  have:=oW h2;rw[he]at this;exact Br _ _ _ (jK hm).2.2.2.1 this
 · exact h
theorem EG{s:ByteArray}{k:Nat}{q:List En×ByteArray×Nat}(hk:zst s k=some q)(hz:aY q.1=true)(hn:(sub s q.2.2).data.toList.take 4≠[80,75,3,4]) :
  dp s=if sub s q.2.2=q.2.1++ep k q.2.1.size q.2.2 then some q.1 else none:=by
 split
 · rename_i he;exact yC hk hz he
 ·
  rename_i he;rcases h:dp s with _|l
  · rfl
  ·
   exfalso;obtain⟨m,r,h1,h2,h3,h4⟩:=lI h;have hle:=tU hk h1 h4;by_cases e:k=m
   ·
    subst e;rw[hk]at h1;cases h1
    exact he h4
   ·
    obtain⟨x,hx,_⟩:=kV h1 (by omega:k+1<=m);obtain⟨y,T,y1,y2,_⟩:=ip hx;rw[hk]at y1;cases y1
    exact hn (oW y2)
theorem yB{s:ByteArray}{k:Nat}{q:List En×ByteArray×Nat}(hk:zst s k=some q)(hm:(sub s q.2.2).data.toList.take 4=[80,75,3,4])(hT:∀T,gp (sub s q.2.2)=some T->aY (q.1++[enO (sub s q.2.2) T])=false):dp s=none:=by
 rcases h:dp s with _|l
 · rfl
 ·
  exfalso;obtain⟨m,r,h1,h2,h3,h4⟩:=lI h;have hle:=tU hk h1 h4;by_cases e:k=m
  ·
   subst e;rw[hk]at h1;cases h1
   rw[h4]at hm;exact Br _ _ _ (jK hk).2.2.2.1 hm
  ·
   obtain⟨x,hx,hx2⟩:=kV h1 (by omega:k+1<=m);obtain⟨y,T,y1,y2,y3⟩:=ip hx;rw[hk]at y1;cases y1
   have h5:=hT T y2;have h6:aY (r.1.take (k+1))=true:=by
    rw[lJ]at h3 ⊢;intro i hi;have hi2:i<k+1/\i<r.1.length:=by rw[a0x]at hi;omega
    have:=h3 i hi2.2;unfold gu at this ⊢;rw[lE r.1 (k+1) i hi2.1,a3t,a1S (by omega)];exact this
   rw[←hx2,y3]at h6;rw[h6]at h5;cases h5
def hqO(x:ByteArray)(p:Nat):Hq:=⟨wd x.data.toList 8 2,wd x.data.toList 10 4,wd x.data.toList 14 4,wd x.data.toList 18 4,wd x.data.toList 22 4,nmB x,p⟩
def qx(s:ByteArray)(k:Nat):Hq:=match zst s k with
 | some q=>hqO (sub s q.2.2) q.2.2
 | none=>hqO ⟨#[]⟩ 0
def hqL(s:ByteArray)(n:Nat):List Hq:=(List.range n).map (qx s)
theorem pF(s:ByteArray)(n:Nat):(hqL s n).length=n:=by simp[hqL]
theorem Gc(s:ByteArray)(n:Nat):hqL s (n+1)=hqL s n++[qx s n]:=by simp[hqL,List.range_succ]
theorem JV(s:ByteArray)(n i:Nat)(d:Hq)(h:i<n):(hqL s n).getD i d=qx s i:=by simp[hqL,List.getD,h]
theorem uF{s:ByteArray}{k:Nat}{q:List En×ByteArray×Nat}(h:zst s k=some q):qx s k=hqO (sub s q.2.2) q.2.2:=by
 unfold qx;rw[h]
theorem wU{s:ByteArray} : ∀{k:Nat} {q:List En×ByteArray×Nat},zst s k=some q->dI (qx s) k=q.2.1
 | 0,q,h=>by cases h;rfl
 | k+1,q,h=>by
  obtain⟨r,T,h1,h2,rfl⟩:=ip h;rw[dI,wU h1,uF h1];rfl
theorem JU{s:ByteArray}(hs:s.size<=1048576){k:Nat}{q:List En×ByteArray×Nat}(h:zst s k=some q):∀i,i<k->okQ (qx s i):=by
 intro i hi;obtain⟨x,hx,_⟩:=kV h (by omega:i+1<=k);obtain⟨r,T,h1,h2,_⟩:=ip hx;rw[uF h1];have hE:=(nf h2).2;have hn:=(ck (n:=(enO (sub s r.2.2) T).n) (t:=(enO (sub s r.2.2) T).t) hE).1;have hn2:(nmB (sub s r.2.2)).size<=43:=hn;have hp:=(jK h1).2.1;exact⟨kT _ _,ef _ _,ef _ _,ef _ _,ef _ _,by show(nmB (sub s r.2.2)).size<=54;omega,by show r.2.2<4294967296;omega⟩
theorem Ch(l:List En)(e:En)(i:Nat)(hi:i<l.length):gu (l++[e]) i=gu l i:=by
 unfold gu;rw[a1d (by omega)]
 congr 1
 simp only[List.getD];rw[List.getElem?_append_left hi]
theorem sH(l:List En)(e:En):gu (l++[e]) l.length=aH l e:=by
 unfold gu;rw[a1d (a0a _),a0t (a0a _)]
 congr 1
 simp[List.getD]
theorem eK{l:List En}(h:aY l=true)(e:En):aY (l++[e])=true<->aH l e=0:=by
 rw[lJ]at h ⊢;constructor
 · intro k;have:=k l.length (by simp);rw[sH]at this;exact this
 ·
  intro k i hi;by_cases hl:i<l.length
  · rw[Ch l e i hl];exact h i hl
  ·
   have:i=l.length:=by simp at hi;omega
   rw[this,sH];exact k
theorem GF(s:ByteArray):Lib.hasPrefix s.data.toList [80,75,3,4]=decide (s.data.toList.take 4=[80,75,3,4]):=by
 rw[a2i,a0o];unfold Lib.hasPrefix;rw[a28,List.prefix_iff_eq_take];exact eq_comm
theorem I8{s:ByteArray}(h:¬ (12<=s.size/\wd s.data.toList (s.size-12) 2<=6)):dp s=none:=a0e h
end Go.Proofs.YtfhdadkcophoaaaGreatDoor
namespace Go.Proofs.YtfhdadkcophoaaaGreatDoor
open Go.RowKit Corb
set_option maxRecDepth 100000
theorem LU{x n t:ByteArray}{y mo d h mi c k:Int}(hv:zI x = .tuple #[.agg #[.string n,.int .i64 y,.int .i64 mo,.int .i64 d,.int .i64 h,.int .i64 mi,.int .i64 c,.string t],.int .i64 k,.bool true]) :
  ∃T,gp x=some T/\enO x T=⟨n,y,mo,d,h,mi,c,t⟩/\k=((nd x:Nat):Int):=by
 unfold zI at hv;rcases hG:gp x with _|T
 · rw[hG]at hv;simp at hv
 ·
  rw[hG]at hv;simp only[Gu,Value.tuple.injEq,Array.mk.injEq,List.cons.injEq,Value.agg.injEq,Value.string.injEq,Value.int.injEq,a1D,a0M]at hv;obtain⟨⟨e0,e1,e2,e3,e4,e5,e6,e7⟩,e8⟩:=hv;refine⟨T,rfl,?_,?_⟩
  · unfold enO;rw[e0,e1,e2,e3,e4,e5,e6,e7]
  · rw[←e8];rfl
theorem My{x:ByteArray}(hv:zI x = .tuple #[noE,.int .i64 0,.bool false]):gp x=none:=by
 unfold zI at hv;rcases hG:gp x with _|T
 · rfl
 · rw[hG]at hv;simp at hv
theorem EJ{s:ByteArray}{k:Nat}{q:List En×ByteArray×Nat}(h:zst s k=some q):∀i,i<k->(q.1.getD i default).n.size<=1048576/\((q.1.getD i default).t.size:Int)<=9223372036854775807:=by
 intro i hi;obtain⟨h1,_,h3,_⟩:=jK h;have hm:q.1.getD i default∈q.1:=by
  rw[List.getD,List.getElem?_eq_getElem (by omega:i<q.1.length)];exact a1O _
 obtain⟨f1,f2,_⟩:=ck (n:=(q.1.getD i default).n) (t:=(q.1.getD i default).t) (h3 _ hm);exact⟨by omega,by omega⟩
theorem below_drewN{B:Nat}{a w:World}(h:Below B a w)(n:Nat):Below B a (w.drewN n):=⟨h.os,h.tape,h.output,h.size,h.block⟩
theorem E7{a b:ByteArray}{c:Bool}(h:(a.toList == b.toList)=c):c=true<->a=b:=by
 rw[←h,a3u,eq];exact⟨fun e=>dD e,fun e=>by rw[e]⟩
abbrev Me:=aQ (α:=Hq) 81 7 vW
theorem qH{w w':World}{o:Obj}{b1 b2 e1 e2 s1 s2 n1 n2:Nat}{v1 v2:Value}{x1 x2:List Value}(h1:w.ownsRow b1 e1 s1 v1 n1 x1)(h2:w.ownsRow b2 e2 s2 v2 n2 x2)(he:e1≠e2)(hg:(w.alloc o).grownBy w' v2.ownBlock):w'.ownsRow b1 e1 s1 v1 n1 x1:=
 a17 (a0m h1 o) hg (rP (a0m h1 o) (a0m h2 o) he)
theorem pR:aY []=true:=by decide
theorem Gx{x:ByteArray}(h:hdB x=false):gp x=none:=by
 unfold gp;rw[a0e (by rw[h];decide)]
theorem vy{s:ByteArray}{k:Nat}{q:List En×ByteArray×Nat}(hk:zst s k=some q)(hm:(sub s q.2.2).data.toList.take 4=[80,75,3,4])(hT:gp (sub s q.2.2)=none):dp s=none:=
 yB hk hm (fun T h=>by rw[hT]at h;cases h)
theorem Fa{s:ByteArray}{k:Nat}{q:List En×ByteArray×Nat}(hk:zst s k=some q)(hz:aY q.1=true)(hm:(sub s q.2.2).data.toList.take 4=[80,75,3,4]){T:ByteArray}(hT:gp (sub s q.2.2)=some T)(hr:aH q.1 (enO (sub s q.2.2) T)≠0):dp s=none:=
 yB hk hm (fun T' h=>by
  rw[hT]at h;cases h
  cases hb:aY (q.1++[enO (sub s q.2.2) T])
  · rfl
  · exact absurd ((eK hz _).1 hb) hr)
def ZrP(s:ByteArray)(w:World)(e:Ending)(w':World):Prop:=∃v c,e = .returned (.tuple #[v,cH c])/\(c=0->∃l,dp s=some l/\dC w' w.heap.size v l)/\(c≠0->dp s=none)
theorem yG{s:ByteArray}{w w':World}(h:dp s=none)(c:Int)(hc:c≠0):ZrP s w (.returned (.tuple #[.slice none 0 0,.iface 92 (.agg #[.int .i64 c])])) w':=
 ⟨.slice none 0 0,c,by unfold cH;rw[a0e hc],fun h0=>absurd h0 hc,fun _=>h⟩
theorem yE(s:ByteArray)(m:Int)(w:World)(hs:s.size<=1048576)(hm:w.cell? ⟨2,0,none⟩=some (.int .i64 m))(hO:bY w) :
  Calls Tryz.prog 29 #[.string s] w fun e w'=>ZrP s w e w'/\Below w.heap.size w w':=by
 have hmix:Tryz.prog.follows .mixedOrders=true:=by kernel_rfl
 have hsI:(s.size:Int)<=1048576:=by omega
 have HS:=af hs;have HM:=af hm;have hmb:=af (World.block_lt_of_cell? _ _ hm);have CM:=af (fun W (hb:Below w.heap.size w W)=>(hb.cell (p:=⟨2,0,none⟩) (ae hmb)).trans (ae HM));have HO:=af (fun W (hb:Below w.heap.size w W)=>hO.later hb);obtain⟨i0,hi,hz0,hz1,hz2⟩:=a0r Tryz.infoEnt;obtain⟨j0,hj,hy0,hy1,hy2⟩:=a0r Tryz.infoHd;clear hs hm hO;go_enter Tryz.func29,Tryz.ntmps29;go_wp2_with fail
 go_loopw [4,5,6,7,8,9,10,11] (fun f h p _ _ _ _ _ wr=>∃(k:Nat) (q:List En×ByteArray×Nat),zst s k=some q/\aY q.1=true/\p = .int .i64 (q.2.2:Nat)/\dC wr w.heap.size f q.1/\Me wr w.heap.size h (hqL s k)/\Below w.heap.size w wr) (fun _ _ p _ _ _ _ _ _=>s.size-(intOf p).toNat)
 case atStart=>exact⟨0,([],⟨#[]⟩,0),rfl,pR,rfl,aQ.nil _ _,aQ.nil _ _,a0b _ _⟩
 case round=>
  obtain⟨k,q,hz,hzb,rfl,hf,hh,hbel⟩:=hrel;have hzat:=jK hz;have hk6:k<=6:=by have:=(da hzb).2;omega
  have hpI:(q.2.2:Int)<=(s.size:Int):=by have:=hzat.2.1;omega
  have CX:Hid (∀W,Calls Tryz.prog 56 #[.string (sub s q.2.2),.string ⟨#[80,75,3,4]⟩] W fun e w'=>e = .returned (.bool (decide ((sub s q.2.2).data.toList.take 4=[80,75,3,4])))/\w'=W):=fun W=>by
   have h:=Tryz.strings_HasPrefix (sub s q.2.2) (⟨#[80,75,3,4]⟩:ByteArray) W;rw[←GF];exact h
  have HE:Hid (s.extract q.2.2 s.size=sub s q.2.2):=rfl;have HZ:=af hz;have HZB:=af hzb;have HF:=af hf;have HH:=af hh;have HBel:=af hbel;have HAt:=af hzat
  have hss:(sub s q.2.2).size<=1048576:=by rw[nB];have:=ae HS;omega
  by_cases hmk:(sub s q.2.2).data.toList.take 4=[80,75,3,4]
  ·
   have HMk:=af hmk;rw[a0E hmk]at CX;have CH:=af (fun W=>oo (sub s q.2.2) W hss);have HSS:=af hss;clear hmk hf hh hbel hzat hz hzb hss;go_wp2_with fail;refine(ae CX _).mono ?_;rintro e x0 ⟨rfl,hx0⟩;subst hx0;clear CX;go_wp2_with fail;refine(ae CH _).mono ?_;rintro e x1 ⟨hp,hb1⟩;have HB1:=af (ag (ae HBel) hb1);have HF1:=af ((ae HF).later hb1 (a0a _));have HH1:=af ((ae HH).later hb1 (a0a _));have hap1:Hid (∀j,Value.ownBlock u4=some j->j<x1.heap.size):=fun j hj=>(a0C (ae HF1) j hj).2;have hap2:Hid (∀j,Value.ownBlock u5=some j->j<x1.heap.size):=fun j hj=>(a0C (ae HH1) j hj).2;clear hb1 CH HF HH HBel;rcases hp with⟨hd,rfl⟩|⟨hd,a,b,c,d,f,n,t,ho,rfl⟩
   ·
    obtain⟨h30,hfx,hto⟩:=uA.1 hd;have hnm:=xt (s:=sub s q.2.2) (by omega);have hbd:=Fc (s:=sub s q.2.2) hto;have l1:=kT (sub s q.2.2).data.toList 8;have l2:=ef (sub s q.2.2).data.toList 10;have l3:=ef (sub s q.2.2).data.toList 14;have l4:=ef (sub s q.2.2).data.toList 18;have l5:=ef (sub s q.2.2).data.toList 22;have l6:=kT (sub s q.2.2).data.toList 26;have HSz:=ae HSS;have CEn:=af (fun W (hb:Below w.heap.size w W)=>oS (wd (sub s q.2.2).data.toList 8 2) (wd (sub s q.2.2).data.toList 10 4) (wd (sub s q.2.2).data.toList 14 4) (wd (sub s q.2.2).data.toList 18 4) (wd (sub s q.2.2).data.toList 22 4) (nmB (sub s q.2.2)) (bdB (sub s q.2.2)) m W (by omega) l1 l2 l3 l5 (by omega) (ae CM _ hb) (ae HO _ hb));have CPu:=af (fun(hen:enB (wd (sub s q.2.2).data.toList 8 2) (wd (sub s q.2.2).data.toList 10 4) (wd (sub s q.2.2).data.toList 14 4) (wd (sub s q.2.2).data.toList 22 4) (nmB (sub s q.2.2)) (bdB (sub s q.2.2))=true) W=>oM (wd (sub s q.2.2).data.toList 8 2) (wd (sub s q.2.2).data.toList 10 4) (wd (sub s q.2.2).data.toList 14 4) (wd (sub s q.2.2).data.toList 18 4) (wd (sub s q.2.2).data.toList 22 4) (nmB (sub s q.2.2)) (bdB (sub s q.2.2)) W l1 l2 l3 l4 l5 (by omega) (by have:=FG hen;omega));have hps:(bQ (wd (sub s q.2.2).data.toList 8 2) (wd (sub s q.2.2).data.toList 10 4) (wd (sub s q.2.2).data.toList 14 4) (wd (sub s q.2.2).data.toList 18 4) (wd (sub s q.2.2).data.toList 22 4) (nmB (sub s q.2.2))++bdB (sub s q.2.2)).size=nd (sub s q.2.2):=by
     unfold bQ nd;rw[a0z,a0z,a0z,fQ,hnm,hbd];show 4+26+_+_=_;omega
    have hLN:nd (sub s q.2.2)<=(sub s q.2.2).size/\30<=nd (sub s q.2.2):=⟨hto,by unfold nd;omega⟩;have HY:Hid (enB (wd (sub s q.2.2).data.toList 8 2) (wd (sub s q.2.2).data.toList 10 4) (wd (sub s q.2.2).data.toList 14 4) (wd (sub s q.2.2).data.toList 22 4) (nmB (sub s q.2.2)) (bdB (sub s q.2.2))=true->∃T,gp (sub s q.2.2)=some T/\enO (sub s q.2.2) T=⟨nmB (sub s q.2.2),zz (gOk (wd (sub s q.2.2).data.toList 10 4:Nat)) (gY (wd (sub s q.2.2).data.toList 10 4:Nat)),zz (gOk (wd (sub s q.2.2).data.toList 10 4:Nat)) (gM (wd (sub s q.2.2).data.toList 10 4:Nat)),zz (gOk (wd (sub s q.2.2).data.toList 10 4:Nat)) (gD (wd (sub s q.2.2).data.toList 10 4:Nat)),zz (gOk (wd (sub s q.2.2).data.toList 10 4:Nat)) (gH (wd (sub s q.2.2).data.toList 10 4:Nat)),zz (gOk (wd (sub s q.2.2).data.toList 10 4:Nat)) (gI (wd (sub s q.2.2).data.toList 10 4:Nat)),zz (gOk (wd (sub s q.2.2).data.toList 10 4:Nat)) (gS (wd (sub s q.2.2).data.toList 10 4:Nat)),uxT (wd (sub s q.2.2).data.toList 8 2) (bdB (sub s q.2.2))⟩):=fun h=>by
     have:=Gv hd;rw[a0d h]at this;obtain⟨T,a,b,_⟩:=LU this;exact⟨T,a,b⟩
    have HN:Hid (enB (wd (sub s q.2.2).data.toList 8 2) (wd (sub s q.2.2).data.toList 10 4) (wd (sub s q.2.2).data.toList 14 4) (wd (sub s q.2.2).data.toList 22 4) (nmB (sub s q.2.2)) (bdB (sub s q.2.2))=false->gp (sub s q.2.2)=none):=fun h=>by
     have:=Gv hd;rw[a0e (by rw[h];decide)]at this;exact My this
    have HQA:Hid (qx s k=⟨wd (sub s q.2.2).data.toList 8 2,wd (sub s q.2.2).data.toList 10 4,wd (sub s q.2.2).data.toList 14 4,wd (sub s q.2.2).data.toList 18 4,wd (sub s q.2.2).data.toList 22 4,nmB (sub s q.2.2),q.2.2⟩):=uF (ae HZ);have hNs:(nmB (sub s q.2.2)).size<=1048576:=by omega
    have hUs:(uxT (wd (sub s q.2.2).data.toList 8 2) (bdB (sub s q.2.2))).size<=1048576:=ym (by omega);have hss2:(sub s q.2.2).size=s.size-q.2.2:=nB _ _;unfold enE at CEn;generalize bQ (wd (sub s q.2.2).data.toList 8 2) (wd (sub s q.2.2).data.toList 10 4) (wd (sub s q.2.2).data.toList 14 4) (wd (sub s q.2.2).data.toList 18 4) (wd (sub s q.2.2).data.toList 22 4) (nmB (sub s q.2.2))++bdB (sub s q.2.2)=PB at *
    generalize enB (wd (sub s q.2.2).data.toList 8 2) (wd (sub s q.2.2).data.toList 10 4) (wd (sub s q.2.2).data.toList 14 4) (wd (sub s q.2.2).data.toList 22 4) (nmB (sub s q.2.2)) (bdB (sub s q.2.2))=EB at *
    generalize uxT (wd (sub s q.2.2).data.toList 8 2) (bdB (sub s q.2.2))=UT at *
    generalize zz (gOk (wd (sub s q.2.2).data.toList 10 4:Nat)) (gY (wd (sub s q.2.2).data.toList 10 4:Nat))=yy at *
    generalize zz (gOk (wd (sub s q.2.2).data.toList 10 4:Nat)) (gM (wd (sub s q.2.2).data.toList 10 4:Nat))=mo at *
    generalize zz (gOk (wd (sub s q.2.2).data.toList 10 4:Nat)) (gD (wd (sub s q.2.2).data.toList 10 4:Nat))=dd at *
    generalize zz (gOk (wd (sub s q.2.2).data.toList 10 4:Nat)) (gH (wd (sub s q.2.2).data.toList 10 4:Nat))=hh at *
    generalize zz (gOk (wd (sub s q.2.2).data.toList 10 4:Nat)) (gI (wd (sub s q.2.2).data.toList 10 4:Nat))=mi at *
    generalize zz (gOk (wd (sub s q.2.2).data.toList 10 4:Nat)) (gS (wd (sub s q.2.2).data.toList 10 4:Nat))=ss at *
    generalize bdB (sub s q.2.2)=BD at *
    generalize nmB (sub s q.2.2)=NM at *
    generalize wd (sub s q.2.2).data.toList 8 2=HW at *
    generalize wd (sub s q.2.2).data.toList 10 4=ST at *
    generalize wd (sub s q.2.2).data.toList 14 4=CR at *
    generalize wd (sub s q.2.2).data.toList 18 4=PK at *
    generalize wd (sub s q.2.2).data.toList 22 4=LN at *
    generalize wd (sub s q.2.2).data.toList 26 2=NL at *
    obtain⟨LO,hLO⟩:∃x,nd (sub s q.2.2)=x:=⟨_,rfl⟩;rw[hLO]at hps hLN;have hpJ:(q.2.2:Int)+(PB.size:Int)<=(s.size:Int):=by omega
    have hp30:30<=(PB.size:Int):=by omega
    have HLO:=af (hLO.trans hps.symm);clear hd h30 hfx hto hnm hbd l1 l2 l3 l4 l5 l6 HSz hps hLN hLO hss2;have HB2:=af ((a0b x1.heap.size x1).alloc (a0a _) (.cells #[.int .i64 (HW:Nat),.int .i64 (ST:Nat),.int .i64 (CR:Nat),.int .i64 (PK:Nat),.int .i64 (LN:Nat),.string NM,.string BD] 53));have R2:=af (az x1 #[.int .i64 (HW:Nat),.int .i64 (ST:Nat),.int .i64 (CR:Nat),.int .i64 (PK:Nat),.int .i64 (LN:Nat),.string NM,.string BD] 53);go_wp2_with fail;refine(ae CEn _ (ag (ae HB1) (ae HB2))).mono ?_;rintro e x2 ⟨rfl,hb2⟩;have hb12:=ag (ae HB2) hb2;have HB3:=af (ag (ae HB1) hb12);have HF3:=af ((ae HF1).later hb12 (a0a _));have HH3:=af ((ae HH1).later hb12 (a0a _));have R3:=af ((ae R2).later hb2 (ae R2).1);obtain⟨HB,hHB⟩:∃x,x1.heap.size=x:=⟨_,rfl⟩;rw[hHB]at R3 hap1 hap2;rw[hHB];clear hb2 hb12 HB2 R2 hHB CEn HB1 HF1 HH1;cases EB
    ·
     have HNone:=af (vy (ae HZ) (ae HMk) (ae HN rfl));rw[show(if false=true then Value.tuple #[.agg #[.string NM,.int .i64 yy,.int .i64 mo,.int .i64 dd,.int .i64 hh,.int .i64 mi,.int .i64 ss,.string UT],.bool true]else .tuple #[noE,.bool false]) = .tuple #[.agg #[.string ⟨#[]⟩,.int .i64 0,.int .i64 0,.int .i64 0,.int .i64 0,.int .i64 0,.int .i64 0,.string ⟨#[]⟩],.bool false]from rfl];have HB4:=af (ag (ae HB3) ((a0b x2.heap.size x2).alloc (a0a _) (.cells #[.string ⟨#[]⟩,.int .i64 0,.int .i64 0,.int .i64 0,.int .i64 0,.int .i64 0,.int .i64 0,.string ⟨#[]⟩] 26)));go_wp2
     go_ret2
     exact⟨yG (ae HNone) 1 (by decide),ae HB4⟩
    ·
     rw[show(if true=true then Value.tuple #[.agg #[.string NM,.int .i64 yy,.int .i64 mo,.int .i64 dd,.int .i64 hh,.int .i64 mi,.int .i64 ss,.string UT],.bool true]else .tuple #[noE,.bool false]) = .tuple #[.agg #[.string NM,.int .i64 yy,.int .i64 mo,.int .i64 dd,.int .i64 hh,.int .i64 mi,.int .i64 ss,.string UT],.bool true]from rfl];have HEX:Hid (∃T,gp (sub s q.2.2)=some T/\enO (sub s q.2.2) T=⟨NM,yy,mo,dd,hh,mi,ss,UT⟩):=ae HY rfl;have HPu:Hid (∀W,_):=ae CPu rfl;have hA:=(a0b x2.heap.size x2).alloc (a0a _) (.cells #[.string NM,.int .i64 yy,.int .i64 mo,.int .i64 dd,.int .i64 hh,.int .i64 mi,.int .i64 ss,.string UT] 26);have HB4:=af (ag (ae HB3) hA);have HF4:=af ((ae HF3).later hA (a0a _));have HH4:=af ((ae HH3).later hA (a0a _));have R4:=af ((ae R3).later hA (ae R3).1);have Q4:=af (az x2 #[.string NM,.int .i64 yy,.int .i64 mo,.int .i64 dd,.int .i64 hh,.int .i64 mi,.int .i64 ss,.string UT] 26);obtain⟨fa,fc,hu4,_,_⟩:=(ae HF4).formN (ae HAt).1;have hQB:HB<x2.heap.size:=(ae R3).1;have CRo:=af (kU fa fc q.1 k (ae HAt).1 ⟨NM,yy,mo,dd,hh,mi,ss,UT⟩ m _ (bq (ae HAt).1 (by have:=ae HF4;rw[hu4]at this;exact this)) (by omega) (fun i hi=>by have:=(EJ (ae HZ) i hi).1;omega) hNs (by show(UT.size:Int)<=_;omega) (ae CM _ (ae HB4)));rw[←hu4]at CRo;clear hA HY HN CPu HF3 HH3 R3 hu4 HB3 hNs hUs;go_wp2_with fail;refine(ae CRo).mono ?_;rintro e x4 ⟨rfl,hb4⟩;have HB5:=af (ag (ae HB4) hb4);have HF5:=af ((ae HF4).later hb4 (a0a _));have HH5:=af ((ae HH4).later hb4 (a0a _));have R5:=af ((ae R4).later hb4 (ae R4).1);have Q5:=af ((ae Q4).later hb4 (ae Q4).1);obtain⟨QB,hQBe⟩:∃x,x2.heap.size=x:=⟨_,rfl⟩;rw[hQBe]at Q5 hQB;rw[hQBe];clear hb4 HB4 HF4 HH4 R4 Q4 CRo hQBe;by_cases hc0:aH q.1 ⟨NM,yy,mo,dd,hh,mi,ss,UT⟩=0
     ·
      rw[show cH (aH q.1 ⟨NM,yy,mo,dd,hh,mi,ss,UT⟩) = .nilIface by rw[hc0];rfl];have HNX:Hid (∃T,zst s (k+1)=some (q.1++[⟨NM,yy,mo,dd,hh,mi,ss,UT⟩],T,q.2.2+PB.size)/\aY (q.1++[⟨NM,yy,mo,dd,hh,mi,ss,UT⟩])=true):=by
       obtain⟨T,hT,hE⟩:=ae HEX;have h2:=BN (ae HZ) hT;rw[hE,ae HLO]at h2;exact⟨_,h2,(eK (ae HZB) _).2 hc0⟩
      have hlen1:Hid ((k+1<=maxLen/\(k+1)*80<=140737488355328)/\(k+1)*64<=140737488355328):=by
       show(_/\_)/\_;unfold maxLen;omega
      have hf1:=aQ.own (ae HAt).1 (ae HF5);have hh1:=aQ.own (pF s k) (ae HH5);have hbs1:=(ae HB5).size;have pA:=(ae Q5).cells (n:=8) rfl;clear hc0 HEX HMk HSS HE;go_wp2_with (first
       | (at_builtin;refine a0F _ rfl _ _ 30 rfl w.heap.size 26 i0 (.agg #[.string ⟨#[]⟩,.int .i64 0,.int .i64 0,.int .i64 0,.int .i64 0,.int .i64 0,.int .i64 0,.string ⟨#[]⟩]) 8 80 a1i hi hz0 hz1 hz2 rfl (by decide) _ _ _ rfl (a0m hf1 _) ⟨x4.heap.size,0,none⟩ 1 1 (bp ⟨NM,yy,mo,dd,hh,mi,ss,UT⟩) rfl rfl (gO x4 _ _) (eW _) (ae hlen1).1.1 (ae hlen1).1.2 (ay hbs1 _) ?_;intro v5 x5 hown hgrow hnil;clear hnil;have R6:=af (Blk.grown (Blk.later (ae R5) ((a0b _ _).alloc (a0a _) _) (ae R5).1) hgrow (fun e=>absurd (ae hap1 _ e.symm) (a2A _)));have rA:=(ae R6).cells (n:=7) rfl;have hh2:=qH hh1 hf1 (by decide) hgrow;have hb6:=aK (v:=u4) hgrow hf1 (a0a _) hbs1 (ae HB5);have hbs2:=hb6.size)
       | (at_builtin;refine a0F _ rfl _ _ 79 rfl w.heap.size 81 j0 (.agg #[.int .i64 0,.int .i64 0,.int .i64 0,.int .i64 0,.int .i64 0,.string ⟨#[]⟩,.int .i64 0]) 7 64 Tryz.underlying79 hj hy0 hy1 hy2 rfl (by decide) _ _ _ rfl (a0m hh2 _) ⟨x5.heap.size,0,none⟩ 1 1 (vW ⟨HW,ST,CR,PK,LN,NM,q.2.2⟩) rfl rfl (gO x5 _ _) (FI _) (ae hlen1).1.1 (ae hlen1).2 (ay hbs2 _) ?_;intro v6 x6 hown2 hgrow2 hnil;clear hnil;have R7:=af (Blk.grown (Blk.later (ae R6) ((a0b _ _).alloc (a0a _) _) (ae R6).1) hgrow2 (fun e=>absurd (ae hap2 _ e.symm) (a2A _)));have rA:=(ae R7).cells (n:=7) rfl;have hf2:=qH hown hh2 (by decide) hgrow2;have hb7:=aK (v:=u5) hgrow2 hh2 (a0a _) hbs2 hb6))
      refine(ae HPu _).mono ?_;rintro e x7 ⟨rfl,hb8⟩;have hq2:dC x6 w.heap.size v5 (q.1++[⟨NM,yy,mo,dd,hh,mi,ss,UT⟩]):=aQ.snoc (ae HAt).1 hf2;have hq3:Me x6 w.heap.size v6 (hqL s k++[qx s k]):=aQ.snoc (pF s k) (by rw[ae HQA];exact hown2);rw[←Gc]at hq3;have HF8:=af (hq2.later hb8 (a0a _));have HH8:=af (hq3.later hb8 (a0a _));have HB8:=af (ag hb7 hb8);clear hown hown2 hgrow hgrow2 hq2 hq3 hb8 hb7 hb6 hbs1 hbs2 hf1 hf2 hh1 hh2 rA R5 R6 R7 Q5 pA HF5 HH5 HB5;go_wp2;go_roundw
      case rel=>
       obtain⟨C,hz2,hb2⟩:=ae HNX;exact⟨k+1,_,hz2,hb2,by go_num,ae HF8,ae HH8,ae HB8⟩
      case measure=>simp[intOf];omega
     ·
      rw[show cH (aH q.1 ⟨NM,yy,mo,dd,hh,mi,ss,UT⟩) = .iface 92 (.agg #[.int .i64 (aH q.1 ⟨NM,yy,mo,dd,hh,mi,ss,UT⟩)]) by unfold cH;rw[a0e hc0]];have HNone:Hid (dp s=none):=by
       obtain⟨T,hT,hE⟩:=ae HEX;exact Fa (ae HZ) (ae HZB) (ae HMk) hT (by rw[hE];exact hc0)
      have HC:=af hc0;clear hc0 HEX;generalize aH q.1 ⟨NM,yy,mo,dd,hh,mi,ss,UT⟩=c at *
      go_wp2
      go_ret2
      exact⟨yG (ae HNone) c (ae HC),ae HB5⟩
   ·
    have HNone:=af (vy (ae HZ) (ae HMk) (Gx hd));obtain⟨o1,o2,o3,o4,o5,o6,o7⟩:=ho;have CEn:=af (fun W (hb:Below w.heap.size w W)=>oS a b c d f n t m W (by have:=ae HSS;omega) o1 o2 o3 o5 (by have:=ae HSS;omega) (ae CM _ hb) (ae HO _ hb));unfold enE at CEn;generalize enB a b c f n t=EB at *
    generalize uxT a t=UT at *
    generalize zz (gOk (b:Nat)) (gY (b:Nat))=yy at *
    generalize zz (gOk (b:Nat)) (gM (b:Nat))=mo at *
    generalize zz (gOk (b:Nat)) (gD (b:Nat))=dd at *
    generalize zz (gOk (b:Nat)) (gH (b:Nat))=hh at *
    generalize zz (gOk (b:Nat)) (gI (b:Nat))=mi at *
    generalize zz (gOk (b:Nat)) (gS (b:Nat))=ss at *
    have HB2:=af (ag (ae HB1) ((a0b x1.heap.size x1).alloc (a0a _) (.cells #[.int .i64 (a:Nat),.int .i64 (b:Nat),.int .i64 (c:Nat),.int .i64 (d:Nat),.int .i64 (f:Nat),.string n,.string t] 53)));clear o1 o2 o3 o4 o5 o6 o7 HF1 HH1 hap1 hap2 hd HSS HAt HE;go_wp2_with fail;refine(ae CEn _ (ae HB2)).mono ?_;rintro e x2 ⟨rfl,hb2⟩;have HB3:=af (ag (ae HB2) hb2);clear hb2 HB2 CEn;cases EB
    ·
     rw[show(if false=true then Value.tuple #[.agg #[.string n,.int .i64 yy,.int .i64 mo,.int .i64 dd,.int .i64 hh,.int .i64 mi,.int .i64 ss,.string UT],.bool true]else .tuple #[noE,.bool false]) = .tuple #[.agg #[.string ⟨#[]⟩,.int .i64 0,.int .i64 0,.int .i64 0,.int .i64 0,.int .i64 0,.int .i64 0,.string ⟨#[]⟩],.bool false]from rfl];have HB4:=af (ag (ae HB3) ((a0b x2.heap.size x2).alloc (a0a _) (.cells #[.string ⟨#[]⟩,.int .i64 0,.int .i64 0,.int .i64 0,.int .i64 0,.int .i64 0,.int .i64 0,.string ⟨#[]⟩] 26)));go_wp2
     go_ret2
     exact⟨yG (ae HNone) 1 (by decide),ae HB4⟩
    ·
     rw[show(if true=true then Value.tuple #[.agg #[.string n,.int .i64 yy,.int .i64 mo,.int .i64 dd,.int .i64 hh,.int .i64 mi,.int .i64 ss,.string UT],.bool true]else .tuple #[noE,.bool false]) = .tuple #[.agg #[.string n,.int .i64 yy,.int .i64 mo,.int .i64 dd,.int .i64 hh,.int .i64 mi,.int .i64 ss,.string UT],.bool true]from rfl];have HB4:=af (ag (ae HB3) ((a0b x2.heap.size x2).alloc (a0a _) (.cells #[.string n,.int .i64 yy,.int .i64 mo,.int .i64 dd,.int .i64 hh,.int .i64 mi,.int .i64 ss,.string UT] 26)));go_wp2
     go_ret2
     exact⟨yG (ae HNone) 1 (by decide),ae HB4⟩
  ·
   rw[a0n hmk]at CX;have HSt:=af (EG hz hzb hmk);obtain⟨ha,hc,hu5,_,_⟩:=hh.formN (pF s k);have HW:Hid (rW wr ha k fun i=>vW (qx s i)):=by
    rw[hu5]at hh;intro h0;obtain⟨g,e,hg,hc⟩:=rt FH ⟨0,0,0,0,0,⟨#[]⟩,0⟩ (pF s k) hh h0;exact⟨g,e,hg,fun i hi j u hu=>hc i hi j u (by show(vW ((hqL s k).getD i _))[j]?=_;rw[JV s k i _ hi];exact hu)⟩
   have CEnd:Hid (∀W,Below wr.heap.size wr W->Calls Tryz.prog 52 #[.slice ha k hc,.int .i64 (q.2.2:Nat)] W fun e w'=>e = .returned (.string (q.2.1++ep k q.2.1.size q.2.2))/\Below W.heap.size W w'):=fun W hb=>by
    have:=yz ha hc k q.2.2 (qx s) W ((ae HW).later hb) hk6 (JU (ae HS) (ae HZ)) (by omega);rw[wU (ae HZ)]at this;exact this
   rw[←hu5]at CEnd;rw[←ae HE]at CX HSt;have q1:=fun d os=>Calls.regrown_of (w:=wr) (d:=d) (os:=os) (ae CEnd _ (below_regrown wr d os));have z1:((q.2.2:Nat):Int).toNat=q.2.2:=a0q _;generalize q.2.1++ep k q.2.1.size q.2.2=EN at *
   obtain⟨X,hX⟩:∃x,s.extract q.2.2 s.size=x:=⟨_,rfl⟩;rw[hX]at CX HSt;obtain⟨B,hB⟩:∃b,(X.toList == EN.toList)=b:=⟨_,rfl⟩;have HB:=af hB;clear hf hh hbel hzat hz hzb hss hmk HH HW CEnd hu5 HZ HZB HAt HE;go_wp2_with fail;refine(ae CX _).mono ?_;rintro e x0 ⟨rfl,hx0⟩;subst hx0;clear CX;go_wp2_with fail;refine wp_region_quiet_below hmix (by kernel_rfl) ?_;cases B
   all_goals
    quiet_step (fail)
    quiet_step (fail)
    quiet_step (fail)
    quiet_step (fail)
    quiet_step (fail)
    quiet_step (exact q1 _ _)
    quiet_step (fail)
    refine a2e ?_;intro zw hw';obtain⟨⟨dq,osq⟩,hw2⟩:=hw';have HZ:=below_regrown x0 dq osq;rw[←hw2]at HZ;have T9:=af (ag (ae HBel) HZ);have O9:=af ((ae HF).later HZ (a0a _));clear hw2 HZ q1
   ·
    have HN:Hid (dp s=none):=by show _=_;rw[ae HSt,a0e (fun e=>by have:=(E7 (ae HB)).2 e;cases this)]
    go_wp2
    go_ret2
    exact⟨yG (ae HN) 1 (by decide),ae T9⟩
   ·
    have HY:Hid (dp s=some q.1):=by show _=_;rw[ae HSt,a0d ((E7 (ae HB)).1 rfl)]
    go_wp2
    go_ret2
    exact⟨⟨_,0,rfl,fun _=>⟨_,ae HY,ae O9⟩,fun h=>absurd rfl h⟩,ae T9⟩
theorem iq.later{w W:World}(hg:iq w)(hb:Below w.heap.size w W):iq W:=(hb.cell (p:=⟨0,0,none⟩) (World.block_lt_of_cell? _ _ hg)).trans hg
theorem dH(s:ByteArray)(m:Int)(w:World)(hs:s.size<=1048576)(hm:w.cell? ⟨2,0,none⟩=some (.int .i64 m))(hg:iq w)(hO:bY w) :
  Calls Tryz.prog 12 #[.string s] w fun e w'=>(∃v,e = .returned (.tuple #[v,.bool (dp s).isSome])/\dC w' w.heap.size v ((dp s).getD []))/\Below w.heap.size w w':=by
 have C:=af (yE s m w hs hm hO);have HG:=af hg;clear hm hg hO hs;go_enter Tryz.func12,Tryz.ntmps12;go_wp2_with fail;refine(ae C).mono ?_;rintro e x1 ⟨⟨v,c,rfl,h0,h1⟩,hb1⟩;have HB1:=af hb1;have C2:=af (iG c x1 ((ae HG).later hb1));have H0:=af h0;have H1:=af h1;clear h0 h1 hb1 C HG;generalize cH c=FV at *
 go_wp2_with fail;refine(ae C2).mono ?_;rintro e x2 ⟨rfl,hb2⟩;have HB2:=af (ag (ae HB1) hb2);by_cases hc:c=0
 ·
  obtain⟨l,hl,hown⟩:=ae H0 hc;have HL:=af hl;have HO:=af (hown.later hb2 (a0a _));subst hc;clear hl hown hb2 C2 H0 H1 HB1;go_wp2
  go_ret2
  exact⟨⟨_,by rw[ae HL];rfl,by rw[ae HL];exact ae HO⟩,ae HB2⟩
 ·
  have HL:=af (ae H1 hc);have hd:decide (c=0)=false:=a0n hc;clear hb2 C2 H0 H1 HB1;go_wp2
  go_ret2
  exact⟨⟨_,by rw[ae HL];rfl,by rw[ae HL];exact aQ.nil _ _⟩,ae HB2⟩
theorem Lm(l:List En)(x:ByteArray):atN l x = -1∨∃k,k<l.length/\atN l x=(k:Int):=by
 unfold atN;cases h:l.findIdx? (fun e=>e.n.data.toList == x.data.toList)with
 | none=>exact .inl rfl
 | some k=>exact .inr ⟨k,(List.findIdx?_eq_some_iff_getElem.1 h).1,rfl⟩
theorem I9{s:ByteArray} : ((dp s).getD []).length<=6:=by
 cases h:dp s with
 | none=>simp
 | some l=>
  obtain⟨_,q,_,rfl,hz,_⟩:=lI h;exact(da hz).2
def goes(e f:En):Prop:=bf e.n.data.toList f.n.data.toList=false
theorem rU(l:List En):aY l=true<->(∀e∈l,fe e=true)/\l.Pairwise goes/\l.length<=6:=by
 rw[lJ,List.pairwise_iff_getElem];have g:∀i (hi:i<l.length),l.getD i default=l[i]:=fun i hi=>by simp[List.getD,hi]
 constructor
 ·
  intro h;refine⟨fun e he=>?_,fun i j hi hj hij=>?_,?_⟩
  · obtain⟨i,hi,rfl⟩:=a1o he;have:=((ew hi).1 (h i hi)).1;rwa[g i hi]at this
  · have:=((ew hj).1 (h j hj)).2.1 i hij;rw[g i hi,g j hj]at this;exact this
  ·
   rcases a1e 6 l.length with h6|h6
   · have:=((ew h6).1 (h 6 h6)).2.2;omega
   · exact h6
 · rintro⟨h1,h2,h3⟩ i hi;refine(ew hi).2 ⟨by rw[g i hi];exact h1 _ (a1O _),fun j hj=>?_,by omega⟩;rw[g i hi,g j (by omega)];exact h2 j i (by omega) hi hj
theorem ET(l:List En)(x:ByteArray):gk l x=false<->∀e∈l,bf e.n.data.toList x.data.toList=false:=by
 unfold gk;rw[List.any_eq_false];simp
theorem EH{l:List En}(h:aY l=true)(k:Nat):aY (l.eraseIdx k)=true:=by
 obtain⟨h1,h2,h3⟩:=(rU l).1 h;have hs:=List.eraseIdx_sublist l k;exact(rU _).2 ⟨fun e he=>h1 e (hs.subset he),h2.sublist hs,a0D hs.length_le h3⟩
def fX:List En->List En->Int×List En
 | [],l=>(0,l)
 | e :: r,l=>if aH l e=0 then fX r (l++[e])else(aH l e,[])
def iv(x:ByteArray)(l:List En):Int×List En:=if atN l x<0 then(2,[])else(0,l.eraseIdx (atN l x).toNat)
theorem Lf{r l:List En}(h:aY l=true)(h0:(fX r l).1=0):aY (fX r l).2=true:=by
 induction r generalizing l with
 | nil=>exact h
 | cons e r ih=>
  unfold fX at h0 ⊢
  split at h0
  · rename_i hc;rw[a0d hc];exact ih ((eK h e).2 hc) h0
  · rename_i hc;exact absurd h0 hc
theorem Jz{x:ByteArray}{l:List En}(h:aY l=true)(h0:(iv x l).1=0):aY (iv x l).2=true:=by
 unfold iv at h0 ⊢
 split
 · rename_i hc;rw[a0d hc]at h0;cases h0
 · exact EH h _
theorem Lw{l:List En}{k:Nat}(h:aY l=true)(hk:k<l.length):fe (l.getD k default)=true:=(da h).1 k hk
def edR(s:ByteArray)(d:List En->Int×List En):Value:=match dp s with
 | none=>.tuple #[.string ⟨#[]⟩,.int .i64 1]
 | some l=>if (d l).1=0 then .tuple #[.string (bz (d l).2),.int .i64 0]else .tuple #[.string s,.int .i64 (d l).1]
theorem AL{s:ByteArray}(h:dp s=none)(d:List En->Int×List En):edR s d = .tuple #[.string ⟨#[]⟩,.int .i64 1]:=by unfold edR;rw[h]
theorem nU{s:ByteArray}{l r:List En}{d:List En->Int×List En}(h:dp s=some l)(h0:d l=(0,r)):edR s d = .tuple #[.string (bz r),.int .i64 0]:=by unfold edR;rw[h];simp[h0]
theorem vV{s:ByteArray}{l r:List En}{d:List En->Int×List En}{c:Int}(h:dp s=some l)(h0:d l=(c,r))(hc:c≠0):edR s d = .tuple #[.string s,.int .i64 c]:=by unfold edR;rw[h];simp[h0,hc]
theorem uo(s:ByteArray)(d:List En->Int×List En):∃t c,edR s d = .tuple #[.string t,.int .i64 c]:=by
 unfold edR
 split
 · exact⟨_,_,rfl⟩
 · split<;>exact⟨_,_,rfl⟩
theorem nJ{s:ByteArray}{l:List En}(h:dp s=some l):aY l=true:=by
 obtain⟨_,q,_,rfl,hz,_⟩:=lI h;exact hz
theorem lK{l:List En}(h:aY l=true):∀i,i<l.length->(l.getD i default).n.size<=1048576/\((l.getD i default).t.size:Int)<=9223372036854775807:=by
 intro i hi;obtain⟨f1,f2,_⟩:=ck (n:=(l.getD i default).n) (t:=(l.getD i default).t) (Lw h hi);exact⟨by omega,by omega⟩
theorem lk(l:List En):∀u∈l.flatMap bp,u.oneCell'=true:=fun u hu=>by
 obtain⟨e,_,h⟩:=List.mem_flatMap.1 hu;exact eW e u h
end Go.Proofs.YtfhdadkcophoaaaGreatDoor
namespace Go.Proofs.YtfhdadkcophoaaaGreatDoor
open Corb
set_option maxRecDepth 100000
theorem Ka{e:En}(k:fe e=true)(r:ByteArray):gp (loE e++r)=some e.t/\enO (loE e++r) e.t=e/\(∀p,ctO (loE e++r) p=heE e p)/\nd (loE e++r)=(loE e).size:=by
 have k':eZ e.n e.y e.mo e.d e.h e.mi e.s e.t=true:=k;obtain⟨f1,f2,f3⟩:=ck k';obtain⟨g1,g2,g3,g4⟩:=ny f3;have e2:(((stN e.y e.mo e.d e.h e.mi e.s).toNat:Nat):Int)=stN e.y e.mo e.d e.h e.mi e.s:=by rw[←g4];simp[stI,f3]
 have hz:=(oV (n:=e.n) (t:=e.t) g3 (by omega) (by omega)).1;obtain⟨r0,r1,r2,r3,r4,r5,r6,r7,r8⟩:=wY (n:=e.n) (t:=e.t) g3 (by omega) (by omega) r;obtain⟨s0,s1,s2,s3,s4,s5⟩:=KL f3;have el:loE e=cK e.n e.t (stN e.y e.mo e.d e.h e.mi e.s).toNat:=rfl;rw[el];refine⟨?_,?_,fun p=>?_,?_⟩
 · unfold gp;rw[a0d r0,r1,r8,IY e.t f2];simp only;rw[a0d];unfold JD Cw;rw[r3,r5,r2,r7,e2,s0,s1,s2,s3,s4,s5,k'];simp
 · unfold enO;rw[r7,r2,e2,s0,s1,s2,s3,s4,s5]
 · unfold ctO heE eN;rw[r1,r2,r3,r4,r5,r7]
 · unfold nd;rw[r6,r4,hz]
theorem BH(a b:ByteArray):sub (a++b) a.size=b:=dD (by
 rw[xV];simp only[a23,a1U];exact List.drop_left' (by simp))
theorem tT(l:List En)(k:Nat):∀j,k<=j->j<=l.length->∃x,(aG (l.take j)).1=(aG (l.take k)).1++x
 | 0,h,_=>by
  have:k=0:=by omega
  subst this;exact⟨⟨#[]⟩,dD (by simp)⟩
 | j+1,h,hj=>by
  by_cases e:k=j+1
  · subst e;exact⟨⟨#[]⟩,dD (by simp)⟩
  · obtain⟨x,hx⟩:=tT l k j (by omega) (by omega);refine⟨x++loE (l.getD j default),?_⟩;rw[gR l j (by omega)];show(aG (l.take j)).1++loE _=_;rw[hx,a2J]
theorem Jb{l:List En}(h:aY l=true){k:Nat}(hk:k<l.length):∃r,bz l=(aG (l.take k)).1++(loE (l.getD k default)++r):=by
 obtain⟨x,hx⟩:=tT l (k+1) l.length (by omega) (a0a _);rw[a2b,gR l k hk]at hx;have hx:(aG l).1=(aG (l.take k)).1++loE (l.getD k default)++x:=hx;refine⟨x++((aG l).2++ep l.length (aG l).2.size (aG l).1.size),?_⟩;unfold bz;rw[a0d h,a2J];generalize (aG l).2++ep l.length (aG l).2.size (aG l).1.size=T;rw[hx];simp only[a2J]
theorem yH{l:List En}(h:aY l=true):∀k,k<=l.length->zst (bz l) k=some (l.take k,(aG (l.take k)).2,(aG (l.take k)).1.size)
 | 0,_=>rfl
 | k+1,hk=>by
  have ih:=yH h k (by omega);obtain⟨r,hr⟩:=Jb h (by omega:k<l.length);have hs:sub (bz l) (aG (l.take k)).1.size=loE (l.getD k default)++r:=by rw[hr,BH]
  obtain⟨b1,b2,b3,b4⟩:=Ka ((da h).1 k (by omega)) r;have:=BN (T:=(l.getD k default).t) ih (by show gp (sub _ _)=_;rw[hs];exact b1);rw[this];simp only[hs,b2,b3,b4];rw[gR l k (by omega),mw l default k (by omega)];simp only[Au,a0z]
theorem ea{l:List En}(h:aY l=true):dp (bz l)=some l:=by
 have hz:=yH h l.length (a0a _);rw[a2b]at hz;refine yC hz h ?_;show sub (bz l) (aG l).1.size=(aG l).2++ep l.length (aG l).2.size (aG l).1.size;unfold bz;rw[a0d h,a2J,BH]
theorem rT{l:List En}(h:aY l=true):(bz l).size=(aG l).1.size+(aG l).2.size+22:=by
 unfold bz;rw[a0d h,a0z,a0z,nV]
theorem io(l:List En):(bz l).size<=4000:=by
 by_cases h:aY l=true
 · rw[rT h];obtain⟨h1,h2⟩:=da h;have:=lH l h1 l.length (a0a _);rw[a2b]at this;omega
 · unfold bz;rw[a0e h];exact a0h _
theorem Ja:(bz []).size=22:=by rw[rT pR,yA];rfl
theorem Ig{e:En}(h:fe e=true):aH [] e=0:=by unfold aH gk;rw[a0d h];rfl
theorem vr{l:List En}{e:En}(h:aH l e=0):fX [e] l=(0,l++[e]):=by unfold fX;rw[a0d h];rfl
theorem vt{l:List En}{e:En}(h:aH l e≠0):fX [e] l=(aH l e,[]):=by unfold fX;rw[a0e h]
end Go.Proofs.YtfhdadkcophoaaaGreatDoor
namespace Go.Proofs.YtfhdadkcophoaaaGreatDoor
open Go.RowKit Corb
set_option maxRecDepth 100000
theorem rn(w:World)(base d:Nat)(hb:base<=w.heap.size)(hd:d<256):bG (w.alloc (.cells #[.int .u8 (d:Int)] 5)) base (.slice (some ⟨w.heap.size,0,none⟩) 1 1) [UInt8.ofNat d]:=by
 have h:(w.alloc (.cells #[.int .u8 (d:Int)] 5)).ownsRow base 5 1 (.slice (some ⟨w.heap.size,0,none⟩) 1 1) 1 [.int .u8 (d:Int)]:=a1a w #[.int .u8 (d:Int)] 1 hb (by unfold maxLen;omega) rfl;have e:((UInt8.ofNat d).toNat:Int)=(d:Int):=by rw[UInt8.toNat_ofNat'];omega
 show World.ownsRow _ _ _ _ _ _ (dt [UInt8.ofNat d]);rw[show dt [UInt8.ofNat d]=[.int .u8 ((UInt8.ofNat d).toNat:Int)]from rfl,e];exact h
def encS(x:ByteArray):List Value:=[.string x]
theorem vX(x:ByteArray):(encS x).length=1:=rfl
theorem FJ(x:ByteArray):∀u∈encS x,u.oneCell'=true:=by
 intro u hu;rw[encS,a0T]at hu;subst hu;rfl
abbrev tX:=aQ (α:=ByteArray) 9 1 encS
theorem tX.cell{w:World}{base g cap n:Nat}{l:List ByteArray}(hn:l.length=n)(h:tX w base (.slice (some ⟨g,0,none⟩) n cap) l)(i:Nat)(hi:i<n):w.cell? ⟨g,i,none⟩=some (.string (l.getD i ⟨#[]⟩))/\w.frozen? ⟨g,i,none⟩=false:=by
 have:=aQ.at vX ⟨#[]⟩ hn h i 0 hi (by omega);rw[a2n,a0X]at this;exact this
theorem tX.put{w:World}{base g cap n:Nat}{l:List ByteArray}(hn:l.length=n)(h:tX w base (.slice (some ⟨g,0,none⟩) n cap) l)(j:Nat)(hj:j<n)(x:ByteArray):tX (w.setCell ⟨g,j,none⟩ (.string x)) base (.slice (some ⟨g,0,none⟩) n cap) (l.set j x):=by
 have:=aQ.put vX hn h j hj x;rw[a2n]at this;exact this
theorem wa(e:En)(b:Nat)(x:ByteArray)(w:World)(hb:w.cell? ⟨b,0,none⟩=some (.string x)) :
  Calls Tryz.prog 106 #[.agg #[.string e.n,.int .i64 e.y,.int .i64 e.mo,.int .i64 e.d,.int .i64 e.h,.int .i64 e.mi,.int .i64 e.s,.string e.t],.pointer (some ⟨b,0,none⟩)] w fun f w'=>f = .returned (.bool (e.n.toList == x.toList))/\Below w.heap.size w w':=by
 have hlt:b<w.heap.size:=World.block_lt_of_cell? _ _ hb;have hne:¬ b=w.heap.size:=by omega
 have hcl:(w.alloc (.cells #[.string e.n,.int .i64 e.y,.int .i64 e.mo,.int .i64 e.d,.int .i64 e.h,.int .i64 e.mi,.int .i64 e.s,.string e.t] 26)).cell? ⟨b,0,none⟩=some (.string x):=by
  rw[World.cell?_alloc_past _ _ _ hlt];exact hb
 clear hb;go_enter Tryz.func106,Tryz.ntmps106;go_wp2;go_ret;exact⟨rfl,(a0b _ _).alloc (a0a _) _⟩
theorem sj(a:Option Addr)(cap:Nat)(l:List En)(n:Nat)(hn:l.length=n)(b:Nat)(x:ByteArray)(w:World)(h:gT w a l)(hl:(n:Int)<=1048576)(hb:w.cell? ⟨b,0,none⟩=some (.string x)) :
  Calls Tryz.prog 105 #[.slice a n cap,.func (.func 106) #[] #[.pointer (some ⟨b,0,none⟩)]] w fun e w'=>e = .returned (.int .i64 (atN l x))/\Below w.heap.size w w':=by
 have HR:=af h;have HBc:=af (fun W (hW:Below w.heap.size w W)=>(hW.cell (p:=⟨b,0,none⟩) (World.block_lt_of_cell? _ _ hb)).trans hb);have HH:=af (fun k (hk:k<l.length)=>@uc l x k hk);have HM:=af (@vw l x);rw[hn]at HH HM;have HN:=af hn;clear h hn hb;go_enter Tryz.func105,Tryz.ntmps105;go_wp2_with fail
 go_loopw [5,8] (fun _ i wr=>∃k:Nat,k<=n/\i = .int .i64 k/\(∀j,j<k->¬ (l.getD j default).n.toList=x.toList)/\Below w.heap.size w wr) (fun _ i _=>n-(intOf i).toNat)
 case atStart=>exact⟨0,a0h _,rfl,fun j hj=>absurd hj (by omega),a0b _ _⟩
 case round=>
  obtain⟨k,hk,rfl,hall,hbel⟩:=hrel;have HALL:=af hall;have HBel:=af hbel;clear hall hbel;by_cases hkn:k<n
  ·
   have hkI:(k:Int)<(n:Int):=by omega
   obtain⟨g,o,rfl,hg,hc⟩:=(ae HR).later (ae HBel) (by have:=ae HN;omega);obtain⟨c0,c1,c2,c3,c4,c5,c6,c7⟩:=hc k (by have:=ae HN;omega);have HKN:=af hkn;have HHk:=af (ae HH k hkn (ae HALL));have HC:=af (fun W (hW:Below w.heap.size w W)=>wa (l.getD k default) b x W (ae HBc W hW));have HNX:Hid (¬ (l.getD k default).n.toList=x.toList->∀j,j<k+1->¬ (l.getD j default).n.toList=x.toList):=by
    intro e j hj;by_cases hjk:j=k
    · rw[hjk];exact e
    · exact ae HALL j (by omega)
   clear hc hk HALL hkn;generalize l.getD k default=en at *
   go_wp2_with fail;refine(ae HC _ (ae HBel)).mono ?_;rintro e z1 ⟨rfl,hz1⟩;have BZ:=af (ag (ae HBel) hz1);clear hz1 c0 c1 c2 c3 c4 c5 c6 c7;by_cases e:en.n.toList=x.toList
   · have HE:=af (ae HHk e);rw[show(en.n.toList == x.toList)=true by simp only[a3u];exact e];go_wp2;go_ret;exact⟨by rw[ae HE];rfl,ae BZ⟩
   ·
    have HX:=af (ae HNX e);rw[show(en.n.toList == x.toList)=false by simp only[a0Z,ne_eq];exact e];clear e;go_wp2;go_roundw
    case rel=>exact⟨k+1,by have:=ae HKN;omega,by go_num,ae HX,ae BZ⟩
    case measure=>have:=ae HKN;simp[intOf];omega
  ·
   obtain rfl:k=n:=by omega
   have HE:=af (ae HM (ae HALL));go_wp2;go_ret;exact⟨by rw[ae HE];rfl,ae HBel⟩
def FM(k:Int):Value:=if k<0 then .tuple #[.int .i64 0,.iface 92 (.agg #[.int .i64 2])]else .tuple #[.int .i64 k,.nilIface]
theorem AP{k:Int}(h:k<0):FM k = .tuple #[.int .i64 0,.iface 92 (.agg #[.int .i64 2])]:=a0d h
theorem we{k:Int}(h:¬ k<0):FM k = .tuple #[.int .i64 k,.nilIface]:=a0e h
theorem ut(a:Option Addr)(cap:Nat)(l:List En)(n:Nat)(hn:l.length=n)(x:ByteArray)(w:World)(h:gT w a l)(hl:(n:Int)<=1048576) :
  Calls Tryz.prog 68 #[.slice a n cap,.string x] w fun e w'=>e = .returned (FM (atN l x))/\Below w.heap.size w w':=by
 have hA:=af ((a0b w.heap.size w).alloc (a0a _) (.cells #[.string x] 9));have C:=af (sj a cap l n hn w.heap.size x _ (h.later (ae hA)) hl ((az w #[.string x] 9).cell 0 _ rfl));clear h hn;go_enter Tryz.func68,Tryz.ntmps68;go_wp2_with fail;refine(ae C).mono ?_;rintro f x1 ⟨rfl,hb1⟩;have HB1:=af (ag (ae hA) hb1);clear hb1 hA C;by_cases h0:atN l x<0
 ·
  have HI:=af (AP h0);go_wp2
  go_ret2
  exact⟨by rw[ae HI];rfl,ae HB1⟩
 ·
  have HI:=af (we h0);go_wp2
  go_ret2
  exact⟨by rw[ae HI];rfl,ae HB1⟩
def vn(b:Nat)(w:World)(d:Int×List En)(e:Ending)(w':World):Prop:=(∃v,e = .returned (.tuple #[v,cH d.1])/\(∃a n c,v = .slice a n c)/\(d.1=0->dC w' b v d.2))/\Below b w w'
theorem AJ{b:Nat}{w w':World}{d:Int×List En}{c:Int}(h:d.1=c)(hc:c≠0)(hb:Below b w w'):vn b w d (.returned (.tuple #[.slice none 0 0,.iface 92 (.agg #[.int .i64 c])])) w':=by
 subst h;exact⟨⟨_,by unfold cH;rw[a0e hc],⟨_,_,_,rfl⟩,fun h0=>absurd h0 hc⟩,hb⟩
def rj(l:List En):List ByteArray:=l.map (·.n)
theorem xl(l:List En):(rj l).length=l.length:=by simp[rj]
theorem Dy(l:List En)(k:Nat)(h:k<l.length):rj (l.take (k+1))=rj (l.take k)++[(l.getD k default).n]:=by
 have e:l.take (k+1)=l.take k++[l.getD k default]:=by
  rw[a05 h]
  congr 2
  simp[List.getD,h]
 rw[e];simp[rj]
theorem Dz(l:List En)(k:Nat)(h:k<=l.length):(rj (l.take k)).length=k:=by rw[xl,a0x];omega
theorem sB(e:En)(w:World) :
  Calls Tryz.prog 36 #[.agg #[.string e.n,.int .i64 e.y,.int .i64 e.mo,.int .i64 e.d,.int .i64 e.h,.int .i64 e.mi,.int .i64 e.s,.string e.t]] w fun x w'=>x = .returned (.string e.n)/\Below w.heap.size w w':=by
 have hA:=af ((a0b w.heap.size w).alloc (a0a _) (.cells #[.string e.n,.int .i64 e.y,.int .i64 e.mo,.int .i64 e.d,.int .i64 e.h,.int .i64 e.mi,.int .i64 e.s,.string e.t] 26));go_enter Tryz.func36,Tryz.ntmps36;go_wp2;go_ret;exact⟨rfl,ae hA⟩
theorem un(a:Option Addr)(cap n:Nat)(l:List En)(w:World)(hn:l.length=n)(h:gT w a l)(hm:n<=6) :
  Calls Tryz.prog 35 #[.slice a n cap,.func (.func 36) #[] #[]] w fun e w'=>∃v,e = .returned v/\tX w' w.heap.size v (rj l)/\Below w.heap.size w w':=by
 have hmI:(n:Int)<=6:=by omega
 have Hn:=af hn;have HR:=af h;clear hn hm h;obtain⟨i0,hi,hz0,hz1,hz2⟩:=a0r Tryz.infoStr;go_enter Tryz.func35,Tryz.ntmps35;go_wp2_with fail
 go_loopw [5,7,10] (fun o _ i wr=>∃k:Nat,k<=n/\i = .int .i64 k/\tX wr w.heap.size o (rj (l.take k))/\Below w.heap.size w wr) (fun _ _ i _=>n-(intOf i).toNat)
 case atStart=>exact⟨0,a0h _,rfl,aQ.nil _ _,a0b _ _⟩
 case round=>
  obtain⟨k,hk,rfl,hq,hbel⟩:=hrel;have hbs:=hbel.size;by_cases hlt:k<n
  ·
   obtain⟨g,o,rfl,hg,hcc⟩:=(ae HR).later hbel (by have:=ae Hn;omega);obtain⟨c0,c1,c2,c3,c4,c5,c6,c7⟩:=hcc k (by have:=ae Hn;omega);have hst:=af (Dy l k (by rw[ae Hn];exact hlt));have hlk:Hid ((rj (l.take k)).length=k):=Dz l k (by rw[ae Hn];omega);have Hk:=af hk;clear hcc hk;generalize l.getD k default=en at *
   have HP:=af (fun W=>sB en W);have hA:Below wr.heap.size wr (wr.alloc (.cells #[.string en.n,.int .i64 en.y,.int .i64 en.mo,.int .i64 en.d,.int .i64 en.h,.int .i64 en.mi,.int .i64 en.s,.string en.t] 26)):=(a0b _ _).alloc (a0a _) _;have HA:=af hA;have HQ:=af hq;have HBel:=af hbel;clear hA hq hbel;go_wp2_with fail;refine(ae HP _).mono ?_;rintro e x1 ⟨rfl,hb1⟩;have hW:=ag (ae HA) hb1;have hq1:=aQ.own (ae hlk) ((ae HQ).later hW (a0a _));have hbel1:=ag (ae HBel) hW;have hbs1:=hbel1.size;have hlen1:Hid (k+1<=maxLen/\(k+1)*16<=140737488355328):=by
    show _/\_;unfold maxLen;omega
   clear HQ HBel HA hb1 hW HP;go_wp2_with (at_builtin;refine a0F _ rfl _ _ 35 rfl w.heap.size 9 i0 (.string ByteArray.empty) 1 16 Tryz.underlying35 hi hz0 hz1 hz2 rfl (by decide) _ _ _ rfl (a0m hq1 _) ⟨x1.heap.size,0,none⟩ 1 1 (encS en.n) rfl rfl (gO x1 _ _) (FJ _) (ae hlen1).1 (ae hlen1).2 (ay hbs1 _) ?_;intro v' x2 hown hgrow hnil;clear hnil);have hb2:=aK (v:=u5) hgrow hq1 (a0a _) hbs1 hbel1;have hq2:tX x2 w.heap.size v' _:=aQ.snoc (ae hlk) hown;rw[←ae hst]at hq2;clear hown hgrow hq1;go_wp2;go_roundw
   case rel=>exact⟨k+1,by have:=ae Hk;omega,by go_num,hq2,hb2⟩
   case measure=>simp[intOf];omega
  · have hkn:l.take k=l:=a0t (by rw[ae Hn];omega);rw[hkn]at hq;have HQ:=af hq;have HB:=af hbel;clear hq hbel hkn;go_wp2;go_ret;exact⟨_,rfl,ae HQ,ae HB⟩
theorem jb(s:ByteArray)(m:Int)(w:World)(hs:s.size<=1048576)(hm:w.cell? ⟨2,0,none⟩=some (.int .i64 m))(hg:iq w)(hO:bY w) :
  Calls Tryz.prog 15 #[.string s] w fun e w'=>(∃v,e = .returned v/\tX w' w.heap.size v (rj ((dp s).getD [])))/\Below w.heap.size w w':=by
 have C:=af (dH s m w hs hm hg hO);have hz:=I9 (s:=s);clear hs hm hg hO;go_enter Tryz.func15,Tryz.ntmps15;go_wp2_with fail;refine(ae C).mono ?_;rintro e x1 ⟨⟨v,rfl,hown⟩,hb1⟩;have HB1:=af hb1;obtain⟨L,hL⟩:∃l,(dp s).getD []=l:=⟨_,rfl⟩;rw[hL]at hown hz;have HL:=af hL;obtain⟨n,hn⟩:∃n,L.length=n:=⟨_,rfl⟩;obtain⟨a,c,rfl,hc,_⟩:=hown.formN hn;have C2:=af (un a c n L x1 hn (bq hn hown) (by omega));clear hb1 C hown hL hc hz hn;go_wp2_with fail;refine(ae C2).mono ?_;rintro e x2 ⟨v2,rfl,hq2,hb2⟩;have HB2:=af (ag (ae HB1) hb2);have HQ2:=af (hq2.mono (base':=w.heap.size) (ae HB1).size);clear hq2 hb2 C2;go_wp2;go_ret;exact⟨⟨_,rfl,by rw[ae HL];exact ae HQ2⟩,ae HB2⟩
end Go.Proofs.YtfhdadkcophoaaaGreatDoor
