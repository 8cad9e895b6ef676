/- Of what the proof is made: 12 texts, one behind the other. -/
import Derived.Test.YtgmfehnnebkaoaaGreatDoorM40
import Derived.Test.YtgmfehnnebkaoaaGreatDoorM38
import Derived.Test.YtgmfehnnebkaoaaGreatDoorM3
import Derived.Test.YtgmfehnnebkaoaaGreatDoorM30
import Derived.Test.YtgmfehnnebkaoaaGreatDoorM39
import Derived.Lib.QuietBelow
import Derived.Test.YtgmfehnnebkaoaaGreatDoorM21
import Derived.Deep.QuietTactic
import Derived.BigQuiet
import Derived.Test.YtgmfehnnebkaoaaGreatDoorM34
import Derived.Test.YtgmfehnnebkaoaaGreatDoorM33
import Derived.Test.YtgmfehnnebkaoaaGreatDoorM37
import Derived.Test.YtgmfehnnebkaoaaGreatDoorM9
set_option maxRecDepth 100000
set_option linter.unusedSimpArgs false
set_option linter.unusedVariables false
set_option maxHeartbeats 12800000
namespace Go.Proofs.YtgmfehnnebkaoaaGreatDoor
open Go.Proofs.Tryz
open Corb
variable {T s x:ByteArray}{k:Nat}{w:World}
def sub(s:ByteArray)(p:Nat):ByteArray:=s.extract p s.size
theorem uV(s:ByteArray)(p:Nat):(sub s p).data.toList=s.data.toList.drop p:=by
 rw[sub,ext_list];exact a0o (by simp)
theorem pF(s:ByteArray)(p:Nat):(sub s p).size=s.size-p:=by
 rw[sub,a1c];omega
def pm(s:ByteArray):Nat:=30+wd s.data.toList 26 2+wd s.data.toList 18 4
def enO(s T:ByteArray):En:=⟨nmB s,gY (wd s.data.toList 10 4:Nat),gM (wd s.data.toList 10 4:Nat),gD (wd s.data.toList 10 4:Nat),gH (wd s.data.toList 10 4:Nat),gI (wd s.data.toList 10 4:Nat),gS (wd s.data.toList 10 4:Nat),T⟩
def ctO(s:ByteArray)(p:Nat):ByteArray:=ko (wd s.data.toList 8 2) (wd s.data.toList 10 4) (wd s.data.toList 14 4) (wd s.data.toList 18 4) (wd s.data.toList 22 4) (nmB s) p
theorem pn(h:gp s=some T):hdB s=true/\ik (enO s T)=true:=by
 unfold gp at h
 split at h
 .
  rename_i h0;refine⟨h0,?_⟩
  split at h
  .
   split at h
   .
    rename_i h2;cases h
    simp only[JE,a0j]at h2;exact h2.2.2
   . cases h
  . cases h
 . cases h
def zst(s:ByteArray):Nat->Option (List En×ByteArray×Nat)
 | 0=>some ([],⟨#[]⟩,0)
 | i+1=>(zst s i).bind fun q=>(gp (sub s q.2.2)).map fun T=>(q.1++[enO (sub s q.2.2) T],q.2.1++ctO (sub s q.2.2) q.2.2,q.2.2+pm (sub s q.2.2))
theorem yM{i:Nat}{q:List En×ByteArray×Nat}(h:zst s i=some q)(a:gp (sub s q.2.2)=some T) :
  zst s (i+1)=some (q.1++[enO (sub s q.2.2) T],q.2.1++ctO (sub s q.2.2) q.2.2,q.2.2+pm (sub s q.2.2)):=by
 rw[zst,h,a0f,a,a3E]
theorem jp{i:Nat}{q:List En×ByteArray×Nat}(h:zst s (i+1)=some q):∃r T,zst s i=some r/\gp (sub s r.2.2)=some T/\q=(r.1++[enO (sub s r.2.2) T],r.2.1++ctO (sub s r.2.2) r.2.2,r.2.2+pm (sub s r.2.2)):=by
 rw[zst]at h;rcases b:zst s i with _|r
 . rw[b]at h;cases h
 .
  rw[b,a0f]at h;rcases a:gp (sub s r.2.2)with _|T
  . rw[a]at h;cases h
  .
   rw[a,a3E]at h;cases h
   exact⟨r,T,rfl,a,rfl⟩
theorem Kt(h:gp s=some T):pm s<=s.size:=(tq.1 (pn h).1).2.2
theorem j8{s:ByteArray} : ∀{i:Nat} {q:List En×ByteArray×Nat},zst s i=some q->q.1.length=i/\q.2.2<=s.size/\(∀e∈q.1,ik e=true)/\(q.2.1=⟨#[]⟩∨q.2.1.data.toList.take 4=[80,75,1,2])/\q.2.1.size<=100*i
 | 0,q,h=>by cases h;exact⟨rfl,a0g _,(fun e a=>by cases a),.inl rfl,a0g _⟩
 | i+1,q,h=>by
  obtain⟨r,T,c,h2,rfl⟩:=jp h;obtain⟨a1,a2,a3,a4,a5⟩:=j8 c;have f:=Kt h2;rw[pF]at f;have b:=(pn h2).2;have g:=(ct (n:=(enO (sub s r.2.2) T).n) (t:=(enO (sub s r.2.2) T).t) b).1;have d:(ctO (sub s r.2.2) r.2.2).size=46+(nmB (sub s r.2.2)).size:=kW _ _ _ _ _ _ _;have j:(nmB (sub s r.2.2)).size<=43:=g;refine⟨by simp[a1],?_,?_,?_,?_⟩
  . show r.2.2+pm (sub s r.2.2)<=s.size;omega
  .
   intro e a;rcases a0V.1 a with a|a
   . exact a3 e a
   . rw[a01.1 a];exact b
  .
   refine .inr ?_;show(r.2.1++ctO (sub s r.2.2) r.2.2).data.toList.take 4=_;have e0:(ctO (sub s r.2.2) r.2.2).data.toList.take 4=[80,75,1,2]:=by simp[ctO,ko]
   rcases a4 with e|e
   . rw[e];simpa using e0
   .
    have:4<=r.2.1.data.toList.length:=by
     have:=congrArg List.length e;rw[a0z]at this;simp at this ⊢;omega
    simp only[a1C,a1k];rw[a1p this];exact e
  . show(r.2.1++ctO (sub s r.2.2) r.2.2).size<=_;rw[a0t,d];omega
theorem mR{s:ByteArray}{k:Nat} : ∀{m:Nat} {q:List En×ByteArray×Nat},zst s m=some q->k<=m->∃r,zst s k=some r/\r.1=q.1.take k
 | 0,q,h,hk=>by
  have:k=0:=by omega
  subst this;exact⟨q,h,by cases h;rfl⟩
 | m+1,q,h,hk=>by
  by_cases e:k=m+1
  . subst e;exact⟨q,h,by rw[a0o (by rw[(j8 h).1];exact a0a _)]⟩
  . obtain⟨r,T,a,h2,rfl⟩:=jp h;obtain⟨d,b,c⟩:=mR a (by omega:k<=m);refine⟨d,b,?_⟩;rw[c];show _=(r.1++_).take k;rw[a1p (by rw[(j8 a).1];omega)]
theorem ru(h:gp s=some T):s.data.toList.take 4=[80,75,3,4]:=by
 obtain⟨a,h2,_⟩:=tq.1 (pn h).1;simp only[rS,a0j,a0p]at h2;have b:30<=s.data.toList.length:=by simpa using a
 have:=(BS (l:=s.data.toList) (i:=0) (k:=4) (by omega) (by decide)).1 h2.1;rw[a1x]at this;rw[this];decide +kernel
theorem qd(k z p:Nat):(dK k z p).data.toList=[80,75,5,6]++(leS 2 0++(leS 2 0++(leS 2 k++(leS 2 k++(leS 4 z++(leS 4 p++leS 2 0)))))):=by
 simp[dK,az]
theorem E9{c:ByteArray}(k z p:Nat)(a:c=⟨#[]⟩∨c.data.toList.take 4=[80,75,1,2]):(c++dK k z p).data.toList.take 4≠[80,75,3,4]:=by
 simp only[a1C,a1k];rcases a with e|e
 . rw[e,qd];simp
 .
  have:4<=c.data.toList.length:=by
   have:=congrArg List.length e;rw[a0z]at this;simp at this ⊢;omega
  rw[a1p this,e];decide
theorem JD{c:ByteArray}{z p q:Nat}(h:sub s p=c++dK k z q)(e:k<65536):22<=s.size/\wd s.data.toList (s.size-12) 2=k:=by
 have d:s.size-p=c.size+22:=by rw[←pF,h,a0t,kv]
 refine⟨by omega,?_⟩;have h2:s.data.toList=(s.data.toList.take p++(c.data.toList++([80,75,5,6]++(leS 2 0++(leS 2 0++leS 2 k)))))++(leS 2 k++(leS 4 z++(leS 4 q++leS 2 0))):=by
  have:s.data.toList.drop p=(c++dK k z q).data.toList:=by rw[←uV,h]
  conv=>lhs;rw[←a1H p s.data.toList,this]
  simp only[a1C,a1k,qd,a0O]
 have a:(s.data.toList.take p++(c.data.toList++([80,75,5,6]++(leS 2 0++(leS 2 0++leS 2 k))))).length=s.size-12:=by
  simp only[a0i,a0z,aF];have e1:s.data.toList.length=s.size:=by simp
  have e2:c.data.toList.length=c.size:=by simp
  rw[e1,e2];simp;omega
 rw[h2];have:=Ev (b:=leS 2 k++(leS 4 z++(leS 4 q++leS 2 0))) (i:=0) 2 a;rw[a05]at this;rw[this];exact gx _ (by omega)
def dE(s:ByteArray):Option (List En):=
 if 12<=s.size/\wd s.data.toList (s.size-12) 2<=6 then
  (match zst s (wd s.data.toList (s.size-12) 2)with
  | some q=>if ci q.1=true/\sub s q.2.2=q.2.1++dK (wd s.data.toList (s.size-12) 2) q.2.1.size q.2.2 then some q.1 else none
  | none=>none)
 else none
theorem xi{l:List En}(h:dE s=some l):∃m q,zst s m=some q/\l=q.1/\ci q.1=true/\sub s q.2.2=q.2.1++dK m q.2.1.size q.2.2:=by
 unfold dE at h
 split at h
 .
  split at h
  .
   rename_i q hq
   split at h
   .
    rename_i h2;cases h
    exact⟨_,q,hq,rfl,h2.1,h2.2⟩
   . cases h
  . cases h
 . cases h
theorem Cc{m:Nat}{q:List En×ByteArray×Nat}(h:zst s m=some q)(b:ci q.1=true)(a:sub s q.2.2=q.2.1++dK m q.2.1.size q.2.2):dE s=some q.1:=by
 have c:=(dp b).2;have d:=(j8 h).1;obtain⟨e1,e2⟩:=JD a (by omega);unfold dE;rw[a0d ⟨by omega,by omega⟩,e2,h];simp only;rw[a0d ⟨b,a⟩]
theorem xg{m:Nat}{q r:List En×ByteArray×Nat}(d:zst s k=some q)(b:zst s m=some r)(c:sub s r.2.2=r.2.1++dK m r.2.1.size r.2.2):k<=m:=by
 rcases a1l m k with h|h
 .
  exfalso;obtain⟨x,e,_⟩:=mR d (by omega:m+1<=k);obtain⟨y,T,a,h2,_⟩:=jp e;rw[b]at a;cases a
  have:=ru h2;rw[c]at this;exact E9 _ _ _ (j8 b).2.2.2.1 this
 . exact h
theorem xj{q:List En×ByteArray×Nat}(b:zst s k=some q)(i:ci q.1=true)(f:(sub s q.2.2).data.toList.take 4≠[80,75,3,4]) :
  dE s=if sub s q.2.2=q.2.1++dK k q.2.1.size q.2.2 then some q.1 else none:=by
 split
 . rename_i he;exact Cc b i he
 .
  rename_i he;rcases h:dE s with _|l
  . rfl
  .
   exfalso;obtain⟨m,r,a,h2,j,c⟩:=xi h;have d:=xg b a c;by_cases e:k=m
   .
    subst e;rw[b]at a;cases a
    exact he c
   .
    obtain⟨x,g,_⟩:=mR a (by omega:k+1<=m);obtain⟨y,T,y1,y2,_⟩:=jp g;rw[b]at y1;cases y1
    exact f (ru y2)
theorem Cb{q:List En×ByteArray×Nat}(c:zst s k=some q)(o:(sub s q.2.2).data.toList.take 4=[80,75,3,4])(p:∀T,gp (sub s q.2.2)=some T->ci (q.1++[enO (sub s q.2.2) T])=false):dE s=none:=by
 rcases h:dE s with _|l
 . rfl
 .
  exfalso;obtain⟨m,r,b,h2,f,g⟩:=xi h;have u:=xg c b g;by_cases e:k=m
  .
   subst e;rw[c]at b;cases b
   rw[g]at o;exact E9 _ _ _ (j8 c).2.2.2.1 o
  .
   obtain⟨x,v,d⟩:=mR b (by omega:k+1<=m);obtain⟨y,T,y1,y2,y3⟩:=jp v;rw[c]at y1;cases y1
   have j:=p T y2;have n:ci (r.1.take (k+1))=true:=by
    rw[qR]at f ⊢;intro i t;have a:i<k+1/\i<r.1.length:=by rw[a0z]at t;omega
    have:=f i a.2;unfold iH at this ⊢;rw[nw r.1 (k+1) i a.1,a3a,a1X (by omega)];exact this
   rw[←d,y3]at n;rw[n]at j;cases j
def hqO(x:ByteArray)(p:Nat):Hq:=⟨wd x.data.toList 8 2,wd x.data.toList 10 4,wd x.data.toList 14 4,wd x.data.toList 18 4,wd x.data.toList 22 4,nmB x,p⟩
def tu(s:ByteArray)(k:Nat):Hq:=match zst s k with
 | some q=>hqO (sub s q.2.2) q.2.2
 | none=>hqO ⟨#[]⟩ 0
def hqL(s:ByteArray)(n:Nat):List Hq:=(List.range n).map (tu s)
theorem sr(s:ByteArray)(n:Nat):(hqL s n).length=n:=by simp[hqL]
theorem J1(s:ByteArray)(n:Nat):hqL s (n+1)=hqL s n++[tu s n]:=by simp[hqL,a3w]
theorem Ni(s:ByteArray)(n i:Nat)(d:Hq)(h:i<n):(hqL s n).getD i d=tu s i:=by simp[hqL,List.getD,h]
theorem xU{q:List En×ByteArray×Nat}(h:zst s k=some q):tu s k=hqO (sub s q.2.2) q.2.2:=by
 unfold tu;rw[h]
theorem Av{s:ByteArray} : ∀{k:Nat} {q:List En×ByteArray×Nat},zst s k=some q->eC (tu s) k=q.2.1
 | 0,q,h=>by cases h;rfl
 | k+1,q,h=>by
  obtain⟨r,T,a,h2,rfl⟩:=jp h;rw[eC,Av a,xU a];rfl
theorem Nh(j:s.size<=1048576){q:List En×ByteArray×Nat}(h:zst s k=some q):∀i,i<k->okQ (tu s i):=by
 intro i f;obtain⟨x,e,_⟩:=mR h (by omega:i+1<=k);obtain⟨r,T,a,h2,_⟩:=jp e;rw[xU a];have b:=(pn h2).2;have c:=(ct (n:=(enO (sub s r.2.2) T).n) (t:=(enO (sub s r.2.2) T).t) b).1;have d:(nmB (sub s r.2.2)).size<=43:=c;have g:=(j8 a).2.1;exact⟨j6 _ _,dH _ _,dH _ _,dH _ _,dH _ _,by show(nmB (sub s r.2.2)).size<=54;omega,by show r.2.2<4294967296;omega⟩
theorem FT(l:List En)(e:En)(i:Nat)(a:i<l.length):iH (l++[e]) i=iH l i:=by
 unfold iH;rw[a1p (by omega)]
 congr 1
 simp only[List.getD];rw[List.getElem?_append_left a]
theorem vL(l:List En)(e:En):iH (l++[e]) l.length=bH l e:=by
 unfold iH;rw[a1p (a0a _),a0o (a0a _)]
 congr 1
 simp[List.getD]
theorem nz{l:List En}(h:ci l=true)(e:En):ci (l++[e])=true<->bH l e=0:=by
 rw[qR]at h ⊢;constructor
 . intro k;have:=k l.length (by simp);rw[vL]at this;exact this
 .
  intro k i b;by_cases a:i<l.length
  . rw[FT l e i a];exact h i a
  .
   have:i=l.length:=by simp at b;omega
   rw[this,vL];exact k
theorem KI(s:ByteArray):Lib.hasPrefix s.data.toList [80,75,3,4]=decide (s.data.toList.take 4=[80,75,3,4]):=by
 rw[a2j,a0p];unfold Lib.hasPrefix;rw[List.isPrefixOf_iff_prefix,List.prefix_iff_eq_take];exact eq_comm
theorem Mw(h:¬ (12<=s.size/\wd s.data.toList (s.size-12) 2<=6)):dE s=none:=a0e h
open Go.RowKit
theorem Pj{n t:ByteArray}{y mo d h mi c k:Int}(a:my x = .tuple #[.agg #[.string n,.int .i64 y,.int .i64 mo,.int .i64 d,.int .i64 h,.int .i64 mi,.int .i64 c,.string t],.int .i64 k,.bool true]) :
  ∃T,gp x=some T/\enO x T=⟨n,y,mo,d,h,mi,c,t⟩/\k=((pm x:Nat):Int):=by
 unfold my at a;rcases b:gp x with _|T
 . rw[b]at a;simp at a
 .
  rw[b]at a;simp only[GN,Value.tuple.injEq,Array.mk.injEq,List.cons.injEq,Value.agg.injEq,Value.string.injEq,Value.int.injEq,a1W,a0P]at a;obtain⟨⟨e0,e1,e2,e3,e4,e5,e6,e7⟩,e8⟩:=a;refine⟨T,rfl,?_,?_⟩
  . unfold enO;rw[e0,e1,e2,e3,e4,e5,e6,e7]
  . rw[←e8];rfl
theorem PX(a:my x = .tuple #[noE,.int .i64 0,.bool false]):gp x=none:=by
 unfold my at a;rcases b:gp x with _|T
 . rfl
 . rw[b]at a;simp at a
theorem IM{q:List En×ByteArray×Nat}(h:zst s k=some q):∀i,i<k->(q.1.getD i default).n.size<=1048576/\((q.1.getD i default).t.size:Int)<=9223372036854775807:=by
 intro i d;obtain⟨c,_,a,_⟩:=j8 h;have b:q.1.getD i default∈q.1:=by
  rw[List.getD,List.getElem?_eq_getElem (by omega:i<q.1.length)];exact a2i _
 obtain⟨f1,f2,_⟩:=ct (n:=(q.1.getD i default).n) (t:=(q.1.getD i default).t) (a _ b);exact⟨by omega,by omega⟩
theorem below_drewN{B:Nat}{a:World}(h:Below B a w)(n:Nat):Below B a (w.drewN n):=⟨h.os,h.tape,h.output,h.size,h.block⟩
theorem Co{a b:ByteArray}{c:Bool}(h:(a.toList == b.toList)=c):c=true<->a=b:=by
 rw[←h,beq_iff_eq,eE];exact⟨fun e=>bV e,fun e=>by rw[e]⟩
abbrev Pw:=bu (α:=Hq) 83 7 zu
theorem tN{w':World}{o:Obj}{a c e1 e2 s1 s2 n1 n2:Nat}{v1 v2:Value}{x1 x2:List Value}(b:w.ownsRow a e1 s1 v1 n1 x1)(h2:w.ownsRow c e2 s2 v2 n2 x2)(d:e1≠e2)(e:(w.alloc o).grownBy w' v2.ownBlock):w'.ownsRow a e1 s1 v1 n1 x1:=
 a1J (a0m b o) e (oD (a0m b o) (a0m h2 o) d)
theorem Om:ci []=true:=by decide
theorem Ku(h:hdB x=false):gp x=none:=by
 unfold gp;rw[a0e (by rw[h];decide)]
theorem yR{q:List En×ByteArray×Nat}(b:zst s k=some q)(c:(sub s q.2.2).data.toList.take 4=[80,75,3,4])(a:gp (sub s q.2.2)=none):dE s=none:=
 Cb b c (fun T h=>by rw[a]at h;cases h)
theorem Je{q:List En×ByteArray×Nat}(b:zst s k=some q)(e:ci q.1=true)(c:(sub s q.2.2).data.toList.take 4=[80,75,3,4])(a:gp (sub s q.2.2)=some T)(d:bH q.1 (enO (sub s q.2.2) T)≠0):dE s=none:=
 Cb b c (fun T' h=>by
  rw[a]at h;cases h
  cases hb:ci (q.1++[enO (sub s q.2.2) T])
  . rfl
  . exact absurd ((nz e _).1 hb) d)
def ZrP(s:ByteArray)(w:World)(e:Ending)(w':World):Prop:=∃v c,e = .returned (.tuple #[v,fO c])/\(c=0->∃l,dE s=some l/\lL w' w.heap.size v l)/\(c≠0->dE s=none)
theorem Ci{w':World}(h:dE s=none)(c:Int)(a:c≠0):ZrP s w (.returned (.tuple #[.slice none 0 0,.iface 90 (.agg #[.int .i64 c])])) w':=
 ⟨.slice none 0 0,c,by unfold fO;rw[a0e a],fun b=>absurd b a,fun _=>h⟩
theorem Cf(s:ByteArray)(m:Int)(w:World)(hs:s.size<=1048576)(hm:w.cell? ⟨2,0,none⟩=some (.int .i64 m))(hO:cJ w) :
  Calls prog 34 #[.string s] w fun e w'=>ZrP s w e w'/\Below w.heap.size w w':=by
 have co:prog.follows .mixedOrders=true:=by kernel_rfl
 have ei:(s.size:Int)<=1048576:=by omega
 have HS:=af hs;have HM:=af hm;have d3:=af (World.block_lt_of_cell? _ _ hm);have CM:=af (fun W (hb:Below w.heap.size w W)=>(hb.cell (p:=⟨2,0,none⟩) (ae d3)).trans (ae HM));have HO:=af (fun W (hb:Below w.heap.size w W)=>hO.later hb);obtain⟨i0,hi,d8,eb,b1⟩:=a0r Tryz.infoEnt;obtain⟨j0,hj,d5,d6,d7⟩:=a0r Tryz.infoHd;clear hs hm hO;go_enter func34,ntmps34;go_wp2_with fail
 go_loopw [4,5,6,7,8,9,10,11] (fun f h p _ _ _ _ _ wr=>∃(k:Nat) (q:List En×ByteArray×Nat),zst s k=some q/\ci q.1=true/\p = .int .i64 (q.2.2:Nat)/\lL wr w.heap.size f q.1/\Pw wr w.heap.size h (hqL s k)/\Below w.heap.size w wr) (fun _ _ p _ _ _ _ _ _=>s.size-(intOf p).toNat)
 case atStart=>exact⟨0,([],⟨#[]⟩,0),rfl,Om,rfl,bu.nil _ _,bu.nil _ _,a0c _ _⟩
 case round=>
  obtain⟨k,q,hz,ab,rfl,hf,l,U⟩:=hrel;have K:=j8 hz;have d2:k<=6:=by have:=(dp ab).2;omega
  have eg:(q.2.2:Int)<=(s.size:Int):=by have:=K.2.1;omega
  have CX:Hid (∀W,Calls prog 57 #[.string (sub s q.2.2),.string ⟨#[80,75,3,4]⟩] W fun e w'=>e = .returned (.bool (decide ((sub s q.2.2).data.toList.take 4=[80,75,3,4])))/\w'=W):=fun W=>by
   have h:=Tryz.strings_HasPrefix (sub s q.2.2) (⟨#[80,75,3,4]⟩:ByteArray) W;rw[←KI];exact h
  have HE:Hid (s.extract q.2.2 s.size=sub s q.2.2):=rfl;have I:=af hz;have bb:=af ab;have HF:=af hf;have HH:=af l;have P:=af U;have F:=af K
  have a8:(sub s q.2.2).size<=1048576:=by rw[pF];have:=ae HS;omega
  by_cases N:(sub s q.2.2).data.toList.take 4=[80,75,3,4]
  .
   have a2:=af N;rw[a0F N]at CX;have CH:=af (fun W=>kB (sub s q.2.2) W a8);have Q:=af a8;clear N hf l U K hz ab a8;go_wp2_with fail;refine(ae CX _).mono ?_;rintro e x0 ⟨rfl,b0⟩;subst b0;clear CX;go_wp2_with fail;refine(ae CH _).mono ?_;rintro e x1 ⟨hp,a4⟩;have ac:=af (ah (ae P) a4);have ao:=af ((ae HF).later a4 (a0a _));have a1:=af ((ae HH).later a4 (a0a _));have R:Hid (∀j,Value.ownBlock u4=some j->j<x1.heap.size):=fun j hj=>(a0E (ae ao) j hj).2;have S:Hid (∀j,Value.ownBlock u5=some j->j<x1.heap.size):=fun j hj=>(a0E (ae a1) j hj).2;clear a4 CH HF HH P;rcases hp with⟨hd,rfl⟩|⟨hd,a,b,c,d,f,n,t,ho,rfl⟩
   .
    obtain⟨ds,d1,bk⟩:=tq.1 hd;have cp:=uv (s:=sub s q.2.2) (by omega);have cc:=yS (s:=sub s q.2.2) bk;have l1:=j6 (sub s q.2.2).data.toList 8;have l2:=dH (sub s q.2.2).data.toList 10;have l3:=dH (sub s q.2.2).data.toList 14;have l4:=dH (sub s q.2.2).data.toList 18;have l5:=dH (sub s q.2.2).data.toList 22;have l6:=j6 (sub s q.2.2).data.toList 26;have dl:=ae Q;have E:=af (fun W (hb:Below w.heap.size w W)=>mw (wd (sub s q.2.2).data.toList 8 2) (wd (sub s q.2.2).data.toList 10 4) (wd (sub s q.2.2).data.toList 14 4) (wd (sub s q.2.2).data.toList 18 4) (wd (sub s q.2.2).data.toList 22 4) (nmB (sub s q.2.2)) (bdB (sub s q.2.2)) m W (by omega) l1 l2 l3 l5 (by omega) (ae CM _ hb) (ae HO _ hb));have b2:=af (fun(hen:enB (wd (sub s q.2.2).data.toList 8 2) (wd (sub s q.2.2).data.toList 10 4) (wd (sub s q.2.2).data.toList 14 4) (wd (sub s q.2.2).data.toList 22 4) (nmB (sub s q.2.2)) (bdB (sub s q.2.2))=true) W=>jw (wd (sub s q.2.2).data.toList 8 2) (wd (sub s q.2.2).data.toList 10 4) (wd (sub s q.2.2).data.toList 14 4) (wd (sub s q.2.2).data.toList 18 4) (wd (sub s q.2.2).data.toList 22 4) (nmB (sub s q.2.2)) (bdB (sub s q.2.2)) W l1 l2 l3 l4 l5 (by omega) (by have:=zt hen;omega));have bd:(cb (wd (sub s q.2.2).data.toList 8 2) (wd (sub s q.2.2).data.toList 10 4) (wd (sub s q.2.2).data.toList 14 4) (wd (sub s q.2.2).data.toList 18 4) (wd (sub s q.2.2).data.toList 22 4) (nmB (sub s q.2.2))++bdB (sub s q.2.2)).size=pm (sub s q.2.2):=by
     unfold cb pm;rw[a0t,a0t,a0t,dW,cp,cc];show 4+26+_+_=_;omega
    have b8:pm (sub s q.2.2)<=(sub s q.2.2).size/\30<=pm (sub s q.2.2):=⟨bk,by unfold pm;omega⟩;have HY:Hid (enB (wd (sub s q.2.2).data.toList 8 2) (wd (sub s q.2.2).data.toList 10 4) (wd (sub s q.2.2).data.toList 14 4) (wd (sub s q.2.2).data.toList 22 4) (nmB (sub s q.2.2)) (bdB (sub s q.2.2))=true->∃T,gp (sub s q.2.2)=some T/\enO (sub s q.2.2) T=⟨nmB (sub s q.2.2),zz (gOk (wd (sub s q.2.2).data.toList 10 4:Nat)) (gY (wd (sub s q.2.2).data.toList 10 4:Nat)),zz (gOk (wd (sub s q.2.2).data.toList 10 4:Nat)) (gM (wd (sub s q.2.2).data.toList 10 4:Nat)),zz (gOk (wd (sub s q.2.2).data.toList 10 4:Nat)) (gD (wd (sub s q.2.2).data.toList 10 4:Nat)),zz (gOk (wd (sub s q.2.2).data.toList 10 4:Nat)) (gH (wd (sub s q.2.2).data.toList 10 4:Nat)),zz (gOk (wd (sub s q.2.2).data.toList 10 4:Nat)) (gI (wd (sub s q.2.2).data.toList 10 4:Nat)),zz (gOk (wd (sub s q.2.2).data.toList 10 4:Nat)) (gS (wd (sub s q.2.2).data.toList 10 4:Nat)),uxT (wd (sub s q.2.2).data.toList 8 2) (bdB (sub s q.2.2))⟩):=fun h=>by
     have:=DL hd;rw[a0d h]at this;obtain⟨T,a,b,_⟩:=Pj this;exact⟨T,a,b⟩
    have HN:Hid (enB (wd (sub s q.2.2).data.toList 8 2) (wd (sub s q.2.2).data.toList 10 4) (wd (sub s q.2.2).data.toList 14 4) (wd (sub s q.2.2).data.toList 22 4) (nmB (sub s q.2.2)) (bdB (sub s q.2.2))=false->gp (sub s q.2.2)=none):=fun h=>by
     have:=DL hd;rw[a0e (by rw[h];decide)]at this;exact PX this
    have c9:Hid (tu s k=⟨wd (sub s q.2.2).data.toList 8 2,wd (sub s q.2.2).data.toList 10 4,wd (sub s q.2.2).data.toList 14 4,wd (sub s q.2.2).data.toList 18 4,wd (sub s q.2.2).data.toList 22 4,nmB (sub s q.2.2),q.2.2⟩):=xU (ae I);have b9:(nmB (sub s q.2.2)).size<=1048576:=by omega
    have d0:(uxT (wd (sub s q.2.2).data.toList 8 2) (bdB (sub s q.2.2))).size<=1048576:=BQ (by omega);have cs:(sub s q.2.2).size=s.size-q.2.2:=pF _ _;unfold enE at E;generalize cb (wd (sub s q.2.2).data.toList 8 2) (wd (sub s q.2.2).data.toList 10 4) (wd (sub s q.2.2).data.toList 14 4) (wd (sub s q.2.2).data.toList 18 4) (wd (sub s q.2.2).data.toList 22 4) (nmB (sub s q.2.2))++bdB (sub s q.2.2)=PB at *
    generalize enB (wd (sub s q.2.2).data.toList 8 2) (wd (sub s q.2.2).data.toList 10 4) (wd (sub s q.2.2).data.toList 14 4) (wd (sub s q.2.2).data.toList 22 4) (nmB (sub s q.2.2)) (bdB (sub s q.2.2))=EB at *
    generalize uxT (wd (sub s q.2.2).data.toList 8 2) (bdB (sub s q.2.2))=UT at *
    generalize zz (gOk (wd (sub s q.2.2).data.toList 10 4:Nat)) (gY (wd (sub s q.2.2).data.toList 10 4:Nat))=yy at *
    generalize zz (gOk (wd (sub s q.2.2).data.toList 10 4:Nat)) (gM (wd (sub s q.2.2).data.toList 10 4:Nat))=mo at *
    generalize zz (gOk (wd (sub s q.2.2).data.toList 10 4:Nat)) (gD (wd (sub s q.2.2).data.toList 10 4:Nat))=dd at *
    generalize zz (gOk (wd (sub s q.2.2).data.toList 10 4:Nat)) (gH (wd (sub s q.2.2).data.toList 10 4:Nat))=l at *
    generalize zz (gOk (wd (sub s q.2.2).data.toList 10 4:Nat)) (gI (wd (sub s q.2.2).data.toList 10 4:Nat))=mi at *
    generalize zz (gOk (wd (sub s q.2.2).data.toList 10 4:Nat)) (gS (wd (sub s q.2.2).data.toList 10 4:Nat))=ss at *
    generalize bdB (sub s q.2.2)=BD at *
    generalize nmB (sub s q.2.2)=NM at *
    generalize wd (sub s q.2.2).data.toList 8 2=HW at *
    generalize wd (sub s q.2.2).data.toList 10 4=ST at *
    generalize wd (sub s q.2.2).data.toList 14 4=CR at *
    generalize wd (sub s q.2.2).data.toList 18 4=PK at *
    generalize wd (sub s q.2.2).data.toList 22 4=LN at *
    generalize wd (sub s q.2.2).data.toList 26 2=NL at *
    obtain⟨LO,hLO⟩:∃x,pm (sub s q.2.2)=x:=⟨_,rfl⟩;rw[hLO]at bd b8;have eh:(q.2.2:Int)+(PB.size:Int)<=(s.size:Int):=by omega
    have ed:30<=(PB.size:Int):=by omega
    have c6:=af (hLO.trans bd.symm);clear hd ds d1 bk cp cc l1 l2 l3 l4 l5 l6 dl bd b8 hLO cs;have G:=af ((a0c x1.heap.size x1).alloc (a0a _) (.cells #[.int .i64 (HW:Nat),.int .i64 (ST:Nat),.int .i64 (CR:Nat),.int .i64 (PK:Nat),.int .i64 (LN:Nat),.string NM,.string BD] 55));have R2:=af (aC x1 #[.int .i64 (HW:Nat),.int .i64 (ST:Nat),.int .i64 (CR:Nat),.int .i64 (PK:Nat),.int .i64 (LN:Nat),.string NM,.string BD] 55);go_wp2_with fail;refine(ae E _ (ah (ae ac) (ae G))).mono ?_;rintro e x2 ⟨rfl,D⟩;have J:=ah (ae G) D;have L:=af (ah (ae ac) J);have b3:=af ((ae ao).later J (a0a _));have b5:=af ((ae a1).later J (a0a _));have R3:=af ((ae R2).later D (ae R2).1);obtain⟨HB,hHB⟩:∃x,x1.heap.size=x:=⟨_,rfl⟩;rw[hHB]at R3 R S;rw[hHB];clear D J G R2 hHB E ac ao a1;cases EB
    .
     have o:=af (yR (ae I) (ae a2) (ae HN rfl));rw[show(if false=true then Value.tuple #[.agg #[.string NM,.int .i64 yy,.int .i64 mo,.int .i64 dd,.int .i64 l,.int .i64 mi,.int .i64 ss,.string UT],.bool true]else .tuple #[noE,.bool false]) = .tuple #[.agg #[.string ⟨#[]⟩,.int .i64 0,.int .i64 0,.int .i64 0,.int .i64 0,.int .i64 0,.int .i64 0,.string ⟨#[]⟩],.bool false]from rfl];have y:=af (ah (ae L) ((a0c x2.heap.size x2).alloc (a0a _) (.cells #[.string ⟨#[]⟩,.int .i64 0,.int .i64 0,.int .i64 0,.int .i64 0,.int .i64 0,.int .i64 0,.string ⟨#[]⟩] 33)));go_wp2
     go_ret2
     exact⟨Ci (ae o) 1 (by decide),ae y⟩
    .
     rw[show(if true=true then Value.tuple #[.agg #[.string NM,.int .i64 yy,.int .i64 mo,.int .i64 dd,.int .i64 l,.int .i64 mi,.int .i64 ss,.string UT],.bool true]else .tuple #[noE,.bool false]) = .tuple #[.agg #[.string NM,.int .i64 yy,.int .i64 mo,.int .i64 dd,.int .i64 l,.int .i64 mi,.int .i64 ss,.string UT],.bool true]from rfl];have an:Hid (∃T,gp (sub s q.2.2)=some T/\enO (sub s q.2.2) T=⟨NM,yy,mo,dd,l,mi,ss,UT⟩):=ae HY rfl;have c8:Hid (∀W,_):=ae b2 rfl;have hA:=(a0c x2.heap.size x2).alloc (a0a _) (.cells #[.string NM,.int .i64 yy,.int .i64 mo,.int .i64 dd,.int .i64 l,.int .i64 mi,.int .i64 ss,.string UT] 33);have y:=af (ah (ae L) hA);have a0:=af ((ae b3).later hA (a0a _));have b6:=af ((ae b5).later hA (a0a _));have R4:=af ((ae R3).later hA (ae R3).1);have Q4:=af (aC x2 #[.string NM,.int .i64 yy,.int .i64 mo,.int .i64 dd,.int .i64 l,.int .i64 mi,.int .i64 ss,.string UT] 33);obtain⟨fa,fc,bl,_,_⟩:=(ae a0).formN (ae F).1;have dv:HB<x2.heap.size:=(ae R3).1;have ba:=af (rN fa fc q.1 k (ae F).1 ⟨NM,yy,mo,dd,l,mi,ss,UT⟩ m _ (cm (ae F).1 (by have:=ae a0;rw[bl]at this;exact this)) (by omega) (fun i hi=>by have:=(IM (ae I) i hi).1;omega) b9 (by show(UT.size:Int)<=_;omega) (ae CM _ (ae y)));rw[←bl]at ba;clear hA HY HN b2 b3 b5 R3 bl L b9 d0;go_wp2_with fail;refine(ae ba).mono ?_;rintro e x4 ⟨rfl,M⟩;have ad:=af (ah (ae y) M);have b4:=af ((ae a0).later M (a0a _));have b7:=af ((ae b6).later M (a0a _));have R5:=af ((ae R4).later M (ae R4).1);have Q5:=af ((ae Q4).later M (ae Q4).1);obtain⟨QB,hQBe⟩:∃x,x2.heap.size=x:=⟨_,rfl⟩;rw[hQBe]at Q5 dv;rw[hQBe];clear M y a0 b6 R4 Q4 ba hQBe;by_cases H:bH q.1 ⟨NM,yy,mo,dd,l,mi,ss,UT⟩=0
     .
      rw[show fO (bH q.1 ⟨NM,yy,mo,dd,l,mi,ss,UT⟩) = .nilIface by rw[H];rfl];have c7:Hid (∃T,zst s (k+1)=some (q.1++[⟨NM,yy,mo,dd,l,mi,ss,UT⟩],T,q.2.2+PB.size)/\ci (q.1++[⟨NM,yy,mo,dd,l,mi,ss,UT⟩])=true):=by
       obtain⟨T,hT,hE⟩:=ae an;have h2:=yM (ae I) hT;rw[hE,ae c6]at h2;exact⟨_,h2,(nz (ae bb) _).2 H⟩
      have A:Hid ((k+1<=maxLen/\(k+1)*80<=140737488355328)/\(k+1)*64<=140737488355328):=by
       show(_/\_)/\_;unfold maxLen;omega
      have a6:=bu.own (ae F).1 (ae b4);have ch:=bu.own (sr s k) (ae b7);have V:=(ae ad).size;have pA:=(ae Q5).cells (n:=8) rfl;clear H an a2 Q HE;go_wp2_with (first
       | (at_builtin;refine a0B _ rfl _ _ 23 rfl w.heap.size 33 i0 (.agg #[.string ⟨#[]⟩,.int .i64 0,.int .i64 0,.int .i64 0,.int .i64 0,.int .i64 0,.int .i64 0,.string ⟨#[]⟩]) 8 80 a16 hi d8 eb b1 rfl (by decide) _ _ _ rfl (a0m a6 _) ⟨x4.heap.size,0,none⟩ 1 1 (jr ⟨NM,yy,mo,dd,l,mi,ss,UT⟩) rfl rfl (nj x4 _ _) (iZ _) (ae A).1.1 (ae A).1.2 (au V _) ?_;intro v5 x5 a9 z Z;clear Z;have R6:=af (Blk.grown (Blk.later (ae R5) ((a0c _ _).alloc (a0a _) _) (ae R5).1) z (fun e=>absurd (ae R _ e.symm) (a2M _)));have rA:=(ae R6).cells (n:=7) rfl;have a7:=tN ch a6 (by decide) z;have bc:=aH (v:=u4) z a6 (a0a _) V (ae ad);have Y:=bc.size)
       | (at_builtin;refine a0B _ rfl _ _ 81 rfl w.heap.size 83 j0 (.agg #[.int .i64 0,.int .i64 0,.int .i64 0,.int .i64 0,.int .i64 0,.string ⟨#[]⟩,.int .i64 0]) 7 64 underlying81 hj d5 d6 d7 rfl (by decide) _ _ _ rfl (a0m a7 _) ⟨x5.heap.size,0,none⟩ 1 1 (zu ⟨HW,ST,CR,PK,LN,NM,q.2.2⟩) rfl rfl (nj x5 _ _) (JB _) (ae A).1.1 (ae A).2 (au Y _) ?_;intro v6 x6 aa r Z;clear Z;have R7:=af (Blk.grown (Blk.later (ae R6) ((a0c _ _).alloc (a0a _) _) (ae R6).1) r (fun e=>absurd (ae S _ e.symm) (a2M _)));have rA:=(ae R7).cells (n:=7) rfl;have cg:=tN a9 a7 (by decide) r;have ca:=aH (v:=u5) r a7 (a0a _) Y bc))
      refine(ae c8 _).mono ?_;rintro e x7 ⟨rfl,a5⟩;have cr:lL x6 w.heap.size v5 (q.1++[⟨NM,yy,mo,dd,l,mi,ss,UT⟩]):=bu.snoc (ae F).1 cg;have be:Pw x6 w.heap.size v6 (hqL s k++[tu s k]):=bu.snoc (sr s k) (by rw[ae c9];exact aa);rw[←J1]at be;have cy:=af (cr.later a5 (a0a _));have c5:=af (be.later a5 (a0a _));have cv:=af (ah ca a5);clear a9 aa z r cr be a5 ca bc V Y a6 cg ch a7 rA R5 R6 R7 Q5 pA b4 b7 ad;go_wp2;go_roundw
      case rel=>
       obtain⟨C,b1,D⟩:=ae c7;exact⟨k+1,_,b1,D,by go_num,ae cy,ae c5,ae cv⟩
      case measure=>simp[intOf];omega
     .
      rw[show fO (bH q.1 ⟨NM,yy,mo,dd,l,mi,ss,UT⟩) = .iface 90 (.agg #[.int .i64 (bH q.1 ⟨NM,yy,mo,dd,l,mi,ss,UT⟩)]) by unfold fO;rw[a0e H]];have o:Hid (dE s=none):=by
       obtain⟨T,hT,hE⟩:=ae an;exact Je (ae I) (ae bb) (ae a2) hT (by rw[hE];exact H)
      have HC:=af H;clear H an;generalize bH q.1 ⟨NM,yy,mo,dd,l,mi,ss,UT⟩=c at *
      go_wp2
      go_ret2
      exact⟨Ci (ae o) c (ae HC),ae ad⟩
   .
    have o:=af (yR (ae I) (ae a2) (Ku hd));obtain⟨o1,o2,o3,o4,o5,o6,o7⟩:=ho;have E:=af (fun W (hb:Below w.heap.size w W)=>mw a b c d f n t m W (by have:=ae Q;omega) o1 o2 o3 o5 (by have:=ae Q;omega) (ae CM _ hb) (ae HO _ hb));unfold enE at E;generalize enB a b c f n t=EB at *
    generalize uxT a t=UT at *
    generalize zz (gOk (b:Nat)) (gY (b:Nat))=yy at *
    generalize zz (gOk (b:Nat)) (gM (b:Nat))=mo at *
    generalize zz (gOk (b:Nat)) (gD (b:Nat))=dd at *
    generalize zz (gOk (b:Nat)) (gH (b:Nat))=l at *
    generalize zz (gOk (b:Nat)) (gI (b:Nat))=mi at *
    generalize zz (gOk (b:Nat)) (gS (b:Nat))=ss at *
    have G:=af (ah (ae ac) ((a0c x1.heap.size x1).alloc (a0a _) (.cells #[.int .i64 (a:Nat),.int .i64 (b:Nat),.int .i64 (c:Nat),.int .i64 (d:Nat),.int .i64 (f:Nat),.string n,.string t] 55)));clear o1 o2 o3 o4 o5 o6 o7 ao a1 R S hd Q F HE;go_wp2_with fail;refine(ae E _ (ae G)).mono ?_;rintro e x2 ⟨rfl,D⟩;have L:=af (ah (ae G) D);clear D G E;cases EB
    .
     rw[show(if false=true then Value.tuple #[.agg #[.string n,.int .i64 yy,.int .i64 mo,.int .i64 dd,.int .i64 l,.int .i64 mi,.int .i64 ss,.string UT],.bool true]else .tuple #[noE,.bool false]) = .tuple #[.agg #[.string ⟨#[]⟩,.int .i64 0,.int .i64 0,.int .i64 0,.int .i64 0,.int .i64 0,.int .i64 0,.string ⟨#[]⟩],.bool false]from rfl];have y:=af (ah (ae L) ((a0c x2.heap.size x2).alloc (a0a _) (.cells #[.string ⟨#[]⟩,.int .i64 0,.int .i64 0,.int .i64 0,.int .i64 0,.int .i64 0,.int .i64 0,.string ⟨#[]⟩] 33)));go_wp2
     go_ret2
     exact⟨Ci (ae o) 1 (by decide),ae y⟩
    .
     rw[show(if true=true then Value.tuple #[.agg #[.string n,.int .i64 yy,.int .i64 mo,.int .i64 dd,.int .i64 l,.int .i64 mi,.int .i64 ss,.string UT],.bool true]else .tuple #[noE,.bool false]) = .tuple #[.agg #[.string n,.int .i64 yy,.int .i64 mo,.int .i64 dd,.int .i64 l,.int .i64 mi,.int .i64 ss,.string UT],.bool true]from rfl];have y:=af (ah (ae L) ((a0c x2.heap.size x2).alloc (a0a _) (.cells #[.string n,.int .i64 yy,.int .i64 mo,.int .i64 dd,.int .i64 l,.int .i64 mi,.int .i64 ss,.string UT] 33)));go_wp2
     go_ret2
     exact⟨Ci (ae o) 1 (by decide),ae y⟩
  .
   rw[a0v N]at CX;have a3:=af (xj hz ab N);obtain⟨ha,hc,bs,_,_⟩:=l.formN (sr s k);have HW:Hid (vj wr ha k fun i=>zu (tu s i)):=by
    rw[bs]at l;intro h0;obtain⟨g,e,hg,hc⟩:=uD JA ⟨0,0,0,0,0,⟨#[]⟩,0⟩ (sr s k) l h0;exact⟨g,e,hg,fun i hi j u hu=>hc i hi j u (by show(zu ((hqL s k).getD i _))[j]?=_;rw[Ni s k i _ hi];exact hu)⟩
   have O:Hid (∀W,Below wr.heap.size wr W->CD 46 #[.slice ha k hc,.int .i64 (q.2.2:Nat)] W (.string (q.2.1++dK k q.2.1.size q.2.2))):=fun W hb=>by
    have:=Ca ha hc k q.2.2 (tu s) W ((ae HW).later hb) d2 (Nh (ae HS) (ae I)) (by omega);rw[Av (ae I)]at this;exact this
   rw[←bs]at O;rw[←ae HE]at CX a3;have q1:=fun d os=>Calls.regrown_of (w:=wr) (d:=d) (os:=os) (ae O _ (below_regrown wr d os));have z1:((q.2.2:Nat):Int).toNat=q.2.2:=a0l _;generalize q.2.1++dK k q.2.1.size q.2.2=EN at *
   obtain⟨X,hX⟩:∃x,s.extract q.2.2 s.size=x:=⟨_,rfl⟩;rw[hX]at CX a3;obtain⟨B,hB⟩:∃b,(X.toList == EN.toList)=b:=⟨_,rfl⟩;have HB:=af hB;clear hf l U K hz ab a8 N HH HW O bs I bb F HE;go_wp2_with fail;refine(ae CX _).mono ?_;rintro e x0 ⟨rfl,b0⟩;subst b0;clear CX;go_wp2_with fail;refine wp_region_quiet_below co (by kernel_rfl) ?_;cases B
   all_goals
    quiet_step (fail)
    quiet_step (fail)
    quiet_step (fail)
    quiet_step (fail)
    quiet_step (fail)
    quiet_step (exact q1 _ _)
    quiet_step (fail)
    refine a1D ?_;intro zw d4;obtain⟨⟨dq,osq⟩,cu⟩:=d4;have I:=below_regrown x0 dq osq;rw[←cu]at I;have T9:=af (ah (ae P) I);have O9:=af ((ae HF).later I (a0a _));clear cu I q1
   .
    have HN:Hid (dE s=none):=by show _=_;rw[ae a3,a0e (fun e=>by have:=(Co (ae HB)).2 e;cases this)]
    go_wp2
    go_ret2
    exact⟨Ci (ae HN) 1 (by decide),ae T9⟩
   .
    have HY:Hid (dE s=some q.1):=by show _=_;rw[ae a3,a0d ((Co (ae HB)).1 rfl)]
    go_wp2
    go_ret2
    exact⟨⟨_,0,rfl,fun _=>⟨_,ae HY,ae O9⟩,fun h=>absurd rfl h⟩,ae T9⟩
theorem jH.later{W:World}(a:jH w)(hb:Below w.heap.size w W):jH W:=(hb.cell (p:=⟨0,0,none⟩) (World.block_lt_of_cell? _ _ a)).trans a
theorem db(s:ByteArray)(m:Int)(w:World)(y:s.size<=1048576)(x:w.cell? ⟨2,0,none⟩=some (.int .i64 m))(t:jH w)(r:cJ w) :
  Calls prog 13 #[.string s] w fun e w'=>(∃v,e = .returned (.tuple #[v,.bool (dE s).isSome])/\lL w' w.heap.size v ((dE s).getD []))/\Below w.heap.size w w':=by
 have C:=af (Cf s m w y x r);have o:=af t;clear x t r y;go_enter func13,ntmps13;go_wp2_with fail;refine(ae C).mono ?_;rintro e x1 ⟨⟨v,c,rfl,p,q⟩,f⟩;have d:=af f;have j:=af (rM c x1 ((ae o).later f));have k:=af p;have n:=af q;clear p q f C o;generalize fO c=FV at *
 go_wp2_with fail;refine(ae j).mono ?_;rintro e x2 ⟨rfl,a⟩;have g:=af (ah (ae d) a);by_cases i:c=0
 .
  obtain⟨l,u,b⟩:=ae k i;have h:=af u;have z:=af (b.later a (a0a _));subst i;clear u b a j k n d;go_wp2
  go_ret2
  exact⟨⟨_,by rw[ae h];rfl,by rw[ae h];exact ae z⟩,ae g⟩
 .
  have h:=af (ae n i);have hd:decide (c=0)=false:=a0v i;clear a j k n d;go_wp2
  go_ret2
  exact⟨⟨_,by rw[ae h];rfl,by rw[ae h];exact bu.nil _ _⟩,ae g⟩
theorem jJ(s:ByteArray)(m:Int)(w:World)(i:s.size<=1048576)(h:w.cell? ⟨2,0,none⟩=some (.int .i64 m))(g:jH w)(f:cJ w) :
  CD 40 #[.string s] w (.bool (dE s).isSome):=by
 have C:=af (db s m w i h g f);clear i h g f;go_enter func40,ntmps40;go_wp2_with fail;refine(ae C).mono ?_;rintro e x1 ⟨⟨v,rfl,_⟩,a⟩;have c:=af a;clear a C;obtain⟨b,hb⟩:∃b,(dE s).isSome=b:=⟨_,rfl⟩;rw[hb];have d:=af hb;clear hb;go_wp2;go_ret;exact⟨by rw[ae d];rfl,ae c⟩
theorem sy{l:ByteArray}(h:¬ l=⟨#[]⟩):l.toList.isEmpty=false:=by
 cases e:l.toList.isEmpty
 . rfl
 .
  refine absurd (bV ?_) h;have e2:l.toList=(⟨#[]⟩:ByteArray).toList:=by rw[List.isEmpty_iff.1 e,Lib.toList_data]
  exact eE.1 e2
theorem tC(t l:ByteArray)(m:Int)(w:World)(k:t.size<=1048576)(h:w.cell? ⟨2,0,none⟩=some (.int .i64 m))(j:jH w)(i:cJ w) :
  CD 21 #[.agg #[.string t,.string l]] w (.bool ((dE t).isSome&&decide (l=⟨#[]⟩))):=by
 have a:=af ((a0c w.heap.size w).alloc (a0a _) (.cells #[.string t,.string l] 37));have C:=af (jJ t m _ k (((ae a).cell (p:=⟨2,0,none⟩) (World.block_lt_of_cell? _ _ h)).trans h) (j.later (ae a)) (i.later (ae a)));clear k h j i;by_cases g:l=⟨#[]⟩
 . subst g;go_enter func21,ntmps21;go_wp2_with fail;refine(ae C).mono ?_;rintro e x1 ⟨rfl,c⟩;have d:=af (ah (ae a) c);clear c C a;obtain⟨b,hb⟩:∃b,(dE t).isSome=b:=⟨_,rfl⟩;rw[hb];have f:=af hb;clear hb;go_wp2;go_ret;exact⟨by rw[ae f];simp,ae d⟩
 . have o:=sy g;have n:=af (a0v g);go_enter func21,ntmps21;go_wp2;go_ret;exact⟨by rw[ae n,Bool.and_false];rfl,ae a⟩
def goes(e f:En):Prop:=ce e.n.data.toList f.n.data.toList=false
theorem OB(l:List En)(x:ByteArray):kQ l x=false<->∀e∈l,ce e.n.data.toList x.data.toList=false:=by
 unfold kQ;rw[List.any_eq_false];simp
theorem qb(l:List En):∀u∈l.flatMap jr,u.oneCell'=true:=fun u a=>by
 obtain⟨e,_,h⟩:=List.mem_flatMap.1 a;exact iZ e u h
theorem E4{e:En}(k:ik e=true)(r:ByteArray):gp (loE e++r)=some e.t/\enO (loE e++r) e.t=e/\(∀p,ctO (loE e++r) p=heE e p)/\pm (loE e++r)=(loE e).size:=by
 have c:fy e.n e.y e.mo e.d e.h e.mi e.s e.t=true:=k;obtain⟨f1,f2,f3⟩:=ct c;obtain⟨g1,g2,g3,g4⟩:=je f3;have e2:(((stN e.y e.mo e.d e.h e.mi e.s).toNat:Nat):Int)=stN e.y e.mo e.d e.h e.mi e.s:=by rw[←g4];simp[stI,f3]
 have l:=(mz (n:=e.n) (t:=e.t) g3 (by omega) (by omega)).1;obtain⟨m,f,a,g,i,j,o,b,q⟩:=rq (n:=e.n) (t:=e.t) g3 (by omega) (by omega) r;obtain⟨s0,s1,s2,s3,s4,s5⟩:=Ft f3;have el:loE e=bF e.n e.t (stN e.y e.mo e.d e.h e.mi e.s).toNat:=rfl;rw[el];refine⟨?_,?_,fun p=>?_,?_⟩
 . unfold gp;rw[a0d m,f,q,BP e.t f2];simp only;rw[a0d];unfold JE Da;rw[g,j,a,b,e2,s0,s1,s2,s3,s4,s5,c];simp
 . unfold enO;rw[b,a,e2,s0,s1,s2,s3,s4,s5]
 . unfold ctO heE eN;rw[f,a,g,i,j,b]
 . unfold pm;rw[o,i,l]
theorem lv(a b:ByteArray):sub (a++b) a.size=b:=bV (by
 rw[uV];simp only[a1C,a1k];exact List.drop_left' (by simp))
theorem qQ(l:List En)(k:Nat):∀j,k<=j->j<=l.length->∃x,(ar (l.take j)).1=(ar (l.take k)).1++x
 | 0,h,_=>by
  have:k=0:=by omega
  subst this;exact⟨⟨#[]⟩,bV (by simp)⟩
 | j+1,h,hj=>by
  by_cases e:k=j+1
  . subst e;exact⟨⟨#[]⟩,bV (by simp)⟩
  . obtain⟨x,a⟩:=qQ l k j (by omega) (by omega);refine⟨x++loE (l.getD j default),?_⟩;rw[dP l j (by omega)];show(ar (l.take j)).1++loE _=_;rw[a,a1S]
theorem Ch{l:List En}(h:ci l=true)(b:k<l.length):∃r,cj l=(ar (l.take k)).1++(loE (l.getD k default)++r):=by
 obtain⟨x,a⟩:=qQ l (k+1) l.length (by omega) (a0a _);rw[a1Q,dP l k b]at a;have a:(ar l).1=(ar (l.take k)).1++loE (l.getD k default)++x:=a;refine⟨x++((ar l).2++dK l.length (ar l).2.size (ar l).1.size),?_⟩;unfold cj;rw[a0d h,a1S];generalize (ar l).2++dK l.length (ar l).2.size (ar l).1.size=T;rw[a];simp only[a1S]
theorem vi{l:List En}(h:ci l=true):∀k,k<=l.length->zst (cj l) k=some (l.take k,(ar (l.take k)).2,(ar (l.take k)).1.size)
 | 0,_=>rfl
 | k+1,hk=>by
  have ih:=vi h k (by omega);obtain⟨r,f⟩:=Ch h (by omega:k<l.length);have a:sub (cj l) (ar (l.take k)).1.size=loE (l.getD k default)++r:=by rw[f,lv]
  obtain⟨b,c,d,e⟩:=E4 ((dp h).1 k (by omega)) r;have:=yM (T:=(l.getD k default).t) ih (by show gp (sub _ _)=_;rw[a];exact b);rw[this];simp only[a,c,d,e];rw[dP l k (by omega),jk l default k (by omega)];simp only[yK,a0t]
theorem Cg{l:List En}(h:ci l=true):dE (cj l)=some l:=by
 have a:=vi h l.length (a0a _);rw[a1Q]at a;refine Cc a h ?_;show sub (cj l) (ar l).1.size=(ar l).2++dK l.length (ar l).2.size (ar l).1.size;unfold cj;rw[a0d h,a1S,lv]
theorem Ce{l:List En}(h:ci l=true):(cj l).size=(ar l).1.size+(ar l).2.size+22:=by
 unfold cj;rw[a0d h,a0t,a0t,kv]
theorem hH(l:List En):(cj l).size<=4000:=by
 by_cases h:ci l=true
 . rw[Ce h];obtain⟨a,h2⟩:=dp h;have:=kN l a l.length (a0a _);rw[a1Q]at this;omega
 . unfold cj;rw[a0e h];exact a0g _
theorem uA(w:World)(base d:Nat)(hb:base<=w.heap.size)(hd:d<256):bU (w.alloc (.cells #[.int .u8 (d:Int)] 5)) base (.slice (some ⟨w.heap.size,0,none⟩) 1 1) [UInt8.ofNat d]:=by
 have h:(w.alloc (.cells #[.int .u8 (d:Int)] 5)).ownsRow base 5 1 (.slice (some ⟨w.heap.size,0,none⟩) 1 1) 1 [.int .u8 (d:Int)]:=a0Y w #[.int .u8 (d:Int)] 1 hb (by unfold maxLen;omega) rfl;have e:((UInt8.ofNat d).toNat:Int)=(d:Int):=by rw[UInt8.toNat_ofNat'];omega
 show World.ownsRow _ _ _ _ _ _ (cY [UInt8.ofNat d]);rw[show cY [UInt8.ofNat d]=[.int .u8 ((UInt8.ofNat d).toNat:Int)]from rfl,e];exact h
end Go.Proofs.YtgmfehnnebkaoaaGreatDoor
