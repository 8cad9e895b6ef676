/- Of what the proof is made: 15 texts, one behind the other. -/
import Derived.Test.YtlpmnnjlmjffpaaGreatDoorM39
import Derived.Test.YtlpmnnjlmjffpaaGreatDoorM38
import Derived.Test.YtlpmnnjlmjffpaaGreatDoorM3
import Derived.Test.YtlpmnnjlmjffpaaGreatDoorM29
import Derived.Test.YtlpmnnjlmjffpaaGreatDoorM40
import Derived.Test.YtlpmnnjlmjffpaaGreatDoorM20
import Derived.Lib.QuietBelow
import Derived.Deep.QuietTactic
import Derived.BigQuiet
import Derived.Test.YtlpmnnjlmjffpaaGreatDoorM34
import Derived.Test.YtlpmnnjlmjffpaaGreatDoorM9
import Derived.Test.YtlpmnnjlmjffpaaGreatDoorM32
import Derived.Test.YtlpmnnjlmjffpaaGreatDoorM37
set_option maxRecDepth 100000
set_option linter.unusedSimpArgs false
set_option linter.unusedVariables false
set_option maxHeartbeats 12800000
namespace Go.Proofs.YtlpmnnjlmjffpaaGreatDoor
open Go.Proofs.Tryz
open Corb
variable {T c s x:ByteArray}{i k m n:Nat}{u:List UInt8}{w:World}
def sub(s:ByteArray)(p:Nat):ByteArray:=s.extract p s.size
theorem dF(s:ByteArray)(p:Nat):(sub s p).data.toList=s.data.toList.drop p:=by
 rw[sub,ext_list];exact a0A (by simp)
theorem fz(s:ByteArray)(p:Nat):(sub s p).size=s.size-p:=by
 rw[sub,a1p];omega
def jk(s:ByteArray):Nat:=30+wd s.data.toList 26 2+wd s.data.toList 18 4
def enO(s T:ByteArray):En:=⟨nmB s,gY (wd s.data.toList 10 4:Nat),gM (wd s.data.toList 10 4:Nat),gD (wd s.data.toList 10 4:Nat),gH (wd s.data.toList 10 4:Nat),gI (wd s.data.toList 10 4:Nat),gS (wd s.data.toList 10 4:Nat),T⟩
def ctO(s:ByteArray)(p:Nat):ByteArray:=iH (wd s.data.toList 8 2) (wd s.data.toList 10 4) (wd s.data.toList 14 4) (wd s.data.toList 18 4) (wd s.data.toList 22 4) (nmB s) p
theorem fw(h:ep s=some T):hdB s=true/\jW (enO s T)=true:=by
 unfold ep at h
 split at h
 .
  rename_i h0;refine⟨h0,?_⟩
  split at h
  .
   split at h
   .
    rename_i h2;cases h
    simp only[BG,a0h]at h2;exact h2.2.2
   . cases h
  . cases h
 . cases h
def zst(s:ByteArray):Nat->Option (List En×ByteArray×Nat)
 | 0=>some ([],⟨#[]⟩,0)
 | i+1=>(zst s i).bind fun q=>(ep (sub s q.2.2)).map fun T=>(q.1++[enO (sub s q.2.2) T],q.2.1++ctO (sub s q.2.2) q.2.2,q.2.2+jk (sub s q.2.2))
theorem kY{q:List En×ByteArray×Nat}(h:zst s i=some q)(a:ep (sub s q.2.2)=some T) :
  zst s (i+1)=some (q.1++[enO (sub s q.2.2) T],q.2.1++ctO (sub s q.2.2) q.2.2,q.2.2+jk (sub s q.2.2)):=by
 rw[zst,h,a0f,a,a3P]
theorem OW{q:List En×ByteArray×Nat}(h:zst s i=some q)(a:ep (sub s q.2.2)=none):zst s (i+1)=none:=by
 rw[zst,h,a0f,a,Option.map_none]
theorem Bb{s:ByteArray}{i:Nat}(h:zst s i=none):∀m,i<=m->zst s m=none
 | 0,hm=>by
  have:i=0:=by omega
  rw[←this];exact h
 | m+1,hm=>by
  by_cases e:i=m+1
  . rw[←e];exact h
  . rw[zst,Bb h m (by omega)];rfl
theorem dr{q:List En×ByteArray×Nat}(h:zst s (i+1)=some q):∃r T,zst s i=some r/\ep (sub s r.2.2)=some T/\q=(r.1++[enO (sub s r.2.2) T],r.2.1++ctO (sub s r.2.2) r.2.2,r.2.2+jk (sub s r.2.2)):=by
 rw[zst]at h;rcases b:zst s i with _|r
 . rw[b]at h;cases h
 .
  rw[b,a0f]at h;rcases a:ep (sub s r.2.2)with _|T
  . rw[a]at h;cases h
  .
   rw[a,a3P]at h;cases h
   exact⟨r,T,rfl,a,rfl⟩
theorem tg(h:ep s=some T):jk s<=s.size:=(gx.1 (fw h).1).2.2
theorem dN{s:ByteArray} : ∀{i:Nat} {q:List En×ByteArray×Nat},zst s i=some q->q.1.length=i/\q.2.2<=s.size/\(∀e∈q.1,jW e=true)/\(q.2.1=⟨#[]⟩∨q.2.1.data.toList.take 4=[80,75,1,2])/\q.2.1.size<=100*i
 | 0,q,h=>by cases h;exact⟨rfl,a0g _,(fun e a=>by cases a),.inl rfl,a0g _⟩
 | i+1,q,h=>by
  obtain⟨r,T,c,h2,rfl⟩:=dr h;obtain⟨a1,a2,a3,a4,a5⟩:=dN c;have f:=tg h2;rw[fz]at f;have b:=(fw h2).2;have g:=(dz (n:=(enO (sub s r.2.2) T).n) (t:=(enO (sub s r.2.2) T).t) b).1;have d:(ctO (sub s r.2.2) r.2.2).size=46+(nmB (sub s r.2.2)).size:=gu _ _ _ _ _ _ _;have j:(nmB (sub s r.2.2)).size<=43:=g;refine⟨by simp[a1],?_,?_,?_,?_⟩
  . show r.2.2+jk (sub s r.2.2)<=s.size;omega
  .
   intro e a;rcases a1b.1 a with a|a
   . exact a3 e a
   . rw[a09.1 a];exact b
  .
   refine .inr ?_;show(r.2.1++ctO (sub s r.2.2) r.2.2).data.toList.take 4=_;have e0:(ctO (sub s r.2.2) r.2.2).data.toList.take 4=[80,75,1,2]:=by simp[ctO,iH]
   rcases a4 with e|e
   . rw[e];simpa using e0
   .
    have:4<=r.2.1.data.toList.length:=by
     have:=congrArg List.length e;rw[a0v]at this;simp at this ⊢;omega
    simp only[a1w,a1n];rw[a1d this];exact e
  . show(r.2.1++ctO (sub s r.2.2) r.2.2).size<=_;rw[a0u,d];omega
theorem jf{s:ByteArray}{k:Nat} : ∀{m:Nat} {q:List En×ByteArray×Nat},zst s m=some q->k<=m->∃r,zst s k=some r/\r.1=q.1.take k
 | 0,q,h,hk=>by
  have:k=0:=by omega
  subst this;exact⟨q,h,by cases h;rfl⟩
 | m+1,q,h,hk=>by
  by_cases e:k=m+1
  . subst e;exact⟨q,h,by rw[a0A (by rw[(dN h).1];exact a0a _)]⟩
  . obtain⟨r,T,a,h2,rfl⟩:=dr h;obtain⟨d,b,c⟩:=jf a (by omega:k<=m);refine⟨d,b,?_⟩;rw[c];show _=(r.1++_).take k;rw[a1d (by rw[(dN a).1];omega)]
theorem ju(h:ep s=some T):s.data.toList.take 4=[80,75,3,4]:=by
 obtain⟨a,h2,_⟩:=gx.1 (fw h).1;simp only[lk,a0h,a0o]at h2;have b:30<=s.data.toList.length:=by simpa using a
 have:=(qU (l:=s.data.toList) (i:=0) (k:=4) (by omega) (by decide)).1 h2.1;rw[a1D]at this;rw[this];decide +kernel
theorem mh(k z p:Nat):(cJ k z p).data.toList=[80,75,5,6]++(leS 2 0++(leS 2 0++(leS 2 k++(leS 2 k++(leS 4 z++(leS 4 p++leS 2 0)))))):=by
 simp[cJ,az]
theorem xb(k z p:Nat)(a:c=⟨#[]⟩∨c.data.toList.take 4=[80,75,1,2]):(c++cJ k z p).data.toList.take 4≠[80,75,3,4]:=by
 simp only[a1w,a1n];rcases a with e|e
 . rw[e,mh];simp
 .
  have:4<=c.data.toList.length:=by
   have:=congrArg List.length e;rw[a0v]at this;simp at this ⊢;omega
  rw[a1d this,e];decide
theorem I0{z p q:Nat}(h:sub s p=c++cJ k z q)(e:k<65536):22<=s.size/\wd s.data.toList (s.size-12) 2=k:=by
 have d:s.size-p=c.size+22:=by rw[←fz,h,a0u,dV]
 refine⟨by omega,?_⟩;have h2:s.data.toList=(s.data.toList.take p++(c.data.toList++([80,75,5,6]++(leS 2 0++(leS 2 0++leS 2 k)))))++(leS 2 k++(leS 4 z++(leS 4 q++leS 2 0))):=by
  have:s.data.toList.drop p=(c++cJ k z q).data.toList:=by rw[←dF,h]
  conv=>lhs;rw[←a1E p s.data.toList,this]
  simp only[a1w,a1n,mh,a0H]
 have a:(s.data.toList.take p++(c.data.toList++([80,75,5,6]++(leS 2 0++(leS 2 0++leS 2 k))))).length=s.size-12:=by
  simp only[a0m,a0v,ax];have e1:s.data.toList.length=s.size:=by simp
  have e2:c.data.toList.length=c.size:=by simp
  rw[e1,e2];simp;omega
 rw[h2];have:=Dz (b:=leS 2 k++(leS 4 z++(leS 4 q++leS 2 0))) (i:=0) 2 a;rw[a1l]at this;rw[this];exact gj _ (by omega)
def aQ(s:ByteArray):Option (List En):=
 if 12<=s.size/\wd s.data.toList (s.size-12) 2<=6 then
  (match zst s (wd s.data.toList (s.size-12) 2)with
  | some q=>if bC q.1=true/\sub s q.2.2=q.2.1++cJ (wd s.data.toList (s.size-12) 2) q.2.1.size q.2.2 then some q.1 else none
  | none=>none)
 else none
theorem gN{l:List En}(h:aQ s=some l):∃m q,zst s m=some q/\l=q.1/\bC q.1=true/\sub s q.2.2=q.2.1++cJ m q.2.1.size q.2.2:=by
 unfold aQ at h
 split at h
 .
  split at h
  .
   rename_i q hq
   split at h
   .
    rename_i h2;cases h
    exact⟨_,q,hq,rfl,h2.1,h2.2⟩
   . cases h
  . cases h
 . cases h
theorem AW{q:List En×ByteArray×Nat}(h:zst s m=some q)(b:bC q.1=true)(a:sub s q.2.2=q.2.1++cJ m q.2.1.size q.2.2):aQ s=some q.1:=by
 have c:=(fg b).2;have d:=(dN h).1;obtain⟨e1,e2⟩:=I0 a (by omega);unfold aQ;rw[a0e ⟨by omega,by omega⟩,e2,h];simp only;rw[a0e ⟨b,a⟩]
theorem vX{q r:List En×ByteArray×Nat}(d:zst s k=some q)(b:zst s m=some r)(c:sub s r.2.2=r.2.1++cJ m r.2.1.size r.2.2):k<=m:=by
 rcases a08 m k with h|h
 .
  exfalso;obtain⟨x,e,_⟩:=jf d (by omega:m+1<=k);obtain⟨y,T,a,h2,_⟩:=dr e;rw[b]at a;cases a
  have:=ju h2;rw[c]at this;exact xb _ _ _ (dN b).2.2.2.1 this
 . exact h
theorem vY{q:List En×ByteArray×Nat}(b:zst s k=some q)(i:bC q.1=true)(f:(sub s q.2.2).data.toList.take 4≠[80,75,3,4]) :
  aQ s=if sub s q.2.2=q.2.1++cJ k q.2.1.size q.2.2 then some q.1 else none:=by
 split
 . rename_i he;exact AW b i he
 .
  rename_i he;rcases h:aQ s with _|l
  . rfl
  .
   exfalso;obtain⟨m,r,a,h2,j,c⟩:=gN h;have d:=vX b a c;by_cases e:k=m
   .
    subst e;rw[b]at a;cases a
    exact he c
   .
    obtain⟨x,g,_⟩:=jf a (by omega:k+1<=m);obtain⟨y,T,y1,y2,_⟩:=dr g;rw[b]at y1;cases y1
    exact f (ju y2)
theorem AU{q:List En×ByteArray×Nat}(c:zst s k=some q)(o:(sub s q.2.2).data.toList.take 4=[80,75,3,4])(p:∀T,ep (sub s q.2.2)=some T->bC (q.1++[enO (sub s q.2.2) T])=false):aQ s=none:=by
 rcases h:aQ s with _|l
 . rfl
 .
  exfalso;obtain⟨m,r,b,h2,f,g⟩:=gN h;have u:=vX c b g;by_cases e:k=m
  .
   subst e;rw[c]at b;cases b
   rw[g]at o;exact xb _ _ _ (dN c).2.2.2.1 o
  .
   obtain⟨x,v,d⟩:=jf b (by omega:k+1<=m);obtain⟨y,T,y1,y2,y3⟩:=dr v;rw[c]at y1;cases y1
   have j:=p T y2;have n:bC (r.1.take (k+1))=true:=by
    rw[qh]at f ⊢;intro i t;have a:i<k+1/\i<r.1.length:=by rw[a0v]at t;omega
    have:=f i a.2;unfold ig at this ⊢;rw[mL r.1 (k+1) i a.1,a2O,a1m (by omega)];exact this
   rw[←d,y3]at n;rw[n]at j;cases j
def hqO(x:ByteArray)(p:Nat):Hq:=⟨wd x.data.toList 8 2,wd x.data.toList 10 4,wd x.data.toList 14 4,wd x.data.toList 18 4,wd x.data.toList 22 4,nmB x,p⟩
def sy(s:ByteArray)(k:Nat):Hq:=match zst s k with
 | some q=>hqO (sub s q.2.2) q.2.2
 | none=>hqO ⟨#[]⟩ 0
def hqL(s:ByteArray)(n:Nat):List Hq:=(List.range n).map (sy s)
theorem rz(s:ByteArray)(n:Nat):(hqL s n).length=n:=by simp[hqL]
theorem Jn(s:ByteArray)(n:Nat):hqL s (n+1)=hqL s n++[sy s n]:=by simp[hqL,List.range_succ]
theorem Mo(s:ByteArray)(n i:Nat)(d:Hq)(h:i<n):(hqL s n).getD i d=sy s i:=by simp[hqL,List.getD,h]
theorem wN{q:List En×ByteArray×Nat}(h:zst s k=some q):sy s k=hqO (sub s q.2.2) q.2.2:=by
 unfold sy;rw[h]
theorem y9{s:ByteArray} : ∀{k:Nat} {q:List En×ByteArray×Nat},zst s k=some q->eo (sy s) k=q.2.1
 | 0,q,h=>by cases h;rfl
 | k+1,q,h=>by
  obtain⟨r,T,a,h2,rfl⟩:=dr h;rw[eo,y9 a,wN a];rfl
theorem Mn(j:s.size<=1048576){q:List En×ByteArray×Nat}(h:zst s k=some q):∀i,i<k->okQ (sy s i):=by
 intro i f;obtain⟨x,e,_⟩:=jf h (by omega:i+1<=k);obtain⟨r,T,a,h2,_⟩:=dr e;rw[wN a];have b:=(fw h2).2;have c:=(dz (n:=(enO (sub s r.2.2) T).n) (t:=(enO (sub s r.2.2) T).t) b).1;have d:(nmB (sub s r.2.2)).size<=43:=c;have g:=(dN a).2.1;exact⟨ib _ _,ea _ _,ea _ _,ea _ _,ea _ _,by show(nmB (sub s r.2.2)).size<=54;omega,by show r.2.2<4294967296;omega⟩
theorem Fc(l:List En)(e:En)(i:Nat)(a:i<l.length):ig (l++[e]) i=ig l i:=by
 unfold ig;rw[a1d (by omega)]
 congr 1
 simp only[List.getD];rw[List.getElem?_append_left a]
theorem uF(l:List En)(e:En):ig (l++[e]) l.length=bv l e:=by
 unfold ig;rw[a1d (a0a _),a0A (a0a _)]
 congr 1
 simp[List.getD]
theorem mM{l:List En}(h:bC l=true)(e:En):bC (l++[e])=true<->bv l e=0:=by
 rw[qh]at h ⊢;constructor
 . intro k;have:=k l.length (by simp);rw[uF]at this;exact this
 .
  intro k i b;by_cases a:i<l.length
  . rw[Fc l e i a];exact h i a
  .
   have:i=l.length:=by simp at b;omega
   rw[this,uF];exact k
theorem JR(s:ByteArray):Lib.hasPrefix s.data.toList [80,75,3,4]=decide (s.data.toList.take 4=[80,75,3,4]):=by
 rw[a2e,a0o];unfold Lib.hasPrefix;rw[List.isPrefixOf_iff_prefix,List.prefix_iff_eq_take];exact eq_comm
theorem GX{v:List UInt8}(h:30<=v.length)(a:lk v=true)(d:n=wd v 26 2):(du (wd v 8 2) (wd v 10 4) (wd v 14 4) (wd v 18 4) (wd v 22 4) n).data.toList=(v.drop 4).take 26:=by
 have st:∀i k m,(v.drop i).take (k+m)=(v.drop i).take k++(v.drop (i+k)).take m:=fun i k m=>by rw[a3f,a1M]
 simp only[lk,a0h,a0o]at a;obtain⟨_,b,h2,c⟩:=a;have e1:=(qU (l:=v) (i:=4) (k:=2) (by omega) (by decide)).1 b;have e2:=(qU (l:=v) (i:=6) (k:=2) (by omega) (by decide)).1 h2;have e3:=(qU (l:=v) (i:=28) (k:=2) (by omega) (by decide)).1 c;have e:(du (wd v 8 2) (wd v 10 4) (wd v 14 4) (wd v 18 4) (wd v 22 4) n).data.toList=leS 2 20++(leS 2 0++(leS 2 (wd v 8 2)++(leS 4 (wd v 10 4)++(leS 4 (wd v 14 4)++(leS 4 (wd v 18 4)++(leS 4 (wd v 22 4)++(leS 2 n++leS 2 0))))))):=by
  unfold du az;simp
 rw[e,d,←e1,←e2,gJ (i:=8) (k:=2) (by omega),gJ (i:=10) (k:=4) (by omega),gJ (i:=14) (k:=4) (by omega),gJ (i:=18) (k:=4) (by omega),gJ (i:=22) (k:=4) (by omega),gJ (i:=26) (k:=2) (by omega)]
 conv=>lhs;rhs;rhs;rhs;rhs;rhs;rhs;rhs;rhs;rw[e2,←e3]
 rw[←st 26 2 2,←st 22 4 _,←st 18 4 _,←st 14 4 _,←st 10 4 _,←st 8 2 _,←st 6 2 _,←st 4 2 _]
def rj(u v:List UInt8)(own:Nat):Prop:=30<=u.length/\46+wd u 28 2<=u.length/\30+wd u 28 2<=v.length/\((u.drop 6).take 26=(v.drop 4).take 26/\(u.drop 46).take (wd u 28 2)=(v.drop 30).take (wd u 28 2))/\(u.take 6=leS 4 33639248++leS 2 20/\(u.drop 32).take 14=List.replicate 10 0++leS 4 own)
theorem IJ(own:Nat)(h:hdB x=true):(ctO x own).data.toList=(leS 4 33639248++leS 2 20)++((x.data.toList.drop 4).take 26++((List.replicate 10 0++leS 4 own)++(x.data.toList.drop 30).take (wd x.data.toList 26 2))):=by
 obtain⟨a,h2,c⟩:=gx.1 h;have b:30<=x.data.toList.length:=by simpa using a
 have e:=GX b h2 (iU (s:=x) (by omega));have e0:leS 4 33639248=[80,75,1,2]:=by decide +kernel
 rw[e0,←e,←tp];unfold ctO iH az;simp[List.replicate]
theorem pM{v:List UInt8}(h:(u.drop 6).take 26=(v.drop 4).take 26):wd u 28 2=wd v 26 2:=by
 have e1:((u.drop 6).take 26).drop 22=(u.drop 28).take 4:=by rw[a3e,a1M]
 have e2:((v.drop 4).take 26).drop 22=(v.drop 26).take 4:=by rw[a3e,a1M]
 have e3:(u.drop 28).take 4=(v.drop 26).take 4:=by rw[←e1,←e2,h]
 have e4:(u.drop 28).take 2=(v.drop 26).take 2:=by
  have:=congrArg (List.take 2) e3;rwa[a2O,a2O]at this
 unfold wd;rw[e4]
theorem Mu(own:Nat)(h:hdB x=true):rj u x.data.toList own<->u.take (46+wd x.data.toList 26 2)=(ctO x own).data.toList:=by
 obtain⟨g,h2,j⟩:=gx.1 h;have d:30+wd x.data.toList 26 2<=x.data.toList.length:=by
  have:x.data.toList.length=x.size:=by simp
  omega
 have st:∀i k m,(u.drop i).take (k+m)=(u.drop i).take k++(u.drop (i+k)).take m:=fun i k m=>by rw[a3f,a1M]
 have eu:∀n,u.take (46+n)=u.take 6++((u.drop 6).take 26++((u.drop 32).take 14++(u.drop 46).take n)):=fun n=>by
  rw[←st 32 14 n,←st 6 26 _];have:=st 0 6 (26+(14+n));rw[a1D,a0J]at this;rw[←this]
  congr 1;omega
 rw[IJ own h];have l1:(leS 4 33639248++leS 2 20).length=6:=by simp[ax]
 have l2:((x.data.toList.drop 4).take 26).length=26:=ew (by omega);have l3:(List.replicate 10 (0:UInt8)++leS 4 own).length=14:=by simp[ax]
 have l4:((x.data.toList.drop 30).take (wd x.data.toList 26 2)).length=wd x.data.toList 26 2:=ew d;constructor
 . rintro⟨c0,c1,c2,⟨s1,s2⟩,b,c⟩;have a:=pM s1;rw[a]at s2;rw[eu,b,s1,c,s2]
 .
  intro e;have f:=congrArg List.length e;have m1:=l1;have m3:=l3;simp only[a0m]at f m1 m3;rw[a0v,l2,l4]at f;have l:46+wd x.data.toList 26 2<=u.length:=by omega
  rw[eu]at e;obtain⟨b,e⟩:=a1h e (by rw[l1,a0v];omega);obtain⟨s1,e⟩:=a1h e (by rw[l2,a0v,a0X];omega);obtain⟨c,s2⟩:=a1h e (by rw[l3,a0v,a0X];omega);have a:=pM s1;exact⟨by omega,by omega,by rw[a];exact d,⟨s1,by rw[a];exact s2⟩,b,c⟩
theorem EK{s:ByteArray}{k:Nat}{r:List En×ByteArray×Nat}(a:zst s k=some r):∀{m:Nat} {q:List En×ByteArray×Nat},zst s m=some q->k<=m->∃x,q.2.1.data.toList=r.2.1.data.toList++x
 | 0,q,h,hkm=>by
  have:k=0:=by omega
  subst this;rw[a]at h;cases h;exact⟨[],by simp⟩
 | m+1,q,h,hkm=>by
  by_cases e:k=m+1
  . subst e;rw[a]at h;cases h;exact⟨[],by simp⟩
  .
   obtain⟨y,T,b,h2,rfl⟩:=dr h;obtain⟨x,c⟩:=EK a b (by omega);exact⟨x++(ctO (sub s y.2.2) y.2.2).data.toList,by
    show(y.2.1++ctO (sub s y.2.2) y.2.2).data.toList=_;simp only[a1w,a1n];rw[c,a0H]⟩
def preB(s c:ByteArray)(A:Nat):Prop:=(s.data.toList.drop A).take c.size=c.data.toList
theorem zV{A:Nat}{r:List En×ByteArray×Nat}(d:ep (sub s r.2.2)=some T)(a:preB s r.2.1 A) :
  rj (s.data.toList.drop (A+r.2.1.size)) (s.data.toList.drop r.2.2) r.2.2<->preB s (r.2.1++ctO (sub s r.2.2) r.2.2) A:=by
 have b:=(fw d).1;have c:(ctO (sub s r.2.2) r.2.2).size=46+wd (sub s r.2.2).data.toList 26 2:=by
  have:(ctO (sub s r.2.2) r.2.2).size=46+(nmB (sub s r.2.2)).size:=gu _ _ _ _ _ _ _;rw[this,iU (by have:=(gx.1 b).2.2;omega)]
 have:=Mu (u:=s.data.toList.drop (A+r.2.1.size)) r.2.2 b;rw[dF]at this;rw[this];unfold preB;have st:(s.data.toList.drop A).take (r.2.1.size+(46+wd (s.data.toList.drop r.2.2) 26 2))=(s.data.toList.drop A).take r.2.1.size++(s.data.toList.drop (A+r.2.1.size)).take (46+wd (s.data.toList.drop r.2.2) 26 2):=by rw[a3f,a1M]
 rw[dF]at c;rw[a0u,c,st];unfold preB at a;simp only[a1w,a1n];constructor
 . intro e;rw[a,e]
 . intro e;rw[a]at e;exact a1N e
theorem pg{s:ByteArray}{m:Nat}(a:12<=s.size)(b:wd s.data.toList (s.size-12) 2=m)(c:m<=6):aQ s=match zst s m with
  | some q=>if bC q.1=true/\sub s q.2.2=q.2.1++cJ m q.2.1.size q.2.2 then some q.1 else none
  | none=>none:=by
 unfold aQ
 (rw[a0e ⟨a,by omega⟩,b])<;>(rcases zst s m with _|q<;>rfl)
theorem AV(h:¬ (12<=s.size/\wd s.data.toList (s.size-12) 2<=6)):aQ s=none:=a0d h
theorem Hu{q r:List En×ByteArray×Nat}(a:12<=s.size)(f:wd s.data.toList (s.size-12) 2=m)(d:m<=6)(hq:zst s m=some q)(l:i<m)(j:zst s i=some r)(b:ep (sub s r.2.2)=some T)(h:preB s r.2.1 q.2.2)
  (g:¬ rj (s.data.toList.drop (q.2.2+r.2.1.size)) (s.data.toList.drop r.2.2) r.2.2):aQ s=none:=by
 rw[pg a f d,hq];simp only;rw[a0d];rintro⟨_,e⟩;apply g;rw[zV b h];obtain⟨x,k⟩:=EK (kY j b) hq (by omega);have c:s.data.toList.drop q.2.2=q.2.1.data.toList++(cJ m q.2.1.size q.2.2).data.toList:=by
  rw[←dF,e];simp
 unfold preB;rw[c,k,a0H];simp only;rw[a1d (by simp),a0A (by simp)]
theorem Lt{q:List En×ByteArray×Nat}(b:12<=s.size)(f:wd s.data.toList (s.size-12) 2=m)(e:m<=6)(hq:zst s m=some q)(g:bC q.1=true)(d:preB s q.2.1 q.2.2) :
  aQ s=if sub s (q.2.2+q.2.1.size)=cJ m q.2.1.size q.2.2 then some q.1 else none:=by
 rw[pg b f e,hq];simp only;have:(bC q.1=true/\sub s q.2.2=q.2.1++cJ m q.2.1.size q.2.2)<->sub s (q.2.2+q.2.1.size)=cJ m q.2.1.size q.2.2:=by
  have e1:s.data.toList.drop q.2.2=q.2.1.data.toList++s.data.toList.drop (q.2.2+q.2.1.size):=by
   conv=>lhs;rw[←a1E q.2.1.size (s.data.toList.drop q.2.2)]
   rw[a1M];unfold preB at d;rw[d]
  constructor
  . rintro⟨_,c⟩;apply aO;have e2:=congrArg (fun x:ByteArray=>x.data.toList) c;simp only[dF,a1w,a1n]at e2;rw[e1]at e2;rw[dF];exact a1N e2
  . intro c;refine⟨g,aO ?_⟩;rw[dF,e1];simp only[a1w,a1n];rw[←c,dF]
 by_cases a:sub s (q.2.2+q.2.1.size)=cJ m q.2.1.size q.2.2
 . rw[a0e (this.2 a),a0e a]
 . rw[a0d (fun h=>a (this.1 h)),a0d a]
open Go.RowKit
theorem Da{n t:ByteArray}{y mo d h mi c k:Int}(a:oH x = .tuple #[.agg #[.string n,.int .i64 y,.int .i64 mo,.int .i64 d,.int .i64 h,.int .i64 mi,.int .i64 c,.string t],.int .i64 k,.bool true]) :
  ∃T,ep x=some T/\enO x T=⟨n,y,mo,d,h,mi,c,t⟩/\k=((jk x:Nat):Int):=by
 unfold oH at a;rcases b:ep x with _|T
 . rw[b]at a;simp at a
 .
  rw[b]at a;simp only[Gb,Value.tuple.injEq,Array.mk.injEq,List.cons.injEq,Value.agg.injEq,Value.string.injEq,Value.int.injEq,a1T,a03]at a;obtain⟨⟨e0,e1,e2,e3,e4,e5,e6,e7⟩,e8⟩:=a;refine⟨T,rfl,?_,?_⟩
  . unfold enO;rw[e0,e1,e2,e3,e4,e5,e6,e7]
  . rw[←e8];rfl
theorem Ew(a:oH x = .tuple #[noE,.int .i64 0,.bool false]):ep x=none:=by
 unfold oH at a;rcases b:ep x with _|T
 . rfl
 . rw[b]at a;simp at a
theorem Pg(w:World)(base:Nat)(hb:base<=w.heap.size):im (w.alloc (.cells #[] 35)) base (.slice (some ⟨w.heap.size,0,none⟩) 0 0) []:=a0Y w #[] 0 hb (by unfold maxLen;omega) rfl
theorem FN(s:ByteArray)(m:Nat)(w:World)(hs:s.size<=1048576)(hm:m<=6) :
  Calls prog 55 #[.string s,.int .i64 (m:Nat)] w fun e w'=>(∃(v:Value) (p:Nat) (ok:Bool),e = .returned (.tuple #[v,.int .i64 (p:Nat),.bool ok])/\(ok=true->∃q,zst s m=some q/\p=q.2.2/\im w' w.heap.size v q.1)/\(ok=false->zst s m=none))/\Below w.heap.size w w':=by
 have ad:(m:Int)<=6:=by omega
 have ao:(s.size:Int)<=1048576:=by omega
 have HS:=af hs;have Hm:=af hm;have I:Hid (im (w.alloc (.cells #[] 35)) w.heap.size (.slice (some ⟨w.heap.size,0,none⟩) 0 0) []):=Pg _ _ (a0a _);have F:Hid (Below w.heap.size w (w.alloc (.cells #[] 35))):=(a0c _ _).alloc (a0a _) _;obtain⟨i0,hi,Y,Z,aa⟩:=a0w Tryz.infoEnt;clear hs hm;go_enter func55,ntmps55;go_wp2_with fail
 go_loopw [7,8,9,10,11,12] (fun v a i _ _ _ wr=>∃(k:Nat) (q:List En×ByteArray×Nat),k<=m/\i = .int .i64 k/\zst s k=some q/\a = .int .i64 (q.2.2:Nat)/\im wr w.heap.size v q.1/\Below w.heap.size w wr) (fun _ _ i _ _ _ _=>m-(intOf i).toNat)
 case atStart=>exact⟨0,([],⟨#[]⟩,0),a0g _,rfl,rfl,rfl,ae I,ae F⟩
 case round=>
  obtain⟨k,q,hk,rfl,N,rfl,hq,g⟩:=hrel;clear I F;by_cases ac:k<m
  .
   have r:=dN N;have al:(q.2.2:Int)<=(s.size:Int):=by have:=r.2.1;omega
   have HL:=af r.1;have K:(sub s q.2.2).size<=1048576:=by rw[fz];have:=ae HS;omega
   have O:=af (fun W=>sU (sub s q.2.2) W K);have E:=af hq;have b:=af g;have HK:=af hk;have HZ:=af N;clear K r hq g hk N;go_wp2_with fail;refine(ae O wr).mono ?_;rintro e x1 ⟨⟨n,y,mo,d,h,mi,c,t,kk,ok,rfl,M⟩,u⟩;have D:=af (ak (ae b) u);have L:Hid (Below x1.heap.size x1 (x1.alloc (.cells #[.string n,.int .i64 y,.int .i64 mo,.int .i64 d,.int .i64 h,.int .i64 mi,.int .i64 c,.string t] 35))):=(a0c _ _).alloc (a0a _) _;cases ok
   .
    have P:=af (Bb (OW (ae HZ) (Ew M)) m (by omega));have B:=af (ak (ae D) (ae L));clear M u O E b L;go_wp2
    go_ret3
    exact⟨⟨_,_,false,rfl,(fun h=>by cases h),fun _=>ae P⟩,ae B⟩
   .
    obtain⟨T,U,hE,rfl⟩:=Da M;have C:=kY (ae HZ) U;have hf:=tg U;rw[fz]at hf;rw[hE]at C;have R:=af C;have ab:(q.2.2:Int)+((jk (sub s q.2.2):Nat):Int)<=(s.size:Int):=by omega
    have V:=ak u (ae L);have z:=bD.own (ae HL) ((ae E).later V (a0a _));have f:=ak (ae b) V;have j:=f.size;have o:Hid (k+1<=maxLen/\(k+1)*80<=140737488355328):=by
     show _/\_;have:=ae Hm;unfold maxLen;omega
    obtain⟨W1,hW1⟩:∃x,x1.alloc (.cells #[.string n,.int .i64 y,.int .i64 mo,.int .i64 d,.int .i64 h,.int .i64 mi,.int .i64 c,.string t] 35)=x:=⟨_,rfl⟩;have S:=af (au x1 #[.string n,.int .i64 y,.int .i64 mo,.int .i64 d,.int .i64 h,.int .i64 mi,.int .i64 c,.string t] 35);rw[hW1]at z f j S;have pA:=(ae S).cells (n:=8) rfl;clear M U hE hf C u O E b L V D;go_wp2_with (at_builtin;refine a0x _ rfl _ _ 27 rfl w.heap.size 35 i0 (.agg #[.string ⟨#[]⟩,.int .i64 0,.int .i64 0,.int .i64 0,.int .i64 0,.int .i64 0,.int .i64 0,.string ⟨#[]⟩]) 8 80 a2c hi Y Z aa rfl (by decide) _ _ _ rfl (a0n z _) ⟨W1.heap.size,0,none⟩ 1 1 (iu ⟨n,y,mo,d,h,mi,c,t⟩) rfl rfl (j9 W1 _ _) (iK _) (ae o).1 (ae o).2 (an j _) ?_;intro v' x2 A l H;clear H);have G:=aE (v:=u7) l z (a0a _) j f;have J:im x2 w.heap.size v' (q.1++[⟨n,y,mo,d,h,mi,c,t⟩]):=bD.snoc (ae HL) A;have Q:=af J;have B:=af G;clear A l z J G pA f j S hW1;go_wp2;go_roundw
    case rel=>exact⟨k+1,_,by have:=ae HK;omega,by go_num,ae R,by go_num,ae Q,ae B⟩
    case measure=>simp[intOf];omega
  .
   have X:k=m:=by omega
   subst X;have E:=af hq;have b:=af g;clear hq g;go_wp2
   go_ret3
   exact⟨⟨_,_,true,rfl,fun _=>⟨q,N,rfl,ae E⟩,(fun h=>by cases h)⟩,ae b⟩
theorem Nw(l:List UInt8)(i j k:Nat):wd (l.drop i) j k=wd l (i+j) k:=by unfold wd;rw[a1M]
theorem ext_eq{a b:Nat}{c d:Nat}(e:b=a+k)(h2:d=c+k):(s.extract a b).toList=(x.extract c d).toList<->(s.data.toList.drop a).take k=(x.data.toList.drop c).take k:=by
 rw[bE,ext_list,ext_list,e,h2,a1C,a1C]
theorem I1{y:ByteArray}{a b:Nat}(c:b=a+k):(s.extract a b).toList=y.toList<->(s.data.toList.drop a).take k=y.data.toList:=by
 rw[bE,ext_list,c,a1C]
theorem wa{q:List En×ByteArray×Nat}(h:zst s k=some q):∀i,i<k->(q.1.getD i default).n.size<=1048576/\((q.1.getD i default).t.size:Int)<=9223372036854775807:=by
 intro i d;obtain⟨c,_,a,_⟩:=dN h;have b:q.1.getD i default∈q.1:=by
  rw[List.getD,List.getElem?_eq_getElem (by omega:i<q.1.length)];exact a1Q _
 obtain⟨f1,f2,_⟩:=dz (n:=(q.1.getD i default).n) (t:=(q.1.getD i default).t) (a _ b);exact⟨by omega,by omega⟩
theorem LV{p:Nat}(h:rj u (s.data.toList.drop p) p)(hd:hdB (sub s p)=true):46+wd u 28 2=(ctO (sub s p) p).size:=by
 have e:=pM h.2.2.2.1.1;have a:(ctO (sub s p) p).size=46+(nmB (sub s p)).size:=gu _ _ _ _ _ _ _;rw[a,iU (by have:=(gx.1 hd).2.2;omega),dF,e]
theorem below_drewN{B:Nat}{a:World}(h:Below B a w)(n:Nat):Below B a (w.drewN n):=⟨h.os,h.tape,h.output,h.size,h.block⟩
theorem Cg(s:ByteArray)(hd own:Nat)(w:World)(L:s.size<=1048576)(J:hd<=2000000)(h2:own<=2000000) :
  Calls prog 57 #[.string s,.int .i64 (hd:Nat),.int .i64 (own:Nat)] w fun e w'=>(∃(k:Nat) (b:Bool),e = .returned (.tuple #[.int .i64 (k:Nat),.bool b])/\(b=true<->rj (s.data.toList.drop hd) (s.data.toList.drop own) own)/\(b=true->k=46+wd (s.data.toList.drop hd) 28 2))/\Below w.heap.size w w':=by
 have D:prog.follows .mixedOrders=true:=by kernel_rfl
 have ad:(s.size:Int)<=1048576:=by omega
 have aa:(hd:Int)<=2000000:=by omega
 have ab:(own:Int)<=2000000:=by omega
 have G:s.data.toList.length=s.size:=by simp
 have C:Hid (∀W,CD 53 #[.string s,.int .i64 ((hd:Int)+28),.int .i64 2] W (.int .i64 (dw s (hd+28) 2))):=fun W=>by
  have:=dn s (hd+28) 2 W (by omega) (by decide) (by omega);rw[show((hd+28:Nat):Int)=(hd:Int)+28 by omega]at this;exact this
 have u:=Nw s.data.toList hd 28 2;by_cases K:hd+30<=s.size
 .
  rw[ge (by omega)]at C;have v:=ib s.data.toList (hd+28);rw[u];have HP:Hid (rj (s.data.toList.drop hd) (s.data.toList.drop own) own<->(hd+(46+wd s.data.toList (hd+28) 2)<=s.size/\own+30+wd s.data.toList (hd+28) 2<=s.size)/\(((s.data.toList.drop (hd+6)).take 26=(s.data.toList.drop (own+4)).take 26/\(s.data.toList.drop (hd+46)).take (wd s.data.toList (hd+28) 2)=(s.data.toList.drop (own+30)).take (wd s.data.toList (hd+28) 2))/\((s.data.toList.drop hd).take 6=leS 4 33639248++leS 2 20/\(s.data.toList.drop (hd+32)).take 14=List.replicate 10 0++leS 4 own))):=by
   show _<->_;unfold rj;rw[u];simp only[a1M,a0X,G];constructor
   . rintro⟨a,b,c,d,e⟩;exact⟨⟨by omega,by omega⟩,d,e⟩
   . rintro⟨⟨a,b⟩,d,e⟩;exact⟨by omega,by omega,by omega,d,e⟩
  clear u G;generalize wd s.data.toList (hd+28) 2=NM at *
  have ac:(NM:Int)<65536:=by omega
  by_cases B:hd+(46+NM)<=s.size/\own+30+NM<=s.size
  .
   have P:=af B;obtain⟨b1,b2⟩:=B;have N:(hd:Int)+(46+(NM:Int))<=(s.size:Int):=by omega
   have S:(own:Int)+30+(NM:Int)<=(s.size:Int):=by omega
   have d0:decide ((NM:Int)<0)=false:=a0i (by omega);have d1:decide ((s.size:Int)<(hd:Int)+(46+(NM:Int)))=false:=a0i (by omega);have d2:decide ((s.size:Int)<(own:Int)+30+(NM:Int))=false:=a0i (by omega);have Z:Hid (∀W,CD 79 #[.int .i64 33639248,.int .i64 4] W (.string (az (leS 4 33639248)))):=fun W=>aM 33639248 4 W (by omega) (by omega);have CV:Hid (∀W,CD 79 #[.int .i64 20,.int .i64 2] W (.string (az (leS 2 20)))):=fun W=>aM 20 2 W (by omega) (by omega);have Y:Hid (∀W,CD 79 #[.int .i64 0,.int .i64 10] W (.string (az (leS 10 0)))):=fun W=>aM 0 10 W (by omega) (by omega);have CP:Hid (∀W,CD 79 #[.int .i64 (own:Nat),.int .i64 4] W (.string (az (leS 4 own)))):=fun W=>aM own 4 W (by omega) (by omega);have E1:Hid ((s.extract (hd+6) (hd+32)).toList=(s.extract (own+4) (own+30)).toList<->(s.data.toList.drop (hd+6)).take 26=(s.data.toList.drop (own+4)).take 26):=ext_eq rfl rfl;have E2:Hid ((s.extract (hd+46) (hd+(46+NM))).toList=(s.extract (own+30) (own+30+NM)).toList<->(s.data.toList.drop (hd+46)).take NM=(s.data.toList.drop (own+30)).take NM):=ext_eq (by omega) rfl;have E3:Hid ((s.extract hd (hd+6)).toList=(az (leS 4 33639248)++az (leS 2 20)).toList<->(s.data.toList.drop hd).take 6=leS 4 33639248++leS 2 20):=by
    have:=I1 (s:=s) (y:=az (leS 4 33639248)++az (leS 2 20)) (a:=hd) (b:=hd+6) (k:=6) rfl;rw[show(az (leS 4 33639248)++az (leS 2 20)).data.toList=leS 4 33639248++leS 2 20 by simp[az]]at this;exact this
   have E4:Hid ((s.extract (hd+32) (hd+46)).toList=(az (leS 10 0)++az (leS 4 own)).toList<->(s.data.toList.drop (hd+32)).take 14=List.replicate 10 0++leS 4 own):=by
    have:=I1 (s:=s) (y:=az (leS 10 0)++az (leS 4 own)) (a:=hd+32) (b:=hd+46) (k:=14) rfl;have e0:leS 10 0=List.replicate 10 0:=by decide +kernel
    rw[show(az (leS 10 0)++az (leS 4 own)).data.toList=List.replicate 10 0++leS 4 own by rw[e0];simp[az]]at this;exact this
   have z1:(az (leS 4 33639248)).size<=10:=by rw[bH,ax];omega
   have z2:(az (leS 2 20)).size<=10:=by rw[bH,ax];omega
   have z3:(az (leS 10 0)).size<=10:=by rw[bH,ax];omega
   have z4:(az (leS 4 own)).size<=10:=by rw[bH,ax];omega
   have m1:¬ 9223372036854775807<(az (leS 4 33639248)).size+(az (leS 2 20)).size:=by omega
   have m2:¬ 9223372036854775807<(az (leS 10 0)).size+(az (leS 4 own)).size:=by omega
   generalize az (leS 4 33639248)=A1 at *
   generalize az (leS 2 20)=A2 at *
   generalize az (leS 10 0)=A3 at *
   generalize az (leS 4 own)=A4 at *
   rw[←ae E1,←ae E2,←ae E3,←ae E4]at HP;obtain⟨X1,l⟩:∃x,s.extract (hd+6) (hd+32)=x:=⟨_,rfl⟩;obtain⟨Y1,n⟩:∃x,s.extract (own+4) (own+30)=x:=⟨_,rfl⟩;obtain⟨X2,m⟩:∃x,s.extract (hd+46) (hd+(46+NM))=x:=⟨_,rfl⟩;obtain⟨Y2,o⟩:∃x,s.extract (own+30) (own+30+NM)=x:=⟨_,rfl⟩;obtain⟨X3,r⟩:∃x,s.extract hd (hd+6)=x:=⟨_,rfl⟩;obtain⟨X4,t⟩:∃x,s.extract (hd+32) (hd+46)=x:=⟨_,rfl⟩;rw[l,n,m,o,r,t]at HP;obtain⟨B1,g⟩:∃b,(X1.toList == Y1.toList)=b:=⟨_,rfl⟩;obtain⟨B2,j⟩:∃b,(X2.toList == Y2.toList)=b:=⟨_,rfl⟩;obtain⟨B3,p⟩:∃b,(X3.toList == (A1++A2).toList)=b:=⟨_,rfl⟩;obtain⟨B4,q⟩:∃b,(X4.toList == (A3++A4).toList)=b:=⟨_,rfl⟩;have HR:Hid (((B1&&B2)&&(B3&&B4))=true<->rj (s.data.toList.drop hd) (s.data.toList.drop own) own):=by
    show _<->_;rw[ae HP,←g,←j,←p,←q];simp only[a0h,a3h];exact⟨fun h=>⟨ae P,h⟩,fun h=>h.2⟩
   have R:=af (a0b l (a0b n (a0b m (a0b o (a0b r t)))));have z:=af (a0b g (a0b j (a0b p q)));have Q:=af (a0b m1 m2);clear HP E1 E2 E3 E4 K J h2 L v b1 b2 z1 z2 z3 z4 P l m r t n o g j p q m1 m2;have O:=C;cases B1<;>cases B2<;>cases B3
   all_goals
    go_enter func57,a3U;go_wp2_with fail;refine(ae O _).mono ?_;rintro e x1 ⟨rfl,f⟩;have i:=af f;clear f C O;go_wp2_with fail;have w1:IntKind.i64.wrap ((hd:Int)+6)=(hd:Int)+6:=by rw[a0T];omega
    have t1:((hd:Int)+6).toNat=hd+6:=by omega
    have l1:0<=(hd:Int)+6:=by omega
    have g1:(hd:Int)+6<=(s.size:Int):=by omega
    have w2:IntKind.i64.wrap ((hd:Int)+32)=(hd:Int)+32:=by rw[a0T];omega
    have t2:((hd:Int)+32).toNat=hd+32:=by omega
    have l2:0<=(hd:Int)+32:=by omega
    have g2:(hd:Int)+32<=(s.size:Int):=by omega
    have w3:IntKind.i64.wrap ((own:Int)+4)=(own:Int)+4:=by rw[a0T];omega
    have t3:((own:Int)+4).toNat=own+4:=by omega
    have l3:0<=(own:Int)+4:=by omega
    have g3:(own:Int)+4<=(s.size:Int):=by omega
    have w4:IntKind.i64.wrap ((own:Int)+30)=(own:Int)+30:=by rw[a0T];omega
    have t4:((own:Int)+30).toNat=own+30:=by omega
    have l4:0<=(own:Int)+30:=by omega
    have g4:(own:Int)+30<=(s.size:Int):=by omega
    have w5:IntKind.i64.wrap ((hd:Int)+46)=(hd:Int)+46:=by rw[a0T];omega
    have t5:((hd:Int)+46).toNat=hd+46:=by omega
    have l5:0<=(hd:Int)+46:=by omega
    have g5:(hd:Int)+46<=(s.size:Int):=by omega
    have w6:IntKind.i64.wrap ((hd:Int)+(46+(NM:Int)))=(hd:Int)+(46+(NM:Int)):=by rw[a0T];omega
    have t6:((hd:Int)+(46+(NM:Int))).toNat=hd+(46+NM):=by omega
    have l6:0<=(hd:Int)+(46+(NM:Int)):=by omega
    have w7:IntKind.i64.wrap ((own:Int)+30+(NM:Int))=(own:Int)+30+(NM:Int):=by rw[a0T];omega
    have t7:((own:Int)+30+(NM:Int)).toNat=own+30+NM:=by omega
    have l7:0<=(own:Int)+30+(NM:Int):=by omega
    have w8:IntKind.i64.wrap ((hd:Int))=(hd:Int):=by rw[a0T];omega
    have t8:((hd:Int)).toNat=hd:=by omega
    have l8:0<=(hd:Int):=by omega
    have o1:(hd:Int)+6<=(hd:Int)+32:=by omega
    have o2:(own:Int)+4<=(own:Int)+30:=by omega
    have o3:(hd:Int)+46<=(hd:Int)+(46+(NM:Int)):=by omega
    have o4:(own:Int)+30<=(own:Int)+30+(NM:Int):=by omega
    have o5:(hd:Int)<=(hd:Int)+6:=by omega
    have o6:(hd:Int)+32<=(hd:Int)+46:=by omega
    obtain⟨l,n,m,o,r,t⟩:=ae R;obtain⟨g,j,p,q⟩:=ae z;obtain⟨m1,m2⟩:=ae Q
    go_quiet (fail)
    have H:Hid (Below w.heap.size w (x1.drewN nq)):=below_drewN (ae i) nq;clear w3 t3 l3 g3 w4 t4 l4 g4 w6 t6 l6 w7 t7 l7 o1 o2 o3 o4 l n m o g j d0 d1 d2 N S R z Q;generalize x1.drewN nq=x2 at *
    go_wp2_with fail;have T:=fun d os=>Calls.regrown_of (w:=x2) (d:=d) (os:=os) (ae Z _);have U:=fun d os=>Calls.regrown_of (w:=x2) (d:=d) (os:=os) (ae CV _);have V:=fun d os=>Calls.regrown_of (w:=x2) (d:=d) (os:=os) (ae Y _);have X:=fun d os=>Calls.regrown_of (w:=x2) (d:=d) (os:=os) (ae CP _);refine wp_region_quiet_below D (by kernel_rfl) ?_
    go_big_quiet_step (fail)
    go_big_quiet_step (fail)
    go_big_quiet_step (fail)
    go_big_quiet_step (fail)
    go_big_quiet_step (fail)
    go_big_quiet_step (exact T _ _)
    go_big_quiet_step (exact U _ _)
    go_big_quiet_step (fail)
    go_big_quiet_step (fail)
    go_big_quiet_step (fail)
    go_big_quiet_step (fail)
    go_big_quiet_step (fail)
    go_big_quiet_step (fail)
    go_big_quiet_step (fail)
    go_big_quiet_step (fail)
    go_big_quiet_step (fail)
    go_big_quiet_step (exact V _ _)
    go_big_quiet_step (fail)
    go_big_quiet_step (exact X _ _)
    go_big_quiet_step (fail)
    go_big_quiet_step (fail)
    go_big_quiet_step (fail)
    go_big_quiet_step (fail)
    refine a01 ?_;intro zw M;obtain⟨⟨dq,osq⟩,E⟩:=M;have I:=below_regrown x2 dq osq;rw[←E]at I;have T9:=af (ak (ae H) I);clear E I T U V X;go_wp2
    go_ret2
    exact⟨⟨46+NM,_,by rw[Int.natCast_add];rfl,ae HR,fun _=>rfl⟩,ae T9⟩
  .
   have A:Hid (¬ rj (s.data.toList.drop hd) (s.data.toList.drop own) own):=fun h=>B ((ae HP).1 h).1;have F:Hid (false=true<->rj (s.data.toList.drop hd) (s.data.toList.drop own) own):=⟨(fun h=>by cases h),fun h=>absurd h (ae A)⟩;clear HP A;by_cases g:hd+(46+NM)<=s.size
   .
    have N:(hd:Int)+(46+(NM:Int))<=(s.size:Int):=by omega
    have S:(s.size:Int)<(own:Int)+30+(NM:Int):=by omega
    clear B g K J h2 L v;go_enter func57,a3U;go_wp2_with fail;refine(ae C _).mono ?_;rintro e x1 ⟨rfl,f⟩;have i:=af f;clear f C;go_wp2
    go_ret2
    exact⟨⟨0,false,rfl,ae F,fun h=>by cases h⟩,ae i⟩
   .
    have N:(s.size:Int)<(hd:Int)+(46+(NM:Int)):=by omega
    clear B g K J h2 L v;go_enter func57,a3U;go_wp2_with fail;refine(ae C _).mono ?_;rintro e x1 ⟨rfl,f⟩;have i:=af f;clear f C;go_wp2
    go_ret2
    exact⟨⟨0,false,rfl,ae F,fun h=>by cases h⟩,ae i⟩
 .
  rw[xc (by omega)]at C;have A:Hid (¬ rj (s.data.toList.drop hd) (s.data.toList.drop own) own):=fun h=>by
   have:=h.1;rw[a0X,G]at this;omega
  have F:Hid (false=true<->rj (s.data.toList.drop hd) (s.data.toList.drop own) own):=⟨(fun h=>by cases h),fun h=>absurd h (ae A)⟩;clear A u G;go_enter func57,a3U;go_wp2_with fail;refine(ae C _).mono ?_;rintro e x1 ⟨rfl,f⟩;have i:=af f;clear f C;go_wp2
  go_ret2
  exact⟨⟨0,false,rfl,ae F,fun h=>by cases h⟩,ae i⟩
theorem OJ{A:Nat}(h:preB s c A)(b:A<=s.size):A+c.size<=s.size:=by
 have:=congrArg List.length h;rw[a0v,a0X]at this;have a:s.data.toList.length=s.size:=by simp
 have h2:c.data.toList.length=c.size:=by simp
 omega
theorem rQ{a b:ByteArray}{c:Bool}(h:(a.toList == b.toList)=c):c=true<->a=b:=by
 rw[←h,a3h,bE];exact⟨fun e=>aO e,fun e=>by rw[e]⟩
theorem i6(s:ByteArray)(w:World)(hs:s.size<=1048576) :
  Calls prog 31 #[.string s] w fun e w'=>(∃v,e = .returned (.tuple #[v,.bool (aQ s).isSome])/\im w' w.heap.size v ((aQ s).getD []))/\Below w.heap.size w w':=by
 have a4:prog.follows .mixedOrders=true:=by kernel_rfl
 have b8:(s.size:Int)<=1048576:=by omega
 have u:Hid (aQ s=none->∀W,Below w.heap.size w W->(∃v,Ending.returned (.tuple #[.slice (some ⟨W.heap.size,0,none⟩) 0 0,.bool false]) = .returned (.tuple #[v,.bool (aQ s).isSome])/\im (W.alloc (.cells #[] 35)) w.heap.size v ((aQ s).getD []))/\Below w.heap.size w (W.alloc (.cells #[] 35))):=fun h W hb=>by
  rw[h];exact⟨⟨_,rfl,Pg _ _ hb.size⟩,hb.alloc hb.size _⟩
 by_cases L:12<=s.size
 .
  have C:Hid (∀W,CD 53 #[.string s,.int .i64 ((s.size:Int)-12),.int .i64 2] W (.int .i64 ((wd s.data.toList (s.size-12) 2:Nat):Int))):=fun W=>by
   have:=dn s (s.size-12) 2 W (by omega) (by decide) (by omega);rw[show((s.size-12:Nat):Int)=(s.size:Int)-12 by omega,ge (by omega)]at this;exact this
  have S:=ib s.data.toList (s.size-12);have bc:∃NM,wd s.data.toList (s.size-12) 2=NM:=⟨_,rfl⟩;obtain⟨NM,U⟩:=bc;rw[U]at C S;have HW:=af U;have I:=af L;clear U;have bz:(NM:Int)<65536:=by omega
  by_cases h6:NM<=6
  .
   have bs:(NM:Int)<=6:=by omega
   have M:Hid (∀W,Calls prog 54 #[.int .i64 (NM:Nat),.int .i64 0,.int .i64 6] W fun e w'=>e = .returned (.bool true)/\w'=W):=fun W=>by
    have:=aF (NM:Int) 0 6 W;rw[show inB (NM:Int) 0 6=true by rw[aI];omega]at this;exact this
   have C2:=af (fun W=>FN s NM W hs h6);have H6:=af h6;have HS:=af hs;clear L hs S;go_enter func31,ntmps31;go_wp2_with fail;refine(ae C _).mono ?_;rintro e x1 ⟨rfl,j⟩;have m:=af j;clear j C;go_wp2_with fail;refine(ae M _).mono ?_;rintro e x2 ⟨rfl,F⟩;subst F;clear M;go_wp2_with fail;refine(ae C2 _).mono ?_;rintro e x3 ⟨⟨v,p,ok,rfl,G,ab⟩,V⟩;have J:=af (ak (ae m) V);cases ok
   .
    have D:=af (ae u (by rw[pg (ae I) (ae HW) (ae H6),ab rfl]) x3 (ae J));clear G ab V C2;go_wp2
    go_ret2
    exact ae D
   .
    obtain⟨q,hq,rfl,a⟩:=G rfl;have f:=dN hq;obtain⟨va,vc,rfl,cc,_⟩:=a.formN f.1;have Bc:=af (a.mono (base':=w.heap.size) (by have:=(ae m).size;omega));have C3:=af (uz va vc q.1 NM f.1 x3 (iL f.1 a) (by omega) (wa hq));have HQ:=af hq;have b5:(q.2.2:Int)<=(s.size:Int):=by have:=f.2.1;omega
    have b0:q.2.1.size<=600:=by have:=f.2.2.2.2;omega
    clear G ab V C2 a f hq;cases H:bC q.1
    .
     have D:=af (fun W hb=>ae u (by rw[pg (ae I) (ae HW) (ae H6),ae HQ];simp[H]) W hb);rw[H]at C3;go_wp2_with fail;refine(ae C3).mono ?_;rintro e x4 ⟨rfl,z⟩;have K:=af (ak (ae J) z);clear z C3;go_wp2
     go_ret2
     exact ae D _ (ae K)
    .
     rw[H]at C3;have a2:=af H;clear H;go_wp2_with fail;refine(ae C3).mono ?_;rintro e x4 ⟨rfl,z⟩;have K:=af (ak (ae J) z);have al:=af ((ae Bc).later z (a0a _));clear z C3 Bc J;have Q:=af (fun hd own (W:World) (h1:hd<=2000000) (h2:own<=2000000)=>Cg s hd own W (ae HS) h1 h2);have ac:=af (fun p W=>sU (sub s p) W (by rw[fz];have:=ae HS;omega));have HE:Hid (∀p,s.extract p s.size=sub s p):=fun _=>rfl;go_wp2_with fail
     go_loopw [8,9,10,11,12,13,14,15] (fun h o i _ _ _ _ _ wr=>∃(k:Nat) (r:List En×ByteArray×Nat),k<=NM/\i = .int .i64 k/\zst s k=some r/\h = .int .i64 ((q.2.2:Nat)+(r.2.1.size:Nat))/\o = .int .i64 (r.2.2:Nat)/\preB s r.2.1 q.2.2/\im wr w.heap.size (.slice va NM vc) q.1/\Below w.heap.size w wr) (fun _ _ i _ _ _ _ _ _=>NM-(intOf i).toNat)
     case atStart=>exact⟨0,([],⟨#[]⟩,0),a0g _,rfl,rfl,by show _=Value.int .i64 ((q.2.2:Nat)+((0:Nat):Int));simp,rfl,rfl,ae al,ae K⟩
     case round=>
      obtain⟨k,r,hk,rfl,hr,rfl,rfl,P,a,O⟩:=hrel;have E:=dN hr;have b7:r.2.1.size<=600:=by have:=E.2.2.2.2;omega
      have b6:(r.2.1.size:Int)<=600:=by omega
      have b4:(r.2.2:Int)<=(s.size:Int):=by have:=E.2.1;omega
      have HR:=af hr;have g:=af P;have Bc:=af a;have A:=af O;have HK:=af hk;clear E hr P a O al K;by_cases be:k<NM
      .
       obtain⟨y,hy,_⟩:=jf (ae HQ) (by omega:k+1<=NM);obtain⟨r',T,h1,hT,_⟩:=dr hy;rw[ae HR]at h1;cases h1
       have HT:=af hT;have CH:=af (fun W=>ae Q (q.2.2+r.2.1.size) r.2.2 W (by omega) (by omega));rw[show((q.2.2+r.2.1.size:Nat):Int)=(q.2.2:Nat)+(r.2.1.size:Nat) by omega]at CH;clear hy hT Q;go_wp2_with fail;refine(ae CH _).mono ?_;rintro e x5 ⟨⟨kk,b,rfl,hb,aa⟩,Y⟩;have R:=af (ak (ae A) Y);have ao:=af ((ae Bc).later Y (a0a _));clear Y CH Bc A;cases b
       .
        have D:=af (ae u (Hu (ae I) (ae HW) (ae H6) (ae HQ) be (ae HR) (ae HT) (ae g) (fun h=>by have:=hb.2 h;cases this)) x5 (ae R));clear hb aa;go_wp2
        go_ret2
        exact ae D
       .
        have hl:=hb.1 rfl;have e1:=aa rfl;rw[LV hl (fw (ae HT)).1]at e1;have bb:=af ((zV (ae HT) (ae g)).1 hl);have a1:=af (kY (ae HR) (ae HT));have b2:kk<=2000:=by
         have h7:=(dN (ae a1)).2.2.2.2;simp only[a0u]at h7;omega
        have a9:=af e1;clear hb aa hl e1;go_wp2_with fail;refine(ae ac r.2.2 _).mono ?_;rintro e x6 ⟨⟨n,yy,mo,d,h,mi,c,t,kx,ok,rfl,hv⟩,Z⟩;have ad:=af (ak (ae R) Z);have a0:=af ((ae ao).later Z (a0a _));have hA:=(a0c x6.heap.size x6).alloc (a0a _) (.cells #[.string n,.int .i64 yy,.int .i64 mo,.int .i64 d,.int .i64 h,.int .i64 mi,.int .i64 c,.string t] 35);have a7:=af (ak (ae ad) hA);have ba:=af ((ae a0).later hA (a0a _));cases ok
        . have:=Ew hv;rw[ae HT]at this;cases this
        .
         obtain⟨T2,a3,_,rfl⟩:=Da hv;have hf:=tg a3;rw[fz]at hf;have b1:(r.2.2:Int)+((jk (sub s r.2.2):Nat):Int)<=(s.size:Int):=by omega
         clear hv a3 hf Z hA ad a0 R ao;go_wp2;go_roundw
         case rel=>exact⟨k+1,_,by omega,by go_num,ae a1,by simp only[a0u];rw[←ae a9];go_num,by go_num,ae bb,ae ba,ae a7⟩
         case measure=>simp[intOf];omega
      .
       have bd:k=NM:=by omega
       subst bd;have a5:=ae HR;rw[ae HQ]at a5;cases a5
       have b3:=OJ (ae g) (by omega);have bq:(q.2.2:Int)+(q.2.1.size:Int)<=(s.size:Int):=by omega
       have l:=af (Lt (ae I) (ae HW) (ae H6) (ae HQ) (ae a2) (ae g));have N:=af (fun W=>vh k q.2.1.size q.2.2 W (by omega) (by omega) (by omega));have q1:=fun d os=>Calls.regrown_of (w:=wr) (d:=d) (os:=os) (ae N _);have t1:((q.2.2:Int)+(q.2.1.size:Int)).toNat=q.2.2+q.2.1.size:=by omega
       have w1:IntKind.i64.wrap ((q.2.2:Int)+(q.2.1.size:Int)-(q.2.2:Int))=(q.2.1.size:Int):=by rw[a0T];omega
       have l1:0<=(q.2.2:Int)+(q.2.1.size:Int):=by omega
       rw[←ae HE]at l;generalize cJ k q.2.1.size q.2.2=EN at *
       obtain⟨X,hX⟩:∃x,s.extract (q.2.2+q.2.1.size) s.size=x:=⟨_,rfl⟩;rw[hX]at l;obtain⟨B,hB⟩:∃b,(X.toList == EN.toList)=b:=⟨_,rfl⟩;have HB:=af hB;clear Q ac HE a2 g N;go_wp2_with fail;refine wp_region_quiet_below a4 (by kernel_rfl) ?_;cases B
       all_goals
        quiet_step (fail)
        quiet_step (fail)
        quiet_step (fail)
        quiet_step (fail)
        quiet_step (fail)
        quiet_step (fail)
        quiet_step (fail)
        quiet_step (fail)
        quiet_step (exact q1 _ _)
        quiet_step (fail)
        refine a01 ?_;intro zw bk;obtain⟨⟨dq,osq⟩,a6⟩:=bk;have HZ:=below_regrown wr dq osq;rw[←a6]at HZ;have T9:=af (ak (ae A) HZ);have O9:=af ((ae Bc).later HZ (a0a _));clear a6 HZ q1
       .
        have D:=af (ae u (by rw[ae l,a0d (fun e=>by have:=(rQ (ae HB)).2 e;cases this)]) zw (ae T9));go_wp2
        go_ret2
        exact ae D
       .
        have HY:Hid (aQ s=some q.1):=by show _=_;rw[ae l,a0e ((rQ (ae HB)).1 rfl)]
        go_wp2
        go_ret2
        exact⟨⟨_,by rw[ae HY];rfl,by rw[ae HY];exact ae O9⟩,ae T9⟩
  .
   have M:Hid (∀W,Calls prog 54 #[.int .i64 (NM:Nat),.int .i64 0,.int .i64 6] W fun e w'=>e = .returned (.bool false)/\w'=W):=fun W=>by
    have:=aF (NM:Int) 0 6 W;rw[show inB (NM:Int) 0 6=false by rw[dW];omega]at this;exact this
   have D:=af (ae u (AV (by rw[ae HW];omega)));clear L hs S;go_enter func31,ntmps31;go_wp2_with fail;refine(ae C _).mono ?_;rintro e x1 ⟨rfl,j⟩;have m:=af j;clear j C;go_wp2_with fail;refine(ae M _).mono ?_;rintro e x2 ⟨rfl,F⟩;subst F;clear M;go_wp2
   go_ret2
   exact ae D _ (ae m)
 .
  have C:=af (fun W=>FK s ((s.size:Int)-12) W (by omega));have M:Hid (∀W,Calls prog 54 #[.int .i64 (-1),.int .i64 0,.int .i64 6] W fun e w'=>e = .returned (.bool false)/\w'=W):=fun W=>by
   have:=aF (-1) 0 6 W;rw[show inB (-1) 0 6=false by decide]at this;exact this
  have D:=af (ae u (AV (fun h=>L h.1)));go_enter func31,ntmps31;go_wp2_with fail;refine(ae C _).mono ?_;rintro e x1 ⟨rfl,j⟩;have m:=af j;clear j C;go_wp2_with fail;refine(ae M _).mono ?_;rintro e x2 ⟨rfl,F⟩;subst F;clear M;go_wp2
  go_ret2
  exact ae D _ (ae m)
abbrev OZ:=bD (α:=Hq) 101 7 yd
theorem nr{w':World}{o:Obj}{a c e1 e2 s1 s2 n1 n2:Nat}{v1 v2:Value}{x1 x2:List Value}(b:w.ownsRow a e1 s1 v1 n1 x1)(h2:w.ownsRow c e2 s2 v2 n2 x2)(d:e1≠e2)(e:(w.alloc o).grownBy w' v2.ownBlock):w'.ownsRow a e1 s1 v1 n1 x1:=
 a16 (a0n b o) e (nV (a0n b o) (a0n h2 o) d)
theorem NE:bC []=true:=by decide
theorem JH(h:hdB x=false):ep x=none:=by
 unfold ep;rw[a0d (by rw[h];decide)]
theorem xB{q:List En×ByteArray×Nat}(b:zst s k=some q)(c:(sub s q.2.2).data.toList.take 4=[80,75,3,4])(a:ep (sub s q.2.2)=none):aQ s=none:=
 AU b c (fun T h=>by rw[a]at h;cases h)
theorem Is{q:List En×ByteArray×Nat}(b:zst s k=some q)(e:bC q.1=true)(c:(sub s q.2.2).data.toList.take 4=[80,75,3,4])(a:ep (sub s q.2.2)=some T)(d:bv q.1 (enO (sub s q.2.2) T)≠0):aQ s=none:=
 AU b c (fun T' h=>by
  rw[a]at h;cases h
  cases hb:bC (q.1++[enO (sub s q.2.2) T])
  . rfl
  . exact absurd ((mM e _).1 hb) d)
def ZrP(s:ByteArray)(w:World)(e:Ending)(w':World):Prop:=∃v c,e = .returned (.tuple #[v,fG c])/\(c=0->∃l,aQ s=some l/\im w' w.heap.size v l)/\(c≠0->aQ s=none)
theorem A9{w':World}(h:aQ s=none)(c:Int)(a:c≠0):ZrP s w (.returned (.tuple #[.slice none 0 0,.iface 98 (.agg #[.int .i64 c])])) w':=
 ⟨.slice none 0 0,c,by unfold fG;rw[a0d a],fun b=>absurd b a,fun _=>h⟩
theorem AX(s:ByteArray)(m:Int)(w:World)(hs:s.size<=1048576)(hm:w.cell? ⟨1,0,none⟩=some (.int .i64 m))(hO:dO w) :
  Calls prog 32 #[.string s] w fun e w'=>ZrP s w e w'/\Below w.heap.size w w':=by
 have cr:prog.follows .mixedOrders=true:=by kernel_rfl
 have em:(s.size:Int)<=1048576:=by omega
 have HS:=af hs;have HM:=af hm;have d6:=af (World.block_lt_of_cell? _ _ hm);have CM:=af (fun W (hb:Below w.heap.size w W)=>(hb.cell (p:=⟨1,0,none⟩) (ae d6)).trans (ae HM));have HO:=af (fun W (hb:Below w.heap.size w W)=>hO.later hb);obtain⟨i0,hi,eg,eh,b1⟩:=a0w Tryz.infoEnt;obtain⟨j0,hj,d8,eb,ed⟩:=a0w Tryz.infoHd;clear hs hm hO;go_enter func32,ntmps32;go_wp2_with fail
 go_loopw [4,5,6,7,8,9,10,11] (fun f h p _ _ _ _ _ wr=>∃(k:Nat) (q:List En×ByteArray×Nat),zst s k=some q/\bC q.1=true/\p = .int .i64 (q.2.2:Nat)/\im wr w.heap.size f q.1/\OZ wr w.heap.size h (hqL s k)/\Below w.heap.size w wr) (fun _ _ p _ _ _ _ _ _=>s.size-(intOf p).toNat)
 case atStart=>exact⟨0,([],⟨#[]⟩,0),rfl,NE,rfl,bD.nil _ _,bD.nil _ _,a0c _ _⟩
 case round=>
  obtain⟨k,q,hz,ab,rfl,hf,l,U⟩:=hrel;have K:=dN hz;have d5:k<=6:=by have:=(fg ab).2;omega
  have ek:(q.2.2:Int)<=(s.size:Int):=by have:=K.2.1;omega
  have CX:Hid (∀W,Calls prog 60 #[.string (sub s q.2.2),.string ⟨#[80,75,3,4]⟩] W fun e w'=>e = .returned (.bool (decide ((sub s q.2.2).data.toList.take 4=[80,75,3,4])))/\w'=W):=fun W=>by
   have h:=Tryz.strings_HasPrefix (sub s q.2.2) (⟨#[80,75,3,4]⟩:ByteArray) W;rw[←JR];exact h
  have HE:Hid (s.extract q.2.2 s.size=sub s q.2.2):=rfl;have I:=af hz;have bc:=af ab;have HF:=af hf;have HH:=af l;have P:=af U;have F:=af K
  have a9:(sub s q.2.2).size<=1048576:=by rw[fz];have:=ae HS;omega
  by_cases N:(sub s q.2.2).data.toList.take 4=[80,75,3,4]
  .
   have a2:=af N;rw[a0y N]at CX;have CH:=af (fun W=>pL (sub s q.2.2) W a9);have Q:=af a9;clear N hf l U K hz ab a9;go_wp2_with fail;refine(ae CX _).mono ?_;rintro e x0 ⟨rfl,b0⟩;subst b0;clear CX;go_wp2_with fail;refine(ae CH _).mono ?_;rintro e x1 ⟨hp,a4⟩;have ac:=af (ak (ae P) a4);have ao:=af ((ae HF).later a4 (a0a _));have a1:=af ((ae HH).later a4 (a0a _));have R:Hid (∀j,Value.ownBlock u4=some j->j<x1.heap.size):=fun j hj=>(a0D (ae ao) j hj).2;have S:Hid (∀j,Value.ownBlock u5=some j->j<x1.heap.size):=fun j hj=>(a0D (ae a1) j hj).2;clear a4 CH HF HH P;rcases hp with⟨hd,rfl⟩|⟨hd,a,b,c,d,f,n,t,ho,rfl⟩
   .
    obtain⟨d1,d4,bq⟩:=gx.1 hd;have cs:=iU (s:=sub s q.2.2) (by omega);have ch:=rS (s:=sub s q.2.2) bq;have l1:=ib (sub s q.2.2).data.toList 8;have l2:=ea (sub s q.2.2).data.toList 10;have l3:=ea (sub s q.2.2).data.toList 14;have l4:=ea (sub s q.2.2).data.toList 18;have l5:=ea (sub s q.2.2).data.toList 22;have l6:=ib (sub s q.2.2).data.toList 26;have d0:=ae Q;have E:=af (fun W (hb:Below w.heap.size w W)=>qD (wd (sub s q.2.2).data.toList 8 2) (wd (sub s q.2.2).data.toList 10 4) (wd (sub s q.2.2).data.toList 14 4) (wd (sub s q.2.2).data.toList 18 4) (wd (sub s q.2.2).data.toList 22 4) (nmB (sub s q.2.2)) (bdB (sub s q.2.2)) m W (by omega) l1 l2 l3 l5 (by omega) (ae CM _ hb) (ae HO _ hb));have b2:=af (fun(hen:enB (wd (sub s q.2.2).data.toList 8 2) (wd (sub s q.2.2).data.toList 10 4) (wd (sub s q.2.2).data.toList 14 4) (wd (sub s q.2.2).data.toList 22 4) (nmB (sub s q.2.2)) (bdB (sub s q.2.2))=true) W=>yG (wd (sub s q.2.2).data.toList 8 2) (wd (sub s q.2.2).data.toList 10 4) (wd (sub s q.2.2).data.toList 14 4) (wd (sub s q.2.2).data.toList 18 4) (wd (sub s q.2.2).data.toList 22 4) (nmB (sub s q.2.2)) (bdB (sub s q.2.2)) W l1 l2 l3 l4 l5 (by omega) (by have:=yc hen;omega));have be:(cj (wd (sub s q.2.2).data.toList 8 2) (wd (sub s q.2.2).data.toList 10 4) (wd (sub s q.2.2).data.toList 14 4) (wd (sub s q.2.2).data.toList 18 4) (wd (sub s q.2.2).data.toList 22 4) (nmB (sub s q.2.2))++bdB (sub s q.2.2)).size=jk (sub s q.2.2):=by
     unfold cj jk;rw[a0u,a0u,a0u,dM,cs,ch];show 4+26+_+_=_;omega
    have b8:jk (sub s q.2.2)<=(sub s q.2.2).size/\30<=jk (sub s q.2.2):=⟨bq,by unfold jk;omega⟩;have HY:Hid (enB (wd (sub s q.2.2).data.toList 8 2) (wd (sub s q.2.2).data.toList 10 4) (wd (sub s q.2.2).data.toList 14 4) (wd (sub s q.2.2).data.toList 22 4) (nmB (sub s q.2.2)) (bdB (sub s q.2.2))=true->∃T,ep (sub s q.2.2)=some T/\enO (sub s q.2.2) T=⟨nmB (sub s q.2.2),zz (gOk (wd (sub s q.2.2).data.toList 10 4:Nat)) (gY (wd (sub s q.2.2).data.toList 10 4:Nat)),zz (gOk (wd (sub s q.2.2).data.toList 10 4:Nat)) (gM (wd (sub s q.2.2).data.toList 10 4:Nat)),zz (gOk (wd (sub s q.2.2).data.toList 10 4:Nat)) (gD (wd (sub s q.2.2).data.toList 10 4:Nat)),zz (gOk (wd (sub s q.2.2).data.toList 10 4:Nat)) (gH (wd (sub s q.2.2).data.toList 10 4:Nat)),zz (gOk (wd (sub s q.2.2).data.toList 10 4:Nat)) (gI (wd (sub s q.2.2).data.toList 10 4:Nat)),zz (gOk (wd (sub s q.2.2).data.toList 10 4:Nat)) (gS (wd (sub s q.2.2).data.toList 10 4:Nat)),uxT (wd (sub s q.2.2).data.toList 8 2) (bdB (sub s q.2.2))⟩):=fun h=>by
     have:=Co hd;rw[a0e h]at this;obtain⟨T,a,b,_⟩:=Da this;exact⟨T,a,b⟩
    have HN:Hid (enB (wd (sub s q.2.2).data.toList 8 2) (wd (sub s q.2.2).data.toList 10 4) (wd (sub s q.2.2).data.toList 14 4) (wd (sub s q.2.2).data.toList 22 4) (nmB (sub s q.2.2)) (bdB (sub s q.2.2))=false->ep (sub s q.2.2)=none):=fun h=>by
     have:=Co hd;rw[a0d (by rw[h];decide)]at this;exact Ew this
    have dv:Hid (sy s k=⟨wd (sub s q.2.2).data.toList 8 2,wd (sub s q.2.2).data.toList 10 4,wd (sub s q.2.2).data.toList 14 4,wd (sub s q.2.2).data.toList 18 4,wd (sub s q.2.2).data.toList 22 4,nmB (sub s q.2.2),q.2.2⟩):=wN (ae I);have cc:(nmB (sub s q.2.2)).size<=1048576:=by omega
    have d3:(uxT (wd (sub s q.2.2).data.toList 8 2) (bdB (sub s q.2.2))).size<=1048576:=AG (by omega);have cv:(sub s q.2.2).size=s.size-q.2.2:=fz _ _;unfold enE at E;generalize cj (wd (sub s q.2.2).data.toList 8 2) (wd (sub s q.2.2).data.toList 10 4) (wd (sub s q.2.2).data.toList 14 4) (wd (sub s q.2.2).data.toList 18 4) (wd (sub s q.2.2).data.toList 22 4) (nmB (sub s q.2.2))++bdB (sub s q.2.2)=PB at *
    generalize enB (wd (sub s q.2.2).data.toList 8 2) (wd (sub s q.2.2).data.toList 10 4) (wd (sub s q.2.2).data.toList 14 4) (wd (sub s q.2.2).data.toList 22 4) (nmB (sub s q.2.2)) (bdB (sub s q.2.2))=EB at *
    generalize uxT (wd (sub s q.2.2).data.toList 8 2) (bdB (sub s q.2.2))=UT at *
    generalize zz (gOk (wd (sub s q.2.2).data.toList 10 4:Nat)) (gY (wd (sub s q.2.2).data.toList 10 4:Nat))=yy at *
    generalize zz (gOk (wd (sub s q.2.2).data.toList 10 4:Nat)) (gM (wd (sub s q.2.2).data.toList 10 4:Nat))=mo at *
    generalize zz (gOk (wd (sub s q.2.2).data.toList 10 4:Nat)) (gD (wd (sub s q.2.2).data.toList 10 4:Nat))=dd at *
    generalize zz (gOk (wd (sub s q.2.2).data.toList 10 4:Nat)) (gH (wd (sub s q.2.2).data.toList 10 4:Nat))=l at *
    generalize zz (gOk (wd (sub s q.2.2).data.toList 10 4:Nat)) (gI (wd (sub s q.2.2).data.toList 10 4:Nat))=mi at *
    generalize zz (gOk (wd (sub s q.2.2).data.toList 10 4:Nat)) (gS (wd (sub s q.2.2).data.toList 10 4:Nat))=ss at *
    generalize bdB (sub s q.2.2)=BD at *
    generalize nmB (sub s q.2.2)=NM at *
    generalize wd (sub s q.2.2).data.toList 8 2=HW at *
    generalize wd (sub s q.2.2).data.toList 10 4=ST at *
    generalize wd (sub s q.2.2).data.toList 14 4=CR at *
    generalize wd (sub s q.2.2).data.toList 18 4=PK at *
    generalize wd (sub s q.2.2).data.toList 22 4=LN at *
    generalize wd (sub s q.2.2).data.toList 26 2=NL at *
    obtain⟨LO,hLO⟩:∃x,jk (sub s q.2.2)=x:=⟨_,rfl⟩;rw[hLO]at be b8;have el:(q.2.2:Int)+(PB.size:Int)<=(s.size:Int):=by omega
    have ei:30<=(PB.size:Int):=by omega
    have c8:=af (hLO.trans be.symm);clear hd d1 d4 bq cs ch l1 l2 l3 l4 l5 l6 d0 be b8 hLO cv;have G:=af ((a0c x1.heap.size x1).alloc (a0a _) (.cells #[.int .i64 (HW:Nat),.int .i64 (ST:Nat),.int .i64 (CR:Nat),.int .i64 (PK:Nat),.int .i64 (LN:Nat),.string NM,.string BD] 92));have R2:=af (au x1 #[.int .i64 (HW:Nat),.int .i64 (ST:Nat),.int .i64 (CR:Nat),.int .i64 (PK:Nat),.int .i64 (LN:Nat),.string NM,.string BD] 92);go_wp2_with fail;refine(ae E _ (ak (ae ac) (ae G))).mono ?_;rintro e x2 ⟨rfl,D⟩;have J:=ak (ae G) D;have L:=af (ak (ae ac) J);have b3:=af ((ae ao).later J (a0a _));have b5:=af ((ae a1).later J (a0a _));have R3:=af ((ae R2).later D (ae R2).1);obtain⟨HB,hHB⟩:∃x,x1.heap.size=x:=⟨_,rfl⟩;rw[hHB]at R3 R S;rw[hHB];clear D J G R2 hHB E ac ao a1;cases EB
    .
     have o:=af (xB (ae I) (ae a2) (ae HN rfl));rw[show(if false=true then Value.tuple #[.agg #[.string NM,.int .i64 yy,.int .i64 mo,.int .i64 dd,.int .i64 l,.int .i64 mi,.int .i64 ss,.string UT],.bool true]else .tuple #[noE,.bool false]) = .tuple #[.agg #[.string ⟨#[]⟩,.int .i64 0,.int .i64 0,.int .i64 0,.int .i64 0,.int .i64 0,.int .i64 0,.string ⟨#[]⟩],.bool false]from rfl];have y:=af (ak (ae L) ((a0c x2.heap.size x2).alloc (a0a _) (.cells #[.string ⟨#[]⟩,.int .i64 0,.int .i64 0,.int .i64 0,.int .i64 0,.int .i64 0,.int .i64 0,.string ⟨#[]⟩] 35)));go_wp2
     go_ret2
     exact⟨A9 (ae o) 1 (by decide),ae y⟩
    .
     rw[show(if true=true then Value.tuple #[.agg #[.string NM,.int .i64 yy,.int .i64 mo,.int .i64 dd,.int .i64 l,.int .i64 mi,.int .i64 ss,.string UT],.bool true]else .tuple #[noE,.bool false]) = .tuple #[.agg #[.string NM,.int .i64 yy,.int .i64 mo,.int .i64 dd,.int .i64 l,.int .i64 mi,.int .i64 ss,.string UT],.bool true]from rfl];have al:Hid (∃T,ep (sub s q.2.2)=some T/\enO (sub s q.2.2) T=⟨NM,yy,mo,dd,l,mi,ss,UT⟩):=ae HY rfl;have ds:Hid (∀W,_):=ae b2 rfl;have hA:=(a0c x2.heap.size x2).alloc (a0a _) (.cells #[.string NM,.int .i64 yy,.int .i64 mo,.int .i64 dd,.int .i64 l,.int .i64 mi,.int .i64 ss,.string UT] 35);have y:=af (ak (ae L) hA);have a0:=af ((ae b3).later hA (a0a _));have b6:=af ((ae b5).later hA (a0a _));have R4:=af ((ae R3).later hA (ae R3).1);have Q4:=af (au x2 #[.string NM,.int .i64 yy,.int .i64 mo,.int .i64 dd,.int .i64 l,.int .i64 mi,.int .i64 ss,.string UT] 35);obtain⟨fa,fc,bs,_,_⟩:=(ae a0).formN (ae F).1;have d2:HB<x2.heap.size:=(ae R3).1;have bb:=af (qX fa fc q.1 k (ae F).1 ⟨NM,yy,mo,dd,l,mi,ss,UT⟩ m _ (iL (ae F).1 (by have:=ae a0;rw[bs]at this;exact this)) (by omega) (fun i hi=>by have:=(wa (ae I) i hi).1;omega) cc (by show(UT.size:Int)<=_;omega) (ae CM _ (ae y)));rw[←bs]at bb;clear hA HY HN b2 b3 b5 R3 bs L cc d3;go_wp2_with fail;refine(ae bb).mono ?_;rintro e x4 ⟨rfl,M⟩;have ad:=af (ak (ae y) M);have b4:=af ((ae a0).later M (a0a _));have b7:=af ((ae b6).later M (a0a _));have R5:=af ((ae R4).later M (ae R4).1);have Q5:=af ((ae Q4).later M (ae Q4).1);obtain⟨QB,hQBe⟩:∃x,x2.heap.size=x:=⟨_,rfl⟩;rw[hQBe]at Q5 d2;rw[hQBe];clear M y a0 b6 R4 Q4 bb hQBe;by_cases H:bv q.1 ⟨NM,yy,mo,dd,l,mi,ss,UT⟩=0
     .
      rw[show fG (bv q.1 ⟨NM,yy,mo,dd,l,mi,ss,UT⟩) = .nilIface by rw[H];rfl];have dl:Hid (∃T,zst s (k+1)=some (q.1++[⟨NM,yy,mo,dd,l,mi,ss,UT⟩],T,q.2.2+PB.size)/\bC (q.1++[⟨NM,yy,mo,dd,l,mi,ss,UT⟩])=true):=by
       obtain⟨T,hT,hE⟩:=ae al;have h2:=kY (ae I) hT;rw[hE,ae c8]at h2;exact⟨_,h2,(mM (ae bc) _).2 H⟩
      have A:Hid ((k+1<=maxLen/\(k+1)*80<=140737488355328)/\(k+1)*64<=140737488355328):=by
       show(_/\_)/\_;unfold maxLen;omega
      have a6:=bD.own (ae F).1 (ae b4);have cp:=bD.own (rz s k) (ae b7);have V:=(ae ad).size;have pA:=(ae Q5).cells (n:=8) rfl;clear H al a2 Q HE;go_wp2_with (first
       | (at_builtin;refine a0x _ rfl _ _ 27 rfl w.heap.size 35 i0 (.agg #[.string ⟨#[]⟩,.int .i64 0,.int .i64 0,.int .i64 0,.int .i64 0,.int .i64 0,.int .i64 0,.string ⟨#[]⟩]) 8 80 a2c hi eg eh b1 rfl (by decide) _ _ _ rfl (a0n a6 _) ⟨x4.heap.size,0,none⟩ 1 1 (iu ⟨NM,yy,mo,dd,l,mi,ss,UT⟩) rfl rfl (j9 x4 _ _) (iK _) (ae A).1.1 (ae A).1.2 (an V _) ?_;intro v5 x5 ba z Z;clear Z;have R6:=af (Blk.grown (Blk.later (ae R5) ((a0c _ _).alloc (a0a _) _) (ae R5).1) z (fun e=>absurd (ae R _ e.symm) (a3Q _)));have rA:=(ae R6).cells (n:=7) rfl;have a7:=nr cp a6 (by decide) z;have bd:=aE (v:=u4) z a6 (a0a _) V (ae ad);have Y:=bd.size)
       | (at_builtin;refine a0x _ rfl _ _ 87 rfl w.heap.size 101 j0 (.agg #[.int .i64 0,.int .i64 0,.int .i64 0,.int .i64 0,.int .i64 0,.string ⟨#[]⟩,.int .i64 0]) 7 64 underlying87 hj d8 eb ed rfl (by decide) _ _ _ rfl (a0n a7 _) ⟨x5.heap.size,0,none⟩ 1 1 (yd ⟨HW,ST,CR,PK,LN,NM,q.2.2⟩) rfl rfl (j9 x5 _ _) (IY _) (ae A).1.1 (ae A).2 (an Y _) ?_;intro v6 x6 aa r Z;clear Z;have R7:=af (Blk.grown (Blk.later (ae R6) ((a0c _ _).alloc (a0a _) _) (ae R6).1) r (fun e=>absurd (ae S _ e.symm) (a3Q _)));have rA:=(ae R7).cells (n:=7) rfl;have co:=nr ba a7 (by decide) r;have cg:=aE (v:=u5) r a7 (a0a _) Y bd))
      refine(ae ds _).mono ?_;rintro e x7 ⟨rfl,a5⟩;have cu:im x6 w.heap.size v5 (q.1++[⟨NM,yy,mo,dd,l,mi,ss,UT⟩]):=bD.snoc (ae F).1 co;have bk:OZ x6 w.heap.size v6 (hqL s k++[sy s k]):=bD.snoc (rz s k) (by rw[ae dv];exact aa);rw[←Jn]at bk;have c6:=af (cu.later a5 (a0a _));have c7:=af (bk.later a5 (a0a _));have c5:=af (ak cg a5);clear ba aa z r cu bk a5 cg bd V Y a6 co cp a7 rA R5 R6 R7 Q5 pA b4 b7 ad;go_wp2;go_roundw
      case rel=>
       obtain⟨C,b1,D⟩:=ae dl;exact⟨k+1,_,b1,D,by go_num,ae c6,ae c7,ae c5⟩
      case measure=>simp[intOf];omega
     .
      rw[show fG (bv q.1 ⟨NM,yy,mo,dd,l,mi,ss,UT⟩) = .iface 98 (.agg #[.int .i64 (bv q.1 ⟨NM,yy,mo,dd,l,mi,ss,UT⟩)]) by unfold fG;rw[a0d H]];have o:Hid (aQ s=none):=by
       obtain⟨T,hT,hE⟩:=ae al;exact Is (ae I) (ae bc) (ae a2) hT (by rw[hE];exact H)
      have HC:=af H;clear H al;generalize bv q.1 ⟨NM,yy,mo,dd,l,mi,ss,UT⟩=c at *
      go_wp2
      go_ret2
      exact⟨A9 (ae o) c (ae HC),ae ad⟩
   .
    have o:=af (xB (ae I) (ae a2) (JH hd));obtain⟨o1,o2,o3,o4,o5,o6,o7⟩:=ho;have E:=af (fun W (hb:Below w.heap.size w W)=>qD a b c d f n t m W (by have:=ae Q;omega) o1 o2 o3 o5 (by have:=ae Q;omega) (ae CM _ hb) (ae HO _ hb));unfold enE at E;generalize enB a b c f n t=EB at *
    generalize uxT a t=UT at *
    generalize zz (gOk (b:Nat)) (gY (b:Nat))=yy at *
    generalize zz (gOk (b:Nat)) (gM (b:Nat))=mo at *
    generalize zz (gOk (b:Nat)) (gD (b:Nat))=dd at *
    generalize zz (gOk (b:Nat)) (gH (b:Nat))=l at *
    generalize zz (gOk (b:Nat)) (gI (b:Nat))=mi at *
    generalize zz (gOk (b:Nat)) (gS (b:Nat))=ss at *
    have G:=af (ak (ae ac) ((a0c x1.heap.size x1).alloc (a0a _) (.cells #[.int .i64 (a:Nat),.int .i64 (b:Nat),.int .i64 (c:Nat),.int .i64 (d:Nat),.int .i64 (f:Nat),.string n,.string t] 92)));clear o1 o2 o3 o4 o5 o6 o7 ao a1 R S hd Q F HE;go_wp2_with fail;refine(ae E _ (ae G)).mono ?_;rintro e x2 ⟨rfl,D⟩;have L:=af (ak (ae G) D);clear D G E;cases EB
    .
     rw[show(if false=true then Value.tuple #[.agg #[.string n,.int .i64 yy,.int .i64 mo,.int .i64 dd,.int .i64 l,.int .i64 mi,.int .i64 ss,.string UT],.bool true]else .tuple #[noE,.bool false]) = .tuple #[.agg #[.string ⟨#[]⟩,.int .i64 0,.int .i64 0,.int .i64 0,.int .i64 0,.int .i64 0,.int .i64 0,.string ⟨#[]⟩],.bool false]from rfl];have y:=af (ak (ae L) ((a0c x2.heap.size x2).alloc (a0a _) (.cells #[.string ⟨#[]⟩,.int .i64 0,.int .i64 0,.int .i64 0,.int .i64 0,.int .i64 0,.int .i64 0,.string ⟨#[]⟩] 35)));go_wp2
     go_ret2
     exact⟨A9 (ae o) 1 (by decide),ae y⟩
    .
     rw[show(if true=true then Value.tuple #[.agg #[.string n,.int .i64 yy,.int .i64 mo,.int .i64 dd,.int .i64 l,.int .i64 mi,.int .i64 ss,.string UT],.bool true]else .tuple #[noE,.bool false]) = .tuple #[.agg #[.string n,.int .i64 yy,.int .i64 mo,.int .i64 dd,.int .i64 l,.int .i64 mi,.int .i64 ss,.string UT],.bool true]from rfl];have y:=af (ak (ae L) ((a0c x2.heap.size x2).alloc (a0a _) (.cells #[.string n,.int .i64 yy,.int .i64 mo,.int .i64 dd,.int .i64 l,.int .i64 mi,.int .i64 ss,.string UT] 35)));go_wp2
     go_ret2
     exact⟨A9 (ae o) 1 (by decide),ae y⟩
  .
   rw[a0i N]at CX;have a3:=af (vY hz ab N);obtain⟨ha,hc,bz,_,_⟩:=l.formN (rz s k);have HW:Hid (EL wr ha k fun i=>yd (sy s i)):=by
    rw[bz]at l;intro h0;obtain⟨g,e,hg,hc⟩:=Kp IX ⟨0,0,0,0,0,⟨#[]⟩,0⟩ (rz s k) l h0;exact⟨g,e,hg,fun i hi j u hu=>hc i hi j u (by show(yd ((hqL s k).getD i _))[j]?=_;rw[Mo s k i _ hi];exact hu)⟩
   have O:Hid (∀W,Below wr.heap.size wr W->CD 65 #[.slice ha k hc,.int .i64 (q.2.2:Nat)] W (.string (q.2.1++cJ k q.2.1.size q.2.2))):=fun W hb=>by
    have:=AR ha hc k q.2.2 (sy s) W ((ae HW).later hb) d5 (Mn (ae HS) (ae I)) (by omega);rw[y9 (ae I)]at this;exact this
   rw[←bz]at O;rw[←ae HE]at CX a3;have q1:=fun d os=>Calls.regrown_of (w:=wr) (d:=d) (os:=os) (ae O _ (below_regrown wr d os));have z1:((q.2.2:Nat):Int).toNat=q.2.2:=a0l _;generalize q.2.1++cJ k q.2.1.size q.2.2=EN at *
   obtain⟨X,hX⟩:∃x,s.extract q.2.2 s.size=x:=⟨_,rfl⟩;rw[hX]at CX a3;obtain⟨B,hB⟩:∃b,(X.toList == EN.toList)=b:=⟨_,rfl⟩;have HB:=af hB;clear hf l U K hz ab a9 N HH HW O bz I bc F HE;go_wp2_with fail;refine(ae CX _).mono ?_;rintro e x0 ⟨rfl,b0⟩;subst b0;clear CX;go_wp2_with fail;refine wp_region_quiet_below cr (by kernel_rfl) ?_;cases B
   all_goals
    quiet_step (fail)
    quiet_step (fail)
    quiet_step (fail)
    quiet_step (fail)
    quiet_step (fail)
    quiet_step (exact q1 _ _)
    quiet_step (fail)
    refine a01 ?_;intro zw d7;obtain⟨⟨dq,osq⟩,cy⟩:=d7;have I:=below_regrown x0 dq osq;rw[←cy]at I;have T9:=af (ak (ae P) I);have O9:=af ((ae HF).later I (a0a _));clear cy I q1
   .
    have HN:Hid (aQ s=none):=by show _=_;rw[ae a3,a0d (fun e=>by have:=(rQ (ae HB)).2 e;cases this)]
    go_wp2
    go_ret2
    exact⟨A9 (ae HN) 1 (by decide),ae T9⟩
   .
    have HY:Hid (aQ s=some q.1):=by show _=_;rw[ae a3,a0e ((rQ (ae HB)).1 rfl)]
    go_wp2
    go_ret2
    exact⟨⟨_,0,rfl,fun _=>⟨_,ae HY,ae O9⟩,fun h=>absurd rfl h⟩,ae T9⟩
theorem io.later{W:World}(a:io w)(hb:Below w.heap.size w W):io W:=(hb.cell (p:=⟨0,0,none⟩) (World.block_lt_of_cell? _ _ a)).trans a
theorem fY(s:ByteArray)(m:Int)(w:World)(y:s.size<=1048576)(x:w.cell? ⟨1,0,none⟩=some (.int .i64 m))(t:io w)(r:dO w) :
  Calls prog 13 #[.string s] w fun e w'=>(∃v,e = .returned (.tuple #[v,.bool (aQ s).isSome])/\im w' w.heap.size v ((aQ s).getD []))/\Below w.heap.size w w':=by
 have C:=af (AX s m w y x r);have o:=af t;clear x t r y;go_enter func13,ntmps13;go_wp2_with fail;refine(ae C).mono ?_;rintro e x1 ⟨⟨v,c,rfl,p,q⟩,f⟩;have d:=af f;have j:=af (qW c x1 ((ae o).later f));have k:=af p;have n:=af q;clear p q f C o;generalize fG c=FV at *
 go_wp2_with fail;refine(ae j).mono ?_;rintro e x2 ⟨rfl,a⟩;have g:=af (ak (ae d) a);by_cases i:c=0
 .
  obtain⟨l,u,b⟩:=ae k i;have h:=af u;have z:=af (b.later a (a0a _));subst i;clear u b a j k n d;go_wp2
  go_ret2
  exact⟨⟨_,by rw[ae h];rfl,by rw[ae h];exact ae z⟩,ae g⟩
 .
  have h:=af (ae n i);have hd:decide (c=0)=false:=a0i i;clear a j k n d;go_wp2
  go_ret2
  exact⟨⟨_,by rw[ae h];rfl,by rw[ae h];exact bD.nil _ _⟩,ae g⟩
theorem my(s:ByteArray)(w:World)(f:s.size<=1048576) :
  CD 43 #[.string s] w (.bool (aQ s).isSome):=by
 have C:=af (i6 s w f);clear f;go_enter func43,ntmps43;go_wp2_with fail;refine(ae C).mono ?_;rintro e x1 ⟨⟨v,rfl,_⟩,a⟩;have c:=af a;clear a C;obtain⟨b,hb⟩:∃b,(aQ s).isSome=b:=⟨_,rfl⟩;rw[hb];have d:=af hb;clear hb;go_wp2;go_ret;exact⟨by rw[ae d];rfl,ae c⟩
theorem gO(s:ByteArray)(m:Int)(w:World)(i:s.size<=1048576)(h:w.cell? ⟨1,0,none⟩=some (.int .i64 m))(g:io w)(f:dO w) :
  CD 41 #[.string s] w (.bool (aQ s).isSome):=by
 have C:=af (fY s m w i h g f);clear i h g f;go_enter func41,ntmps41;go_wp2_with fail;refine(ae C).mono ?_;rintro e x1 ⟨⟨v,rfl,_⟩,a⟩;have c:=af a;clear a C;obtain⟨b,hb⟩:∃b,(aQ s).isSome=b:=⟨_,rfl⟩;rw[hb];have d:=af hb;clear hb;go_wp2;go_ret;exact⟨by rw[ae d];rfl,ae c⟩
theorem Ek{l:ByteArray}(h:¬ l=⟨#[]⟩):l.toList.isEmpty=false:=by
 cases e:l.toList.isEmpty
 . rfl
 .
  refine absurd (aO ?_) h;have e2:l.toList=(⟨#[]⟩:ByteArray).toList:=by rw[List.isEmpty_iff.1 e,a1F]
  exact bE.1 e2
theorem iY(t l:ByteArray)(w:World)(i:t.size<=1048576) :
  CD 23 #[.agg #[.string t,.string l]] w (.bool ((aQ t).isSome&&decide (l=⟨#[]⟩))):=by
 have h:=af ((a0c w.heap.size w).alloc (a0a _) (.cells #[.string t,.string l] 41));have P:=af (au w #[.string t,.string l] 41);have C:=af (fun W=>my t W i);clear i;go_enter func23,ntmps23;go_wp2_with fail;refine(ae C _).mono ?_;rintro e x1 ⟨rfl,d⟩;have a:=af (ak (ae h) d);have g:=af ((ae P).later d (ae P).1);clear d C h P;obtain⟨b,hb⟩:∃b,(aQ t).isSome=b:=⟨_,rfl⟩;rw[hb];have c:=af hb;clear hb;have m:=(ae g).cell 0 _ rfl;have n:=(ae g).cell 1 _ rfl;cases b
 . go_wp2;go_ret;exact⟨by rw[ae c];rfl,ae a⟩
 .
  by_cases f:l=⟨#[]⟩
  . subst f;go_wp2;go_ret;exact⟨by rw[ae c];simp,ae a⟩
  . have k:=Ek f;have j:=af (a0i f);go_wp2;go_ret;exact⟨by rw[ae j,ae c];rfl,ae a⟩
theorem fX(t l:ByteArray)(m:Int)(w:World)(k:t.size<=1048576)(h:w.cell? ⟨1,0,none⟩=some (.int .i64 m))(j:io w)(i:dO w) :
  CD 22 #[.agg #[.string t,.string l]] w (.bool ((aQ t).isSome&&decide (l=⟨#[]⟩))):=by
 have a:=af ((a0c w.heap.size w).alloc (a0a _) (.cells #[.string t,.string l] 41));have C:=af (gO t m _ k (((ae a).cell (p:=⟨1,0,none⟩) (World.block_lt_of_cell? _ _ h)).trans h) (j.later (ae a)) (i.later (ae a)));clear k h j i;by_cases g:l=⟨#[]⟩
 . subst g;go_enter func22,ntmps22;go_wp2_with fail;refine(ae C).mono ?_;rintro e x1 ⟨rfl,c⟩;have d:=af (ak (ae a) c);clear c C a;obtain⟨b,hb⟩:∃b,(aQ t).isSome=b:=⟨_,rfl⟩;rw[hb];have f:=af hb;clear hb;go_wp2;go_ret;exact⟨by rw[ae f];simp,ae d⟩
 . have o:=Ek g;have n:=af (a0i g);go_enter func22,ntmps22;go_wp2;go_ret;exact⟨by rw[ae n,Bool.and_false];rfl,ae a⟩
theorem Ik(l:List En)(x:ByteArray):atN l x = -1∨∃k,k<l.length/\atN l x=(k:Int):=by
 unfold atN;cases h:l.findIdx? (fun e=>e.n.data.toList == x.data.toList)with
 | none=>exact .inl rfl
 | some k=>exact .inr ⟨k,(List.findIdx?_eq_some_iff_getElem.1 h).1,rfl⟩
def wG(l:List En)(x:ByteArray):Value:=if atN l x<0 then .tuple #[.string ⟨#[]⟩,.bool false]else .tuple #[.string (l.getD (atN l x).toNat default).t,.bool true]
theorem wH{l:List En}(h:atN l x = -1):wG l x = .tuple #[.string ⟨#[]⟩,.bool false]:=by unfold wG;rw[h];rfl
theorem rx{l:List En}(h:atN l x=(k:Int)):wG l x = .tuple #[.string (l.getD k default).t,.bool true]:=by unfold wG;rw[h,a0d (by omega),a0l]
theorem kl: ((aQ s).getD []).length<=6:=by
 cases h:aQ s with
 | none=>simp
 | some l=>
  obtain⟨_,q,_,rfl,a,_⟩:=gN h;exact(fg a).2
theorem rp(s x:ByteArray)(w:World)(z:s.size<=1048576) :
  CD 16 #[.string s,.string x] w (wG ((aQ s).getD []) x):=by
 have C:=af (i6 s w z);have A:=kl (s:=s);clear z;go_enter func16,ntmps16;go_wp2_with fail;refine(ae C).mono ?_;rintro e x1 ⟨⟨v,rfl,b⟩,f⟩;have d:=af f;obtain⟨L,hL⟩:∃l,(aQ s).getD []=l:=⟨_,rfl⟩;rw[hL]at b A;have r:=af hL;obtain⟨n,hn⟩:∃n,L.length=n:=⟨_,rfl⟩;obtain⟨a,c,rfl,B,_⟩:=b.formN hn;have E:(n:Int)<=6:=by omega
 have m:=af (iL hn b);have q:=af (yX a c L n hn x x1 (ae m) (by omega));have u:=af hn;clear f C b hL B A;go_wp2_with fail;refine(ae q).mono ?_;rintro e x2 ⟨rfl,p⟩;subst p;clear q;rcases Ik L x with h|⟨k,y,h⟩
 .
  have j:=af (wH h);rw[h];clear h;go_wp2
  go_ret2
  exact⟨by rw[ae r,ae j];rfl,ae d⟩
 .
  have j:=af (rx h);rw[h];obtain⟨g,o,rfl,G,i⟩:=ae m (by omega);obtain⟨_,_,_,_,_,_,_,F⟩:=i k y;have D:(k:Int)<(n:Int):=by have:=ae u;omega
  clear h i y m u;generalize (L.getD k default).t=T at *
  go_wp2
  go_ret2
  exact⟨by rw[ae r,ae j];rfl,ae d⟩
theorem lh(s x:ByteArray)(m:Int)(w:World)(Z:s.size<=1048576)(Y:w.cell? ⟨1,0,none⟩=some (.int .i64 m))(Q:io w)(W:dO w) :
  CD 14 #[.string s,.string x] w (wG ((aQ s).getD []) x):=by
 have C:=af (fY s m w Z Y Q W);have hz:=kl (s:=s);clear Z Y Q W;go_enter func14,ntmps14;go_wp2_with fail;refine(ae C).mono ?_;rintro e x1 ⟨⟨v,rfl,f⟩,I⟩;have B:=af I;obtain⟨L,hL⟩:∃l,(aQ s).getD []=l:=⟨_,rfl⟩;rw[hL]at f hz;have T:=af hL;obtain⟨n,hn⟩:∃n,L.length=n:=⟨_,rfl⟩;obtain⟨a,c,rfl,hc,_⟩:=f.formN hn;have ab:(n:Int)<=6:=by omega
 have U:=af (iL hn f);have M:=af (fun k (S:k<L.length)=>@wk L x k S);have N:=af (@oh L x);rw[hn]at M N;have V:=af hn;clear I C f hL hc hz hn;go_wp2_with fail
 go_loopw [9,17] (fun _ i wr=>∃k:Nat,k<=n/\i = .int .i64 k/\(∀j,j<k->¬ (L.getD j default).n.toList=x.toList)/\Below w.heap.size w wr/\jK wr a L) (fun _ i _=>n-(intOf i).toNat)
 case atStart=>exact⟨0,a0g _,rfl,fun j X=>absurd X (by omega),ae B,ae U⟩
 case round=>
  obtain⟨k,S,rfl,A,u,q⟩:=hrel;have b:=af A;have r:=af u;clear A U B;by_cases K:k<n
  .
   have aa:(k:Int)<(n:Int):=by omega
   have z:=af q;obtain⟨g,o,rfl,Q,J⟩:=q (by have:=ae V;omega);obtain⟨c0,c1,c2,c3,c4,c5,c6,c7⟩:=J k (by have:=ae V;omega);have F:=af (ae M k K (ae b));have H:Hid (¬ (L.getD k default).n.toList=x.toList->∀j,j<k+1->¬ (L.getD j default).n.toList=x.toList):=by
    intro e j X;by_cases R:j=k
    . rw[R];exact e
    . exact ae b j (by omega)
   have HF:Hid (atN L x=(k:Int)->wG L x = .tuple #[.string (L.getD k default).t,.bool true]):=fun h=>rx h;have G:=af K;clear J S b q u M N;generalize L.getD k default=en at *
   obtain⟨p,hp⟩:∃p,en.n=p:=⟨_,rfl⟩;have P:=(a0c wr.heap.size wr).alloc (a0a _) (.cells #[.string p,.int .i64 en.y,.int .i64 en.mo,.int .i64 en.d,.int .i64 en.h,.int .i64 en.mi,.int .i64 en.s,.string en.t] 35);have D:=af (ak (ae r) P);have O:=af ((ae z).later P);rw[hp]at c0 F H;clear P r z hp;by_cases e:p.toList=x.toList
   .
    have E:=af (ae HF (ae F e));have eB:(p.toList == x.toList)=true:=by simp only[a3h];exact e
    go_wp2
    go_ret2
    exact⟨by rw[ae T,ae E];rfl,ae D⟩
   .
    have E:=af (ae H e);have eB:(p.toList == x.toList)=false:=by simp only[a0V,ne_eq];exact e
    go_wp2;go_roundw
    case rel=>exact⟨k+1,by have:=ae G;omega,by go_num,ae E,ae D,ae O⟩
    case measure=>have:=ae G;simp[intOf];omega
  .
   obtain rfl:k=n:=by omega
   have E:=af (wH (ae N (ae b)));clear q u;go_wp2
   go_ret2
   exact⟨by rw[ae T,ae E];rfl,ae r⟩
theorem ts(w:World)(base d:Nat)(hb:base<=w.heap.size)(hd:d<256):aN (w.alloc (.cells #[.int .u8 (d:Int)] 5)) base (.slice (some ⟨w.heap.size,0,none⟩) 1 1) [UInt8.ofNat d]:=by
 have h:(w.alloc (.cells #[.int .u8 (d:Int)] 5)).ownsRow base 5 1 (.slice (some ⟨w.heap.size,0,none⟩) 1 1) 1 [.int .u8 (d:Int)]:=a0Y w #[.int .u8 (d:Int)] 1 hb (by unfold maxLen;omega) rfl;have e:((UInt8.ofNat d).toNat:Int)=(d:Int):=by rw[a29];omega
 show World.ownsRow _ _ _ _ _ _ (cn [UInt8.ofNat d]);rw[show cn [UInt8.ofNat d]=[.int .u8 ((UInt8.ofNat d).toNat:Int)]from rfl,e];exact h
def encS(x:ByteArray):List Value:=[.string x]
theorem ye(x:ByteArray):(encS x).length=1:=rfl
theorem yf(x:ByteArray):∀u∈encS x,u.oneCell'=true:=by
 intro u a;rw[encS,a09]at a;subst a;rfl
abbrev jN:=bD (α:=ByteArray) 9 1 encS
theorem jN.cell{base g cap:Nat}{l:List ByteArray}(b:l.length=n)(h:jN w base (.slice (some ⟨g,0,none⟩) n cap) l)(i:Nat)(a:i<n):w.cell? ⟨g,i,none⟩=some (.string (l.getD i ⟨#[]⟩))/\w.frozen? ⟨g,i,none⟩=false:=by
 have:=bD.at ye ⟨#[]⟩ b h i 0 a (by omega);rw[a2G,a1l]at this;exact this
theorem jN.put{base g cap:Nat}{l:List ByteArray}(b:l.length=n)(h:jN w base (.slice (some ⟨g,0,none⟩) n cap) l)(j:Nat)(a:j<n)(x:ByteArray):jN (w.setCell ⟨g,j,none⟩ (.string x)) base (.slice (some ⟨g,0,none⟩) n cap) (l.set j x):=by
 have:=bD.put ye b h j a x;rw[a2G]at this;exact this
def goes(e f:En):Prop:=bV e.n.data.toList f.n.data.toList=false
theorem NX(l:List En)(x:ByteArray):kv l x=false<->∀e∈l,bV e.n.data.toList x.data.toList=false:=by
 unfold kv;rw[List.any_eq_false];simp
theorem Ol{l:List En}(h:bC l=true)(a:k<l.length):jW (l.getD k default)=true:=(fg h).1 k a
theorem NC{l:List En}(h:aQ s=some l):bC l=true:=by
 obtain⟨_,q,_,rfl,a,_⟩:=gN h;exact a
theorem ND{l:List En}(h:bC l=true)(a:l.length=n):aV l=(aL l).1++(aL l).2++cJ n (aL l).2.size (aL l).1.size:=by unfold aV;rw[a0e h,a]
theorem pw(l:List En):∀u∈l.flatMap iu,u.oneCell'=true:=fun u a=>by
 obtain⟨e,_,h⟩:=List.mem_flatMap.1 a;exact iK e u h
theorem Eh{e:En}(k:jW e=true)(r:ByteArray):ep (loE e++r)=some e.t/\enO (loE e++r) e.t=e/\(∀p,ctO (loE e++r) p=heE e p)/\jk (loE e++r)=(loE e).size:=by
 have c:gn e.n e.y e.mo e.d e.h e.mi e.s e.t=true:=k;obtain⟨f1,f2,f3⟩:=dz c;obtain⟨g1,g2,g3,g4⟩:=Ag f3;have e2:(((stN e.y e.mo e.d e.h e.mi e.s).toNat:Nat):Int)=stN e.y e.mo e.d e.h e.mi e.s:=by rw[←g4];simp[stI,f3]
 have l:=(qE (n:=e.n) (t:=e.t) g3 (by omega) (by omega)).1;obtain⟨m,f,a,g,i,j,o,b,q⟩:=ze (n:=e.n) (t:=e.t) g3 (by omega) (by omega) r;obtain⟨s0,s1,s2,s3,s4,s5⟩:=Ng f3;have el:loE e=ca e.n e.t (stN e.y e.mo e.d e.h e.mi e.s).toNat:=rfl;rw[el];refine⟨?_,?_,fun p=>?_,?_⟩
 . unfold ep;rw[a0e m,f,q,Ll e.t f2];simp only;rw[a0e];unfold BG yg;rw[g,j,a,b,e2,s0,s1,s2,s3,s4,s5,c];simp
 . unfold enO;rw[b,a,e2,s0,s1,s2,s3,s4,s5]
 . unfold ctO heE eN;rw[f,a,g,i,j,b]
 . unfold jk;rw[o,i,l]
theorem mJ(a b:ByteArray):sub (a++b) a.size=b:=aO (by
 rw[dF];simp only[a1w,a1n];exact a3j (by simp))
theorem qg(l:List En)(k:Nat):∀j,k<=j->j<=l.length->∃x,(aL (l.take j)).1=(aL (l.take k)).1++x
 | 0,h,_=>by
  have:k=0:=by omega
  subst this;exact⟨⟨#[]⟩,aO (by simp)⟩
 | j+1,h,hj=>by
  by_cases e:k=j+1
  . subst e;exact⟨⟨#[]⟩,aO (by simp)⟩
  . obtain⟨x,a⟩:=qg l k j (by omega) (by omega);refine⟨x++loE (l.getD j default),?_⟩;rw[fP l j (by omega)];show(aL (l.take j)).1++loE _=_;rw[a,a2n]
theorem Lw{l:List En}(h:bC l=true)(b:k<l.length):∃r,aV l=(aL (l.take k)).1++(loE (l.getD k default)++r):=by
 obtain⟨x,a⟩:=qg l (k+1) l.length (by omega) (a0a _);rw[a1v,fP l k b]at a;have a:(aL l).1=(aL (l.take k)).1++loE (l.getD k default)++x:=a;refine⟨x++((aL l).2++cJ l.length (aL l).2.size (aL l).1.size),?_⟩;unfold aV;rw[a0e h,a2n];generalize (aL l).2++cJ l.length (aL l).2.size (aL l).1.size=T;rw[a];simp only[a2n]
theorem km{l:List En}(h:bC l=true):∀k,k<=l.length->zst (aV l) k=some (l.take k,(aL (l.take k)).2,(aL (l.take k)).1.size)
 | 0,_=>rfl
 | k+1,hk=>by
  have ih:=km h k (by omega);obtain⟨r,f⟩:=Lw h (by omega:k<l.length);have a:sub (aV l) (aL (l.take k)).1.size=loE (l.getD k default)++r:=by rw[f,mJ]
  obtain⟨b,c,d,e⟩:=Eh ((fg h).1 k (by omega)) r;have:=kY (T:=(l.getD k default).t) ih (by show ep (sub _ _)=_;rw[a];exact b);rw[this];simp only[a,c,d,e];rw[fP l k (by omega),nQ l default k (by omega)];simp only[Lv,a0u]
theorem gZ{l:List En}(h:bC l=true):aQ (aV l)=some l:=by
 have a:=km h l.length (a0a _);rw[a1v]at a;refine AW a h ?_;show sub (aV l) (aL l).1.size=(aL l).2++cJ l.length (aL l).2.size (aL l).1.size;unfold aV;rw[a0e h,a2n,mJ]
theorem Lu{l:List En}(h:bC l=true):(aV l).size=(aL l).1.size+(aL l).2.size+22:=by
 unfold aV;rw[a0e h,a0u,a0u,dV]
theorem ct(l:List En):(aV l).size<=4000:=by
 by_cases h:bC l=true
 . rw[Lu h];obtain⟨a,h2⟩:=fg h;have:=mN l a l.length (a0a _);rw[a1v]at this;omega
 . unfold aV;rw[a0d h];exact a0g _
theorem Pz(w:World)(base:Nat)(hb:base<=w.heap.size):jN (w.alloc (.cells #[] 9)) base (.slice (some ⟨w.heap.size,0,none⟩) 0 0) []:=a0Y w #[] 0 hb (by unfold maxLen;omega) rfl
def dZ(l:List En):List ByteArray:=l.map (·.n)
theorem er(l:List En):(dZ l).length=l.length:=by simp[dZ]
theorem vp(l:List En)(k:Nat)(h:k<l.length):dZ (l.take (k+1))=dZ (l.take k)++[(l.getD k default).n]:=by
 have e:l.take (k+1)=l.take k++[l.getD k default]:=by
  rw[a1r h]
  congr 2
  simp[List.getD,h]
 rw[e];simp[dZ]
theorem vq(l:List En)(k:Nat)(h:k<=l.length):(dZ (l.take k)).length=k:=by rw[er,a0v];omega
theorem p7(s:ByteArray)(w:World)(S:s.size<=1048576) :
  Calls prog 12 #[.string s] w fun e w'=>(∃v,e = .returned v/\jN w' w.heap.size v (dZ ((aQ s).getD [])))/\Below w.heap.size w w':=by
 have C:=af (fun W=>i6 s W S);have T:=kl (s:=s);have r:Hid (Below w.heap.size w (w.alloc (.cells #[] 9))):=(a0c _ _).alloc (a0a _) _;have J:=af (Pz w w.heap.size (a0a _));obtain⟨i0,Y,P,Q,R⟩:=a0w Tryz.infoStr;clear S;go_enter func12,ntmps12;go_wp2_with fail;refine(ae C _).mono ?_;rintro e x1 ⟨⟨v,rfl,f⟩,t⟩;have x:=af (ak (ae r) t);have z:=af ((ae J).later t (a0a _));have b:=f.mono (base':=w.heap.size) (ae r).size;obtain⟨L,hL⟩:∃l,(aQ s).getD []=l:=⟨_,rfl⟩;rw[hL]at b T;have U:=af hL;obtain⟨n,hn⟩:∃n,L.length=n:=⟨_,rfl⟩;obtain⟨a,c,rfl,X,_⟩:=b.formN hn;have aa:(n:Int)<=6:=by omega
 have y:=af b;have q:=af hn;clear t C f b hL X T hn r J;go_wp2_with fail
 go_loopw [3,6] (fun o i wr=>∃k:Nat,k<=n/\i = .int .i64 k/\jN wr w.heap.size o (dZ (L.take k))/\im wr w.heap.size (.slice a n c) L/\Below w.heap.size w wr) (fun _ i _=>n-(intOf i).toNat)
 case atStart=>exact⟨0,a0g _,rfl,ae z,ae y,ae x⟩
 case round=>
  obtain⟨k,Z,rfl,hq,G,d⟩:=hrel;clear z y x;by_cases E:k<n
  .
   obtain⟨g,rfl⟩:=G.somes (by rw[ae q];omega);obtain⟨c0,_,_,_,_,_,_,_⟩:=wC (ae q) G k E;have O:=af (vp L k (by rw[ae q];exact E));have D:Hid ((dZ (L.take k)).length=k):=vq L k (by rw[ae q];omega);have p:=bD.own (ae D) hq;have H:=bD.own (ae q) G;have B:=d.size;have j:=af d;have m:Hid (k+1<=maxLen/\(k+1)*16<=140737488355328):=by
    show _/\_;unfold maxLen;omega
   clear hq G d Z;generalize (L.getD k default).n=nm at *
   go_wp2_with (at_builtin;refine a0x _ rfl _ _ 24 rfl w.heap.size 9 i0 (.string ByteArray.empty) 1 16 a2l Y P Q R rfl (by decide) _ _ _ rfl (a0n p _) ⟨wr.heap.size,0,none⟩ 1 1 (encS nm) rfl rfl (j9 wr _ _) (yf _) (ae m).1 (ae m).2 (an B _) ?_;intro v5 x5 f h F;clear F;have I:=nr H p (by decide) h;have A:=aE (v:=u3) h p (a0a _) B (ae j));have u:jN x5 w.heap.size v5 (dZ (L.take k)++[nm]):=bD.snoc (ae D) f;rw[←ae O]at u;have N:=af u;have K:=af A;have M:Hid (im x5 w.heap.size (.slice (some ⟨g,0,none⟩) n c) L):=by
    show World.ownsRow _ _ _ _ _ L.length _;rw[ae q];exact I
   clear f h p u A H I c0;go_wp2;go_roundw
   case rel=>exact⟨k+1,by omega,by go_num,ae N,ae M,ae K⟩
   case measure=>simp[intOf];omega
  .
   obtain rfl:k=n:=by omega
   rw[a0A (by rw[ae q];exact a0a _)]at hq;have V:=af hq;have j:=af d;clear hq d G;go_wp2;go_ret;exact⟨⟨_,rfl,by rw[ae U];exact ae V⟩,ae j⟩
theorem uB(e:En)(w:World) :
  Calls prog 30 #[.agg #[.string e.n,.int .i64 e.y,.int .i64 e.mo,.int .i64 e.d,.int .i64 e.h,.int .i64 e.mi,.int .i64 e.s,.string e.t]] w fun x w'=>x = .returned (.string e.n)/\Below w.heap.size w w':=by
 have a:=af ((a0c w.heap.size w).alloc (a0a _) (.cells #[.string e.n,.int .i64 e.y,.int .i64 e.mo,.int .i64 e.d,.int .i64 e.h,.int .i64 e.mi,.int .i64 e.s,.string e.t] 35));go_enter func30,ntmps30;go_wp2;go_ret;exact⟨rfl,ae a⟩
theorem wB(a:Option Addr)(cap n:Nat)(l:List En)(w:World)(P:l.length=n)(h:jK w a l)(V:n<=6) :
  Calls prog 29 #[.slice a n cap,.func (.func 30) #[] #[]] w fun e w'=>∃v,e = .returned v/\jN w' w.heap.size v (dZ l)/\Below w.heap.size w w':=by
 have X:(n:Int)<=6:=by omega
 have u:=af P;have R:=af h;clear P V h;obtain⟨i0,U,J,K,L⟩:=a0w Tryz.infoStr;go_enter func29,ntmps29;go_wp2_with fail
 go_loopw [5,7,10] (fun o _ i wr=>∃k:Nat,k<=n/\i = .int .i64 k/\jN wr w.heap.size o (dZ (l.take k))/\Below w.heap.size w wr) (fun _ _ i _=>n-(intOf i).toNat)
 case atStart=>exact⟨0,a0g _,rfl,bD.nil _ _,a0c _ _⟩
 case round=>
  obtain⟨k,O,rfl,hq,b⟩:=hrel;have T:=b.size;by_cases H:k<n
  .
   obtain⟨g,o,rfl,hg,z⟩:=(ae R).later b (by have:=ae u;omega);obtain⟨c0,c1,c2,c3,c4,Y,Z,c7⟩:=z k (by have:=ae u;omega);have I:=af (vp l k (by rw[ae u];exact H));have B:Hid ((dZ (l.take k)).length=k):=vq l k (by rw[ae u];omega);have S:=af O;clear z O;generalize l.getD k default=en at *
   have HP:=af (fun W=>uB en W);have N:Below wr.heap.size wr (wr.alloc (.cells #[.string en.n,.int .i64 en.y,.int .i64 en.mo,.int .i64 en.d,.int .i64 en.h,.int .i64 en.mi,.int .i64 en.s,.string en.t] 35)):=(a0c _ _).alloc (a0a _) _;have M:=af N;have E:=af hq;have m:=af b;clear N hq b;go_wp2_with fail;refine(ae HP _).mono ?_;rintro e x1 ⟨rfl,x⟩;have F:=ak (ae M) x;have r:=bD.own (ae B) ((ae E).later F (a0a _));have c:=ak (ae m) F;have p:=c.size;have j:Hid (k+1<=maxLen/\(k+1)*16<=140737488355328):=by
    show _/\_;unfold maxLen;omega
   clear E m M x F HP;go_wp2_with (at_builtin;refine a0x _ rfl _ _ 24 rfl w.heap.size 9 i0 (.string ByteArray.empty) 1 16 a2l U J K L rfl (by decide) _ _ _ rfl (a0n r _) ⟨x1.heap.size,0,none⟩ 1 1 (encS en.n) rfl rfl (j9 x1 _ _) (yf _) (ae j).1 (ae j).2 (an p _) ?_;intro v' x2 q f C;clear C);have G:=aE (v:=u5) f r (a0a _) p c;have D:jN x2 w.heap.size v' _:=bD.snoc (ae B) q;rw[←ae I]at D;clear q f r;go_wp2;go_roundw
   case rel=>exact⟨k+1,by have:=ae S;omega,by go_num,D,G⟩
   case measure=>simp[intOf];omega
  . have A:l.take k=l:=a0A (by rw[ae u];omega);rw[A]at hq;have E:=af hq;have Q:=af b;clear hq b A;go_wp2;go_ret;exact⟨_,rfl,ae E,ae Q⟩
theorem jY(s:ByteArray)(m:Int)(w:World)(r:s.size<=1048576)(q:w.cell? ⟨1,0,none⟩=some (.int .i64 m))(p:io w)(o:dO w) :
  Calls prog 10 #[.string s] w fun e w'=>(∃v,e = .returned v/\jN w' w.heap.size v (dZ ((aQ s).getD [])))/\Below w.heap.size w w':=by
 have C:=af (fY s m w r q p o);have t:=kl (s:=s);clear r q p o;go_enter func10,ntmps10;go_wp2_with fail;refine(ae C).mono ?_;rintro e x1 ⟨⟨v,rfl,b⟩,f⟩;have d:=af f;obtain⟨L,hL⟩:∃l,(aQ s).getD []=l:=⟨_,rfl⟩;rw[hL]at b t;have u:=af hL;obtain⟨n,hn⟩:∃n,L.length=n:=⟨_,rfl⟩;obtain⟨a,c,rfl,x,_⟩:=b.formN hn;have k:=af (wB a c n L x1 hn (iL hn b) (by omega));clear f C b hL x t hn;go_wp2_with fail;refine(ae k).mono ?_;rintro e x2 ⟨v2,rfl,h,g⟩;have i:=af (ak (ae d) g);have j:=af (h.mono (base':=w.heap.size) (ae d).size);clear h g k;go_wp2;go_ret;exact⟨⟨_,rfl,by rw[ae u];exact ae j⟩,ae i⟩
end Go.Proofs.YtlpmnnjlmjffpaaGreatDoor
