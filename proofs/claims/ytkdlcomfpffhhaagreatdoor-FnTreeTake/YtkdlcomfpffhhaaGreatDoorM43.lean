/- Of what the proof is made: 16 texts, one behind the other. -/
import Derived.Test.YtkdlcomfpffhhaaGreatDoorM41
import Derived.Test.YtkdlcomfpffhhaaGreatDoorM40
import Derived.Test.YtkdlcomfpffhhaaGreatDoorM3
import Derived.Test.YtkdlcomfpffhhaaGreatDoorM26
import Derived.Test.YtkdlcomfpffhhaaGreatDoorM42
import Derived.Test.YtkdlcomfpffhhaaGreatDoorM18
import Derived.Lib.QuietBelow
import Derived.Deep.QuietTactic
import Derived.BigQuiet
import Derived.Test.YtkdlcomfpffhhaaGreatDoorM33
import Derived.Test.YtkdlcomfpffhhaaGreatDoorM8
import Derived.Test.YtkdlcomfpffhhaaGreatDoorM36
import Derived.Test.YtkdlcomfpffhhaaGreatDoorM24
import Derived.Test.YtkdlcomfpffhhaaGreatDoorM30
import Derived.Test.YtkdlcomfpffhhaaGreatDoorM35
import Derived.Test.YtkdlcomfpffhhaaGreatDoorM37
set_option maxRecDepth 100000
set_option linter.unusedSimpArgs false
set_option linter.unusedVariables false
set_option maxHeartbeats 12800000
namespace Go.Proofs.YtkdlcomfpffhhaaGreatDoor
open Go.Proofs.Tryz
open Corb
variable {T c s x:ByteArray}{i k m n:Nat}{u:List UInt8}{w:World}
def sub(s:ByteArray)(p:Nat):ByteArray:=s.extract p s.size
theorem fL(s:ByteArray)(p:Nat):(sub s p).data.toList=s.data.toList.drop p:=by
 rw[sub,ext_list];exact a0D (by simp)
theorem gw(s:ByteArray)(p:Nat):(sub s p).size=s.size-p:=by
 rw[sub,a2f];omega
def nQ(s:ByteArray):Nat:=30+wd s.data.toList 26 2+wd s.data.toList 18 4
def enO(s T:ByteArray):En:=⟨nmB s,gY (wd s.data.toList 10 4:Nat),gM (wd s.data.toList 10 4:Nat),gD (wd s.data.toList 10 4:Nat),gH (wd s.data.toList 10 4:Nat),gI (wd s.data.toList 10 4:Nat),gS (wd s.data.toList 10 4:Nat),T⟩
def ctO(s:ByteArray)(p:Nat):ByteArray:=jg (wd s.data.toList 8 2) (wd s.data.toList 10 4) (wd s.data.toList 14 4) (wd s.data.toList 18 4) (wd s.data.toList 22 4) (nmB s) p
theorem jr(h:gt s=some T):hdB s=true/\jk (enO s T)=true:=by
 unfold gt at h
 split at h
 .
  rename_i h0;refine⟨h0,?_⟩
  split at h
  .
   split at h
   .
    rename_i h2;cases h
    simp only[M5,a0n]at h2;exact h2.2.2
   . cases h
  . cases h
 . cases h
def zst(s:ByteArray):Nat->Option (List En×ByteArray×Nat)
 | 0=>some ([],⟨#[]⟩,0)
 | i+1=>(zst s i).bind fun q=>(gt (sub s q.2.2)).map fun T=>(q.1++[enO (sub s q.2.2) T],q.2.1++ctO (sub s q.2.2) q.2.2,q.2.2+nQ (sub s q.2.2))
theorem qU{q:List En×ByteArray×Nat}(h:zst s i=some q)(a:gt (sub s q.2.2)=some T) :
  zst s (i+1)=some (q.1++[enO (sub s q.2.2) T],q.2.1++ctO (sub s q.2.2) q.2.2,q.2.2+nQ (sub s q.2.2)):=by
 rw[zst,h,a0g,a,a3U]
theorem NA{q:List En×ByteArray×Nat}(h:zst s i=some q)(a:gt (sub s q.2.2)=none):zst s (i+1)=none:=by
 rw[zst,h,a0g,a,Option.map_none]
theorem Ad{s:ByteArray}{i:Nat}(h:zst s i=none):∀m,i<=m->zst s m=none
 | 0,hm=>by
  have:i=0:=by omega
  rw[←this];exact h
 | m+1,hm=>by
  by_cases e:i=m+1
  . rw[←e];exact h
  . rw[zst,Ad h m (by omega)];rfl
theorem fO{q:List En×ByteArray×Nat}(h:zst s (i+1)=some q):∃r T,zst s i=some r/\gt (sub s r.2.2)=some T/\q=(r.1++[enO (sub s r.2.2) T],r.2.1++ctO (sub s r.2.2) r.2.2,r.2.2+nQ (sub s r.2.2)):=by
 rw[zst]at h;rcases b:zst s i with _|r
 . rw[b]at h;cases h
 .
  rw[b,a0g]at h;rcases a:gt (sub s r.2.2)with _|T
  . rw[a]at h;cases h
  .
   rw[a,a3U]at h;cases h
   exact⟨r,T,rfl,a,rfl⟩
theorem sg(h:gt s=some T):nQ s<=s.size:=(jM.1 (jr h).1).2.2
theorem gj{s:ByteArray} : ∀{i:Nat} {q:List En×ByteArray×Nat},zst s i=some q->q.1.length=i/\q.2.2<=s.size/\(∀e∈q.1,jk e=true)/\(q.2.1=⟨#[]⟩∨q.2.1.data.toList.take 4=[80,75,1,2])/\q.2.1.size<=100*i
 | 0,q,h=>by cases h;exact⟨rfl,a0h _,(fun e a=>by cases a),.inl rfl,a0h _⟩
 | i+1,q,h=>by
  obtain⟨r,T,c,h2,rfl⟩:=fO h;obtain⟨a1,a2,a3,a4,a5⟩:=gj c;have f:=sg h2;rw[gw]at f;have b:=(jr h2).2;have g:=(ee (n:=(enO (sub s r.2.2) T).n) (t:=(enO (sub s r.2.2) T).t) b).1;have d:(ctO (sub s r.2.2) r.2.2).size=46+(nmB (sub s r.2.2)).size:=fU _ _ _ _ _ _ _;have j:(nmB (sub s r.2.2)).size<=43:=g;refine⟨by simp[a1],?_,?_,?_,?_⟩
  . show r.2.2+nQ (sub s r.2.2)<=s.size;omega
  .
   intro e a;rcases a1j.1 a with a|a
   . exact a3 e a
   . rw[a1g.1 a];exact b
  .
   refine .inr ?_;show(r.2.1++ctO (sub s r.2.2) r.2.2).data.toList.take 4=_;have e0:(ctO (sub s r.2.2) r.2.2).data.toList.take 4=[80,75,1,2]:=by simp[ctO,jg]
   rcases a4 with e|e
   . rw[e];simpa using e0
   .
    have:4<=r.2.1.data.toList.length:=by
     have:=congrArg List.length e;rw[a0t]at this;simp at this ⊢;omega
    simp only[a2t,a1B];rw[a1J this];exact e
  . show(r.2.1++ctO (sub s r.2.2) r.2.2).size<=_;rw[a0N,d];omega
theorem jA{s:ByteArray}{k:Nat} : ∀{m:Nat} {q:List En×ByteArray×Nat},zst s m=some q->k<=m->∃r,zst s k=some r/\r.1=q.1.take k
 | 0,q,h,hk=>by
  have:k=0:=by omega
  subst this;exact⟨q,h,by cases h;rfl⟩
 | m+1,q,h,hk=>by
  by_cases e:k=m+1
  . subst e;exact⟨q,h,by rw[a0D (by rw[(gj h).1];exact a0a _)]⟩
  . obtain⟨r,T,a,h2,rfl⟩:=fO h;obtain⟨d,b,c⟩:=jA a (by omega:k<=m);refine⟨d,b,?_⟩;rw[c];show _=(r.1++_).take k;rw[a1J (by rw[(gj a).1];omega)]
theorem pZ(h:gt s=some T):s.data.toList.take 4=[80,75,3,4]:=by
 obtain⟨a,h2,_⟩:=jM.1 (jr h).1;simp only[mB,a0n,a0E]at h2;have b:30<=s.data.toList.length:=by simpa using a
 have:=(qm (l:=s.data.toList) (i:=0) (k:=4) (by omega) (by decide)).1 h2.1;rw[a17]at this;rw[this];decide +kernel
theorem uh(k z p:Nat):(ec k z p).data.toList=[80,75,5,6]++(leS 2 0++(leS 2 0++(leS 2 k++(leS 2 k++(leS 4 z++(leS 4 p++leS 2 0)))))):=by
 simp[ec,az]
theorem Dj(k z p:Nat)(a:c=⟨#[]⟩∨c.data.toList.take 4=[80,75,1,2]):(c++ec k z p).data.toList.take 4≠[80,75,3,4]:=by
 simp only[a2t,a1B];rcases a with e|e
 . rw[e,uh];simp
 .
  have:4<=c.data.toList.length:=by
   have:=congrArg List.length e;rw[a0t]at this;simp at this ⊢;omega
  rw[a1J this,e];decide
theorem Hy{z p q:Nat}(h:sub s p=c++ec k z q)(e:k<65536):22<=s.size/\wd s.data.toList (s.size-12) 2=k:=by
 have d:s.size-p=c.size+22:=by rw[←gw,h,a0N,oF]
 refine⟨by omega,?_⟩;have h2:s.data.toList=(s.data.toList.take p++(c.data.toList++([80,75,5,6]++(leS 2 0++(leS 2 0++leS 2 k)))))++(leS 2 k++(leS 4 z++(leS 4 q++leS 2 0))):=by
  have:s.data.toList.drop p=(c++ec k z q).data.toList:=by rw[←fL,h]
  conv=>lhs;rw[←a13 p s.data.toList,this]
  simp only[a2t,a1B,uh,a0U]
 have a:(s.data.toList.take p++(c.data.toList++([80,75,5,6]++(leS 2 0++(leS 2 0++leS 2 k))))).length=s.size-12:=by
  simp only[a0o,a0t,aH];have e1:s.data.toList.length=s.size:=by simp
  have e2:c.data.toList.length=c.size:=by simp
  rw[e1,e2];simp;omega
 rw[h2];have:=Nw (b:=leS 2 k++(leS 4 z++(leS 4 q++leS 2 0))) (i:=0) 2 a;rw[a1H]at this;rw[this];exact Mt _ (by omega)
def bR(s:ByteArray):Option (List En):=
 if 12<=s.size/\wd s.data.toList (s.size-12) 2<=6 then
  (match zst s (wd s.data.toList (s.size-12) 2)with
  | some q=>if dS q.1=true/\sub s q.2.2=q.2.1++ec (wd s.data.toList (s.size-12) 2) q.2.1.size q.2.2 then some q.1 else none
  | none=>none)
 else none
theorem jz{l:List En}(h:bR s=some l):∃m q,zst s m=some q/\l=q.1/\dS q.1=true/\sub s q.2.2=q.2.1++ec m q.2.1.size q.2.2:=by
 unfold bR at h
 split at h
 .
  split at h
  .
   rename_i q hq
   split at h
   .
    rename_i h2;cases h
    exact⟨_,q,hq,rfl,h2.1,h2.2⟩
   . cases h
  . cases h
 . cases h
theorem Km{q:List En×ByteArray×Nat}(h:zst s m=some q)(b:dS q.1=true)(a:sub s q.2.2=q.2.1++ec m q.2.1.size q.2.2):bR s=some q.1:=by
 have c:=(gW b).2;have d:=(gj h).1;obtain⟨e1,e2⟩:=Hy a (by omega);unfold bR;rw[a0e ⟨by omega,by omega⟩,e2,h];simp only;rw[a0e ⟨b,a⟩]
theorem vp{q r:List En×ByteArray×Nat}(d:zst s k=some q)(b:zst s m=some r)(c:sub s r.2.2=r.2.1++ec m r.2.1.size r.2.2):k<=m:=by
 rcases a1z m k with h|h
 .
  exfalso;obtain⟨x,e,_⟩:=jA d (by omega:m+1<=k);obtain⟨y,T,a,h2,_⟩:=fO e;rw[b]at a;cases a
  have:=pZ h2;rw[c]at this;exact Dj _ _ _ (gj b).2.2.2.1 this
 . exact h
theorem Gq{q:List En×ByteArray×Nat}(b:zst s k=some q)(i:dS q.1=true)(f:(sub s q.2.2).data.toList.take 4≠[80,75,3,4]) :
  bR s=if sub s q.2.2=q.2.1++ec k q.2.1.size q.2.2 then some q.1 else none:=by
 split
 . rename_i he;exact Km b i he
 .
  rename_i he;rcases h:bR s with _|l
  . rfl
  .
   exfalso;obtain⟨m,r,a,h2,j,c⟩:=jz h;have d:=vp b a c;by_cases e:k=m
   .
    subst e;rw[b]at a;cases a
    exact he c
   .
    obtain⟨x,g,_⟩:=jA a (by omega:k+1<=m);obtain⟨y,T,y1,y2,_⟩:=fO g;rw[b]at y1;cases y1
    exact f (pZ y2)
theorem zY{q:List En×ByteArray×Nat}(c:zst s k=some q)(o:(sub s q.2.2).data.toList.take 4=[80,75,3,4])(p:∀T,gt (sub s q.2.2)=some T->dS (q.1++[enO (sub s q.2.2) T])=false):bR s=none:=by
 rcases h:bR s with _|l
 . rfl
 .
  exfalso;obtain⟨m,r,b,h2,f,g⟩:=jz h;have u:=vp c b g;by_cases e:k=m
  .
   subst e;rw[c]at b;cases b
   rw[g]at o;exact Dj _ _ _ (gj c).2.2.2.1 o
  .
   obtain⟨x,v,d⟩:=jA b (by omega:k+1<=m);obtain⟨y,T,y1,y2,y3⟩:=fO v;rw[c]at y1;cases y1
   have j:=p T y2;have n:dS (r.1.take (k+1))=true:=by
    rw[pE]at f ⊢;intro i t;have a:i<k+1/\i<r.1.length:=by rw[a0t]at t;omega
    have:=f i a.2;unfold ny at this ⊢;rw[py r.1 (k+1) i a.1,a3h,a1s (by omega)];exact this
   rw[←d,y3]at n;rw[n]at j;cases j
theorem F8{v:List UInt8}(h:30<=v.length)(a:mB v=true)(d:n=wd v 26 2):(dI (wd v 8 2) (wd v 10 4) (wd v 14 4) (wd v 18 4) (wd v 22 4) n).data.toList=(v.drop 4).take 26:=by
 have st:∀i k m,(v.drop i).take (k+m)=(v.drop i).take k++(v.drop (i+k)).take m:=fun i k m=>by rw[a3g,a1Y]
 simp only[mB,a0n,a0E]at a;obtain⟨_,b,h2,c⟩:=a;have e1:=(qm (l:=v) (i:=4) (k:=2) (by omega) (by decide)).1 b;have e2:=(qm (l:=v) (i:=6) (k:=2) (by omega) (by decide)).1 h2;have e3:=(qm (l:=v) (i:=28) (k:=2) (by omega) (by decide)).1 c;have e:(dI (wd v 8 2) (wd v 10 4) (wd v 14 4) (wd v 18 4) (wd v 22 4) n).data.toList=leS 2 20++(leS 2 0++(leS 2 (wd v 8 2)++(leS 4 (wd v 10 4)++(leS 4 (wd v 14 4)++(leS 4 (wd v 18 4)++(leS 4 (wd v 22 4)++(leS 2 n++leS 2 0))))))):=by
  unfold dI az;simp
 rw[e,d,←e1,←e2,gh (i:=8) (k:=2) (by omega),gh (i:=10) (k:=4) (by omega),gh (i:=14) (k:=4) (by omega),gh (i:=18) (k:=4) (by omega),gh (i:=22) (k:=4) (by omega),gh (i:=26) (k:=2) (by omega)]
 conv=>lhs;rhs;rhs;rhs;rhs;rhs;rhs;rhs;rhs;rw[e2,←e3]
 rw[←st 26 2 2,←st 22 4 _,←st 18 4 _,←st 14 4 _,←st 10 4 _,←st 8 2 _,←st 6 2 _,←st 4 2 _]
def qA(u v:List UInt8)(own:Nat):Prop:=30<=u.length/\46+wd u 28 2<=u.length/\30+wd u 28 2<=v.length/\((u.drop 6).take 26=(v.drop 4).take 26/\(u.drop 46).take (wd u 28 2)=(v.drop 30).take (wd u 28 2))/\(u.take 6=leS 4 33639248++leS 2 20/\(u.drop 32).take 14=List.replicate 10 0++leS 4 own)
theorem G3(own:Nat)(h:hdB x=true):(ctO x own).data.toList=(leS 4 33639248++leS 2 20)++((x.data.toList.drop 4).take 26++((List.replicate 10 0++leS 4 own)++(x.data.toList.drop 30).take (wd x.data.toList 26 2))):=by
 obtain⟨a,h2,c⟩:=jM.1 h;have b:30<=x.data.toList.length:=by simpa using a
 have e:=F8 b h2 (js (s:=x) (by omega));have e0:leS 4 33639248=[80,75,1,2]:=by decide +kernel
 rw[e0,←e,←yE];unfold ctO jg az;simp[List.replicate]
theorem oY{v:List UInt8}(h:(u.drop 6).take 26=(v.drop 4).take 26):wd u 28 2=wd v 26 2:=by
 have e1:((u.drop 6).take 26).drop 22=(u.drop 28).take 4:=by rw[a3R,a1Y]
 have e2:((v.drop 4).take 26).drop 22=(v.drop 26).take 4:=by rw[a3R,a1Y]
 have e3:(u.drop 28).take 4=(v.drop 26).take 4:=by rw[←e1,←e2,h]
 have e4:(u.drop 28).take 2=(v.drop 26).take 2:=by
  have:=congrArg (List.take 2) e3;rwa[a3h,a3h]at this
 unfold wd;rw[e4]
theorem Lj(own:Nat)(h:hdB x=true):qA u x.data.toList own<->u.take (46+wd x.data.toList 26 2)=(ctO x own).data.toList:=by
 obtain⟨g,h2,j⟩:=jM.1 h;have d:30+wd x.data.toList 26 2<=x.data.toList.length:=by
  have:x.data.toList.length=x.size:=by simp
  omega
 have st:∀i k m,(u.drop i).take (k+m)=(u.drop i).take k++(u.drop (i+k)).take m:=fun i k m=>by rw[a3g,a1Y]
 have eu:∀n,u.take (46+n)=u.take 6++((u.drop 6).take 26++((u.drop 32).take 14++(u.drop 46).take n)):=fun n=>by
  rw[←st 32 14 n,←st 6 26 _];have:=st 0 6 (26+(14+n));rw[a17,a0B]at this;rw[←this]
  congr 1;omega
 rw[G3 own h];have l1:(leS 4 33639248++leS 2 20).length=6:=by simp[aH]
 have l2:((x.data.toList.drop 4).take 26).length=26:=dX (by omega);have l3:(List.replicate 10 (0:UInt8)++leS 4 own).length=14:=by simp[aH]
 have l4:((x.data.toList.drop 30).take (wd x.data.toList 26 2)).length=wd x.data.toList 26 2:=dX d;constructor
 . rintro⟨c0,c1,c2,⟨s1,s2⟩,b,c⟩;have a:=oY s1;rw[a]at s2;rw[eu,b,s1,c,s2]
 .
  intro e;have f:=congrArg List.length e;have m1:=l1;have m3:=l3;simp only[a0o]at f m1 m3;rw[a0t,l2,l4]at f;have l:46+wd x.data.toList 26 2<=u.length:=by omega
  rw[eu]at e;obtain⟨b,e⟩:=a2d e (by rw[l1,a0t];omega);obtain⟨s1,e⟩:=a2d e (by rw[l2,a0t,a01];omega);obtain⟨c,s2⟩:=a2d e (by rw[l3,a0t,a01];omega);have a:=oY s1;exact⟨by omega,by omega,by rw[a];exact d,⟨s1,by rw[a];exact s2⟩,b,c⟩
theorem DI{s:ByteArray}{k:Nat}{r:List En×ByteArray×Nat}(a:zst s k=some r):∀{m:Nat} {q:List En×ByteArray×Nat},zst s m=some q->k<=m->∃x,q.2.1.data.toList=r.2.1.data.toList++x
 | 0,q,h,hkm=>by
  have:k=0:=by omega
  subst this;rw[a]at h;cases h;exact⟨[],by simp⟩
 | m+1,q,h,hkm=>by
  by_cases e:k=m+1
  . subst e;rw[a]at h;cases h;exact⟨[],by simp⟩
  .
   obtain⟨y,T,b,h2,rfl⟩:=fO h;obtain⟨x,c⟩:=DI a b (by omega);exact⟨x++(ctO (sub s y.2.2) y.2.2).data.toList,by
    show(y.2.1++ctO (sub s y.2.2) y.2.2).data.toList=_;simp only[a2t,a1B];rw[c,a0U]⟩
def preB(s c:ByteArray)(A:Nat):Prop:=(s.data.toList.drop A).take c.size=c.data.toList
theorem y7{A:Nat}{r:List En×ByteArray×Nat}(d:gt (sub s r.2.2)=some T)(a:preB s r.2.1 A) :
  qA (s.data.toList.drop (A+r.2.1.size)) (s.data.toList.drop r.2.2) r.2.2<->preB s (r.2.1++ctO (sub s r.2.2) r.2.2) A:=by
 have b:=(jr d).1;have c:(ctO (sub s r.2.2) r.2.2).size=46+wd (sub s r.2.2).data.toList 26 2:=by
  have:(ctO (sub s r.2.2) r.2.2).size=46+(nmB (sub s r.2.2)).size:=fU _ _ _ _ _ _ _;rw[this,js (by have:=(jM.1 b).2.2;omega)]
 have:=Lj (u:=s.data.toList.drop (A+r.2.1.size)) r.2.2 b;rw[fL]at this;rw[this];unfold preB;have st:(s.data.toList.drop A).take (r.2.1.size+(46+wd (s.data.toList.drop r.2.2) 26 2))=(s.data.toList.drop A).take r.2.1.size++(s.data.toList.drop (A+r.2.1.size)).take (46+wd (s.data.toList.drop r.2.2) 26 2):=by rw[a3g,a1Y]
 rw[fL]at c;rw[a0N,c,st];unfold preB at a;simp only[a2t,a1B];constructor
 . intro e;rw[a,e]
 . intro e;rw[a]at e;exact a2u e
theorem ov{s:ByteArray}{m:Nat}(a:12<=s.size)(b:wd s.data.toList (s.size-12) 2=m)(c:m<=6):bR s=match zst s m with
  | some q=>if dS q.1=true/\sub s q.2.2=q.2.1++ec m q.2.1.size q.2.2 then some q.1 else none
  | none=>none:=by
 unfold bR
 (rw[a0e ⟨a,by omega⟩,b])<;>(rcases zst s m with _|q<;>rfl)
theorem zZ(h:¬ (12<=s.size/\wd s.data.toList (s.size-12) 2<=6)):bR s=none:=a0d h
theorem Gp{q r:List En×ByteArray×Nat}(a:12<=s.size)(f:wd s.data.toList (s.size-12) 2=m)(d:m<=6)(hq:zst s m=some q)(l:i<m)(j:zst s i=some r)(b:gt (sub s r.2.2)=some T)(h:preB s r.2.1 q.2.2)
  (g:¬ qA (s.data.toList.drop (q.2.2+r.2.1.size)) (s.data.toList.drop r.2.2) r.2.2):bR s=none:=by
 rw[ov a f d,hq];simp only;rw[a0d];rintro⟨_,e⟩;apply g;rw[y7 b h];obtain⟨x,k⟩:=DI (qU j b) hq (by omega);have c:s.data.toList.drop q.2.2=q.2.1.data.toList++(ec m q.2.1.size q.2.2).data.toList:=by
  rw[←fL,e];simp
 unfold preB;rw[c,k,a0U];simp only;rw[a1J (by simp),a0D (by simp)]
theorem Kj{q:List En×ByteArray×Nat}(b:12<=s.size)(f:wd s.data.toList (s.size-12) 2=m)(e:m<=6)(hq:zst s m=some q)(g:dS q.1=true)(d:preB s q.2.1 q.2.2) :
  bR s=if sub s (q.2.2+q.2.1.size)=ec m q.2.1.size q.2.2 then some q.1 else none:=by
 rw[ov b f e,hq];simp only;have:(dS q.1=true/\sub s q.2.2=q.2.1++ec m q.2.1.size q.2.2)<->sub s (q.2.2+q.2.1.size)=ec m q.2.1.size q.2.2:=by
  have e1:s.data.toList.drop q.2.2=q.2.1.data.toList++s.data.toList.drop (q.2.2+q.2.1.size):=by
   conv=>lhs;rw[←a13 q.2.1.size (s.data.toList.drop q.2.2)]
   rw[a1Y];unfold preB at d;rw[d]
  constructor
  . rintro⟨_,c⟩;apply ii;have e2:=congrArg (fun x:ByteArray=>x.data.toList) c;simp only[fL,a2t,a1B]at e2;rw[e1]at e2;rw[fL];exact a2u e2
  . intro c;refine⟨g,ii ?_⟩;rw[fL,e1];simp only[a2t,a1B];rw[←c,fL]
 by_cases a:sub s (q.2.2+q.2.1.size)=ec m q.2.1.size q.2.2
 . rw[a0e (this.2 a),a0e a]
 . rw[a0d (fun h=>a (this.1 h)),a0d a]
open Go.RowKit
theorem BG{n t:ByteArray}{y mo d h mi c k:Int}(a:nR x = .tuple #[.agg #[.string n,.int .i64 y,.int .i64 mo,.int .i64 d,.int .i64 h,.int .i64 mi,.int .i64 c,.string t],.int .i64 k,.bool true]) :
  ∃T,gt x=some T/\enO x T=⟨n,y,mo,d,h,mi,c,t⟩/\k=((nQ x:Nat):Int):=by
 unfold nR at a;rcases b:gt x with _|T
 . rw[b]at a;simp at a
 .
  rw[b]at a;simp only[E8,Value.tuple.injEq,Array.mk.injEq,List.cons.injEq,Value.agg.injEq,Value.string.injEq,Value.int.injEq,a2A,a1a]at a;obtain⟨⟨e0,e1,e2,e3,e4,e5,e6,e7⟩,e8⟩:=a;refine⟨T,rfl,?_,?_⟩
  . unfold enO;rw[e0,e1,e2,e3,e4,e5,e6,e7]
  . rw[←e8];rfl
theorem Jw(a:nR x = .tuple #[noE,.int .i64 0,.bool false]):gt x=none:=by
 unfold nR at a;rcases b:gt x with _|T
 . rfl
 . rw[b]at a;simp at a
theorem NN(w:World)(base:Nat)(hb:base<=w.heap.size):ie (w.alloc (.cells #[] 32)) base (.slice (some ⟨w.heap.size,0,none⟩) 0 0) []:=a0P w #[] 0 hb (by unfold maxLen;omega) rfl
theorem EJ(s:ByteArray)(m:Nat)(w:World)(hs:s.size<=1048576)(hm:m<=6) :
  Calls prog 69 #[.string s,.int .i64 (m:Nat)] w fun e w'=>(∃(v:Value) (p:Nat) (ok:Bool),e = .returned (.tuple #[v,.int .i64 (p:Nat),.bool ok])/\(ok=true->∃q,zst s m=some q/\p=q.2.2/\ie w' w.heap.size v q.1)/\(ok=false->zst s m=none))/\Below w.heap.size w w':=by
 have ad:(m:Int)<=6:=by omega
 have an:(s.size:Int)<=1048576:=by omega
 have HS:=af hs;have Hm:=af hm;have I:Hid (ie (w.alloc (.cells #[] 32)) w.heap.size (.slice (some ⟨w.heap.size,0,none⟩) 0 0) []):=NN _ _ (a0a _);have F:Hid (Below w.heap.size w (w.alloc (.cells #[] 32))):=(a0c _ _).alloc (a0a _) _;obtain⟨i0,hi,Y,Z,aa⟩:=a0s Tryz.infoEnt;clear hs hm;go_enter func69,ntmps69;go_wp2_with fail
 go_loopw [7,8,9,10,11,12] (fun v a i _ _ _ wr=>∃(k:Nat) (q:List En×ByteArray×Nat),k<=m/\i = .int .i64 k/\zst s k=some q/\a = .int .i64 (q.2.2:Nat)/\ie wr w.heap.size v q.1/\Below w.heap.size w wr) (fun _ _ i _ _ _ _=>m-(intOf i).toNat)
 case atStart=>exact⟨0,([],⟨#[]⟩,0),a0h _,rfl,rfl,rfl,ae I,ae F⟩
 case round=>
  obtain⟨k,q,hk,rfl,N,rfl,hq,g⟩:=hrel;clear I F;by_cases ac:k<m
  .
   have r:=gj N;have al:(q.2.2:Int)<=(s.size:Int):=by have:=r.2.1;omega
   have HL:=af r.1;have K:(sub s q.2.2).size<=1048576:=by rw[gw];have:=ae HS;omega
   have O:=af (fun W=>rX (sub s q.2.2) W K);have E:=af hq;have b:=af g;have HK:=af hk;have HZ:=af N;clear K r hq g hk N;go_wp2_with fail;refine(ae O wr).mono ?_;rintro e x1 ⟨⟨n,y,mo,d,h,mi,c,t,kk,ok,rfl,M⟩,u⟩;have D:=af (am (ae b) u);have L:Hid (Below x1.heap.size x1 (x1.alloc (.cells #[.string n,.int .i64 y,.int .i64 mo,.int .i64 d,.int .i64 h,.int .i64 mi,.int .i64 c,.string t] 32))):=(a0c _ _).alloc (a0a _) _;cases ok
   .
    have P:=af (Ad (NA (ae HZ) (Jw M)) m (by omega));have B:=af (am (ae D) (ae L));clear M u O E b L;go_wp2
    go_ret3
    exact⟨⟨_,_,false,rfl,(fun h=>by cases h),fun _=>ae P⟩,ae B⟩
   .
    obtain⟨T,U,hE,rfl⟩:=BG M;have C:=qU (ae HZ) U;have hf:=sg U;rw[gw]at hf;rw[hE]at C;have R:=af C;have ab:(q.2.2:Int)+((nQ (sub s q.2.2):Nat):Int)<=(s.size:Int):=by omega
    have V:=am u (ae L);have z:=aN.own (ae HL) ((ae E).later V (a0a _));have f:=am (ae b) V;have j:=f.size;have o:Hid (k+1<=maxLen/\(k+1)*80<=140737488355328):=by
     show _/\_;have:=ae Hm;unfold maxLen;omega
    obtain⟨W1,hW1⟩:∃x,x1.alloc (.cells #[.string n,.int .i64 y,.int .i64 mo,.int .i64 d,.int .i64 h,.int .i64 mi,.int .i64 c,.string t] 32)=x:=⟨_,rfl⟩;have S:=af (aP x1 #[.string n,.int .i64 y,.int .i64 mo,.int .i64 d,.int .i64 h,.int .i64 mi,.int .i64 c,.string t] 32);rw[hW1]at z f j S;have pA:=(ae S).cells (n:=8) rfl;clear M U hE hf C u O E b L V D;go_wp2_with (at_builtin;refine a0v _ rfl _ _ 33 rfl w.heap.size 32 i0 (.agg #[.string ⟨#[]⟩,.int .i64 0,.int .i64 0,.int .i64 0,.int .i64 0,.int .i64 0,.int .i64 0,.string ⟨#[]⟩]) 8 80 a2g hi Y Z aa rfl (by decide) _ _ _ rfl (a0k z _) ⟨W1.heap.size,0,none⟩ 1 1 (iX ⟨n,y,mo,d,h,mi,c,t⟩) rfl rfl (ia W1 _ _) (ik _) (ae o).1 (ae o).2 (av j _) ?_;intro v' x2 A l H;clear H);have G:=aI (v:=u7) l z (a0a _) j f;have J:ie x2 w.heap.size v' (q.1++[⟨n,y,mo,d,h,mi,c,t⟩]):=aN.snoc (ae HL) A;have Q:=af J;have B:=af G;clear A l z J G pA f j S hW1;go_wp2;go_roundw
    case rel=>exact⟨k+1,_,by have:=ae HK;omega,by go_num,ae R,by go_num,ae Q,ae B⟩
    case measure=>simp[intOf];omega
  .
   have X:k=m:=by omega
   subst X;have E:=af hq;have b:=af g;clear hq g;go_wp2
   go_ret3
   exact⟨⟨_,_,true,rfl,fun _=>⟨q,N,rfl,ae E⟩,(fun h=>by cases h)⟩,ae b⟩
theorem Ms(l:List UInt8)(i j k:Nat):wd (l.drop i) j k=wd l (i+j) k:=by unfold wd;rw[a1Y]
theorem ext_eq{a b:Nat}{c d:Nat}(e:b=a+k)(h2:d=c+k):(s.extract a b).toList=(x.extract c d).toList<->(s.data.toList.drop a).take k=(x.data.toList.drop c).take k:=by
 rw[bY,ext_list,ext_list,e,h2,a2o,a2o]
theorem H5{y:ByteArray}{a b:Nat}(c:b=a+k):(s.extract a b).toList=y.toList<->(s.data.toList.drop a).take k=y.data.toList:=by
 rw[bY,ext_list,c,a2o]
theorem vr{q:List En×ByteArray×Nat}(h:zst s k=some q):∀i,i<k->(q.1.getD i default).n.size<=1048576/\((q.1.getD i default).t.size:Int)<=9223372036854775807:=by
 intro i d;obtain⟨c,_,a,_⟩:=gj h;have b:q.1.getD i default∈q.1:=by
  rw[List.getD,List.getElem?_eq_getElem (by omega:i<q.1.length)];exact a1A _
 obtain⟨f1,f2,_⟩:=ee (n:=(q.1.getD i default).n) (t:=(q.1.getD i default).t) (a _ b);exact⟨by omega,by omega⟩
theorem KE{p:Nat}(h:qA u (s.data.toList.drop p) p)(hd:hdB (sub s p)=true):46+wd u 28 2=(ctO (sub s p) p).size:=by
 have e:=oY h.2.2.2.1.1;have a:(ctO (sub s p) p).size=46+(nmB (sub s p)).size:=fU _ _ _ _ _ _ _;rw[a,js (by have:=(jM.1 hd).2.2;omega),fL,e]
theorem below_drewN{B:Nat}{a:World}(h:Below B a w)(n:Nat):Below B a (w.drewN n):=⟨h.os,h.tape,h.output,h.size,h.block⟩
theorem Bh(s:ByteArray)(hd own:Nat)(w:World)(L:s.size<=1048576)(J:hd<=2000000)(h2:own<=2000000) :
  Calls prog 71 #[.string s,.int .i64 (hd:Nat),.int .i64 (own:Nat)] w fun e w'=>(∃(k:Nat) (b:Bool),e = .returned (.tuple #[.int .i64 (k:Nat),.bool b])/\(b=true<->qA (s.data.toList.drop hd) (s.data.toList.drop own) own)/\(b=true->k=46+wd (s.data.toList.drop hd) 28 2))/\Below w.heap.size w w':=by
 have D:prog.follows .mixedOrders=true:=by kernel_rfl
 have ad:(s.size:Int)<=1048576:=by omega
 have aa:(hd:Int)<=2000000:=by omega
 have ab:(own:Int)<=2000000:=by omega
 have G:s.data.toList.length=s.size:=by simp
 have C:Hid (∀W,CD 68 #[.string s,.int .i64 ((hd:Int)+28),.int .i64 2] W (.int .i64 (da s (hd+28) 2))):=fun W=>by
  have:=cR s (hd+28) 2 W (by omega) (by decide) (by omega);rw[show((hd+28:Nat):Int)=(hd:Int)+28 by omega]at this;exact this
 have u:=Ms s.data.toList hd 28 2;by_cases K:hd+30<=s.size
 .
  rw[fH (by omega)]at C;have v:=gJ s.data.toList (hd+28);rw[u];have HP:Hid (qA (s.data.toList.drop hd) (s.data.toList.drop own) own<->(hd+(46+wd s.data.toList (hd+28) 2)<=s.size/\own+30+wd s.data.toList (hd+28) 2<=s.size)/\(((s.data.toList.drop (hd+6)).take 26=(s.data.toList.drop (own+4)).take 26/\(s.data.toList.drop (hd+46)).take (wd s.data.toList (hd+28) 2)=(s.data.toList.drop (own+30)).take (wd s.data.toList (hd+28) 2))/\((s.data.toList.drop hd).take 6=leS 4 33639248++leS 2 20/\(s.data.toList.drop (hd+32)).take 14=List.replicate 10 0++leS 4 own))):=by
   show _<->_;unfold qA;rw[u];simp only[a1Y,a01,G];constructor
   . rintro⟨a,b,c,d,e⟩;exact⟨⟨by omega,by omega⟩,d,e⟩
   . rintro⟨⟨a,b⟩,d,e⟩;exact⟨by omega,by omega,by omega,d,e⟩
  clear u G;generalize wd s.data.toList (hd+28) 2=NM at *
  have ac:(NM:Int)<65536:=by omega
  by_cases B:hd+(46+NM)<=s.size/\own+30+NM<=s.size
  .
   have P:=af B;obtain⟨b1,b2⟩:=B;have N:(hd:Int)+(46+(NM:Int))<=(s.size:Int):=by omega
   have S:(own:Int)+30+(NM:Int)<=(s.size:Int):=by omega
   have d0:decide ((NM:Int)<0)=false:=a0j (by omega);have d1:decide ((s.size:Int)<(hd:Int)+(46+(NM:Int)))=false:=a0j (by omega);have d2:decide ((s.size:Int)<(own:Int)+30+(NM:Int))=false:=a0j (by omega);have Z:Hid (∀W,CD 103 #[.int .i64 33639248,.int .i64 4] W (.string (az (leS 4 33639248)))):=fun W=>aJ 33639248 4 W (by omega) (by omega);have CV:Hid (∀W,CD 103 #[.int .i64 20,.int .i64 2] W (.string (az (leS 2 20)))):=fun W=>aJ 20 2 W (by omega) (by omega);have Y:Hid (∀W,CD 103 #[.int .i64 0,.int .i64 10] W (.string (az (leS 10 0)))):=fun W=>aJ 0 10 W (by omega) (by omega);have CP:Hid (∀W,CD 103 #[.int .i64 (own:Nat),.int .i64 4] W (.string (az (leS 4 own)))):=fun W=>aJ own 4 W (by omega) (by omega);have E1:Hid ((s.extract (hd+6) (hd+32)).toList=(s.extract (own+4) (own+30)).toList<->(s.data.toList.drop (hd+6)).take 26=(s.data.toList.drop (own+4)).take 26):=ext_eq rfl rfl;have E2:Hid ((s.extract (hd+46) (hd+(46+NM))).toList=(s.extract (own+30) (own+30+NM)).toList<->(s.data.toList.drop (hd+46)).take NM=(s.data.toList.drop (own+30)).take NM):=ext_eq (by omega) rfl;have E3:Hid ((s.extract hd (hd+6)).toList=(az (leS 4 33639248)++az (leS 2 20)).toList<->(s.data.toList.drop hd).take 6=leS 4 33639248++leS 2 20):=by
    have:=H5 (s:=s) (y:=az (leS 4 33639248)++az (leS 2 20)) (a:=hd) (b:=hd+6) (k:=6) rfl;rw[show(az (leS 4 33639248)++az (leS 2 20)).data.toList=leS 4 33639248++leS 2 20 by simp[az]]at this;exact this
   have E4:Hid ((s.extract (hd+32) (hd+46)).toList=(az (leS 10 0)++az (leS 4 own)).toList<->(s.data.toList.drop (hd+32)).take 14=List.replicate 10 0++leS 4 own):=by
    have:=H5 (s:=s) (y:=az (leS 10 0)++az (leS 4 own)) (a:=hd+32) (b:=hd+46) (k:=14) rfl;have e0:leS 10 0=List.replicate 10 0:=by decide +kernel
    rw[show(az (leS 10 0)++az (leS 4 own)).data.toList=List.replicate 10 0++leS 4 own by rw[e0];simp[az]]at this;exact this
   have z1:(az (leS 4 33639248)).size<=10:=by rw[bu,aH];omega
   have z2:(az (leS 2 20)).size<=10:=by rw[bu,aH];omega
   have z3:(az (leS 10 0)).size<=10:=by rw[bu,aH];omega
   have z4:(az (leS 4 own)).size<=10:=by rw[bu,aH];omega
   have m1:¬ 9223372036854775807<(az (leS 4 33639248)).size+(az (leS 2 20)).size:=by omega
   have m2:¬ 9223372036854775807<(az (leS 10 0)).size+(az (leS 4 own)).size:=by omega
   generalize az (leS 4 33639248)=A1 at *
   generalize az (leS 2 20)=A2 at *
   generalize az (leS 10 0)=A3 at *
   generalize az (leS 4 own)=A4 at *
   rw[←ae E1,←ae E2,←ae E3,←ae E4]at HP;obtain⟨X1,l⟩:∃x,s.extract (hd+6) (hd+32)=x:=⟨_,rfl⟩;obtain⟨Y1,n⟩:∃x,s.extract (own+4) (own+30)=x:=⟨_,rfl⟩;obtain⟨X2,m⟩:∃x,s.extract (hd+46) (hd+(46+NM))=x:=⟨_,rfl⟩;obtain⟨Y2,o⟩:∃x,s.extract (own+30) (own+30+NM)=x:=⟨_,rfl⟩;obtain⟨X3,r⟩:∃x,s.extract hd (hd+6)=x:=⟨_,rfl⟩;obtain⟨X4,t⟩:∃x,s.extract (hd+32) (hd+46)=x:=⟨_,rfl⟩;rw[l,n,m,o,r,t]at HP;obtain⟨B1,g⟩:∃b,(X1.toList == Y1.toList)=b:=⟨_,rfl⟩;obtain⟨B2,j⟩:∃b,(X2.toList == Y2.toList)=b:=⟨_,rfl⟩;obtain⟨B3,p⟩:∃b,(X3.toList == (A1++A2).toList)=b:=⟨_,rfl⟩;obtain⟨B4,q⟩:∃b,(X4.toList == (A3++A4).toList)=b:=⟨_,rfl⟩;have HR:Hid (((B1&&B2)&&(B3&&B4))=true<->qA (s.data.toList.drop hd) (s.data.toList.drop own) own):=by
    show _<->_;rw[ae HP,←g,←j,←p,←q];simp only[a0n,a2U];exact⟨fun h=>⟨ae P,h⟩,fun h=>h.2⟩
   have R:=af (a0b l (a0b n (a0b m (a0b o (a0b r t)))));have z:=af (a0b g (a0b j (a0b p q)));have Q:=af (a0b m1 m2);clear HP E1 E2 E3 E4 K J h2 L v b1 b2 z1 z2 z3 z4 P l m r t n o g j p q m1 m2;have O:=C;cases B1<;>cases B2<;>cases B3
   all_goals
    go_enter func71,a3Z;go_wp2_with fail;refine(ae O _).mono ?_;rintro e x1 ⟨rfl,f⟩;have i:=af f;clear f C O;go_wp2_with fail;have w1:IntKind.i64.wrap ((hd:Int)+6)=(hd:Int)+6:=by rw[a00];omega
    have t1:((hd:Int)+6).toNat=hd+6:=by omega
    have l1:0<=(hd:Int)+6:=by omega
    have g1:(hd:Int)+6<=(s.size:Int):=by omega
    have w2:IntKind.i64.wrap ((hd:Int)+32)=(hd:Int)+32:=by rw[a00];omega
    have t2:((hd:Int)+32).toNat=hd+32:=by omega
    have l2:0<=(hd:Int)+32:=by omega
    have g2:(hd:Int)+32<=(s.size:Int):=by omega
    have w3:IntKind.i64.wrap ((own:Int)+4)=(own:Int)+4:=by rw[a00];omega
    have t3:((own:Int)+4).toNat=own+4:=by omega
    have l3:0<=(own:Int)+4:=by omega
    have g3:(own:Int)+4<=(s.size:Int):=by omega
    have w4:IntKind.i64.wrap ((own:Int)+30)=(own:Int)+30:=by rw[a00];omega
    have t4:((own:Int)+30).toNat=own+30:=by omega
    have l4:0<=(own:Int)+30:=by omega
    have g4:(own:Int)+30<=(s.size:Int):=by omega
    have w5:IntKind.i64.wrap ((hd:Int)+46)=(hd:Int)+46:=by rw[a00];omega
    have t5:((hd:Int)+46).toNat=hd+46:=by omega
    have l5:0<=(hd:Int)+46:=by omega
    have g5:(hd:Int)+46<=(s.size:Int):=by omega
    have w6:IntKind.i64.wrap ((hd:Int)+(46+(NM:Int)))=(hd:Int)+(46+(NM:Int)):=by rw[a00];omega
    have t6:((hd:Int)+(46+(NM:Int))).toNat=hd+(46+NM):=by omega
    have l6:0<=(hd:Int)+(46+(NM:Int)):=by omega
    have w7:IntKind.i64.wrap ((own:Int)+30+(NM:Int))=(own:Int)+30+(NM:Int):=by rw[a00];omega
    have t7:((own:Int)+30+(NM:Int)).toNat=own+30+NM:=by omega
    have l7:0<=(own:Int)+30+(NM:Int):=by omega
    have w8:IntKind.i64.wrap ((hd:Int))=(hd:Int):=by rw[a00];omega
    have t8:((hd:Int)).toNat=hd:=by omega
    have l8:0<=(hd:Int):=by omega
    have o1:(hd:Int)+6<=(hd:Int)+32:=by omega
    have o2:(own:Int)+4<=(own:Int)+30:=by omega
    have o3:(hd:Int)+46<=(hd:Int)+(46+(NM:Int)):=by omega
    have o4:(own:Int)+30<=(own:Int)+30+(NM:Int):=by omega
    have o5:(hd:Int)<=(hd:Int)+6:=by omega
    have o6:(hd:Int)+32<=(hd:Int)+46:=by omega
    obtain⟨l,n,m,o,r,t⟩:=ae R;obtain⟨g,j,p,q⟩:=ae z;obtain⟨m1,m2⟩:=ae Q
    go_quiet (fail)
    have H:Hid (Below w.heap.size w (x1.drewN nq)):=below_drewN (ae i) nq;clear w3 t3 l3 g3 w4 t4 l4 g4 w6 t6 l6 w7 t7 l7 o1 o2 o3 o4 l n m o g j d0 d1 d2 N S R z Q;generalize x1.drewN nq=x2 at *
    go_wp2_with fail;have T:=fun d os=>Calls.regrown_of (w:=x2) (d:=d) (os:=os) (ae Z _);have U:=fun d os=>Calls.regrown_of (w:=x2) (d:=d) (os:=os) (ae CV _);have V:=fun d os=>Calls.regrown_of (w:=x2) (d:=d) (os:=os) (ae Y _);have X:=fun d os=>Calls.regrown_of (w:=x2) (d:=d) (os:=os) (ae CP _);refine wp_region_quiet_below D (by kernel_rfl) ?_
    go_big_quiet_step (fail)
    go_big_quiet_step (fail)
    go_big_quiet_step (fail)
    go_big_quiet_step (fail)
    go_big_quiet_step (fail)
    go_big_quiet_step (exact T _ _)
    go_big_quiet_step (exact U _ _)
    go_big_quiet_step (fail)
    go_big_quiet_step (fail)
    go_big_quiet_step (fail)
    go_big_quiet_step (fail)
    go_big_quiet_step (fail)
    go_big_quiet_step (fail)
    go_big_quiet_step (fail)
    go_big_quiet_step (fail)
    go_big_quiet_step (fail)
    go_big_quiet_step (exact V _ _)
    go_big_quiet_step (fail)
    go_big_quiet_step (exact X _ _)
    go_big_quiet_step (fail)
    go_big_quiet_step (fail)
    go_big_quiet_step (fail)
    go_big_quiet_step (fail)
    refine a1p ?_;intro zw M;obtain⟨⟨dq,osq⟩,E⟩:=M;have I:=below_regrown x2 dq osq;rw[←E]at I;have T9:=af (am (ae H) I);clear E I T U V X;go_wp2
    go_ret2
    exact⟨⟨46+NM,_,by rw[Int.natCast_add];rfl,ae HR,fun _=>rfl⟩,ae T9⟩
  .
   have A:Hid (¬ qA (s.data.toList.drop hd) (s.data.toList.drop own) own):=fun h=>B ((ae HP).1 h).1;have F:Hid (false=true<->qA (s.data.toList.drop hd) (s.data.toList.drop own) own):=⟨(fun h=>by cases h),fun h=>absurd h (ae A)⟩;clear HP A;by_cases g:hd+(46+NM)<=s.size
   .
    have N:(hd:Int)+(46+(NM:Int))<=(s.size:Int):=by omega
    have S:(s.size:Int)<(own:Int)+30+(NM:Int):=by omega
    clear B g K J h2 L v;go_enter func71,a3Z;go_wp2_with fail;refine(ae C _).mono ?_;rintro e x1 ⟨rfl,f⟩;have i:=af f;clear f C;go_wp2
    go_ret2
    exact⟨⟨0,false,rfl,ae F,fun h=>by cases h⟩,ae i⟩
   .
    have N:(s.size:Int)<(hd:Int)+(46+(NM:Int)):=by omega
    clear B g K J h2 L v;go_enter func71,a3Z;go_wp2_with fail;refine(ae C _).mono ?_;rintro e x1 ⟨rfl,f⟩;have i:=af f;clear f C;go_wp2
    go_ret2
    exact⟨⟨0,false,rfl,ae F,fun h=>by cases h⟩,ae i⟩
 .
  rw[wk (by omega)]at C;have A:Hid (¬ qA (s.data.toList.drop hd) (s.data.toList.drop own) own):=fun h=>by
   have:=h.1;rw[a01,G]at this;omega
  have F:Hid (false=true<->qA (s.data.toList.drop hd) (s.data.toList.drop own) own):=⟨(fun h=>by cases h),fun h=>absurd h (ae A)⟩;clear A u G;go_enter func71,a3Z;go_wp2_with fail;refine(ae C _).mono ?_;rintro e x1 ⟨rfl,f⟩;have i:=af f;clear f C;go_wp2
  go_ret2
  exact⟨⟨0,false,rfl,ae F,fun h=>by cases h⟩,ae i⟩
theorem Nj{A:Nat}(h:preB s c A)(b:A<=s.size):A+c.size<=s.size:=by
 have:=congrArg List.length h;rw[a0t,a01]at this;have a:s.data.toList.length=s.size:=by simp
 have h2:c.data.toList.length=c.size:=by simp
 omega
theorem vC{a b:ByteArray}{c:Bool}(h:(a.toList == b.toList)=c):c=true<->a=b:=by
 rw[←h,a2U,bY];exact⟨fun e=>ii e,fun e=>by rw[e]⟩
theorem sW(s:ByteArray)(w:World)(hs:s.size<=1048576) :
  Calls prog 39 #[.string s] w fun e w'=>(∃v,e = .returned (.tuple #[v,.bool (bR s).isSome])/\ie w' w.heap.size v ((bR s).getD []))/\Below w.heap.size w w':=by
 have a3:prog.follows .mixedOrders=true:=by kernel_rfl
 have cc:(s.size:Int)<=1048576:=by omega
 have u:Hid (bR s=none->∀W,Below w.heap.size w W->(∃v,Ending.returned (.tuple #[.slice (some ⟨W.heap.size,0,none⟩) 0 0,.bool false]) = .returned (.tuple #[v,.bool (bR s).isSome])/\ie (W.alloc (.cells #[] 32)) w.heap.size v ((bR s).getD []))/\Below w.heap.size w (W.alloc (.cells #[] 32))):=fun h W hb=>by
  rw[h];exact⟨⟨_,rfl,NN _ _ hb.size⟩,hb.alloc hb.size _⟩
 by_cases L:12<=s.size
 .
  have C:Hid (∀W,CD 68 #[.string s,.int .i64 ((s.size:Int)-12),.int .i64 2] W (.int .i64 ((wd s.data.toList (s.size-12) 2:Nat):Int))):=fun W=>by
   have:=cR s (s.size-12) 2 W (by omega) (by decide) (by omega);rw[show((s.size-12:Nat):Int)=(s.size:Int)-12 by omega,fH (by omega)]at this;exact this
  have S:=gJ s.data.toList (s.size-12);have bb:∃NM,wd s.data.toList (s.size-12) 2=NM:=⟨_,rfl⟩;obtain⟨NM,U⟩:=bb;rw[U]at C S;have HW:=af U;have I:=af L;clear U;have b0:(NM:Int)<65536:=by omega
  by_cases h6:NM<=6
  .
   have bs:(NM:Int)<=6:=by omega
   have M:Hid (∀W,Calls prog 58 #[.int .i64 (NM:Nat),.int .i64 0,.int .i64 6] W fun e w'=>e = .returned (.bool true)/\w'=W):=fun W=>by
    have:=aE (NM:Int) 0 6 W;rw[show inB (NM:Int) 0 6=true by rw[aG];omega]at this;exact this
   have C2:=af (fun W=>EJ s NM W hs h6);have H6:=af h6;have HS:=af hs;clear L hs S;go_enter func39,ntmps39;go_wp2_with fail;refine(ae C _).mono ?_;rintro e x1 ⟨rfl,j⟩;have m:=af j;clear j C;go_wp2_with fail;refine(ae M _).mono ?_;rintro e x2 ⟨rfl,F⟩;subst F;clear M;go_wp2_with fail;refine(ae C2 _).mono ?_;rintro e x3 ⟨⟨v,p,ok,rfl,G,ab⟩,V⟩;have J:=af (am (ae m) V);cases ok
   .
    have D:=af (ae u (by rw[ov (ae I) (ae HW) (ae H6),ab rfl]) x3 (ae J));clear G ab V C2;go_wp2
    go_ret2
    exact ae D
   .
    obtain⟨q,hq,rfl,a⟩:=G rfl;have f:=gj hq;obtain⟨va,vc,rfl,cg,_⟩:=a.formN f.1;have Ae:=af (a.mono (base':=w.heap.size) (by have:=(ae m).size;omega));have C3:=af (tS va vc q.1 NM f.1 x3 (im f.1 a) (by omega) (vr hq));have HQ:=af hq;have b6:(q.2.2:Int)<=(s.size:Int):=by have:=f.2.1;omega
    have b1:q.2.1.size<=600:=by have:=f.2.2.2.2;omega
    clear G ab V C2 a f hq;cases H:dS q.1
    .
     have D:=af (fun W hb=>ae u (by rw[ov (ae I) (ae HW) (ae H6),ae HQ];simp[H]) W hb);rw[H]at C3;go_wp2_with fail;refine(ae C3).mono ?_;rintro e x4 ⟨rfl,z⟩;have K:=af (am (ae J) z);clear z C3;go_wp2
     go_ret2
     exact ae D _ (ae K)
    .
     rw[H]at C3;have a1:=af H;clear H;go_wp2_with fail;refine(ae C3).mono ?_;rintro e x4 ⟨rfl,z⟩;have K:=af (am (ae J) z);have al:=af ((ae Ae).later z (a0a _));clear z C3 Ae J;have Q:=af (fun hd own (W:World) (h1:hd<=2000000) (h2:own<=2000000)=>Bh s hd own W (ae HS) h1 h2);have ac:=af (fun p W=>rX (sub s p) W (by rw[gw];have:=ae HS;omega));have HE:Hid (∀p,s.extract p s.size=sub s p):=fun _=>rfl;go_wp2_with fail
     go_loopw [8,9,10,11,12,13,14,15] (fun h o i _ _ _ _ _ wr=>∃(k:Nat) (r:List En×ByteArray×Nat),k<=NM/\i = .int .i64 k/\zst s k=some r/\h = .int .i64 ((q.2.2:Nat)+(r.2.1.size:Nat))/\o = .int .i64 (r.2.2:Nat)/\preB s r.2.1 q.2.2/\ie wr w.heap.size (.slice va NM vc) q.1/\Below w.heap.size w wr) (fun _ _ i _ _ _ _ _ _=>NM-(intOf i).toNat)
     case atStart=>exact⟨0,([],⟨#[]⟩,0),a0h _,rfl,rfl,by show _=Value.int .i64 ((q.2.2:Nat)+((0:Nat):Int));simp,rfl,rfl,ae al,ae K⟩
     case round=>
      obtain⟨k,r,hk,rfl,hr,rfl,rfl,P,a,O⟩:=hrel;have E:=gj hr;have b8:r.2.1.size<=600:=by have:=E.2.2.2.2;omega
      have b7:(r.2.1.size:Int)<=600:=by omega
      have b5:(r.2.2:Int)<=(s.size:Int):=by have:=E.2.1;omega
      have HR:=af hr;have g:=af P;have Ae:=af a;have A:=af O;have HK:=af hk;clear E hr P a O al K;by_cases bd:k<NM
      .
       obtain⟨y,hy,_⟩:=jA (ae HQ) (by omega:k+1<=NM);obtain⟨r',T,h1,hT,_⟩:=fO hy;rw[ae HR]at h1;cases h1
       have HT:=af hT;have CH:=af (fun W=>ae Q (q.2.2+r.2.1.size) r.2.2 W (by omega) (by omega));rw[show((q.2.2+r.2.1.size:Nat):Int)=(q.2.2:Nat)+(r.2.1.size:Nat) by omega]at CH;clear hy hT Q;go_wp2_with fail;refine(ae CH _).mono ?_;rintro e x5 ⟨⟨kk,b,rfl,hb,aa⟩,Y⟩;have R:=af (am (ae A) Y);have an:=af ((ae Ae).later Y (a0a _));clear Y CH Ae A;cases b
       .
        have D:=af (ae u (Gp (ae I) (ae HW) (ae H6) (ae HQ) bd (ae HR) (ae HT) (ae g) (fun h=>by have:=hb.2 h;cases this)) x5 (ae R));clear hb aa;go_wp2
        go_ret2
        exact ae D
       .
        have hl:=hb.1 rfl;have e1:=aa rfl;rw[KE hl (jr (ae HT)).1]at e1;have ba:=af ((y7 (ae HT) (ae g)).1 hl);have a0:=af (qU (ae HR) (ae HT));have b3:kk<=2000:=by
         have h7:=(gj (ae a0)).2.2.2.2;simp only[a0N]at h7;omega
        have a7:=af e1;clear hb aa hl e1;go_wp2_with fail;refine(ae ac r.2.2 _).mono ?_;rintro e x6 ⟨⟨n,yy,mo,d,h,mi,c,t,kx,ok,rfl,hv⟩,Z⟩;have ad:=af (am (ae R) Z);have ao:=af ((ae an).later Z (a0a _));have hA:=(a0c x6.heap.size x6).alloc (a0a _) (.cells #[.string n,.int .i64 yy,.int .i64 mo,.int .i64 d,.int .i64 h,.int .i64 mi,.int .i64 c,.string t] 32);have a6:=af (am (ae ad) hA);have a9:=af ((ae ao).later hA (a0a _));cases ok
        . have:=Jw hv;rw[ae HT]at this;cases this
        .
         obtain⟨T2,a2,_,rfl⟩:=BG hv;have hf:=sg a2;rw[gw]at hf;have b2:(r.2.2:Int)+((nQ (sub s r.2.2):Nat):Int)<=(s.size:Int):=by omega
         clear hv a2 hf Z hA ad ao R an;go_wp2;go_roundw
         case rel=>exact⟨k+1,_,by omega,by go_num,ae a0,by simp only[a0N];rw[←ae a7];go_num,by go_num,ae ba,ae a9,ae a6⟩
         case measure=>simp[intOf];omega
      .
       have bc:k=NM:=by omega
       subst bc;have a4:=ae HR;rw[ae HQ]at a4;cases a4
       have b4:=Nj (ae g) (by omega);have bk:(q.2.2:Int)+(q.2.1.size:Int)<=(s.size:Int):=by omega
       have l:=af (Kj (ae I) (ae HW) (ae H6) (ae HQ) (ae a1) (ae g));have N:=af (fun W=>uA k q.2.1.size q.2.2 W (by omega) (by omega) (by omega));have q1:=fun d os=>Calls.regrown_of (w:=wr) (d:=d) (os:=os) (ae N _);have t1:((q.2.2:Int)+(q.2.1.size:Int)).toNat=q.2.2+q.2.1.size:=by omega
       have w1:IntKind.i64.wrap ((q.2.2:Int)+(q.2.1.size:Int)-(q.2.2:Int))=(q.2.1.size:Int):=by rw[a00];omega
       have l1:0<=(q.2.2:Int)+(q.2.1.size:Int):=by omega
       rw[←ae HE]at l;generalize ec k q.2.1.size q.2.2=EN at *
       obtain⟨X,hX⟩:∃x,s.extract (q.2.2+q.2.1.size) s.size=x:=⟨_,rfl⟩;rw[hX]at l;obtain⟨B,hB⟩:∃b,(X.toList == EN.toList)=b:=⟨_,rfl⟩;have HB:=af hB;clear Q ac HE a1 g N;go_wp2_with fail;refine wp_region_quiet_below a3 (by kernel_rfl) ?_;cases B
       all_goals
        quiet_step (fail)
        quiet_step (fail)
        quiet_step (fail)
        quiet_step (fail)
        quiet_step (fail)
        quiet_step (fail)
        quiet_step (fail)
        quiet_step (fail)
        quiet_step (exact q1 _ _)
        quiet_step (fail)
        refine a1p ?_;intro zw be;obtain⟨⟨dq,osq⟩,a5⟩:=be;have HZ:=below_regrown wr dq osq;rw[←a5]at HZ;have T9:=af (am (ae A) HZ);have O9:=af ((ae Ae).later HZ (a0a _));clear a5 HZ q1
       .
        have D:=af (ae u (by rw[ae l,a0d (fun e=>by have:=(vC (ae HB)).2 e;cases this)]) zw (ae T9));go_wp2
        go_ret2
        exact ae D
       .
        have HY:Hid (bR s=some q.1):=by show _=_;rw[ae l,a0e ((vC (ae HB)).1 rfl)]
        go_wp2
        go_ret2
        exact⟨⟨_,by rw[ae HY];rfl,by rw[ae HY];exact ae O9⟩,ae T9⟩
  .
   have M:Hid (∀W,Calls prog 58 #[.int .i64 (NM:Nat),.int .i64 0,.int .i64 6] W fun e w'=>e = .returned (.bool false)/\w'=W):=fun W=>by
    have:=aE (NM:Int) 0 6 W;rw[show inB (NM:Int) 0 6=false by rw[dK];omega]at this;exact this
   have D:=af (ae u (zZ (by rw[ae HW];omega)));clear L hs S;go_enter func39,ntmps39;go_wp2_with fail;refine(ae C _).mono ?_;rintro e x1 ⟨rfl,j⟩;have m:=af j;clear j C;go_wp2_with fail;refine(ae M _).mono ?_;rintro e x2 ⟨rfl,F⟩;subst F;clear M;go_wp2
   go_ret2
   exact ae D _ (ae m)
 .
  have C:=af (fun W=>EH s ((s.size:Int)-12) W (by omega));have M:Hid (∀W,Calls prog 58 #[.int .i64 (-1),.int .i64 0,.int .i64 6] W fun e w'=>e = .returned (.bool false)/\w'=W):=fun W=>by
   have:=aE (-1) 0 6 W;rw[show inB (-1) 0 6=false by decide]at this;exact this
  have D:=af (ae u (zZ (fun h=>L h.1)));go_enter func39,ntmps39;go_wp2_with fail;refine(ae C _).mono ?_;rintro e x1 ⟨rfl,j⟩;have m:=af j;clear j C;go_wp2_with fail;refine(ae M _).mono ?_;rintro e x2 ⟨rfl,F⟩;subst F;clear M;go_wp2
  go_ret2
  exact ae D _ (ae m)
def hqO(x:ByteArray)(p:Nat):Hq:=⟨wd x.data.toList 8 2,wd x.data.toList 10 4,wd x.data.toList 14 4,wd x.data.toList 18 4,wd x.data.toList 22 4,nmB x,p⟩
def rB(s:ByteArray)(k:Nat):Hq:=match zst s k with
 | some q=>hqO (sub s q.2.2) q.2.2
 | none=>hqO ⟨#[]⟩ 0
def hqL(s:ByteArray)(n:Nat):List Hq:=(List.range n).map (rB s)
theorem qK(s:ByteArray)(n:Nat):(hqL s n).length=n:=by simp[hqL]
theorem Iq(s:ByteArray)(n:Nat):hqL s (n+1)=hqL s n++[rB s n]:=by simp[hqL,List.range_succ]
theorem Lc(s:ByteArray)(n i:Nat)(d:Hq)(h:i<n):(hqL s n).getD i d=rB s i:=by simp[hqL,List.getD,h]
theorem vW{q:List En×ByteArray×Nat}(h:zst s k=some q):rB s k=hqO (sub s q.2.2) q.2.2:=by
 unfold rB;rw[h]
theorem yk{s:ByteArray} : ∀{k:Nat} {q:List En×ByteArray×Nat},zst s k=some q->dV (rB s) k=q.2.1
 | 0,q,h=>by cases h;rfl
 | k+1,q,h=>by
  obtain⟨r,T,a,h2,rfl⟩:=fO h;rw[dV,yk a,vW a];rfl
theorem Lb(j:s.size<=1048576){q:List En×ByteArray×Nat}(h:zst s k=some q):∀i,i<k->okQ (rB s i):=by
 intro i f;obtain⟨x,e,_⟩:=jA h (by omega:i+1<=k);obtain⟨r,T,a,h2,_⟩:=fO e;rw[vW a];have b:=(jr h2).2;have c:=(ee (n:=(enO (sub s r.2.2) T).n) (t:=(enO (sub s r.2.2) T).t) b).1;have d:(nmB (sub s r.2.2)).size<=43:=c;have g:=(gj a).2.1;exact⟨gJ _ _,dQ _ _,dQ _ _,dQ _ _,dQ _ _,by show(nmB (sub s r.2.2)).size<=54;omega,by show r.2.2<4294967296;omega⟩
theorem D7(l:List En)(e:En)(i:Nat)(a:i<l.length):ny (l++[e]) i=ny l i:=by
 unfold ny;rw[a1J (by omega)]
 congr 1
 simp only[List.getD];rw[List.getElem?_append_left a]
theorem tZ(l:List En)(e:En):ny (l++[e]) l.length=cj l e:=by
 unfold ny;rw[a1J (a0a _),a0D (a0a _)]
 congr 1
 simp[List.getD]
theorem lS{l:List En}(h:dS l=true)(e:En):dS (l++[e])=true<->cj l e=0:=by
 rw[pE]at h ⊢;constructor
 . intro k;have:=k l.length (by simp);rw[tZ]at this;exact this
 .
  intro k i b;by_cases a:i<l.length
  . rw[D7 l e i a];exact h i a
  .
   have:i=l.length:=by simp at b;omega
   rw[this,tZ];exact k
theorem IZ(s:ByteArray):Lib.hasPrefix s.data.toList [80,75,3,4]=decide (s.data.toList.take 4=[80,75,3,4]):=by
 rw[a2j,a0E];unfold Lib.hasPrefix;rw[List.isPrefixOf_iff_prefix,List.prefix_iff_eq_take];exact eq_comm
abbrev ND:=aN (α:=Hq) 95 7 xr
theorem rJ{w':World}{o:Obj}{a c e1 e2 s1 s2 n1 n2:Nat}{v1 v2:Value}{x1 x2:List Value}(b:w.ownsRow a e1 s1 v1 n1 x1)(h2:w.ownsRow c e2 s2 v2 n2 x2)(d:e1≠e2)(e:(w.alloc o).grownBy w' v2.ownBlock):w'.ownsRow a e1 s1 v1 n1 x1:=
 a1y (a0k b o) e (j9 (a0k b o) (a0k h2 o) d)
theorem Mz:dS []=true:=by decide
theorem IJ(h:hdB x=false):gt x=none:=by
 unfold gt;rw[a0d (by rw[h];decide)]
theorem wQ{q:List En×ByteArray×Nat}(b:zst s k=some q)(c:(sub s q.2.2).data.toList.take 4=[80,75,3,4])(a:gt (sub s q.2.2)=none):bR s=none:=
 zY b c (fun T h=>by rw[a]at h;cases h)
theorem GJ{q:List En×ByteArray×Nat}(b:zst s k=some q)(e:dS q.1=true)(c:(sub s q.2.2).data.toList.take 4=[80,75,3,4])(a:gt (sub s q.2.2)=some T)(d:cj q.1 (enO (sub s q.2.2) T)≠0):bR s=none:=
 zY b c (fun T' h=>by
  rw[a]at h;cases h
  cases hb:dS (q.1++[enO (sub s q.2.2) T])
  . rfl
  . exact absurd ((lS e _).1 hb) d)
def ZrP(s:ByteArray)(w:World)(e:Ending)(w':World):Prop:=∃v c,e = .returned (.tuple #[v,io c])/\(c=0->∃l,bR s=some l/\ie w' w.heap.size v l)/\(c≠0->bR s=none)
theorem Ac{w':World}(h:bR s=none)(c:Int)(a:c≠0):ZrP s w (.returned (.tuple #[.slice none 0 0,.iface 121 (.agg #[.int .i64 c])])) w':=
 ⟨.slice none 0 0,c,by unfold io;rw[a0d a],fun b=>absurd b a,fun _=>h⟩
theorem Aa(s:ByteArray)(m:Int)(w:World)(hs:s.size<=1048576)(hm:w.cell? ⟨2,0,none⟩=some (.int .i64 m))(hO:fP w) :
  Calls prog 46 #[.string s] w fun e w'=>ZrP s w e w'/\Below w.heap.size w w':=by
 have cp:prog.follows .mixedOrders=true:=by kernel_rfl
 have ei:(s.size:Int)<=1048576:=by omega
 have HS:=af hs;have HM:=af hm;have d2:=af (World.block_lt_of_cell? _ _ hm);have CM:=af (fun W (hb:Below w.heap.size w W)=>(hb.cell (p:=⟨2,0,none⟩) (ae d2)).trans (ae HM));have HO:=af (fun W (hb:Below w.heap.size w W)=>hO.later hb);obtain⟨i0,hi,d7,d8,b2⟩:=a0s Tryz.infoEnt;obtain⟨j0,hj,d4,d5,d6⟩:=a0s Tryz.infoHd;clear hs hm hO;go_enter func46,ntmps46;go_wp2_with fail
 go_loopw [4,5,6,7,8,9,10,11] (fun f h p _ _ _ _ _ wr=>∃(k:Nat) (q:List En×ByteArray×Nat),zst s k=some q/\dS q.1=true/\p = .int .i64 (q.2.2:Nat)/\ie wr w.heap.size f q.1/\ND wr w.heap.size h (hqL s k)/\Below w.heap.size w wr) (fun _ _ p _ _ _ _ _ _=>s.size-(intOf p).toNat)
 case atStart=>exact⟨0,([],⟨#[]⟩,0),rfl,Mz,rfl,aN.nil _ _,aN.nil _ _,a0c _ _⟩
 case round=>
  obtain⟨k,q,hz,ab,rfl,hf,l,U⟩:=hrel;have K:=gj hz;have d1:k<=6:=by have:=(gW ab).2;omega
  have eg:(q.2.2:Int)<=(s.size:Int):=by have:=K.2.1;omega
  have CX:Hid (∀W,Calls prog 77 #[.string (sub s q.2.2),.string ⟨#[80,75,3,4]⟩] W fun e w'=>e = .returned (.bool (decide ((sub s q.2.2).data.toList.take 4=[80,75,3,4])))/\w'=W):=fun W=>by
   have h:=Tryz.strings_HasPrefix (sub s q.2.2) (⟨#[80,75,3,4]⟩:ByteArray) W;rw[←IZ];exact h
  have HE:Hid (s.extract q.2.2 s.size=sub s q.2.2):=rfl;have I:=af hz;have bb:=af ab;have HF:=af hf;have HH:=af l;have P:=af U;have F:=af K
  have a7:(sub s q.2.2).size<=1048576:=by rw[gw];have:=ae HS;omega
  by_cases N:(sub s q.2.2).data.toList.take 4=[80,75,3,4]
  .
   have a1:=af N;rw[a0w N]at CX;have CH:=af (fun W=>oW (sub s q.2.2) W a7);have Q:=af a7;clear N hf l U K hz ab a7;go_wp2_with fail;refine(ae CX _).mono ?_;rintro e x0 ⟨rfl,b1⟩;subst b1;clear CX;go_wp2_with fail;refine(ae CH _).mono ?_;rintro e x1 ⟨hp,a3⟩;have ac:=af (am (ae P) a3);have an:=af ((ae HF).later a3 (a0a _));have a0:=af ((ae HH).later a3 (a0a _));have R:Hid (∀j,Value.ownBlock u4=some j->j<x1.heap.size):=fun j hj=>(a0p (ae an) j hj).2;have S:Hid (∀j,Value.ownBlock u5=some j->j<x1.heap.size):=fun j hj=>(a0p (ae a0) j hj).2;clear a3 CH HF HH P;rcases hp with⟨hd,rfl⟩|⟨hd,a,b,c,d,f,n,t,ho,rfl⟩
   .
    obtain⟨ds,d0,bk⟩:=jM.1 hd;have cq:=js (s:=sub s q.2.2) (by omega);have ck:=wR (s:=sub s q.2.2) bk;have l1:=gJ (sub s q.2.2).data.toList 8;have l2:=dQ (sub s q.2.2).data.toList 10;have l3:=dQ (sub s q.2.2).data.toList 14;have l4:=dQ (sub s q.2.2).data.toList 18;have l5:=dQ (sub s q.2.2).data.toList 22;have l6:=gJ (sub s q.2.2).data.toList 26;have dl:=ae Q;have E:=af (fun W (hb:Below w.heap.size w W)=>pX (wd (sub s q.2.2).data.toList 8 2) (wd (sub s q.2.2).data.toList 10 4) (wd (sub s q.2.2).data.toList 14 4) (wd (sub s q.2.2).data.toList 18 4) (wd (sub s q.2.2).data.toList 22 4) (nmB (sub s q.2.2)) (bdB (sub s q.2.2)) m W (by omega) l1 l2 l3 l5 (by omega) (ae CM _ hb) (ae HO _ hb));have b3:=af (fun(hen:enB (wd (sub s q.2.2).data.toList 8 2) (wd (sub s q.2.2).data.toList 10 4) (wd (sub s q.2.2).data.toList 14 4) (wd (sub s q.2.2).data.toList 22 4) (nmB (sub s q.2.2)) (bdB (sub s q.2.2))=true) W=>xL (wd (sub s q.2.2).data.toList 8 2) (wd (sub s q.2.2).data.toList 10 4) (wd (sub s q.2.2).data.toList 14 4) (wd (sub s q.2.2).data.toList 18 4) (wd (sub s q.2.2).data.toList 22 4) (nmB (sub s q.2.2)) (bdB (sub s q.2.2)) W l1 l2 l3 l4 l5 (by omega) (by have:=Ho hen;omega));have bd:(eE (wd (sub s q.2.2).data.toList 8 2) (wd (sub s q.2.2).data.toList 10 4) (wd (sub s q.2.2).data.toList 14 4) (wd (sub s q.2.2).data.toList 18 4) (wd (sub s q.2.2).data.toList 22 4) (nmB (sub s q.2.2))++bdB (sub s q.2.2)).size=nQ (sub s q.2.2):=by
     unfold eE nQ;rw[a0N,a0N,a0N,fg,cq,ck];show 4+26+_+_=_;omega
    have cc:nQ (sub s q.2.2)<=(sub s q.2.2).size/\30<=nQ (sub s q.2.2):=⟨bk,by unfold nQ;omega⟩;have HY:Hid (enB (wd (sub s q.2.2).data.toList 8 2) (wd (sub s q.2.2).data.toList 10 4) (wd (sub s q.2.2).data.toList 14 4) (wd (sub s q.2.2).data.toList 22 4) (nmB (sub s q.2.2)) (bdB (sub s q.2.2))=true->∃T,gt (sub s q.2.2)=some T/\enO (sub s q.2.2) T=⟨nmB (sub s q.2.2),zz (gOk (wd (sub s q.2.2).data.toList 10 4:Nat)) (gY (wd (sub s q.2.2).data.toList 10 4:Nat)),zz (gOk (wd (sub s q.2.2).data.toList 10 4:Nat)) (gM (wd (sub s q.2.2).data.toList 10 4:Nat)),zz (gOk (wd (sub s q.2.2).data.toList 10 4:Nat)) (gD (wd (sub s q.2.2).data.toList 10 4:Nat)),zz (gOk (wd (sub s q.2.2).data.toList 10 4:Nat)) (gH (wd (sub s q.2.2).data.toList 10 4:Nat)),zz (gOk (wd (sub s q.2.2).data.toList 10 4:Nat)) (gI (wd (sub s q.2.2).data.toList 10 4:Nat)),zz (gOk (wd (sub s q.2.2).data.toList 10 4:Nat)) (gS (wd (sub s q.2.2).data.toList 10 4:Nat)),uxT (wd (sub s q.2.2).data.toList 8 2) (bdB (sub s q.2.2))⟩):=fun h=>by
     have:=IH hd;rw[a0e h]at this;obtain⟨T,a,b,_⟩:=BG this;exact⟨T,a,b⟩
    have HN:Hid (enB (wd (sub s q.2.2).data.toList 8 2) (wd (sub s q.2.2).data.toList 10 4) (wd (sub s q.2.2).data.toList 14 4) (wd (sub s q.2.2).data.toList 22 4) (nmB (sub s q.2.2)) (bdB (sub s q.2.2))=false->gt (sub s q.2.2)=none):=fun h=>by
     have:=IH hd;rw[a0d (by rw[h];decide)]at this;exact Jw this
    have c8:Hid (rB s k=⟨wd (sub s q.2.2).data.toList 8 2,wd (sub s q.2.2).data.toList 10 4,wd (sub s q.2.2).data.toList 14 4,wd (sub s q.2.2).data.toList 18 4,wd (sub s q.2.2).data.toList 22 4,nmB (sub s q.2.2),q.2.2⟩):=vW (ae I);have cg:(nmB (sub s q.2.2)).size<=1048576:=by omega
    have dz:(uxT (wd (sub s q.2.2).data.toList 8 2) (bdB (sub s q.2.2))).size<=1048576:=zO (by omega);have cs:(sub s q.2.2).size=s.size-q.2.2:=gw _ _;unfold enE at E;generalize eE (wd (sub s q.2.2).data.toList 8 2) (wd (sub s q.2.2).data.toList 10 4) (wd (sub s q.2.2).data.toList 14 4) (wd (sub s q.2.2).data.toList 18 4) (wd (sub s q.2.2).data.toList 22 4) (nmB (sub s q.2.2))++bdB (sub s q.2.2)=PB at *
    generalize enB (wd (sub s q.2.2).data.toList 8 2) (wd (sub s q.2.2).data.toList 10 4) (wd (sub s q.2.2).data.toList 14 4) (wd (sub s q.2.2).data.toList 22 4) (nmB (sub s q.2.2)) (bdB (sub s q.2.2))=EB at *
    generalize uxT (wd (sub s q.2.2).data.toList 8 2) (bdB (sub s q.2.2))=UT at *
    generalize zz (gOk (wd (sub s q.2.2).data.toList 10 4:Nat)) (gY (wd (sub s q.2.2).data.toList 10 4:Nat))=yy at *
    generalize zz (gOk (wd (sub s q.2.2).data.toList 10 4:Nat)) (gM (wd (sub s q.2.2).data.toList 10 4:Nat))=mo at *
    generalize zz (gOk (wd (sub s q.2.2).data.toList 10 4:Nat)) (gD (wd (sub s q.2.2).data.toList 10 4:Nat))=dd at *
    generalize zz (gOk (wd (sub s q.2.2).data.toList 10 4:Nat)) (gH (wd (sub s q.2.2).data.toList 10 4:Nat))=l at *
    generalize zz (gOk (wd (sub s q.2.2).data.toList 10 4:Nat)) (gI (wd (sub s q.2.2).data.toList 10 4:Nat))=mi at *
    generalize zz (gOk (wd (sub s q.2.2).data.toList 10 4:Nat)) (gS (wd (sub s q.2.2).data.toList 10 4:Nat))=ss at *
    generalize bdB (sub s q.2.2)=BD at *
    generalize nmB (sub s q.2.2)=NM at *
    generalize wd (sub s q.2.2).data.toList 8 2=HW at *
    generalize wd (sub s q.2.2).data.toList 10 4=ST at *
    generalize wd (sub s q.2.2).data.toList 14 4=CR at *
    generalize wd (sub s q.2.2).data.toList 18 4=PK at *
    generalize wd (sub s q.2.2).data.toList 22 4=LN at *
    generalize wd (sub s q.2.2).data.toList 26 2=NL at *
    obtain⟨LO,hLO⟩:∃x,nQ (sub s q.2.2)=x:=⟨_,rfl⟩;rw[hLO]at bd cc;have eh:(q.2.2:Int)+(PB.size:Int)<=(s.size:Int):=by omega
    have ed:30<=(PB.size:Int):=by omega
    have c5:=af (hLO.trans bd.symm);clear hd ds d0 bk cq ck l1 l2 l3 l4 l5 l6 dl bd cc hLO cs;have G:=af ((a0c x1.heap.size x1).alloc (a0a _) (.cells #[.int .i64 (HW:Nat),.int .i64 (ST:Nat),.int .i64 (CR:Nat),.int .i64 (PK:Nat),.int .i64 (LN:Nat),.string NM,.string BD] 63));have R2:=af (aP x1 #[.int .i64 (HW:Nat),.int .i64 (ST:Nat),.int .i64 (CR:Nat),.int .i64 (PK:Nat),.int .i64 (LN:Nat),.string NM,.string BD] 63);go_wp2_with fail;refine(ae E _ (am (ae ac) (ae G))).mono ?_;rintro e x2 ⟨rfl,D⟩;have J:=am (ae G) D;have L:=af (am (ae ac) J);have b4:=af ((ae an).later J (a0a _));have b6:=af ((ae a0).later J (a0a _));have R3:=af ((ae R2).later D (ae R2).1);obtain⟨HB,hHB⟩:∃x,x1.heap.size=x:=⟨_,rfl⟩;rw[hHB]at R3 R S;rw[hHB];clear D J G R2 hHB E ac an a0;cases EB
    .
     have o:=af (wQ (ae I) (ae a1) (ae HN rfl));rw[show(if false=true then Value.tuple #[.agg #[.string NM,.int .i64 yy,.int .i64 mo,.int .i64 dd,.int .i64 l,.int .i64 mi,.int .i64 ss,.string UT],.bool true]else .tuple #[noE,.bool false]) = .tuple #[.agg #[.string ⟨#[]⟩,.int .i64 0,.int .i64 0,.int .i64 0,.int .i64 0,.int .i64 0,.int .i64 0,.string ⟨#[]⟩],.bool false]from rfl];have y:=af (am (ae L) ((a0c x2.heap.size x2).alloc (a0a _) (.cells #[.string ⟨#[]⟩,.int .i64 0,.int .i64 0,.int .i64 0,.int .i64 0,.int .i64 0,.int .i64 0,.string ⟨#[]⟩] 32)));go_wp2
     go_ret2
     exact⟨Ac (ae o) 1 (by decide),ae y⟩
    .
     rw[show(if true=true then Value.tuple #[.agg #[.string NM,.int .i64 yy,.int .i64 mo,.int .i64 dd,.int .i64 l,.int .i64 mi,.int .i64 ss,.string UT],.bool true]else .tuple #[noE,.bool false]) = .tuple #[.agg #[.string NM,.int .i64 yy,.int .i64 mo,.int .i64 dd,.int .i64 l,.int .i64 mi,.int .i64 ss,.string UT],.bool true]from rfl];have al:Hid (∃T,gt (sub s q.2.2)=some T/\enO (sub s q.2.2) T=⟨NM,yy,mo,dd,l,mi,ss,UT⟩):=ae HY rfl;have c7:Hid (∀W,_):=ae b3 rfl;have hA:=(a0c x2.heap.size x2).alloc (a0a _) (.cells #[.string NM,.int .i64 yy,.int .i64 mo,.int .i64 dd,.int .i64 l,.int .i64 mi,.int .i64 ss,.string UT] 32);have y:=af (am (ae L) hA);have ao:=af ((ae b4).later hA (a0a _));have b7:=af ((ae b6).later hA (a0a _));have R4:=af ((ae R3).later hA (ae R3).1);have Q4:=af (aP x2 #[.string NM,.int .i64 yy,.int .i64 mo,.int .i64 dd,.int .i64 l,.int .i64 mi,.int .i64 ss,.string UT] 32);obtain⟨fa,fc,bs,_,_⟩:=(ae ao).formN (ae F).1;have dv:HB<x2.heap.size:=(ae R3).1;have ba:=af (Ab fa fc q.1 k (ae F).1 ⟨NM,yy,mo,dd,l,mi,ss,UT⟩ m _ (im (ae F).1 (by have:=ae ao;rw[bs]at this;exact this)) (by omega) (fun i hi=>by have:=(vr (ae I) i hi).1;omega) cg (by show(UT.size:Int)<=_;omega) (ae CM _ (ae y)));rw[←bs]at ba;clear hA HY HN b3 b4 b6 R3 bs L cg dz;go_wp2_with fail;refine(ae ba).mono ?_;rintro e x4 ⟨rfl,M⟩;have ad:=af (am (ae y) M);have b5:=af ((ae ao).later M (a0a _));have b8:=af ((ae b7).later M (a0a _));have R5:=af ((ae R4).later M (ae R4).1);have Q5:=af ((ae Q4).later M (ae Q4).1);obtain⟨QB,hQBe⟩:∃x,x2.heap.size=x:=⟨_,rfl⟩;rw[hQBe]at Q5 dv;rw[hQBe];clear M y ao b7 R4 Q4 ba hQBe;by_cases H:cj q.1 ⟨NM,yy,mo,dd,l,mi,ss,UT⟩=0
     .
      rw[show io (cj q.1 ⟨NM,yy,mo,dd,l,mi,ss,UT⟩) = .nilIface by rw[H];rfl];have c6:Hid (∃T,zst s (k+1)=some (q.1++[⟨NM,yy,mo,dd,l,mi,ss,UT⟩],T,q.2.2+PB.size)/\dS (q.1++[⟨NM,yy,mo,dd,l,mi,ss,UT⟩])=true):=by
       obtain⟨T,hT,hE⟩:=ae al;have h2:=qU (ae I) hT;rw[hE,ae c5]at h2;exact⟨_,h2,(lS (ae bb) _).2 H⟩
      have A:Hid ((k+1<=maxLen/\(k+1)*80<=140737488355328)/\(k+1)*64<=140737488355328):=by
       show(_/\_)/\_;unfold maxLen;omega
      have a5:=aN.own (ae F).1 (ae b5);have co:=aN.own (qK s k) (ae b8);have V:=(ae ad).size;have pA:=(ae Q5).cells (n:=8) rfl;clear H al a1 Q HE;go_wp2_with (first
       | (at_builtin;refine a0v _ rfl _ _ 33 rfl w.heap.size 32 i0 (.agg #[.string ⟨#[]⟩,.int .i64 0,.int .i64 0,.int .i64 0,.int .i64 0,.int .i64 0,.int .i64 0,.string ⟨#[]⟩]) 8 80 a2g hi d7 d8 b2 rfl (by decide) _ _ _ rfl (a0k a5 _) ⟨x4.heap.size,0,none⟩ 1 1 (iX ⟨NM,yy,mo,dd,l,mi,ss,UT⟩) rfl rfl (ia x4 _ _) (ik _) (ae A).1.1 (ae A).1.2 (av V _) ?_;intro v5 x5 a9 z Z;clear Z;have R6:=af (Blk.grown (Blk.later (ae R5) ((a0c _ _).alloc (a0a _) _) (ae R5).1) z (fun e=>absurd (ae R _ e.symm) (Nat.lt_irrefl _)));have rA:=(ae R6).cells (n:=7) rfl;have a6:=rJ co a5 (by decide) z;have bc:=aI (v:=u4) z a5 (a0a _) V (ae ad);have Y:=bc.size)
       | (at_builtin;refine a0v _ rfl _ _ 93 rfl w.heap.size 95 j0 (.agg #[.int .i64 0,.int .i64 0,.int .i64 0,.int .i64 0,.int .i64 0,.string ⟨#[]⟩,.int .i64 0]) 7 64 underlying93 hj d4 d5 d6 rfl (by decide) _ _ _ rfl (a0k a6 _) ⟨x5.heap.size,0,none⟩ 1 1 (xr ⟨HW,ST,CR,PK,LN,NM,q.2.2⟩) rfl rfl (ia x5 _ _) (Hw _) (ae A).1.1 (ae A).2 (av Y _) ?_;intro v6 x6 aa r Z;clear Z;have R7:=af (Blk.grown (Blk.later (ae R6) ((a0c _ _).alloc (a0a _) _) (ae R6).1) r (fun e=>absurd (ae S _ e.symm) (Nat.lt_irrefl _)));have rA:=(ae R7).cells (n:=7) rfl;have cm:=rJ a9 a6 (by decide) r;have ch:=aI (v:=u5) r a6 (a0a _) Y bc))
      refine(ae c7 _).mono ?_;rintro e x7 ⟨rfl,a4⟩;have cr:ie x6 w.heap.size v5 (q.1++[⟨NM,yy,mo,dd,l,mi,ss,UT⟩]):=aN.snoc (ae F).1 cm;have be:ND x6 w.heap.size v6 (hqL s k++[rB s k]):=aN.snoc (qK s k) (by rw[ae c8];exact aa);rw[←Iq]at be;have cv:=af (cr.later a4 (a0a _));have cy:=af (be.later a4 (a0a _));have cu:=af (am ch a4);clear a9 aa z r cr be a4 ch bc V Y a5 cm co a6 rA R5 R6 R7 Q5 pA b5 b8 ad;go_wp2;go_roundw
      case rel=>
       obtain⟨C,b2,D⟩:=ae c6;exact⟨k+1,_,b2,D,by go_num,ae cv,ae cy,ae cu⟩
      case measure=>simp[intOf];omega
     .
      rw[show io (cj q.1 ⟨NM,yy,mo,dd,l,mi,ss,UT⟩) = .iface 121 (.agg #[.int .i64 (cj q.1 ⟨NM,yy,mo,dd,l,mi,ss,UT⟩)]) by unfold io;rw[a0d H]];have o:Hid (bR s=none):=by
       obtain⟨T,hT,hE⟩:=ae al;exact GJ (ae I) (ae bb) (ae a1) hT (by rw[hE];exact H)
      have HC:=af H;clear H al;generalize cj q.1 ⟨NM,yy,mo,dd,l,mi,ss,UT⟩=c at *
      go_wp2
      go_ret2
      exact⟨Ac (ae o) c (ae HC),ae ad⟩
   .
    have o:=af (wQ (ae I) (ae a1) (IJ hd));obtain⟨o1,o2,o3,o4,o5,o6,o7⟩:=ho;have E:=af (fun W (hb:Below w.heap.size w W)=>pX a b c d f n t m W (by have:=ae Q;omega) o1 o2 o3 o5 (by have:=ae Q;omega) (ae CM _ hb) (ae HO _ hb));unfold enE at E;generalize enB a b c f n t=EB at *
    generalize uxT a t=UT at *
    generalize zz (gOk (b:Nat)) (gY (b:Nat))=yy at *
    generalize zz (gOk (b:Nat)) (gM (b:Nat))=mo at *
    generalize zz (gOk (b:Nat)) (gD (b:Nat))=dd at *
    generalize zz (gOk (b:Nat)) (gH (b:Nat))=l at *
    generalize zz (gOk (b:Nat)) (gI (b:Nat))=mi at *
    generalize zz (gOk (b:Nat)) (gS (b:Nat))=ss at *
    have G:=af (am (ae ac) ((a0c x1.heap.size x1).alloc (a0a _) (.cells #[.int .i64 (a:Nat),.int .i64 (b:Nat),.int .i64 (c:Nat),.int .i64 (d:Nat),.int .i64 (f:Nat),.string n,.string t] 63)));clear o1 o2 o3 o4 o5 o6 o7 an a0 R S hd Q F HE;go_wp2_with fail;refine(ae E _ (ae G)).mono ?_;rintro e x2 ⟨rfl,D⟩;have L:=af (am (ae G) D);clear D G E;cases EB
    .
     rw[show(if false=true then Value.tuple #[.agg #[.string n,.int .i64 yy,.int .i64 mo,.int .i64 dd,.int .i64 l,.int .i64 mi,.int .i64 ss,.string UT],.bool true]else .tuple #[noE,.bool false]) = .tuple #[.agg #[.string ⟨#[]⟩,.int .i64 0,.int .i64 0,.int .i64 0,.int .i64 0,.int .i64 0,.int .i64 0,.string ⟨#[]⟩],.bool false]from rfl];have y:=af (am (ae L) ((a0c x2.heap.size x2).alloc (a0a _) (.cells #[.string ⟨#[]⟩,.int .i64 0,.int .i64 0,.int .i64 0,.int .i64 0,.int .i64 0,.int .i64 0,.string ⟨#[]⟩] 32)));go_wp2
     go_ret2
     exact⟨Ac (ae o) 1 (by decide),ae y⟩
    .
     rw[show(if true=true then Value.tuple #[.agg #[.string n,.int .i64 yy,.int .i64 mo,.int .i64 dd,.int .i64 l,.int .i64 mi,.int .i64 ss,.string UT],.bool true]else .tuple #[noE,.bool false]) = .tuple #[.agg #[.string n,.int .i64 yy,.int .i64 mo,.int .i64 dd,.int .i64 l,.int .i64 mi,.int .i64 ss,.string UT],.bool true]from rfl];have y:=af (am (ae L) ((a0c x2.heap.size x2).alloc (a0a _) (.cells #[.string n,.int .i64 yy,.int .i64 mo,.int .i64 dd,.int .i64 l,.int .i64 mi,.int .i64 ss,.string UT] 32)));go_wp2
     go_ret2
     exact⟨Ac (ae o) 1 (by decide),ae y⟩
  .
   rw[a0j N]at CX;have a2:=af (Gq hz ab N);obtain⟨ha,hc,b0,_,_⟩:=l.formN (qK s k);have HW:Hid (DL wr ha k fun i=>xr (rB s i)):=by
    rw[b0]at l;intro h0;obtain⟨g,e,hg,hc⟩:=Jj Hv ⟨0,0,0,0,0,⟨#[]⟩,0⟩ (qK s k) l h0;exact⟨g,e,hg,fun i hi j u hu=>hc i hi j u (by show(xr ((hqL s k).getD i _))[j]?=_;rw[Lc s k i _ hi];exact hu)⟩
   have O:Hid (∀W,Below wr.heap.size wr W->CD 61 #[.slice ha k hc,.int .i64 (q.2.2:Nat)] W (.string (q.2.1++ec k q.2.1.size q.2.2))):=fun W hb=>by
    have:=zX ha hc k q.2.2 (rB s) W ((ae HW).later hb) d1 (Lb (ae HS) (ae I)) (by omega);rw[yk (ae I)]at this;exact this
   rw[←b0]at O;rw[←ae HE]at CX a2;have q1:=fun d os=>Calls.regrown_of (w:=wr) (d:=d) (os:=os) (ae O _ (below_regrown wr d os));have z1:((q.2.2:Nat):Int).toNat=q.2.2:=a0x _;generalize q.2.1++ec k q.2.1.size q.2.2=EN at *
   obtain⟨X,hX⟩:∃x,s.extract q.2.2 s.size=x:=⟨_,rfl⟩;rw[hX]at CX a2;obtain⟨B,hB⟩:∃b,(X.toList == EN.toList)=b:=⟨_,rfl⟩;have HB:=af hB;clear hf l U K hz ab a7 N HH HW O b0 I bb F HE;go_wp2_with fail;refine(ae CX _).mono ?_;rintro e x0 ⟨rfl,b1⟩;subst b1;clear CX;go_wp2_with fail;refine wp_region_quiet_below cp (by kernel_rfl) ?_;cases B
   all_goals
    quiet_step (fail)
    quiet_step (fail)
    quiet_step (fail)
    quiet_step (fail)
    quiet_step (fail)
    quiet_step (exact q1 _ _)
    quiet_step (fail)
    refine a1p ?_;intro zw d3;obtain⟨⟨dq,osq⟩,ct⟩:=d3;have I:=below_regrown x0 dq osq;rw[←ct]at I;have T9:=af (am (ae P) I);have O9:=af ((ae HF).later I (a0a _));clear ct I q1
   .
    have HN:Hid (bR s=none):=by show _=_;rw[ae a2,a0d (fun e=>by have:=(vC (ae HB)).2 e;cases this)]
    go_wp2
    go_ret2
    exact⟨Ac (ae HN) 1 (by decide),ae T9⟩
   .
    have HY:Hid (bR s=some q.1):=by show _=_;rw[ae a2,a0e ((vC (ae HB)).1 rfl)]
    go_wp2
    go_ret2
    exact⟨⟨_,0,rfl,fun _=>⟨_,ae HY,ae O9⟩,fun h=>absurd rfl h⟩,ae T9⟩
theorem tr.later{W:World}(a:tr w)(hb:Below w.heap.size w W):tr W:=(hb.cell (p:=⟨0,0,none⟩) (World.block_lt_of_cell? _ _ a)).trans a
theorem ir(s:ByteArray)(m:Int)(w:World)(y:s.size<=1048576)(x:w.cell? ⟨2,0,none⟩=some (.int .i64 m))(t:tr w)(r:fP w) :
  Calls prog 19 #[.string s] w fun e w'=>(∃v,e = .returned (.tuple #[v,.bool (bR s).isSome])/\ie w' w.heap.size v ((bR s).getD []))/\Below w.heap.size w w':=by
 have C:=af (Aa s m w y x r);have o:=af t;clear x t r y;go_enter func19,ntmps19;go_wp2_with fail;refine(ae C).mono ?_;rintro e x1 ⟨⟨v,c,rfl,p,q⟩,f⟩;have d:=af f;have j:=af (zW c x1 ((ae o).later f));have k:=af p;have n:=af q;clear p q f C o;generalize io c=FV at *
 go_wp2_with fail;refine(ae j).mono ?_;rintro e x2 ⟨rfl,a⟩;have g:=af (am (ae d) a);by_cases i:c=0
 .
  obtain⟨l,u,b⟩:=ae k i;have h:=af u;have z:=af (b.later a (a0a _));subst i;clear u b a j k n d;go_wp2
  go_ret2
  exact⟨⟨_,by rw[ae h];rfl,by rw[ae h];exact ae z⟩,ae g⟩
 .
  have h:=af (ae n i);have hd:decide (c=0)=false:=a0j i;clear a j k n d;go_wp2
  go_ret2
  exact⟨⟨_,by rw[ae h];rfl,by rw[ae h];exact aN.nil _ _⟩,ae g⟩
theorem Kl: ((bR s).getD []).length<=6:=by
 cases h:bR s with
 | none=>simp
 | some l=>
  obtain⟨_,q,_,rfl,a,_⟩:=jz h;exact(gW a).2
theorem sx(w:World)(base d:Nat)(hb:base<=w.heap.size)(hd:d<256):aK (w.alloc (.cells #[.int .u8 (d:Int)] 5)) base (.slice (some ⟨w.heap.size,0,none⟩) 1 1) [UInt8.ofNat d]:=by
 have h:(w.alloc (.cells #[.int .u8 (d:Int)] 5)).ownsRow base 5 1 (.slice (some ⟨w.heap.size,0,none⟩) 1 1) 1 [.int .u8 (d:Int)]:=a0P w #[.int .u8 (d:Int)] 1 hb (by unfold maxLen;omega) rfl;have e:((UInt8.ofNat d).toNat:Int)=(d:Int):=by rw[a3M];omega
 show World.ownsRow _ _ _ _ _ _ (bW [UInt8.ofNat d]);rw[show bW [UInt8.ofNat d]=[.int .u8 ((UInt8.ofNat d).toNat:Int)]from rfl,e];exact h
def encS(x:ByteArray):List Value:=[.string x]
theorem xt(x:ByteArray):(encS x).length=1:=rfl
theorem Hx(x:ByteArray):∀u∈encS x,u.oneCell'=true:=by
 intro u a;rw[encS,a1g]at a;subst a;rfl
abbrev qX:=aN (α:=ByteArray) 9 1 encS
theorem qX.cell{base g cap:Nat}{l:List ByteArray}(b:l.length=n)(h:qX w base (.slice (some ⟨g,0,none⟩) n cap) l)(i:Nat)(a:i<n):w.cell? ⟨g,i,none⟩=some (.string (l.getD i ⟨#[]⟩))/\w.frozen? ⟨g,i,none⟩=false:=by
 have:=aN.at xt ⟨#[]⟩ b h i 0 a (by omega);rw[a2l,a1H]at this;exact this
theorem qX.put{base g cap:Nat}{l:List ByteArray}(b:l.length=n)(h:qX w base (.slice (some ⟨g,0,none⟩) n cap) l)(j:Nat)(a:j<n)(x:ByteArray):qX (w.setCell ⟨g,j,none⟩ (.string x)) base (.slice (some ⟨g,0,none⟩) n cap) (l.set j x):=by
 have:=aN.put xt b h j a x;rw[a2l]at this;exact this
def goes(e f:En):Prop:=aZ e.n.data.toList f.n.data.toList=false
theorem Nz(l:List En):dS l=true<->(∀e∈l,jk e=true)/\l.Pairwise goes/\l.length<=6:=by
 rw[pE,List.pairwise_iff_getElem];have g:∀i (a:i<l.length),l.getD i default=l[i]:=fun i a=>by simp[List.getD,a]
 constructor
 .
  intro h;refine⟨fun e k=>?_,fun i j a b d=>?_,?_⟩
  . obtain⟨i,a,rfl⟩:=a2b k;have:=((fk a).1 (h i a)).1;rwa[g i a]at this
  . have:=((fk b).1 (h j b)).2.1 i d;rw[g i a,g j b]at this;exact this
  .
   rcases a1z 6 l.length with c|c
   . have:=((fk c).1 (h 6 c)).2.2;omega
   . exact c
 . rintro⟨f,h2,m⟩ i a;refine(fk a).2 ⟨by rw[g i a];exact f _ (a1A _),fun j b=>?_,by omega⟩;rw[g i a,g j (by omega)];exact h2 j i (by omega) a b
theorem MN(l:List En)(x:ByteArray):jF l x=false<->∀e∈l,aZ e.n.data.toList x.data.toList=false:=by
 unfold jF;rw[a3V];simp
theorem M3{l:List En}(h:dS l=true)(a:k<l.length):jk (l.getD k default)=true:=(gW h).1 k a
theorem Mx{l:List En}(h:bR s=some l):dS l=true:=by
 obtain⟨_,q,_,rfl,a,_⟩:=jz h;exact a
theorem My{l:List En}(h:dS l=true)(a:l.length=n):wH l=(cx l).1++(cx l).2++ec n (cx l).2.size (cx l).1.size:=by unfold wH;rw[a0e h,a]
theorem oE(l:List En):∀u∈l.flatMap iX,u.oneCell'=true:=fun u a=>by
 obtain⟨e,_,h⟩:=List.mem_flatMap.1 a;exact ik e u h
theorem Ko{l:List En}(h:dS l=true):(wH l).size=(cx l).1.size+(cx l).2.size+22:=by
 unfold wH;rw[a0e h,a0N,a0N,oF]
theorem Cm(l:List En):(wH l).size<=4000:=by
 by_cases h:dS l=true
 . rw[Ko h];obtain⟨a,h2⟩:=gW h;have:=pC l a l.length (a0a _);rw[List.take_length]at this;omega
 . unfold wH;rw[a0d h];exact a0h _
def kP(l:List En):List ByteArray:=l.map (·.n)
theorem I4(l:List En):(kP l).length=l.length:=by simp[kP]
theorem Fi(l:List En)(k:Nat)(h:k<l.length):kP (l.take (k+1))=kP (l.take k)++[(l.getD k default).n]:=by
 have e:l.take (k+1)=l.take k++[l.getD k default]:=by
  rw[a1i h]
  congr 2
  simp[List.getD,h]
 rw[e];simp[kP]
theorem Fj(l:List En)(k:Nat)(h:k<=l.length):(kP (l.take k)).length=k:=by rw[I4,a0t];omega
theorem tV(e:En)(w:World) :
  Calls prog 49 #[.agg #[.string e.n,.int .i64 e.y,.int .i64 e.mo,.int .i64 e.d,.int .i64 e.h,.int .i64 e.mi,.int .i64 e.s,.string e.t]] w fun x w'=>x = .returned (.string e.n)/\Below w.heap.size w w':=by
 have a:=af ((a0c w.heap.size w).alloc (a0a _) (.cells #[.string e.n,.int .i64 e.y,.int .i64 e.mo,.int .i64 e.d,.int .i64 e.h,.int .i64 e.mi,.int .i64 e.s,.string e.t] 32));go_enter func49,ntmps49;go_wp2;go_ret;exact⟨rfl,ae a⟩
theorem vK(a:Option Addr)(cap n:Nat)(l:List En)(w:World)(P:l.length=n)(h:lT w a l)(V:n<=6) :
  Calls prog 48 #[.slice a n cap,.func (.func 49) #[] #[]] w fun e w'=>∃v,e = .returned v/\qX w' w.heap.size v (kP l)/\Below w.heap.size w w':=by
 have X:(n:Int)<=6:=by omega
 have u:=af P;have R:=af h;clear P V h;obtain⟨i0,U,J,K,L⟩:=a0s Tryz.infoStr;go_enter func48,ntmps48;go_wp2_with fail
 go_loopw [5,7,10] (fun o _ i wr=>∃k:Nat,k<=n/\i = .int .i64 k/\qX wr w.heap.size o (kP (l.take k))/\Below w.heap.size w wr) (fun _ _ i _=>n-(intOf i).toNat)
 case atStart=>exact⟨0,a0h _,rfl,aN.nil _ _,a0c _ _⟩
 case round=>
  obtain⟨k,O,rfl,hq,b⟩:=hrel;have T:=b.size;by_cases H:k<n
  .
   obtain⟨g,o,rfl,hg,z⟩:=(ae R).later b (by have:=ae u;omega);obtain⟨c0,c1,c2,c3,c4,Y,Z,c7⟩:=z k (by have:=ae u;omega);have I:=af (Fi l k (by rw[ae u];exact H));have B:Hid ((kP (l.take k)).length=k):=Fj l k (by rw[ae u];omega);have S:=af O;clear z O;generalize l.getD k default=en at *
   have HP:=af (fun W=>tV en W);have N:Below wr.heap.size wr (wr.alloc (.cells #[.string en.n,.int .i64 en.y,.int .i64 en.mo,.int .i64 en.d,.int .i64 en.h,.int .i64 en.mi,.int .i64 en.s,.string en.t] 32)):=(a0c _ _).alloc (a0a _) _;have M:=af N;have E:=af hq;have m:=af b;clear N hq b;go_wp2_with fail;refine(ae HP _).mono ?_;rintro e x1 ⟨rfl,x⟩;have F:=am (ae M) x;have r:=aN.own (ae B) ((ae E).later F (a0a _));have c:=am (ae m) F;have p:=c.size;have j:Hid (k+1<=maxLen/\(k+1)*16<=140737488355328):=by
    show _/\_;unfold maxLen;omega
   clear E m M x F HP;go_wp2_with (at_builtin;refine a0v _ rfl _ _ 47 rfl w.heap.size 9 i0 (.string ByteArray.empty) 1 16 underlying47 U J K L rfl (by decide) _ _ _ rfl (a0k r _) ⟨x1.heap.size,0,none⟩ 1 1 (encS en.n) rfl rfl (ia x1 _ _) (Hx _) (ae j).1 (ae j).2 (av p _) ?_;intro v' x2 q f C;clear C);have G:=aI (v:=u5) f r (a0a _) p c;have D:qX x2 w.heap.size v' _:=aN.snoc (ae B) q;rw[←ae I]at D;clear q f r;go_wp2;go_roundw
   case rel=>exact⟨k+1,by have:=ae S;omega,by go_num,D,G⟩
   case measure=>simp[intOf];omega
  . have A:l.take k=l:=a0D (by rw[ae u];omega);rw[A]at hq;have E:=af hq;have Q:=af b;clear hq b A;go_wp2;go_ret;exact⟨_,rfl,ae E,ae Q⟩
theorem oN(s:ByteArray)(m:Int)(w:World)(r:s.size<=1048576)(q:w.cell? ⟨2,0,none⟩=some (.int .i64 m))(p:tr w)(o:fP w) :
  Calls prog 20 #[.string s] w fun e w'=>(∃v,e = .returned v/\qX w' w.heap.size v (kP ((bR s).getD [])))/\Below w.heap.size w w':=by
 have C:=af (ir s m w r q p o);have t:=Kl (s:=s);clear r q p o;go_enter func20,ntmps20;go_wp2_with fail;refine(ae C).mono ?_;rintro e x1 ⟨⟨v,rfl,b⟩,f⟩;have d:=af f;obtain⟨L,hL⟩:∃l,(bR s).getD []=l:=⟨_,rfl⟩;rw[hL]at b t;have u:=af hL;obtain⟨n,hn⟩:∃n,L.length=n:=⟨_,rfl⟩;obtain⟨a,c,rfl,x,_⟩:=b.formN hn;have k:=af (vK a c n L x1 hn (im hn b) (by omega));clear f C b hL x t hn;go_wp2_with fail;refine(ae k).mono ?_;rintro e x2 ⟨v2,rfl,h,g⟩;have i:=af (am (ae d) g);have j:=af (h.mono (base':=w.heap.size) (ae d).size);clear h g k;go_wp2;go_ret;exact⟨⟨_,rfl,by rw[ae u];exact ae j⟩,ae i⟩
def qu(ns:List ByteArray)(x:ByteArray):Bool:=ns.any fun y=>y.data.toList == x.data.toList
theorem La{ns:List ByteArray}{x:ByteArray}{k:Nat}(a:k<ns.length)(e:(ns.getD k ⟨#[]⟩).toList=x.toList):qu ns x=true:=by
 unfold qu;rw[List.any_eq_true];refine⟨ns[k],a1A _,?_⟩;have:=bY.1 e;simp only[List.getD,List.getElem?_eq_getElem a,a1q]at this;simpa using this
theorem M6{ns:List ByteArray}{x:ByteArray}(h:∀j,j<ns.length->¬ (ns.getD j ⟨#[]⟩).toList=x.toList):qu ns x=false:=by
 unfold qu;rw[a3V];intro y b e;obtain⟨j,a,rfl⟩:=a2b b;have:=h j a;simp only[List.getD,List.getElem?_eq_getElem a,a1q]at this;exact this (bY.2 (by simpa using e))
theorem D6(a:Option Addr)(cap n base:Nat)(ns:List ByteArray)(x:ByteArray)(w:World)(s:ns.length=n)(h:qX w base (.slice a n cap) ns)(B:n<=100) :
  Calls prog 22 #[.slice a n cap,.string x] w fun e w'=>e = .returned (.bool (qu ns x))/\w'=w:=by
 have t:=af (fun k (r:k<ns.length)=>@La ns x k r);have u:=af (@M6 ns x);have y:=af h;rw[s]at t u;have v:=af s;have C:(n:Int)<=100:=by omega
 generalize qu ns x=hb at *
 clear h s B;go_enter func22,ntmps22;go_wp2_with fail
 go_loop [5] (fun i=>∃k:Nat,k<=n/\i = .int .i64 k/\∀j,j<k->¬ (ns.getD j ⟨#[]⟩).toList=x.toList) (fun i=>n-(intOf i).toNat)
 case atStart=>exact⟨0,a0h _,rfl,fun j z=>absurd z (by omega)⟩
 case round=>
  obtain⟨k,r,rfl,c⟩:=hrel;have b:=af c;clear c;by_cases d:k<n
  .
   have A:(k:Int)<(n:Int):=by omega
   obtain⟨g,rfl⟩:=(ae y).somes (by rw[ae v];omega);obtain⟨c0,_⟩:=qX.cell (ae v) (ae y) k d;have m:=af (ae t k d);have o:Hid (¬ (ns.getD k ⟨#[]⟩).toList=x.toList->∀j,j<k+1->¬ (ns.getD j ⟨#[]⟩).toList=x.toList):=by
    intro e j z;by_cases q:j=k
    . rw[q];exact e
    . exact ae b j (by omega)
   have l:=af d;clear r b;generalize ns.getD k ⟨#[]⟩=p at *
   by_cases e:p.toList=x.toList
   . have f:=af (ae m e);go_wp2;go_ret;exact⟨by rw[ae f];rfl,rfl⟩
   .
    have f:=af (ae o e);have eB:(p.toList == x.toList)=false:=by simp only[a03,ne_eq];exact e
    go_wp2
    go_round
    case rel=>exact⟨k+1,by have:=ae l;omega,by go_num,ae f⟩
    case measure=>have:=ae l;simp[intOf];omega
  .
   obtain rfl:k=n:=by omega
   have f:=af (ae u (ae b));go_wp2;go_ret;exact⟨by rw[ae f];rfl,rfl⟩
end Go.Proofs.YtkdlcomfpffhhaaGreatDoor
