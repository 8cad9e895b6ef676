/- Of what the proof is made: 14 texts, one behind the other. -/
import Derived.Test.YtchidddpplangaaGreatDoorM39
import Derived.Test.YtchidddpplangaaGreatDoorM38
import Derived.Test.YtchidddpplangaaGreatDoorM3
import Derived.Test.YtchidddpplangaaGreatDoorM28
import Derived.Test.YtchidddpplangaaGreatDoorM40
import Derived.Test.YtchidddpplangaaGreatDoorM20
import Derived.Lib.QuietBelow
import Derived.Deep.QuietTactic
import Derived.BigQuiet
import Derived.Test.YtchidddpplangaaGreatDoorM32
import Derived.Test.YtchidddpplangaaGreatDoorM31
import Derived.Test.YtchidddpplangaaGreatDoorM37
set_option maxRecDepth 100000
set_option linter.unusedSimpArgs false
set_option linter.unusedVariables false
set_option maxHeartbeats 12800000
namespace Go.Proofs.YtchidddpplangaaGreatDoor
open Go.Proofs.Tryz
open Corb
variable {T c s x y:ByteArray}{b i k m:Nat}{u:List UInt8}{w w':World}
def sub(s:ByteArray)(p:Nat):ByteArray:=s.extract p s.size
theorem gB(s:ByteArray)(p:Nat):(sub s p).data.toList=s.data.toList.drop p:=by
 rw[sub,ext_list];exact a0u (by simp)
theorem iJ(s:ByteArray)(p:Nat):(sub s p).size=s.size-p:=by
 rw[sub,a2Q];omega
def pn(s:ByteArray):Nat:=30+wd s.data.toList 26 2+wd s.data.toList 18 4
def enO(s T:ByteArray):En:=⟨nmB s,gY (wd s.data.toList 10 4:Nat),gM (wd s.data.toList 10 4:Nat),gD (wd s.data.toList 10 4:Nat),gH (wd s.data.toList 10 4:Nat),gI (wd s.data.toList 10 4:Nat),gS (wd s.data.toList 10 4:Nat),T⟩
def ctO(s:ByteArray)(p:Nat):ByteArray:=jM (wd s.data.toList 8 2) (wd s.data.toList 10 4) (wd s.data.toList 14 4) (wd s.data.toList 18 4) (wd s.data.toList 22 4) (nmB s) p
theorem kE(h:iI s=some T):hdB s=true/\gV (enO s T)=true:=by
 unfold iI at h
 split at h
 .
  rename_i h0;refine⟨h0,?_⟩
  split at h
  .
   split at h
   .
    rename_i h2;cases h
    simp only[NU,a0n]at h2;exact h2.2.2
   . cases h
  . cases h
 . cases h
def zst(s:ByteArray):Nat->Option (List En×ByteArray×Nat)
 | 0=>some ([],⟨#[]⟩,0)
 | i+1=>(zst s i).bind fun q=>(iI (sub s q.2.2)).map fun T=>(q.1++[enO (sub s q.2.2) T],q.2.1++ctO (sub s q.2.2) q.2.2,q.2.2+pn (sub s q.2.2))
theorem sK{q:List En×ByteArray×Nat}(h:zst s i=some q)(a:iI (sub s q.2.2)=some T) :
  zst s (i+1)=some (q.1++[enO (sub s q.2.2) T],q.2.1++ctO (sub s q.2.2) q.2.2,q.2.2+pn (sub s q.2.2)):=by
 rw[zst,h,a0f,a,a3R]
theorem Ou{q:List En×ByteArray×Nat}(h:zst s i=some q)(a:iI (sub s q.2.2)=none):zst s (i+1)=none:=by
 rw[zst,h,a0f,a,Option.map_none]
theorem Ci{s:ByteArray}{i:Nat}(h:zst s i=none):∀m,i<=m->zst s m=none
 | 0,hm=>by
  have:i=0:=by omega
  rw[←this];exact h
 | m+1,hm=>by
  by_cases e:i=m+1
  . rw[←e];exact h
  . rw[zst,Ci h m (by omega)];rfl
theorem gG{q:List En×ByteArray×Nat}(h:zst s (i+1)=some q):∃r T,zst s i=some r/\iI (sub s r.2.2)=some T/\q=(r.1++[enO (sub s r.2.2) T],r.2.1++ctO (sub s r.2.2) r.2.2,r.2.2+pn (sub s r.2.2)):=by
 rw[zst]at h;rcases b:zst s i with _|r
 . rw[b]at h;cases h
 .
  rw[b,a0f]at h;rcases a:iI (sub s r.2.2)with _|T
  . rw[a]at h;cases h
  .
   rw[a,a3R]at h;cases h
   exact⟨r,T,rfl,a,rfl⟩
theorem ug(h:iI s=some T):pn s<=s.size:=(li.1 (kE h).1).2.2
theorem ip{s:ByteArray} : ∀{i:Nat} {q:List En×ByteArray×Nat},zst s i=some q->q.1.length=i/\q.2.2<=s.size/\(∀e∈q.1,gV e=true)/\(q.2.1=⟨#[]⟩∨q.2.1.data.toList.take 4=[80,75,1,2])/\q.2.1.size<=100*i
 | 0,q,h=>by cases h;exact⟨rfl,a0g _,(fun e a=>by cases a),.inl rfl,a0g _⟩
 | i+1,q,h=>by
  obtain⟨r,T,c,h2,rfl⟩:=gG h;obtain⟨a1,a2,a3,a4,a5⟩:=ip c;have f:=ug h2;rw[iJ]at f;have b:=(kE h2).2;have g:=(du (n:=(enO (sub s r.2.2) T).n) (t:=(enO (sub s r.2.2) T).t) b).1;have d:(ctO (sub s r.2.2) r.2.2).size=46+(nmB (sub s r.2.2)).size:=gU _ _ _ _ _ _ _;have j:(nmB (sub s r.2.2)).size<=43:=g;refine⟨by simp[a1],?_,?_,?_,?_⟩
  . show r.2.2+pn (sub s r.2.2)<=s.size;omega
  .
   intro e a;rcases a0T.1 a with a|a
   . exact a3 e a
   . rw[a07.1 a];exact b
  .
   refine .inr ?_;show(r.2.1++ctO (sub s r.2.2) r.2.2).data.toList.take 4=_;have e0:(ctO (sub s r.2.2) r.2.2).data.toList.take 4=[80,75,1,2]:=by simp[ctO,jM]
   rcases a4 with e|e
   . rw[e];simpa using e0
   .
    have:4<=r.2.1.data.toList.length:=by
     have:=congrArg List.length e;rw[a0s]at this;simp at this ⊢;omega
    simp only[a2f,a1L];rw[a13 this];exact e
  . show(r.2.1++ctO (sub s r.2.2) r.2.2).size<=_;rw[a0R,d];omega
theorem kS{s:ByteArray}{k:Nat} : ∀{m:Nat} {q:List En×ByteArray×Nat},zst s m=some q->k<=m->∃r,zst s k=some r/\r.1=q.1.take k
 | 0,q,h,hk=>by
  have:k=0:=by omega
  subst this;exact⟨q,h,by cases h;rfl⟩
 | m+1,q,h,hk=>by
  by_cases e:k=m+1
  . subst e;exact⟨q,h,by rw[a0u (by rw[(ip h).1];exact a0a _)]⟩
  . obtain⟨r,T,a,h2,rfl⟩:=gG h;obtain⟨d,b,c⟩:=kS a (by omega:k<=m);refine⟨d,b,?_⟩;rw[c];show _=(r.1++_).take k;rw[a13 (by rw[(ip a).1];omega)]
theorem rB(h:iI s=some T):s.data.toList.take 4=[80,75,3,4]:=by
 obtain⟨a,h2,_⟩:=li.1 (kE h).1;simp only[oa,a0n,a0w]at h2;have b:30<=s.data.toList.length:=by simpa using a
 have:=(rR (l:=s.data.toList) (i:=0) (k:=4) (by omega) (by decide)).1 h2.1;rw[a2k]at this;rw[this];decide +kernel
theorem vO(k z p:Nat):(dF k z p).data.toList=[80,75,5,6]++(leS 2 0++(leS 2 0++(leS 2 k++(leS 2 k++(leS 4 z++(leS 4 p++leS 2 0)))))):=by
 simp[dF,aw]
theorem E8(k z p:Nat)(a:c=⟨#[]⟩∨c.data.toList.take 4=[80,75,1,2]):(c++dF k z p).data.toList.take 4≠[80,75,3,4]:=by
 simp only[a2f,a1L];rcases a with e|e
 . rw[e,vO];simp
 .
  have:4<=c.data.toList.length:=by
   have:=congrArg List.length e;rw[a0s]at this;simp at this ⊢;omega
  rw[a13 this,e];decide
theorem Jp{z p q:Nat}(h:sub s p=c++dF k z q)(e:k<65536):22<=s.size/\wd s.data.toList (s.size-12) 2=k:=by
 have d:s.size-p=c.size+22:=by rw[←iJ,h,a0R,p6]
 refine⟨by omega,?_⟩;have h2:s.data.toList=(s.data.toList.take p++(c.data.toList++([80,75,5,6]++(leS 2 0++(leS 2 0++leS 2 k)))))++(leS 2 k++(leS 4 z++(leS 4 q++leS 2 0))):=by
  have:s.data.toList.drop p=(c++dF k z q).data.toList:=by rw[←gB,h]
  conv=>lhs;rw[←a1n p s.data.toList,this]
  simp only[a2f,a1L,vO,a0L]
 have a:(s.data.toList.take p++(c.data.toList++([80,75,5,6]++(leS 2 0++(leS 2 0++leS 2 k))))).length=s.size-12:=by
  simp only[a0j,a0s,aF];have e1:s.data.toList.length=s.size:=by simp
  have e2:c.data.toList.length=c.size:=by simp
  rw[e1,e2];simp;omega
 rw[h2];have:=Oo (b:=leS 2 k++(leS 4 z++(leS 4 q++leS 2 0))) (i:=0) 2 a;rw[a1J]at this;rw[this];exact Nm _ (by omega)
def dU(s:ByteArray):Option (List En):=
 if 12<=s.size/\wd s.data.toList (s.size-12) 2<=6 then
  (match zst s (wd s.data.toList (s.size-12) 2)with
  | some q=>if dm q.1=true/\sub s q.2.2=q.2.1++dF (wd s.data.toList (s.size-12) 2) q.2.1.size q.2.2 then some q.1 else none
  | none=>none)
 else none
theorem ny{l:List En}(h:dU s=some l):∃m q,zst s m=some q/\l=q.1/\dm q.1=true/\sub s q.2.2=q.2.1++dF m q.2.1.size q.2.2:=by
 unfold dU at h
 split at h
 .
  split at h
  .
   rename_i q hq
   split at h
   .
    rename_i h2;cases h
    exact⟨_,q,hq,rfl,h2.1,h2.2⟩
   . cases h
  . cases h
 . cases h
theorem LM{q:List En×ByteArray×Nat}(h:zst s m=some q)(b:dm q.1=true)(a:sub s q.2.2=q.2.1++dF m q.2.1.size q.2.2):dU s=some q.1:=by
 have c:=(jf b).2;have d:=(ip h).1;obtain⟨e1,e2⟩:=Jp a (by omega);unfold dU;rw[a0e ⟨by omega,by omega⟩,e2,h];simp only;rw[a0e ⟨b,a⟩]
theorem wR{q r:List En×ByteArray×Nat}(d:zst s k=some q)(b:zst s m=some r)(c:sub s r.2.2=r.2.1++dF m r.2.1.size r.2.2):k<=m:=by
 rcases a1k m k with h|h
 .
  exfalso;obtain⟨x,e,_⟩:=kS d (by omega:m+1<=k);obtain⟨y,T,a,h2,_⟩:=gG e;rw[b]at a;cases a
  have:=rB h2;rw[c]at this;exact E8 _ _ _ (ip b).2.2.2.1 this
 . exact h
theorem IF{q:List En×ByteArray×Nat}(b:zst s k=some q)(i:dm q.1=true)(f:(sub s q.2.2).data.toList.take 4≠[80,75,3,4]) :
  dU s=if sub s q.2.2=q.2.1++dF k q.2.1.size q.2.2 then some q.1 else none:=by
 split
 . rename_i he;exact LM b i he
 .
  rename_i he;rcases h:dU s with _|l
  . rfl
  .
   exfalso;obtain⟨m,r,a,h2,j,c⟩:=ny h;have d:=wR b a c;by_cases e:k=m
   .
    subst e;rw[b]at a;cases a
    exact he c
   .
    obtain⟨x,g,_⟩:=kS a (by omega:k+1<=m);obtain⟨y,T,y1,y2,_⟩:=gG g;rw[b]at y1;cases y1
    exact f (rB y2)
theorem Cd{q:List En×ByteArray×Nat}(c:zst s k=some q)(o:(sub s q.2.2).data.toList.take 4=[80,75,3,4])(p:∀T,iI (sub s q.2.2)=some T->dm (q.1++[enO (sub s q.2.2) T])=false):dU s=none:=by
 rcases h:dU s with _|l
 . rfl
 .
  exfalso;obtain⟨m,r,b,h2,f,g⟩:=ny h;have u:=wR c b g;by_cases e:k=m
  .
   subst e;rw[c]at b;cases b
   rw[g]at o;exact E8 _ _ _ (ip c).2.2.2.1 o
  .
   obtain⟨x,v,d⟩:=kS b (by omega:k+1<=m);obtain⟨y,T,y1,y2,y3⟩:=gG v;rw[c]at y1;cases y1
   have j:=p T y2;have n:dm (r.1.take (k+1))=true:=by
    rw[nz]at f ⊢;intro i t;have a:i<k+1/\i<r.1.length:=by rw[a0s]at t;omega
    have:=f i a.2;unfold iV at this ⊢;rw[nu r.1 (k+1) i a.1,a3e,a1h (by omega)];exact this
   rw[←d,y3]at n;rw[n]at j;cases j
def hqO(x:ByteArray)(p:Nat):Hq:=⟨wd x.data.toList 8 2,wd x.data.toList 10 4,wd x.data.toList 14 4,wd x.data.toList 18 4,wd x.data.toList 22 4,nmB x,p⟩
def tq(s:ByteArray)(k:Nat):Hq:=match zst s k with
 | some q=>hqO (sub s q.2.2) q.2.2
 | none=>hqO ⟨#[]⟩ 0
def hqL(s:ByteArray)(n:Nat):List Hq:=(List.range n).map (tq s)
theorem sw(s:ByteArray)(n:Nat):(hqL s n).length=n:=by simp[hqL]
theorem JM(s:ByteArray)(n:Nat):hqL s (n+1)=hqL s n++[tq s n]:=by simp[hqL,a3I]
theorem Ms(s:ByteArray)(n i:Nat)(d:Hq)(h:i<n):(hqL s n).getD i d=tq s i:=by simp[hqL,List.getD,h]
theorem xR{q:List En×ByteArray×Nat}(h:zst s k=some q):tq s k=hqO (sub s q.2.2) q.2.2:=by
 unfold tq;rw[h]
theorem Al{s:ByteArray} : ∀{k:Nat} {q:List En×ByteArray×Nat},zst s k=some q->eW (tq s) k=q.2.1
 | 0,q,h=>by cases h;rfl
 | k+1,q,h=>by
  obtain⟨r,T,a,h2,rfl⟩:=gG h;rw[eW,Al a,xR a];rfl
theorem Mr(j:s.size<=1048576){q:List En×ByteArray×Nat}(h:zst s k=some q):∀i,i<k->okQ (tq s i):=by
 intro i f;obtain⟨x,e,_⟩:=kS h (by omega:i+1<=k);obtain⟨r,T,a,h2,_⟩:=gG e;rw[xR a];have b:=(kE h2).2;have c:=(du (n:=(enO (sub s r.2.2) T).n) (t:=(enO (sub s r.2.2) T).t) b).1;have d:(nmB (sub s r.2.2)).size<=43:=c;have g:=(ip a).2.1;exact⟨iS _ _,eQ _ _,eQ _ _,eQ _ _,eQ _ _,by show(nmB (sub s r.2.2)).size<=54;omega,by show r.2.2<4294967296;omega⟩
theorem FO(l:List En)(e:En)(i:Nat)(a:i<l.length):iV (l++[e]) i=iV l i:=by
 unfold iV;rw[a13 (by omega)]
 congr 1
 simp only[List.getD];rw[List.getElem?_append_left a]
theorem vH(l:List En)(e:En):iV (l++[e]) l.length=bW l e:=by
 unfold iV;rw[a13 (a0a _),a0u (a0a _)]
 congr 1
 simp[List.getD]
theorem wQ{l:List En}(h:dm l=true)(e:En):dm (l++[e])=true<->bW l e=0:=by
 rw[nz]at h ⊢;constructor
 . intro k;have:=k l.length (by simp);rw[vH]at this;exact this
 .
  intro k i b;by_cases a:i<l.length
  . rw[FO l e i a];exact h i a
  .
   have:i=l.length:=by simp at b;omega
   rw[this,vH];exact k
theorem Kj(s:ByteArray):Lib.hasPrefix s.data.toList [80,75,3,4]=decide (s.data.toList.take 4=[80,75,3,4]):=by
 rw[a2a,a0w];unfold Lib.hasPrefix;rw[List.isPrefixOf_iff_prefix,List.prefix_iff_eq_take];exact eq_comm
theorem Io{v:List UInt8}{n:Nat}(h:30<=v.length)(a:oa v=true)(d:n=wd v 26 2):(er (wd v 8 2) (wd v 10 4) (wd v 14 4) (wd v 18 4) (wd v 22 4) n).data.toList=(v.drop 4).take 26:=by
 have st:∀i k m,(v.drop i).take (k+m)=(v.drop i).take k++(v.drop (i+k)).take m:=fun i k m=>by rw[a3d,a1R]
 simp only[oa,a0n,a0w]at a;obtain⟨_,b,h2,c⟩:=a;have e1:=(rR (l:=v) (i:=4) (k:=2) (by omega) (by decide)).1 b;have e2:=(rR (l:=v) (i:=6) (k:=2) (by omega) (by decide)).1 h2;have e3:=(rR (l:=v) (i:=28) (k:=2) (by omega) (by decide)).1 c;have e:(er (wd v 8 2) (wd v 10 4) (wd v 14 4) (wd v 18 4) (wd v 22 4) n).data.toList=leS 2 20++(leS 2 0++(leS 2 (wd v 8 2)++(leS 4 (wd v 10 4)++(leS 4 (wd v 14 4)++(leS 4 (wd v 18 4)++(leS 4 (wd v 22 4)++(leS 2 n++leS 2 0))))))):=by
  unfold er aw;simp
 rw[e,d,←e1,←e2,im (i:=8) (k:=2) (by omega),im (i:=10) (k:=4) (by omega),im (i:=14) (k:=4) (by omega),im (i:=18) (k:=4) (by omega),im (i:=22) (k:=4) (by omega),im (i:=26) (k:=2) (by omega)]
 conv=>lhs;rhs;rhs;rhs;rhs;rhs;rhs;rhs;rhs;rw[e2,←e3]
 rw[←st 26 2 2,←st 22 4 _,←st 18 4 _,←st 14 4 _,←st 10 4 _,←st 8 2 _,←st 6 2 _,←st 4 2 _]
def rZ(u v:List UInt8)(own:Nat):Prop:=30<=u.length/\46+wd u 28 2<=u.length/\30+wd u 28 2<=v.length/\((u.drop 6).take 26=(v.drop 4).take 26/\(u.drop 46).take (wd u 28 2)=(v.drop 30).take (wd u 28 2))/\(u.take 6=leS 4 33639248++leS 2 20/\(u.drop 32).take 14=List.replicate 10 0++leS 4 own)
theorem Jb(own:Nat)(h:hdB x=true):(ctO x own).data.toList=(leS 4 33639248++leS 2 20)++((x.data.toList.drop 4).take 26++((List.replicate 10 0++leS 4 own)++(x.data.toList.drop 30).take (wd x.data.toList 26 2))):=by
 obtain⟨a,h2,c⟩:=li.1 h;have b:30<=x.data.toList.length:=by simpa using a
 have e:=Io b h2 (kG (s:=x) (by omega));have e0:leS 4 33639248=[80,75,1,2]:=by decide +kernel
 rw[e0,←e,←AE];unfold ctO jM aw;simp[List.replicate]
theorem qC{v:List UInt8}(h:(u.drop 6).take 26=(v.drop 4).take 26):wd u 28 2=wd v 26 2:=by
 have e1:((u.drop 6).take 26).drop 22=(u.drop 28).take 4:=by rw[a3P,a1R]
 have e2:((v.drop 4).take 26).drop 22=(v.drop 26).take 4:=by rw[a3P,a1R]
 have e3:(u.drop 28).take 4=(v.drop 26).take 4:=by rw[←e1,←e2,h]
 have e4:(u.drop 28).take 2=(v.drop 26).take 2:=by
  have:=congrArg (List.take 2) e3;rwa[a3e,a3e]at this
 unfold wd;rw[e4]
theorem Mz(own:Nat)(h:hdB x=true):rZ u x.data.toList own<->u.take (46+wd x.data.toList 26 2)=(ctO x own).data.toList:=by
 obtain⟨g,h2,j⟩:=li.1 h;have d:30+wd x.data.toList 26 2<=x.data.toList.length:=by
  have:x.data.toList.length=x.size:=by simp
  omega
 have st:∀i k m,(u.drop i).take (k+m)=(u.drop i).take k++(u.drop (i+k)).take m:=fun i k m=>by rw[a3d,a1R]
 have eu:∀n,u.take (46+n)=u.take 6++((u.drop 6).take 26++((u.drop 32).take 14++(u.drop 46).take n)):=fun n=>by
  rw[←st 32 14 n,←st 6 26 _];have:=st 0 6 (26+(14+n));rw[a2k,a0G]at this;rw[←this]
  congr 1;omega
 rw[Jb own h];have l1:(leS 4 33639248++leS 2 20).length=6:=by simp[aF]
 have l2:((x.data.toList.drop 4).take 26).length=26:=ff (by omega);have l3:(List.replicate 10 (0:UInt8)++leS 4 own).length=14:=by simp[aF]
 have l4:((x.data.toList.drop 30).take (wd x.data.toList 26 2)).length=wd x.data.toList 26 2:=ff d;constructor
 . rintro⟨c0,c1,c2,⟨s1,s2⟩,b,c⟩;have a:=qC s1;rw[a]at s2;rw[eu,b,s1,c,s2]
 .
  intro e;have f:=congrArg List.length e;have m1:=l1;have m3:=l3;simp only[a0j]at f m1 m3;rw[a0s,l2,l4]at f;have l:46+wd x.data.toList 26 2<=u.length:=by omega
  rw[eu]at e;obtain⟨b,e⟩:=a14 e (by rw[l1,a0s];omega);obtain⟨s1,e⟩:=a14 e (by rw[l2,a0s,a04];omega);obtain⟨c,s2⟩:=a14 e (by rw[l3,a0s,a04];omega);have a:=qC s1;exact⟨by omega,by omega,by rw[a];exact d,⟨s1,by rw[a];exact s2⟩,b,c⟩
theorem Fz{s:ByteArray}{k:Nat}{r:List En×ByteArray×Nat}(a:zst s k=some r):∀{m:Nat} {q:List En×ByteArray×Nat},zst s m=some q->k<=m->∃x,q.2.1.data.toList=r.2.1.data.toList++x
 | 0,q,h,hkm=>by
  have:k=0:=by omega
  subst this;rw[a]at h;cases h;exact⟨[],by simp⟩
 | m+1,q,h,hkm=>by
  by_cases e:k=m+1
  . subst e;rw[a]at h;cases h;exact⟨[],by simp⟩
  .
   obtain⟨y,T,b,h2,rfl⟩:=gG h;obtain⟨x,c⟩:=Fz a b (by omega);exact⟨x++(ctO (sub s y.2.2) y.2.2).data.toList,by
    show(y.2.1++ctO (sub s y.2.2) y.2.2).data.toList=_;simp only[a2f,a1L];rw[c,a0L]⟩
def preB(s c:ByteArray)(A:Nat):Prop:=(s.data.toList.drop A).take c.size=c.data.toList
theorem Be{A:Nat}{r:List En×ByteArray×Nat}(d:iI (sub s r.2.2)=some T)(a:preB s r.2.1 A) :
  rZ (s.data.toList.drop (A+r.2.1.size)) (s.data.toList.drop r.2.2) r.2.2<->preB s (r.2.1++ctO (sub s r.2.2) r.2.2) A:=by
 have b:=(kE d).1;have c:(ctO (sub s r.2.2) r.2.2).size=46+wd (sub s r.2.2).data.toList 26 2:=by
  have:(ctO (sub s r.2.2) r.2.2).size=46+(nmB (sub s r.2.2)).size:=gU _ _ _ _ _ _ _;rw[this,kG (by have:=(li.1 b).2.2;omega)]
 have:=Mz (u:=s.data.toList.drop (A+r.2.1.size)) r.2.2 b;rw[gB]at this;rw[this];unfold preB;have st:(s.data.toList.drop A).take (r.2.1.size+(46+wd (s.data.toList.drop r.2.2) 26 2))=(s.data.toList.drop A).take r.2.1.size++(s.data.toList.drop (A+r.2.1.size)).take (46+wd (s.data.toList.drop r.2.2) 26 2):=by rw[a3d,a1R]
 rw[gB]at c;rw[a0R,c,st];unfold preB at a;simp only[a2f,a1L];constructor
 . intro e;rw[a,e]
 . intro e;rw[a]at e;exact a2g e
theorem pP{s:ByteArray}{m:Nat}(a:12<=s.size)(b:wd s.data.toList (s.size-12) 2=m)(c:m<=6):dU s=match zst s m with
  | some q=>if dm q.1=true/\sub s q.2.2=q.2.1++dF m q.2.1.size q.2.2 then some q.1 else none
  | none=>none:=by
 unfold dU
 (rw[a0e ⟨a,by omega⟩,b])<;>(rcases zst s m with _|q<;>rfl)
theorem Ce(h:¬ (12<=s.size/\wd s.data.toList (s.size-12) 2<=6)):dU s=none:=a0d h
theorem IE{q r:List En×ByteArray×Nat}(a:12<=s.size)(f:wd s.data.toList (s.size-12) 2=m)(d:m<=6)(hq:zst s m=some q)(l:i<m)(j:zst s i=some r)(b:iI (sub s r.2.2)=some T)(h:preB s r.2.1 q.2.2)
  (g:¬ rZ (s.data.toList.drop (q.2.2+r.2.1.size)) (s.data.toList.drop r.2.2) r.2.2):dU s=none:=by
 rw[pP a f d,hq];simp only;rw[a0d];rintro⟨_,e⟩;apply g;rw[Be b h];obtain⟨x,k⟩:=Fz (sK j b) hq (by omega);have c:s.data.toList.drop q.2.2=q.2.1.data.toList++(dF m q.2.1.size q.2.2).data.toList:=by
  rw[←gB,e];simp
 unfold preB;rw[c,k,a0L];simp only;rw[a13 (by simp),a0u (by simp)]
theorem LK{q:List En×ByteArray×Nat}(b:12<=s.size)(f:wd s.data.toList (s.size-12) 2=m)(e:m<=6)(hq:zst s m=some q)(g:dm q.1=true)(d:preB s q.2.1 q.2.2) :
  dU s=if sub s (q.2.2+q.2.1.size)=dF m q.2.1.size q.2.2 then some q.1 else none:=by
 rw[pP b f e,hq];simp only;have:(dm q.1=true/\sub s q.2.2=q.2.1++dF m q.2.1.size q.2.2)<->sub s (q.2.2+q.2.1.size)=dF m q.2.1.size q.2.2:=by
  have e1:s.data.toList.drop q.2.2=q.2.1.data.toList++s.data.toList.drop (q.2.2+q.2.1.size):=by
   conv=>lhs;rw[←a1n q.2.1.size (s.data.toList.drop q.2.2)]
   rw[a1R];unfold preB at d;rw[d]
  constructor
  . rintro⟨_,c⟩;apply kV;have e2:=congrArg (fun x:ByteArray=>x.data.toList) c;simp only[gB,a2f,a1L]at e2;rw[e1]at e2;rw[gB];exact a2g e2
  . intro c;refine⟨g,kV ?_⟩;rw[gB,e1];simp only[a2f,a1L];rw[←c,gB]
 by_cases a:sub s (q.2.2+q.2.1.size)=dF m q.2.1.size q.2.2
 . rw[a0e (this.2 a),a0e a]
 . rw[a0d (fun h=>a (this.1 h)),a0d a]
open Go.RowKit
theorem D4{n t:ByteArray}{y mo d h mi c k:Int}(a:po x = .tuple #[.agg #[.string n,.int .i64 y,.int .i64 mo,.int .i64 d,.int .i64 h,.int .i64 mi,.int .i64 c,.string t],.int .i64 k,.bool true]) :
  ∃T,iI x=some T/\enO x T=⟨n,y,mo,d,h,mi,c,t⟩/\k=((pn x:Nat):Int):=by
 unfold po at a;rcases b:iI x with _|T
 . rw[b]at a;simp at a
 .
  rw[b]at a;simp only[GH,Value.tuple.injEq,Array.mk.injEq,List.cons.injEq,Value.agg.injEq,Value.string.injEq,Value.int.injEq,true_and,a0P]at a;obtain⟨⟨e0,e1,e2,e3,e4,e5,e6,e7⟩,e8⟩:=a;refine⟨T,rfl,?_,?_⟩
  . unfold enO;rw[e0,e1,e2,e3,e4,e5,e6,e7]
  . rw[←e8];rfl
theorem KV(a:po x = .tuple #[noE,.int .i64 0,.bool false]):iI x=none:=by
 unfold po at a;rcases b:iI x with _|T
 . rfl
 . rw[b]at a;simp at a
theorem OE(w:World)(base:Nat)(hb:base<=w.heap.size):gQ (w.alloc (.cells #[] 31)) base (.slice (some ⟨w.heap.size,0,none⟩) 0 0) []:=a05 w #[] 0 hb (by unfold maxLen;omega) rfl
theorem Gu(s:ByteArray)(m:Nat)(w:World)(hs:s.size<=1048576)(hm:m<=6) :
  Calls prog 25 #[.string s,.int .i64 (m:Nat)] w fun e w'=>(∃(v:Value) (p:Nat) (ok:Bool),e = .returned (.tuple #[v,.int .i64 (p:Nat),.bool ok])/\(ok=true->∃q,zst s m=some q/\p=q.2.2/\gQ w' w.heap.size v q.1)/\(ok=false->zst s m=none))/\Below w.heap.size w w':=by
 have al:(m:Int)<=6:=by omega
 have a0:(s.size:Int)<=1048576:=by omega
 have HS:=ae hs;have Hm:=ae hm;have I:Hid (gQ (w.alloc (.cells #[] 31)) w.heap.size (.slice (some ⟨w.heap.size,0,none⟩) 0 0) []):=OE _ _ (a0a _);have F:Hid (Below w.heap.size w (w.alloc (.cells #[] 31))):=(a0c _ _).alloc (a0a _) _;obtain⟨i0,hi,Y,Z,aa⟩:=a0o Tryz.infoEnt;clear hs hm;go_enter func25,ntmps25;go_wp2_with fail
 go_loopw [7,8,9,10,11,12] (fun v a i _ _ _ wr=>∃(k:Nat) (q:List En×ByteArray×Nat),k<=m/\i = .int .i64 k/\zst s k=some q/\a = .int .i64 (q.2.2:Nat)/\gQ wr w.heap.size v q.1/\Below w.heap.size w wr) (fun _ _ i _ _ _ _=>m-(intOf i).toNat)
 case atStart=>exact⟨0,([],⟨#[]⟩,0),a0g _,rfl,rfl,rfl,ab I,ab F⟩
 case round=>
  obtain⟨k,q,hk,rfl,N,rfl,hq,g⟩:=hrel;clear I F;by_cases ad:k<m
  .
   have r:=ip N;have an:(q.2.2:Int)<=(s.size:Int):=by have:=r.2.1;omega
   have HL:=ae r.1;have K:(sub s q.2.2).size<=1048576:=by rw[iJ];have:=ab HS;omega
   have O:=ae (fun W=>tU (sub s q.2.2) W K);have E:=ae hq;have b:=ae g;have HK:=ae hk;have HZ:=ae N;clear K r hq g hk N;go_wp2_with fail;refine(ab O wr).mono ?_;rintro e x1 ⟨⟨n,y,mo,d,h,mi,c,t,kk,ok,rfl,M⟩,u⟩;have D:=ae (ai (ab b) u);have L:Hid (Below x1.heap.size x1 (x1.alloc (.cells #[.string n,.int .i64 y,.int .i64 mo,.int .i64 d,.int .i64 h,.int .i64 mi,.int .i64 c,.string t] 31))):=(a0c _ _).alloc (a0a _) _;cases ok
   .
    have P:=ae (Ci (Ou (ab HZ) (KV M)) m (by omega));have B:=ae (ai (ab D) (ab L));clear M u O E b L;go_wp2
    go_ret3
    exact⟨⟨_,_,false,rfl,(fun h=>by cases h),fun _=>ab P⟩,ab B⟩
   .
    obtain⟨T,U,hE,rfl⟩:=D4 M;have C:=sK (ab HZ) U;have hf:=ug U;rw[iJ]at hf;rw[hE]at C;have R:=ae C;have ac:(q.2.2:Int)+((pn (sub s q.2.2):Nat):Int)<=(s.size:Int):=by omega
    have V:=ai u (ab L);have z:=bX.own (ab HL) ((ab E).later V (a0a _));have f:=ai (ab b) V;have j:=f.size;have o:Hid (k+1<=maxLen/\(k+1)*80<=140737488355328):=by
     show _/\_;have:=ab Hm;unfold maxLen;omega
    obtain⟨W1,hW1⟩:∃x,x1.alloc (.cells #[.string n,.int .i64 y,.int .i64 mo,.int .i64 d,.int .i64 h,.int .i64 mi,.int .i64 c,.string t] 31)=x:=⟨_,rfl⟩;have S:=ae (aM x1 #[.string n,.int .i64 y,.int .i64 mo,.int .i64 d,.int .i64 h,.int .i64 mi,.int .i64 c,.string t] 31);rw[hW1]at z f j S;have pA:=(ab S).cells (n:=8) rfl;clear M U hE hf C u O E b L V D;go_wp2_with (at_builtin;refine a0r _ rfl _ _ 36 rfl w.heap.size 31 i0 (.agg #[.string ⟨#[]⟩,.int .i64 0,.int .i64 0,.int .i64 0,.int .i64 0,.int .i64 0,.int .i64 0,.string ⟨#[]⟩]) 8 80 a2J hi Y Z aa rfl (by decide) _ _ _ rfl (a0k z _) ⟨W1.heap.size,0,none⟩ 1 1 (fs ⟨n,y,mo,d,h,mi,c,t⟩) rfl rfl (kF W1 _ _) (oT _) (ab o).1 (ab o).2 (ao j _) ?_;intro v' x2 A l H;clear H);have G:=aC (v:=u7) l z (a0a _) j f;have J:gQ x2 w.heap.size v' (q.1++[⟨n,y,mo,d,h,mi,c,t⟩]):=bX.snoc (ab HL) A;have Q:=ae J;have B:=ae G;clear A l z J G pA f j S hW1;go_wp2;go_roundw
    case rel=>exact⟨k+1,_,by have:=ab HK;omega,by go_num,ab R,by go_num,ab Q,ab B⟩
    case measure=>simp[intOf];omega
  .
   have X:k=m:=by omega
   subst X;have E:=ae hq;have b:=ae g;clear hq g;go_wp2
   go_ret3
   exact⟨⟨_,_,true,rfl,fun _=>⟨q,N,rfl,ab E⟩,(fun h=>by cases h)⟩,ab b⟩
theorem Nl(l:List UInt8)(i j k:Nat):wd (l.drop i) j k=wd l (i+j) k:=by unfold wd;rw[a1R]
theorem ext_eq{a:Nat}{c d:Nat}(e:b=a+k)(h2:d=c+k):(s.extract a b).toList=(x.extract c d).toList<->(s.data.toList.drop a).take k=(x.data.toList.drop c).take k:=by
 rw[ec,ext_list,ext_list,e,h2,a10,a10]
theorem Jq{a:Nat}(c:b=a+k):(s.extract a b).toList=y.toList<->(s.data.toList.drop a).take k=y.data.toList:=by
 rw[ec,ext_list,c,a10]
theorem wS{q:List En×ByteArray×Nat}(h:zst s k=some q):∀i,i<k->(q.1.getD i default).n.size<=1048576/\((q.1.getD i default).t.size:Int)<=9223372036854775807:=by
 intro i d;obtain⟨c,_,a,_⟩:=ip h;have b:q.1.getD i default∈q.1:=by
  rw[List.getD,List.getElem?_eq_getElem (by omega:i<q.1.length)];exact a19 _
 obtain⟨f1,f2,_⟩:=du (n:=(q.1.getD i default).n) (t:=(q.1.getD i default).t) (a _ b);exact⟨by omega,by omega⟩
theorem Ma{p:Nat}(h:rZ u (s.data.toList.drop p) p)(hd:hdB (sub s p)=true):46+wd u 28 2=(ctO (sub s p) p).size:=by
 have e:=qC h.2.2.2.1.1;have a:(ctO (sub s p) p).size=46+(nmB (sub s p)).size:=gU _ _ _ _ _ _ _;rw[a,kG (by have:=(li.1 hd).2.2;omega),gB,e]
theorem below_drewN{B:Nat}{a:World}(h:Below B a w)(n:Nat):Below B a (w.drewN n):=⟨h.os,h.tape,h.output,h.size,h.block⟩
theorem Dv(s:ByteArray)(hd own:Nat)(w:World)(L:s.size<=1048576)(J:hd<=2000000)(h2:own<=2000000) :
  Calls prog 27 #[.string s,.int .i64 (hd:Nat),.int .i64 (own:Nat)] w fun e w'=>(∃(k:Nat) (b:Bool),e = .returned (.tuple #[.int .i64 (k:Nat),.bool b])/\(b=true<->rZ (s.data.toList.drop hd) (s.data.toList.drop own) own)/\(b=true->k=46+wd (s.data.toList.drop hd) 28 2))/\Below w.heap.size w w':=by
 have D:prog.follows .mixedOrders=true:=by kernel_rfl
 have al:(s.size:Int)<=1048576:=by omega
 have aa:(hd:Int)<=2000000:=by omega
 have ac:(own:Int)<=2000000:=by omega
 have G:s.data.toList.length=s.size:=by simp
 have C:Hid (∀W,Ds 23 #[.string s,.int .i64 ((hd:Int)+28),.int .i64 2] W (.int .i64 (dJ s (hd+28) 2))):=fun W=>by
  have:=dx s (hd+28) 2 W (by omega) (by decide) (by omega);rw[show((hd+28:Nat):Int)=(hd:Int)+28 by omega]at this;exact this
 have u:=Nl s.data.toList hd 28 2;by_cases K:hd+30<=s.size
 .
  rw[gw (by omega)]at C;have v:=iS s.data.toList (hd+28);rw[u];have HP:Hid (rZ (s.data.toList.drop hd) (s.data.toList.drop own) own<->(hd+(46+wd s.data.toList (hd+28) 2)<=s.size/\own+30+wd s.data.toList (hd+28) 2<=s.size)/\(((s.data.toList.drop (hd+6)).take 26=(s.data.toList.drop (own+4)).take 26/\(s.data.toList.drop (hd+46)).take (wd s.data.toList (hd+28) 2)=(s.data.toList.drop (own+30)).take (wd s.data.toList (hd+28) 2))/\((s.data.toList.drop hd).take 6=leS 4 33639248++leS 2 20/\(s.data.toList.drop (hd+32)).take 14=List.replicate 10 0++leS 4 own))):=by
   show _<->_;unfold rZ;rw[u];simp only[a1R,a04,G];constructor
   . rintro⟨a,b,c,d,e⟩;exact⟨⟨by omega,by omega⟩,d,e⟩
   . rintro⟨⟨a,b⟩,d,e⟩;exact⟨by omega,by omega,by omega,d,e⟩
  clear u G;generalize wd s.data.toList (hd+28) 2=NM at *
  have ad:(NM:Int)<65536:=by omega
  by_cases B:hd+(46+NM)<=s.size/\own+30+NM<=s.size
  .
   have P:=ae B;obtain⟨b1,b2⟩:=B;have N:(hd:Int)+(46+(NM:Int))<=(s.size:Int):=by omega
   have S:(own:Int)+30+(NM:Int)<=(s.size:Int):=by omega
   have d0:decide ((NM:Int)<0)=false:=a0h (by omega);have d1:decide ((s.size:Int)<(hd:Int)+(46+(NM:Int)))=false:=a0h (by omega);have d2:decide ((s.size:Int)<(own:Int)+30+(NM:Int))=false:=a0h (by omega);have Z:Hid (∀W,Ds 45 #[.int .i64 33639248,.int .i64 4] W (.string (aw (leS 4 33639248)))):=fun W=>aN 33639248 4 W (by omega) (by omega);have CV:Hid (∀W,Ds 45 #[.int .i64 20,.int .i64 2] W (.string (aw (leS 2 20)))):=fun W=>aN 20 2 W (by omega) (by omega);have Y:Hid (∀W,Ds 45 #[.int .i64 0,.int .i64 10] W (.string (aw (leS 10 0)))):=fun W=>aN 0 10 W (by omega) (by omega);have CP:Hid (∀W,Ds 45 #[.int .i64 (own:Nat),.int .i64 4] W (.string (aw (leS 4 own)))):=fun W=>aN own 4 W (by omega) (by omega);have E1:Hid ((s.extract (hd+6) (hd+32)).toList=(s.extract (own+4) (own+30)).toList<->(s.data.toList.drop (hd+6)).take 26=(s.data.toList.drop (own+4)).take 26):=ext_eq rfl rfl;have E2:Hid ((s.extract (hd+46) (hd+(46+NM))).toList=(s.extract (own+30) (own+30+NM)).toList<->(s.data.toList.drop (hd+46)).take NM=(s.data.toList.drop (own+30)).take NM):=ext_eq (by omega) rfl;have E3:Hid ((s.extract hd (hd+6)).toList=(aw (leS 4 33639248)++aw (leS 2 20)).toList<->(s.data.toList.drop hd).take 6=leS 4 33639248++leS 2 20):=by
    have:=Jq (s:=s) (y:=aw (leS 4 33639248)++aw (leS 2 20)) (a:=hd) (b:=hd+6) (k:=6) rfl;rw[show(aw (leS 4 33639248)++aw (leS 2 20)).data.toList=leS 4 33639248++leS 2 20 by simp[aw]]at this;exact this
   have E4:Hid ((s.extract (hd+32) (hd+46)).toList=(aw (leS 10 0)++aw (leS 4 own)).toList<->(s.data.toList.drop (hd+32)).take 14=List.replicate 10 0++leS 4 own):=by
    have:=Jq (s:=s) (y:=aw (leS 10 0)++aw (leS 4 own)) (a:=hd+32) (b:=hd+46) (k:=14) rfl;have e0:leS 10 0=List.replicate 10 0:=by decide +kernel
    rw[show(aw (leS 10 0)++aw (leS 4 own)).data.toList=List.replicate 10 0++leS 4 own by rw[e0];simp[aw]]at this;exact this
   have z1:(aw (leS 4 33639248)).size<=10:=by rw[bp,aF];omega
   have z2:(aw (leS 2 20)).size<=10:=by rw[bp,aF];omega
   have z3:(aw (leS 10 0)).size<=10:=by rw[bp,aF];omega
   have z4:(aw (leS 4 own)).size<=10:=by rw[bp,aF];omega
   have m1:¬ 9223372036854775807<(aw (leS 4 33639248)).size+(aw (leS 2 20)).size:=by omega
   have m2:¬ 9223372036854775807<(aw (leS 10 0)).size+(aw (leS 4 own)).size:=by omega
   generalize aw (leS 4 33639248)=A1 at *
   generalize aw (leS 2 20)=A2 at *
   generalize aw (leS 10 0)=A3 at *
   generalize aw (leS 4 own)=A4 at *
   rw[←ab E1,←ab E2,←ab E3,←ab E4]at HP;obtain⟨X1,l⟩:∃x,s.extract (hd+6) (hd+32)=x:=⟨_,rfl⟩;obtain⟨Y1,n⟩:∃x,s.extract (own+4) (own+30)=x:=⟨_,rfl⟩;obtain⟨X2,m⟩:∃x,s.extract (hd+46) (hd+(46+NM))=x:=⟨_,rfl⟩;obtain⟨Y2,o⟩:∃x,s.extract (own+30) (own+30+NM)=x:=⟨_,rfl⟩;obtain⟨X3,r⟩:∃x,s.extract hd (hd+6)=x:=⟨_,rfl⟩;obtain⟨X4,t⟩:∃x,s.extract (hd+32) (hd+46)=x:=⟨_,rfl⟩;rw[l,n,m,o,r,t]at HP;obtain⟨B1,g⟩:∃b,(X1.toList == Y1.toList)=b:=⟨_,rfl⟩;obtain⟨B2,j⟩:∃b,(X2.toList == Y2.toList)=b:=⟨_,rfl⟩;obtain⟨B3,p⟩:∃b,(X3.toList == (A1++A2).toList)=b:=⟨_,rfl⟩;obtain⟨B4,q⟩:∃b,(X4.toList == (A3++A4).toList)=b:=⟨_,rfl⟩;have HR:Hid (((B1&&B2)&&(B3&&B4))=true<->rZ (s.data.toList.drop hd) (s.data.toList.drop own) own):=by
    show _<->_;rw[ab HP,←g,←j,←p,←q];simp only[a0n,a2N];exact⟨fun h=>⟨ab P,h⟩,fun h=>h.2⟩
   have R:=ae (a0b l (a0b n (a0b m (a0b o (a0b r t)))));have z:=ae (a0b g (a0b j (a0b p q)));have Q:=ae (a0b m1 m2);clear HP E1 E2 E3 E4 K J h2 L v b1 b2 z1 z2 z3 z4 P l m r t n o g j p q m1 m2;have O:=C;cases B1<;>cases B2<;>cases B3
   all_goals
    go_enter func27,a3X;go_wp2_with fail;refine(ab O _).mono ?_;rintro e x1 ⟨rfl,f⟩;have i:=ae f;clear f C O;go_wp2_with fail;have w1:IntKind.i64.wrap ((hd:Int)+6)=(hd:Int)+6:=by rw[a0Z];omega
    have t1:((hd:Int)+6).toNat=hd+6:=by omega
    have l1:0<=(hd:Int)+6:=by omega
    have g1:(hd:Int)+6<=(s.size:Int):=by omega
    have w2:IntKind.i64.wrap ((hd:Int)+32)=(hd:Int)+32:=by rw[a0Z];omega
    have t2:((hd:Int)+32).toNat=hd+32:=by omega
    have l2:0<=(hd:Int)+32:=by omega
    have g2:(hd:Int)+32<=(s.size:Int):=by omega
    have w3:IntKind.i64.wrap ((own:Int)+4)=(own:Int)+4:=by rw[a0Z];omega
    have t3:((own:Int)+4).toNat=own+4:=by omega
    have l3:0<=(own:Int)+4:=by omega
    have g3:(own:Int)+4<=(s.size:Int):=by omega
    have w4:IntKind.i64.wrap ((own:Int)+30)=(own:Int)+30:=by rw[a0Z];omega
    have t4:((own:Int)+30).toNat=own+30:=by omega
    have l4:0<=(own:Int)+30:=by omega
    have g4:(own:Int)+30<=(s.size:Int):=by omega
    have w5:IntKind.i64.wrap ((hd:Int)+46)=(hd:Int)+46:=by rw[a0Z];omega
    have t5:((hd:Int)+46).toNat=hd+46:=by omega
    have l5:0<=(hd:Int)+46:=by omega
    have g5:(hd:Int)+46<=(s.size:Int):=by omega
    have w6:IntKind.i64.wrap ((hd:Int)+(46+(NM:Int)))=(hd:Int)+(46+(NM:Int)):=by rw[a0Z];omega
    have t6:((hd:Int)+(46+(NM:Int))).toNat=hd+(46+NM):=by omega
    have l6:0<=(hd:Int)+(46+(NM:Int)):=by omega
    have w7:IntKind.i64.wrap ((own:Int)+30+(NM:Int))=(own:Int)+30+(NM:Int):=by rw[a0Z];omega
    have t7:((own:Int)+30+(NM:Int)).toNat=own+30+NM:=by omega
    have l7:0<=(own:Int)+30+(NM:Int):=by omega
    have w8:IntKind.i64.wrap ((hd:Int))=(hd:Int):=by rw[a0Z];omega
    have t8:((hd:Int)).toNat=hd:=by omega
    have l8:0<=(hd:Int):=by omega
    have o1:(hd:Int)+6<=(hd:Int)+32:=by omega
    have o2:(own:Int)+4<=(own:Int)+30:=by omega
    have o3:(hd:Int)+46<=(hd:Int)+(46+(NM:Int)):=by omega
    have o4:(own:Int)+30<=(own:Int)+30+(NM:Int):=by omega
    have o5:(hd:Int)<=(hd:Int)+6:=by omega
    have o6:(hd:Int)+32<=(hd:Int)+46:=by omega
    obtain⟨l,n,m,o,r,t⟩:=ab R;obtain⟨g,j,p,q⟩:=ab z;obtain⟨m1,m2⟩:=ab Q
    go_quiet (fail)
    have H:Hid (Below w.heap.size w (x1.drewN nq)):=below_drewN (ab i) nq;clear w3 t3 l3 g3 w4 t4 l4 g4 w6 t6 l6 w7 t7 l7 o1 o2 o3 o4 l n m o g j d0 d1 d2 N S R z Q;generalize x1.drewN nq=x2 at *
    go_wp2_with fail;have T:=fun d os=>Calls.regrown_of (w:=x2) (d:=d) (os:=os) (ab Z _);have U:=fun d os=>Calls.regrown_of (w:=x2) (d:=d) (os:=os) (ab CV _);have V:=fun d os=>Calls.regrown_of (w:=x2) (d:=d) (os:=os) (ab Y _);have X:=fun d os=>Calls.regrown_of (w:=x2) (d:=d) (os:=os) (ab CP _);refine wp_region_quiet_below D (by kernel_rfl) ?_
    go_big_quiet_step (fail)
    go_big_quiet_step (fail)
    go_big_quiet_step (fail)
    go_big_quiet_step (fail)
    go_big_quiet_step (fail)
    go_big_quiet_step (exact T _ _)
    go_big_quiet_step (exact U _ _)
    go_big_quiet_step (fail)
    go_big_quiet_step (fail)
    go_big_quiet_step (fail)
    go_big_quiet_step (fail)
    go_big_quiet_step (fail)
    go_big_quiet_step (fail)
    go_big_quiet_step (fail)
    go_big_quiet_step (fail)
    go_big_quiet_step (fail)
    go_big_quiet_step (exact V _ _)
    go_big_quiet_step (fail)
    go_big_quiet_step (exact X _ _)
    go_big_quiet_step (fail)
    go_big_quiet_step (fail)
    go_big_quiet_step (fail)
    go_big_quiet_step (fail)
    refine a1D ?_;intro zw M;obtain⟨⟨dq,osq⟩,E⟩:=M;have I:=below_regrown x2 dq osq;rw[←E]at I;have T9:=ae (ai (ab H) I);clear E I T U V X;go_wp2
    go_ret2
    exact⟨⟨46+NM,_,by rw[Int.natCast_add];rfl,ab HR,fun _=>rfl⟩,ab T9⟩
  .
   have A:Hid (¬ rZ (s.data.toList.drop hd) (s.data.toList.drop own) own):=fun h=>B ((ab HP).1 h).1;have F:Hid (false=true<->rZ (s.data.toList.drop hd) (s.data.toList.drop own) own):=⟨(fun h=>by cases h),fun h=>absurd h (ab A)⟩;clear HP A;by_cases g:hd+(46+NM)<=s.size
   .
    have N:(hd:Int)+(46+(NM:Int))<=(s.size:Int):=by omega
    have S:(s.size:Int)<(own:Int)+30+(NM:Int):=by omega
    clear B g K J h2 L v;go_enter func27,a3X;go_wp2_with fail;refine(ab C _).mono ?_;rintro e x1 ⟨rfl,f⟩;have i:=ae f;clear f C;go_wp2
    go_ret2
    exact⟨⟨0,false,rfl,ab F,fun h=>by cases h⟩,ab i⟩
   .
    have N:(s.size:Int)<(hd:Int)+(46+(NM:Int)):=by omega
    clear B g K J h2 L v;go_enter func27,a3X;go_wp2_with fail;refine(ab C _).mono ?_;rintro e x1 ⟨rfl,f⟩;have i:=ae f;clear f C;go_wp2
    go_ret2
    exact⟨⟨0,false,rfl,ab F,fun h=>by cases h⟩,ab i⟩
 .
  rw[yi (by omega)]at C;have A:Hid (¬ rZ (s.data.toList.drop hd) (s.data.toList.drop own) own):=fun h=>by
   have:=h.1;rw[a04,G]at this;omega
  have F:Hid (false=true<->rZ (s.data.toList.drop hd) (s.data.toList.drop own) own):=⟨(fun h=>by cases h),fun h=>absurd h (ab A)⟩;clear A u G;go_enter func27,a3X;go_wp2_with fail;refine(ab C _).mono ?_;rintro e x1 ⟨rfl,f⟩;have i:=ae f;clear f C;go_wp2
  go_ret2
  exact⟨⟨0,false,rfl,ab F,fun h=>by cases h⟩,ab i⟩
theorem Oc{A:Nat}(h:preB s c A)(b:A<=s.size):A+c.size<=s.size:=by
 have:=congrArg List.length h;rw[a0s,a04]at this;have a:s.data.toList.length=s.size:=by simp
 have h2:c.data.toList.length=c.size:=by simp
 omega
theorem xd{a b:ByteArray}{c:Bool}(h:(a.toList == b.toList)=c):c=true<->a=b:=by
 rw[←h,a2N,ec];exact⟨fun e=>kV e,fun e=>by rw[e]⟩
theorem uN(s:ByteArray)(w:World)(hs:s.size<=1048576) :
  Calls prog 11 #[.string s] w fun e w'=>(∃v,e = .returned (.tuple #[v,.bool (dU s).isSome])/\gQ w' w.heap.size v ((dU s).getD []))/\Below w.heap.size w w':=by
 have a5:prog.follows .mixedOrders=true:=by kernel_rfl
 have b8:(s.size:Int)<=1048576:=by omega
 have u:Hid (dU s=none->∀W,Below w.heap.size w W->(∃v,Ending.returned (.tuple #[.slice (some ⟨W.heap.size,0,none⟩) 0 0,.bool false]) = .returned (.tuple #[v,.bool (dU s).isSome])/\gQ (W.alloc (.cells #[] 31)) w.heap.size v ((dU s).getD []))/\Below w.heap.size w (W.alloc (.cells #[] 31))):=fun h W hb=>by
  rw[h];exact⟨⟨_,rfl,OE _ _ hb.size⟩,hb.alloc hb.size _⟩
 by_cases L:12<=s.size
 .
  have C:Hid (∀W,Ds 23 #[.string s,.int .i64 ((s.size:Int)-12),.int .i64 2] W (.int .i64 ((wd s.data.toList (s.size-12) 2:Nat):Int))):=fun W=>by
   have:=dx s (s.size-12) 2 W (by omega) (by decide) (by omega);rw[show((s.size-12:Nat):Int)=(s.size:Int)-12 by omega,gw (by omega)]at this;exact this
  have S:=iS s.data.toList (s.size-12);have bc:∃NM,wd s.data.toList (s.size-12) 2=NM:=⟨_,rfl⟩;obtain⟨NM,U⟩:=bc;rw[U]at C S;have HW:=ae U;have I:=ae L;clear U;have bs:(NM:Int)<65536:=by omega
  by_cases h6:NM<=6
  .
   have bn:(NM:Int)<=6:=by omega
   have M:Hid (∀W,Calls prog 24 #[.int .i64 (NM:Nat),.int .i64 0,.int .i64 6] W fun e w'=>e = .returned (.bool true)/\w'=W):=fun W=>by
    have:=aG (NM:Int) 0 6 W;rw[show inB (NM:Int) 0 6=true by rw[aB];omega]at this;exact this
   have C2:=ae (fun W=>Gu s NM W hs h6);have H6:=ae h6;have HS:=ae hs;clear L hs S;go_enter func11,ntmps11;go_wp2_with fail;refine(ab C _).mono ?_;rintro e x1 ⟨rfl,j⟩;have m:=ae j;clear j C;go_wp2_with fail;refine(ab M _).mono ?_;rintro e x2 ⟨rfl,F⟩;subst F;clear M;go_wp2_with fail;refine(ab C2 _).mono ?_;rintro e x3 ⟨⟨v,p,ok,rfl,G,ac⟩,V⟩;have J:=ae (ai (ab m) V);cases ok
   .
    have D:=ae (ab u (by rw[pP (ab I) (ab HW) (ab H6),ac rfl]) x3 (ab J));clear G ac V C2;go_wp2
    go_ret2
    exact ab D
   .
    obtain⟨q,hq,rfl,a⟩:=G rfl;have f:=ip hq;obtain⟨va,vc,rfl,b9,_⟩:=a.formN f.1;have wT:=ae (a.mono (base':=w.heap.size) (by have:=(ab m).size;omega));have C3:=ae (vz va vc q.1 NM f.1 x3 (iC f.1 a) (by omega) (wS hq));have HQ:=ae hq;have b5:(q.2.2:Int)<=(s.size:Int):=by have:=f.2.1;omega
    have b0:q.2.1.size<=600:=by have:=f.2.2.2.2;omega
    clear G ac V C2 a f hq;cases H:dm q.1
    .
     have D:=ae (fun W hb=>ab u (by rw[pP (ab I) (ab HW) (ab H6),ab HQ];simp[H]) W hb);rw[H]at C3;go_wp2_with fail;refine(ab C3).mono ?_;rintro e x4 ⟨rfl,z⟩;have K:=ae (ai (ab J) z);clear z C3;go_wp2
     go_ret2
     exact ab D _ (ab K)
    .
     rw[H]at C3;have a3:=ae H;clear H;go_wp2_with fail;refine(ab C3).mono ?_;rintro e x4 ⟨rfl,z⟩;have K:=ae (ai (ab J) z);have an:=ae ((ab wT).later z (a0a _));clear z C3 wT J;have Q:=ae (fun hd own (W:World) (h1:hd<=2000000) (h2:own<=2000000)=>Dv s hd own W (ab HS) h1 h2);have ad:=ae (fun p W=>tU (sub s p) W (by rw[iJ];have:=ab HS;omega));have HE:Hid (∀p,s.extract p s.size=sub s p):=fun _=>rfl;go_wp2_with fail
     go_loopw [8,9,10,11,12,13,14,15] (fun h o i _ _ _ _ _ wr=>∃(k:Nat) (r:List En×ByteArray×Nat),k<=NM/\i = .int .i64 k/\zst s k=some r/\h = .int .i64 ((q.2.2:Nat)+(r.2.1.size:Nat))/\o = .int .i64 (r.2.2:Nat)/\preB s r.2.1 q.2.2/\gQ wr w.heap.size (.slice va NM vc) q.1/\Below w.heap.size w wr) (fun _ _ i _ _ _ _ _ _=>NM-(intOf i).toNat)
     case atStart=>exact⟨0,([],⟨#[]⟩,0),a0g _,rfl,rfl,by show _=Value.int .i64 ((q.2.2:Nat)+((0:Nat):Int));simp,rfl,rfl,ab an,ab K⟩
     case round=>
      obtain⟨k,r,hk,rfl,hr,rfl,rfl,P,a,O⟩:=hrel;have E:=ip hr;have b7:r.2.1.size<=600:=by have:=E.2.2.2.2;omega
      have b6:(r.2.1.size:Int)<=600:=by omega
      have b4:(r.2.2:Int)<=(s.size:Int):=by have:=E.2.1;omega
      have HR:=ae hr;have g:=ae P;have wT:=ae a;have A:=ae O;have HK:=ae hk;clear E hr P a O an K;by_cases be:k<NM
      .
       obtain⟨y,hy,_⟩:=kS (ab HQ) (by omega:k+1<=NM);obtain⟨r',T,h1,hT,_⟩:=gG hy;rw[ab HR]at h1;cases h1
       have HT:=ae hT;have CH:=ae (fun W=>ab Q (q.2.2+r.2.1.size) r.2.2 W (by omega) (by omega));rw[show((q.2.2+r.2.1.size:Nat):Int)=(q.2.2:Nat)+(r.2.1.size:Nat) by omega]at CH;clear hy hT Q;go_wp2_with fail;refine(ab CH _).mono ?_;rintro e x5 ⟨⟨kk,b,rfl,hb,aa⟩,Y⟩;have R:=ae (ai (ab A) Y);have a0:=ae ((ab wT).later Y (a0a _));clear Y CH wT A;cases b
       .
        have D:=ae (ab u (IE (ab I) (ab HW) (ab H6) (ab HQ) be (ab HR) (ab HT) (ab g) (fun h=>by have:=hb.2 h;cases this)) x5 (ab R));clear hb aa;go_wp2
        go_ret2
        exact ab D
       .
        have hl:=hb.1 rfl;have e1:=aa rfl;rw[Ma hl (kE (ab HT)).1]at e1;have bb:=ae ((Be (ab HT) (ab g)).1 hl);have a2:=ae (sK (ab HR) (ab HT));have b2:kk<=2000:=by
         have h7:=(ip (ab a2)).2.2.2.2;simp only[a0R]at h7;omega
        have a9:=ae e1;clear hb aa hl e1;go_wp2_with fail;refine(ab ad r.2.2 _).mono ?_;rintro e x6 ⟨⟨n,yy,mo,d,h,mi,c,t,kx,ok,rfl,hv⟩,Z⟩;have al:=ae (ai (ab R) Z);have a1:=ae ((ab a0).later Z (a0a _));have hA:=(a0c x6.heap.size x6).alloc (a0a _) (.cells #[.string n,.int .i64 yy,.int .i64 mo,.int .i64 d,.int .i64 h,.int .i64 mi,.int .i64 c,.string t] 31);have a8:=ae (ai (ab al) hA);have ba:=ae ((ab a1).later hA (a0a _));cases ok
        . have:=KV hv;rw[ab HT]at this;cases this
        .
         obtain⟨T2,a4,_,rfl⟩:=D4 hv;have hf:=ug a4;rw[iJ]at hf;have b1:(r.2.2:Int)+((pn (sub s r.2.2):Nat):Int)<=(s.size:Int):=by omega
         clear hv a4 hf Z hA al a1 R a0;go_wp2;go_roundw
         case rel=>exact⟨k+1,_,by omega,by go_num,ab a2,by simp only[a0R];rw[←ab a9];go_num,by go_num,ab bb,ab ba,ab a8⟩
         case measure=>simp[intOf];omega
      .
       have bd:k=NM:=by omega
       subst bd;have a6:=ab HR;rw[ab HQ]at a6;cases a6
       have b3:=Oc (ab g) (by omega);have bl:(q.2.2:Int)+(q.2.1.size:Int)<=(s.size:Int):=by omega
       have l:=ae (LK (ab I) (ab HW) (ab H6) (ab HQ) (ab a3) (ab g));have N:=ae (fun W=>wi k q.2.1.size q.2.2 W (by omega) (by omega) (by omega));have q1:=fun d os=>Calls.regrown_of (w:=wr) (d:=d) (os:=os) (ab N _);have t1:((q.2.2:Int)+(q.2.1.size:Int)).toNat=q.2.2+q.2.1.size:=by omega
       have w1:IntKind.i64.wrap ((q.2.2:Int)+(q.2.1.size:Int)-(q.2.2:Int))=(q.2.1.size:Int):=by rw[a0Z];omega
       have l1:0<=(q.2.2:Int)+(q.2.1.size:Int):=by omega
       rw[←ab HE]at l;generalize dF k q.2.1.size q.2.2=EN at *
       obtain⟨X,hX⟩:∃x,s.extract (q.2.2+q.2.1.size) s.size=x:=⟨_,rfl⟩;rw[hX]at l;obtain⟨B,hB⟩:∃b,(X.toList == EN.toList)=b:=⟨_,rfl⟩;have HB:=ae hB;clear Q ad HE a3 g N;go_wp2_with fail;refine wp_region_quiet_below a5 (by kernel_rfl) ?_;cases B
       all_goals
        quiet_step (fail)
        quiet_step (fail)
        quiet_step (fail)
        quiet_step (fail)
        quiet_step (fail)
        quiet_step (fail)
        quiet_step (fail)
        quiet_step (fail)
        quiet_step (exact q1 _ _)
        quiet_step (fail)
        refine a1D ?_;intro zw bk;obtain⟨⟨dq,osq⟩,a7⟩:=bk;have HZ:=below_regrown wr dq osq;rw[←a7]at HZ;have T9:=ae (ai (ab A) HZ);have O9:=ae ((ab wT).later HZ (a0a _));clear a7 HZ q1
       .
        have D:=ae (ab u (by rw[ab l,a0d (fun e=>by have:=(xd (ab HB)).2 e;cases this)]) zw (ab T9));go_wp2
        go_ret2
        exact ab D
       .
        have HY:Hid (dU s=some q.1):=by show _=_;rw[ab l,a0e ((xd (ab HB)).1 rfl)]
        go_wp2
        go_ret2
        exact⟨⟨_,by rw[ab HY];rfl,by rw[ab HY];exact ab O9⟩,ab T9⟩
  .
   have M:Hid (∀W,Calls prog 24 #[.int .i64 (NM:Nat),.int .i64 0,.int .i64 6] W fun e w'=>e = .returned (.bool false)/\w'=W):=fun W=>by
    have:=aG (NM:Int) 0 6 W;rw[show inB (NM:Int) 0 6=false by rw[dN];omega]at this;exact this
   have D:=ae (ab u (Ce (by rw[ab HW];omega)));clear L hs S;go_enter func11,ntmps11;go_wp2_with fail;refine(ab C _).mono ?_;rintro e x1 ⟨rfl,j⟩;have m:=ae j;clear j C;go_wp2_with fail;refine(ab M _).mono ?_;rintro e x2 ⟨rfl,F⟩;subst F;clear M;go_wp2
   go_ret2
   exact ab D _ (ab m)
 .
  have C:=ae (fun W=>Gs s ((s.size:Int)-12) W (by omega));have M:Hid (∀W,Calls prog 24 #[.int .i64 (-1),.int .i64 0,.int .i64 6] W fun e w'=>e = .returned (.bool false)/\w'=W):=fun W=>by
   have:=aG (-1) 0 6 W;rw[show inB (-1) 0 6=false by decide]at this;exact this
  have D:=ae (ab u (Ce (fun h=>L h.1)));go_enter func11,ntmps11;go_wp2_with fail;refine(ab C _).mono ?_;rintro e x1 ⟨rfl,j⟩;have m:=ae j;clear j C;go_wp2_with fail;refine(ab M _).mono ?_;rintro e x2 ⟨rfl,F⟩;subst F;clear M;go_wp2
  go_ret2
  exact ab D _ (ab m)
abbrev Ow:=bX (α:=Hq) 116 7 zq
theorem tK{o:Obj}{a c e1 e2 s1 s2 n1 n2:Nat}{v1 v2:Value}{x1 x2:List Value}(b:w.ownsRow a e1 s1 v1 n1 x1)(h2:w.ownsRow c e2 s2 v2 n2 x2)(d:e1≠e2)(e:(w.alloc o).grownBy w' v2.ownBlock):w'.ownsRow a e1 s1 v1 n1 x1:=
 a1N (a0k b o) e (oJ (a0k b o) (a0k h2 o) d)
theorem Ns:dm []=true:=by decide
theorem Ka(h:hdB x=false):iI x=none:=by
 unfold iI;rw[a0d (by rw[h];decide)]
theorem yQ{q:List En×ByteArray×Nat}(b:zst s k=some q)(c:(sub s q.2.2).data.toList.take 4=[80,75,3,4])(a:iI (sub s q.2.2)=none):dU s=none:=
 Cd b c (fun T h=>by rw[a]at h;cases h)
theorem IZ{q:List En×ByteArray×Nat}(b:zst s k=some q)(e:dm q.1=true)(c:(sub s q.2.2).data.toList.take 4=[80,75,3,4])(a:iI (sub s q.2.2)=some T)(d:bW q.1 (enO (sub s q.2.2) T)≠0):dU s=none:=
 Cd b c (fun T' h=>by
  rw[a]at h;cases h
  cases hb:dm (q.1++[enO (sub s q.2.2) T])
  . rfl
  . exact absurd ((wQ e _).1 hb) d)
def ZrP(s:ByteArray)(w:World)(e:Ending)(w':World):Prop:=∃v c,e = .returned (.tuple #[v,dG c])/\(c=0->∃l,dU s=some l/\gQ w' w.heap.size v l)/\(c≠0->dU s=none)
theorem Ch(h:dU s=none)(c:Int)(a:c≠0):ZrP s w (.returned (.tuple #[.slice none 0 0,.iface 76 (.agg #[.int .i64 c])])) w':=
 ⟨.slice none 0 0,c,by unfold dG;rw[a0d a],fun b=>absurd b a,fun _=>h⟩
theorem Cg(s:ByteArray)(m:Int)(w:World)(hs:s.size<=1048576)(hm:w.cell? ⟨2,0,none⟩=some (.int .i64 m))(hO:dT w) :
  Calls prog 52 #[.string s] w fun e w'=>ZrP s w e w'/\Below w.heap.size w w':=by
 have co:prog.follows .mixedOrders=true:=by kernel_rfl
 have ej:(s.size:Int)<=1048576:=by omega
 have HS:=ae hs;have HM:=ae hm;have d3:=ae (World.block_lt_of_cell? _ _ hm);have CM:=ae (fun W (hb:Below w.heap.size w W)=>(hb.cell (p:=⟨2,0,none⟩) (ab d3)).trans (ab HM));have HO:=ae (fun W (hb:Below w.heap.size w W)=>hO.later hb);obtain⟨i0,hi,d8,ed,b1⟩:=a0o Tryz.infoEnt;obtain⟨j0,hj,d5,d6,d7⟩:=a0o Tryz.infoHd;clear hs hm hO;go_enter func52,ntmps52;go_wp2_with fail
 go_loopw [4,5,6,7,8,9,10,11] (fun f h p _ _ _ _ _ wr=>∃(k:Nat) (q:List En×ByteArray×Nat),zst s k=some q/\dm q.1=true/\p = .int .i64 (q.2.2:Nat)/\gQ wr w.heap.size f q.1/\Ow wr w.heap.size h (hqL s k)/\Below w.heap.size w wr) (fun _ _ p _ _ _ _ _ _=>s.size-(intOf p).toNat)
 case atStart=>exact⟨0,([],⟨#[]⟩,0),rfl,Ns,rfl,bX.nil _ _,bX.nil _ _,a0c _ _⟩
 case round=>
  obtain⟨k,q,hz,ac,rfl,hf,l,U⟩:=hrel;have K:=ip hz;have d2:k<=6:=by have:=(jf ac).2;omega
  have eh:(q.2.2:Int)<=(s.size:Int):=by have:=K.2.1;omega
  have CX:Hid (∀W,Calls prog 73 #[.string (sub s q.2.2),.string ⟨#[80,75,3,4]⟩] W fun e w'=>e = .returned (.bool (decide ((sub s q.2.2).data.toList.take 4=[80,75,3,4])))/\w'=W):=fun W=>by
   have h:=Tryz.strings_HasPrefix (sub s q.2.2) (⟨#[80,75,3,4]⟩:ByteArray) W;rw[←Kj];exact h
  have HE:Hid (s.extract q.2.2 s.size=sub s q.2.2):=rfl;have I:=ae hz;have bc:=ae ac;have HF:=ae hf;have HH:=ae l;have P:=ae U;have F:=ae K
  have a9:(sub s q.2.2).size<=1048576:=by rw[iJ];have:=ab HS;omega
  by_cases N:(sub s q.2.2).data.toList.take 4=[80,75,3,4]
  .
   have a3:=ae N;rw[a0v N]at CX;have CH:=ae (fun W=>qB (sub s q.2.2) W a9);have Q:=ae a9;clear N hf l U K hz ac a9;go_wp2_with fail;refine(ab CX _).mono ?_;rintro e x0 ⟨rfl,b0⟩;subst b0;clear CX;go_wp2_with fail;refine(ab CH _).mono ?_;rintro e x1 ⟨hp,a5⟩;have ad:=ae (ai (ab P) a5);have a0:=ae ((ab HF).later a5 (a0a _));have a2:=ae ((ab HH).later a5 (a0a _));have R:Hid (∀j,Value.ownBlock u4=some j->j<x1.heap.size):=fun j hj=>(a0y (ab a0) j hj).2;have S:Hid (∀j,Value.ownBlock u5=some j->j<x1.heap.size):=fun j hj=>(a0y (ab a2) j hj).2;clear a5 CH HF HH P;rcases hp with⟨hd,rfl⟩|⟨hd,a,b,c,d,f,n,t,ho,rfl⟩
   .
    obtain⟨ds,d1,bl⟩:=li.1 hd;have cp:=kG (s:=sub s q.2.2) (by omega);have cc:=yR (s:=sub s q.2.2) bl;have l1:=iS (sub s q.2.2).data.toList 8;have l2:=eQ (sub s q.2.2).data.toList 10;have l3:=eQ (sub s q.2.2).data.toList 14;have l4:=eQ (sub s q.2.2).data.toList 18;have l5:=eQ (sub s q.2.2).data.toList 22;have l6:=iS (sub s q.2.2).data.toList 26;have dl:=ab Q;have E:=ae (fun W (hb:Below w.heap.size w W)=>ru (wd (sub s q.2.2).data.toList 8 2) (wd (sub s q.2.2).data.toList 10 4) (wd (sub s q.2.2).data.toList 14 4) (wd (sub s q.2.2).data.toList 18 4) (wd (sub s q.2.2).data.toList 22 4) (nmB (sub s q.2.2)) (bdB (sub s q.2.2)) m W (by omega) l1 l2 l3 l5 (by omega) (ab CM _ hb) (ab HO _ hb));have b2:=ae (fun(hen:enB (wd (sub s q.2.2).data.toList 8 2) (wd (sub s q.2.2).data.toList 10 4) (wd (sub s q.2.2).data.toList 14 4) (wd (sub s q.2.2).data.toList 22 4) (nmB (sub s q.2.2)) (bdB (sub s q.2.2))=true) W=>rk (wd (sub s q.2.2).data.toList 8 2) (wd (sub s q.2.2).data.toList 10 4) (wd (sub s q.2.2).data.toList 14 4) (wd (sub s q.2.2).data.toList 18 4) (wd (sub s q.2.2).data.toList 22 4) (nmB (sub s q.2.2)) (bdB (sub s q.2.2)) W l1 l2 l3 l4 l5 (by omega) (by have:=Jl hen;omega));have be:(eV (wd (sub s q.2.2).data.toList 8 2) (wd (sub s q.2.2).data.toList 10 4) (wd (sub s q.2.2).data.toList 14 4) (wd (sub s q.2.2).data.toList 18 4) (wd (sub s q.2.2).data.toList 22 4) (nmB (sub s q.2.2))++bdB (sub s q.2.2)).size=pn (sub s q.2.2):=by
     unfold eV pn;rw[a0R,a0R,a0R,fU,cp,cc];show 4+26+_+_=_;omega
    have b8:pn (sub s q.2.2)<=(sub s q.2.2).size/\30<=pn (sub s q.2.2):=⟨bl,by unfold pn;omega⟩;have HY:Hid (enB (wd (sub s q.2.2).data.toList 8 2) (wd (sub s q.2.2).data.toList 10 4) (wd (sub s q.2.2).data.toList 14 4) (wd (sub s q.2.2).data.toList 22 4) (nmB (sub s q.2.2)) (bdB (sub s q.2.2))=true->∃T,iI (sub s q.2.2)=some T/\enO (sub s q.2.2) T=⟨nmB (sub s q.2.2),zz (gOk (wd (sub s q.2.2).data.toList 10 4:Nat)) (gY (wd (sub s q.2.2).data.toList 10 4:Nat)),zz (gOk (wd (sub s q.2.2).data.toList 10 4:Nat)) (gM (wd (sub s q.2.2).data.toList 10 4:Nat)),zz (gOk (wd (sub s q.2.2).data.toList 10 4:Nat)) (gD (wd (sub s q.2.2).data.toList 10 4:Nat)),zz (gOk (wd (sub s q.2.2).data.toList 10 4:Nat)) (gH (wd (sub s q.2.2).data.toList 10 4:Nat)),zz (gOk (wd (sub s q.2.2).data.toList 10 4:Nat)) (gI (wd (sub s q.2.2).data.toList 10 4:Nat)),zz (gOk (wd (sub s q.2.2).data.toList 10 4:Nat)) (gS (wd (sub s q.2.2).data.toList 10 4:Nat)),uxT (wd (sub s q.2.2).data.toList 8 2) (bdB (sub s q.2.2))⟩):=fun h=>by
     have:=J8 hd;rw[a0e h]at this;obtain⟨T,a,b,_⟩:=D4 this;exact⟨T,a,b⟩
    have HN:Hid (enB (wd (sub s q.2.2).data.toList 8 2) (wd (sub s q.2.2).data.toList 10 4) (wd (sub s q.2.2).data.toList 14 4) (wd (sub s q.2.2).data.toList 22 4) (nmB (sub s q.2.2)) (bdB (sub s q.2.2))=false->iI (sub s q.2.2)=none):=fun h=>by
     have:=J8 hd;rw[a0d (by rw[h];decide)]at this;exact KV this
    have c9:Hid (tq s k=⟨wd (sub s q.2.2).data.toList 8 2,wd (sub s q.2.2).data.toList 10 4,wd (sub s q.2.2).data.toList 14 4,wd (sub s q.2.2).data.toList 18 4,wd (sub s q.2.2).data.toList 22 4,nmB (sub s q.2.2),q.2.2⟩):=xR (ab I);have b9:(nmB (sub s q.2.2)).size<=1048576:=by omega
    have d0:(uxT (wd (sub s q.2.2).data.toList 8 2) (bdB (sub s q.2.2))).size<=1048576:=BU (by omega);have cs:(sub s q.2.2).size=s.size-q.2.2:=iJ _ _;unfold enE at E;generalize eV (wd (sub s q.2.2).data.toList 8 2) (wd (sub s q.2.2).data.toList 10 4) (wd (sub s q.2.2).data.toList 14 4) (wd (sub s q.2.2).data.toList 18 4) (wd (sub s q.2.2).data.toList 22 4) (nmB (sub s q.2.2))++bdB (sub s q.2.2)=PB at *
    generalize enB (wd (sub s q.2.2).data.toList 8 2) (wd (sub s q.2.2).data.toList 10 4) (wd (sub s q.2.2).data.toList 14 4) (wd (sub s q.2.2).data.toList 22 4) (nmB (sub s q.2.2)) (bdB (sub s q.2.2))=EB at *
    generalize uxT (wd (sub s q.2.2).data.toList 8 2) (bdB (sub s q.2.2))=UT at *
    generalize zz (gOk (wd (sub s q.2.2).data.toList 10 4:Nat)) (gY (wd (sub s q.2.2).data.toList 10 4:Nat))=yy at *
    generalize zz (gOk (wd (sub s q.2.2).data.toList 10 4:Nat)) (gM (wd (sub s q.2.2).data.toList 10 4:Nat))=mo at *
    generalize zz (gOk (wd (sub s q.2.2).data.toList 10 4:Nat)) (gD (wd (sub s q.2.2).data.toList 10 4:Nat))=dd at *
    generalize zz (gOk (wd (sub s q.2.2).data.toList 10 4:Nat)) (gH (wd (sub s q.2.2).data.toList 10 4:Nat))=l at *
    generalize zz (gOk (wd (sub s q.2.2).data.toList 10 4:Nat)) (gI (wd (sub s q.2.2).data.toList 10 4:Nat))=mi at *
    generalize zz (gOk (wd (sub s q.2.2).data.toList 10 4:Nat)) (gS (wd (sub s q.2.2).data.toList 10 4:Nat))=ss at *
    generalize bdB (sub s q.2.2)=BD at *
    generalize nmB (sub s q.2.2)=NM at *
    generalize wd (sub s q.2.2).data.toList 8 2=HW at *
    generalize wd (sub s q.2.2).data.toList 10 4=ST at *
    generalize wd (sub s q.2.2).data.toList 14 4=CR at *
    generalize wd (sub s q.2.2).data.toList 18 4=PK at *
    generalize wd (sub s q.2.2).data.toList 22 4=LN at *
    generalize wd (sub s q.2.2).data.toList 26 2=NL at *
    obtain⟨LO,hLO⟩:∃x,pn (sub s q.2.2)=x:=⟨_,rfl⟩;rw[hLO]at be b8;have ei:(q.2.2:Int)+(PB.size:Int)<=(s.size:Int):=by omega
    have eg:30<=(PB.size:Int):=by omega
    have c6:=ae (hLO.trans be.symm);clear hd ds d1 bl cp cc l1 l2 l3 l4 l5 l6 dl be b8 hLO cs;have G:=ae ((a0c x1.heap.size x1).alloc (a0a _) (.cells #[.int .i64 (HW:Nat),.int .i64 (ST:Nat),.int .i64 (CR:Nat),.int .i64 (PK:Nat),.int .i64 (LN:Nat),.string NM,.string BD] 97));have R2:=ae (aM x1 #[.int .i64 (HW:Nat),.int .i64 (ST:Nat),.int .i64 (CR:Nat),.int .i64 (PK:Nat),.int .i64 (LN:Nat),.string NM,.string BD] 97);go_wp2_with fail;refine(ab E _ (ai (ab ad) (ab G))).mono ?_;rintro e x2 ⟨rfl,D⟩;have J:=ai (ab G) D;have L:=ae (ai (ab ad) J);have b3:=ae ((ab a0).later J (a0a _));have b5:=ae ((ab a2).later J (a0a _));have R3:=ae ((ab R2).later D (ab R2).1);obtain⟨HB,hHB⟩:∃x,x1.heap.size=x:=⟨_,rfl⟩;rw[hHB]at R3 R S;rw[hHB];clear D J G R2 hHB E ad a0 a2;cases EB
    .
     have o:=ae (yQ (ab I) (ab a3) (ab HN rfl));rw[show(if false=true then Value.tuple #[.agg #[.string NM,.int .i64 yy,.int .i64 mo,.int .i64 dd,.int .i64 l,.int .i64 mi,.int .i64 ss,.string UT],.bool true]else .tuple #[noE,.bool false]) = .tuple #[.agg #[.string ⟨#[]⟩,.int .i64 0,.int .i64 0,.int .i64 0,.int .i64 0,.int .i64 0,.int .i64 0,.string ⟨#[]⟩],.bool false]from rfl];have y:=ae (ai (ab L) ((a0c x2.heap.size x2).alloc (a0a _) (.cells #[.string ⟨#[]⟩,.int .i64 0,.int .i64 0,.int .i64 0,.int .i64 0,.int .i64 0,.int .i64 0,.string ⟨#[]⟩] 31)));go_wp2
     go_ret2
     exact⟨Ch (ab o) 1 (by decide),ab y⟩
    .
     rw[show(if true=true then Value.tuple #[.agg #[.string NM,.int .i64 yy,.int .i64 mo,.int .i64 dd,.int .i64 l,.int .i64 mi,.int .i64 ss,.string UT],.bool true]else .tuple #[noE,.bool false]) = .tuple #[.agg #[.string NM,.int .i64 yy,.int .i64 mo,.int .i64 dd,.int .i64 l,.int .i64 mi,.int .i64 ss,.string UT],.bool true]from rfl];have an:Hid (∃T,iI (sub s q.2.2)=some T/\enO (sub s q.2.2) T=⟨NM,yy,mo,dd,l,mi,ss,UT⟩):=ab HY rfl;have c8:Hid (∀W,_):=ab b2 rfl;have hA:=(a0c x2.heap.size x2).alloc (a0a _) (.cells #[.string NM,.int .i64 yy,.int .i64 mo,.int .i64 dd,.int .i64 l,.int .i64 mi,.int .i64 ss,.string UT] 31);have y:=ae (ai (ab L) hA);have a1:=ae ((ab b3).later hA (a0a _));have b6:=ae ((ab b5).later hA (a0a _));have R4:=ae ((ab R3).later hA (ab R3).1);have Q4:=ae (aM x2 #[.string NM,.int .i64 yy,.int .i64 mo,.int .i64 dd,.int .i64 l,.int .i64 mi,.int .i64 ss,.string UT] 31);obtain⟨fa,fc,bn,_,_⟩:=(ab a1).formN (ab F).1;have dv:HB<x2.heap.size:=(ab R3).1;have bb:=ae (mP fa fc q.1 k (ab F).1 ⟨NM,yy,mo,dd,l,mi,ss,UT⟩ m _ (iC (ab F).1 (by have:=ab a1;rw[bn]at this;exact this)) (by omega) (fun i hi=>by have:=(wS (ab I) i hi).1;omega) b9 (by show(UT.size:Int)<=_;omega) (ab CM _ (ab y)));rw[←bn]at bb;clear hA HY HN b2 b3 b5 R3 bn L b9 d0;go_wp2_with fail;refine(ab bb).mono ?_;rintro e x4 ⟨rfl,M⟩;have al:=ae (ai (ab y) M);have b4:=ae ((ab a1).later M (a0a _));have b7:=ae ((ab b6).later M (a0a _));have R5:=ae ((ab R4).later M (ab R4).1);have Q5:=ae ((ab Q4).later M (ab Q4).1);obtain⟨QB,hQBe⟩:∃x,x2.heap.size=x:=⟨_,rfl⟩;rw[hQBe]at Q5 dv;rw[hQBe];clear M y a1 b6 R4 Q4 bb hQBe;by_cases H:bW q.1 ⟨NM,yy,mo,dd,l,mi,ss,UT⟩=0
     .
      rw[show dG (bW q.1 ⟨NM,yy,mo,dd,l,mi,ss,UT⟩) = .nilIface by rw[H];rfl];have c7:Hid (∃T,zst s (k+1)=some (q.1++[⟨NM,yy,mo,dd,l,mi,ss,UT⟩],T,q.2.2+PB.size)/\dm (q.1++[⟨NM,yy,mo,dd,l,mi,ss,UT⟩])=true):=by
       obtain⟨T,hT,hE⟩:=ab an;have h2:=sK (ab I) hT;rw[hE,ab c6]at h2;exact⟨_,h2,(wQ (ab bc) _).2 H⟩
      have A:Hid ((k+1<=maxLen/\(k+1)*80<=140737488355328)/\(k+1)*64<=140737488355328):=by
       show(_/\_)/\_;unfold maxLen;omega
      have a7:=bX.own (ab F).1 (ab b4);have ch:=bX.own (sw s k) (ab b7);have V:=(ab al).size;have pA:=(ab Q5).cells (n:=8) rfl;clear H an a3 Q HE;go_wp2_with (first
       | (at_builtin;refine a0r _ rfl _ _ 36 rfl w.heap.size 31 i0 (.agg #[.string ⟨#[]⟩,.int .i64 0,.int .i64 0,.int .i64 0,.int .i64 0,.int .i64 0,.int .i64 0,.string ⟨#[]⟩]) 8 80 a2J hi d8 ed b1 rfl (by decide) _ _ _ rfl (a0k a7 _) ⟨x4.heap.size,0,none⟩ 1 1 (fs ⟨NM,yy,mo,dd,l,mi,ss,UT⟩) rfl rfl (kF x4 _ _) (oT _) (ab A).1.1 (ab A).1.2 (ao V _) ?_;intro v5 x5 ba z Z;clear Z;have R6:=ae (Blk.grown (Blk.later (ab R5) ((a0c _ _).alloc (a0a _) _) (ab R5).1) z (fun e=>absurd (ab R _ e.symm) (a3O _)));have rA:=(ab R6).cells (n:=7) rfl;have a8:=tK ch a7 (by decide) z;have bd:=aC (v:=u4) z a7 (a0a _) V (ab al);have Y:=bd.size)
       | (at_builtin;refine a0r _ rfl _ _ 110 rfl w.heap.size 116 j0 (.agg #[.int .i64 0,.int .i64 0,.int .i64 0,.int .i64 0,.int .i64 0,.string ⟨#[]⟩,.int .i64 0]) 7 64 underlying110 hj d5 d6 d7 rfl (by decide) _ _ _ rfl (a0k a8 _) ⟨x5.heap.size,0,none⟩ 1 1 (zq ⟨HW,ST,CR,PK,LN,NM,q.2.2⟩) rfl rfl (kF x5 _ _) (Jn _) (ab A).1.1 (ab A).2 (ao Y _) ?_;intro v6 x6 aa r Z;clear Z;have R7:=ae (Blk.grown (Blk.later (ab R6) ((a0c _ _).alloc (a0a _) _) (ab R6).1) r (fun e=>absurd (ab S _ e.symm) (a3O _)));have rA:=(ab R7).cells (n:=7) rfl;have cg:=tK ba a8 (by decide) r;have ca:=aC (v:=u5) r a8 (a0a _) Y bd))
      refine(ab c8 _).mono ?_;rintro e x7 ⟨rfl,a6⟩;have cr:gQ x6 w.heap.size v5 (q.1++[⟨NM,yy,mo,dd,l,mi,ss,UT⟩]):=bX.snoc (ab F).1 cg;have bk:Ow x6 w.heap.size v6 (hqL s k++[tq s k]):=bX.snoc (sw s k) (by rw[ab c9];exact aa);rw[←JM]at bk;have cy:=ae (cr.later a6 (a0a _));have c5:=ae (bk.later a6 (a0a _));have cv:=ae (ai ca a6);clear ba aa z r cr bk a6 ca bd V Y a7 cg ch a8 rA R5 R6 R7 Q5 pA b4 b7 al;go_wp2;go_roundw
      case rel=>
       obtain⟨C,b1,D⟩:=ab c7;exact⟨k+1,_,b1,D,by go_num,ab cy,ab c5,ab cv⟩
      case measure=>simp[intOf];omega
     .
      rw[show dG (bW q.1 ⟨NM,yy,mo,dd,l,mi,ss,UT⟩) = .iface 76 (.agg #[.int .i64 (bW q.1 ⟨NM,yy,mo,dd,l,mi,ss,UT⟩)]) by unfold dG;rw[a0d H]];have o:Hid (dU s=none):=by
       obtain⟨T,hT,hE⟩:=ab an;exact IZ (ab I) (ab bc) (ab a3) hT (by rw[hE];exact H)
      have HC:=ae H;clear H an;generalize bW q.1 ⟨NM,yy,mo,dd,l,mi,ss,UT⟩=c at *
      go_wp2
      go_ret2
      exact⟨Ch (ab o) c (ab HC),ab al⟩
   .
    have o:=ae (yQ (ab I) (ab a3) (Ka hd));obtain⟨o1,o2,o3,o4,o5,o6,o7⟩:=ho;have E:=ae (fun W (hb:Below w.heap.size w W)=>ru a b c d f n t m W (by have:=ab Q;omega) o1 o2 o3 o5 (by have:=ab Q;omega) (ab CM _ hb) (ab HO _ hb));unfold enE at E;generalize enB a b c f n t=EB at *
    generalize uxT a t=UT at *
    generalize zz (gOk (b:Nat)) (gY (b:Nat))=yy at *
    generalize zz (gOk (b:Nat)) (gM (b:Nat))=mo at *
    generalize zz (gOk (b:Nat)) (gD (b:Nat))=dd at *
    generalize zz (gOk (b:Nat)) (gH (b:Nat))=l at *
    generalize zz (gOk (b:Nat)) (gI (b:Nat))=mi at *
    generalize zz (gOk (b:Nat)) (gS (b:Nat))=ss at *
    have G:=ae (ai (ab ad) ((a0c x1.heap.size x1).alloc (a0a _) (.cells #[.int .i64 (a:Nat),.int .i64 (b:Nat),.int .i64 (c:Nat),.int .i64 (d:Nat),.int .i64 (f:Nat),.string n,.string t] 97)));clear o1 o2 o3 o4 o5 o6 o7 a0 a2 R S hd Q F HE;go_wp2_with fail;refine(ab E _ (ab G)).mono ?_;rintro e x2 ⟨rfl,D⟩;have L:=ae (ai (ab G) D);clear D G E;cases EB
    .
     rw[show(if false=true then Value.tuple #[.agg #[.string n,.int .i64 yy,.int .i64 mo,.int .i64 dd,.int .i64 l,.int .i64 mi,.int .i64 ss,.string UT],.bool true]else .tuple #[noE,.bool false]) = .tuple #[.agg #[.string ⟨#[]⟩,.int .i64 0,.int .i64 0,.int .i64 0,.int .i64 0,.int .i64 0,.int .i64 0,.string ⟨#[]⟩],.bool false]from rfl];have y:=ae (ai (ab L) ((a0c x2.heap.size x2).alloc (a0a _) (.cells #[.string ⟨#[]⟩,.int .i64 0,.int .i64 0,.int .i64 0,.int .i64 0,.int .i64 0,.int .i64 0,.string ⟨#[]⟩] 31)));go_wp2
     go_ret2
     exact⟨Ch (ab o) 1 (by decide),ab y⟩
    .
     rw[show(if true=true then Value.tuple #[.agg #[.string n,.int .i64 yy,.int .i64 mo,.int .i64 dd,.int .i64 l,.int .i64 mi,.int .i64 ss,.string UT],.bool true]else .tuple #[noE,.bool false]) = .tuple #[.agg #[.string n,.int .i64 yy,.int .i64 mo,.int .i64 dd,.int .i64 l,.int .i64 mi,.int .i64 ss,.string UT],.bool true]from rfl];have y:=ae (ai (ab L) ((a0c x2.heap.size x2).alloc (a0a _) (.cells #[.string n,.int .i64 yy,.int .i64 mo,.int .i64 dd,.int .i64 l,.int .i64 mi,.int .i64 ss,.string UT] 31)));go_wp2
     go_ret2
     exact⟨Ch (ab o) 1 (by decide),ab y⟩
  .
   rw[a0h N]at CX;have a4:=ae (IF hz ac N);obtain⟨ha,hc,bs,_,_⟩:=l.formN (sw s k);have HW:Hid (uX wr ha k fun i=>zq (tq s i)):=by
    rw[bs]at l;intro h0;obtain⟨g,e,hg,hc⟩:=uz Jm ⟨0,0,0,0,0,⟨#[]⟩,0⟩ (sw s k) l h0;exact⟨g,e,hg,fun i hi j u hu=>hc i hi j u (by show(zq ((hqL s k).getD i _))[j]?=_;rw[Ms s k i _ hi];exact hu)⟩
   have O:Hid (∀W,Below wr.heap.size wr W->Ds 77 #[.slice ha k hc,.int .i64 (q.2.2:Nat)] W (.string (q.2.1++dF k q.2.1.size q.2.2))):=fun W hb=>by
    have:=Cc ha hc k q.2.2 (tq s) W ((ab HW).later hb) d2 (Mr (ab HS) (ab I)) (by omega);rw[Al (ab I)]at this;exact this
   rw[←bs]at O;rw[←ab HE]at CX a4;have q1:=fun d os=>Calls.regrown_of (w:=wr) (d:=d) (os:=os) (ab O _ (below_regrown wr d os));have z1:((q.2.2:Nat):Int).toNat=q.2.2:=a0p _;generalize q.2.1++dF k q.2.1.size q.2.2=EN at *
   obtain⟨X,hX⟩:∃x,s.extract q.2.2 s.size=x:=⟨_,rfl⟩;rw[hX]at CX a4;obtain⟨B,hB⟩:∃b,(X.toList == EN.toList)=b:=⟨_,rfl⟩;have HB:=ae hB;clear hf l U K hz ac a9 N HH HW O bs I bc F HE;go_wp2_with fail;refine(ab CX _).mono ?_;rintro e x0 ⟨rfl,b0⟩;subst b0;clear CX;go_wp2_with fail;refine wp_region_quiet_below co (by kernel_rfl) ?_;cases B
   all_goals
    quiet_step (fail)
    quiet_step (fail)
    quiet_step (fail)
    quiet_step (fail)
    quiet_step (fail)
    quiet_step (exact q1 _ _)
    quiet_step (fail)
    refine a1D ?_;intro zw d4;obtain⟨⟨dq,osq⟩,cu⟩:=d4;have I:=below_regrown x0 dq osq;rw[←cu]at I;have T9:=ae (ai (ab P) I);have O9:=ae ((ab HF).later I (a0a _));clear cu I q1
   .
    have HN:Hid (dU s=none):=by show _=_;rw[ab a4,a0d (fun e=>by have:=(xd (ab HB)).2 e;cases this)]
    go_wp2
    go_ret2
    exact⟨Ch (ab HN) 1 (by decide),ab T9⟩
   .
    have HY:Hid (dU s=some q.1):=by show _=_;rw[ab a4,a0e ((xd (ab HB)).1 rfl)]
    go_wp2
    go_ret2
    exact⟨⟨_,0,rfl,fun _=>⟨_,ab HY,ab O9⟩,fun h=>absurd rfl h⟩,ab T9⟩
theorem pR.later{W:World}(a:pR w)(hb:Below w.heap.size w W):pR W:=(hb.cell (p:=⟨0,0,none⟩) (World.block_lt_of_cell? _ _ a)).trans a
theorem tC(s:ByteArray)(m:Int)(w:World)(y:s.size<=1048576)(x:w.cell? ⟨2,0,none⟩=some (.int .i64 m))(t:pR w)(r:dT w) :
  Calls prog 33 #[.string s] w fun e w'=>(∃v,e = .returned (.tuple #[v,.bool (dU s).isSome])/\gQ w' w.heap.size v ((dU s).getD []))/\Below w.heap.size w w':=by
 have C:=ae (Cg s m w y x r);have o:=ae t;clear x t r y;go_enter func33,ntmps33;go_wp2_with fail;refine(ab C).mono ?_;rintro e x1 ⟨⟨v,c,rfl,p,q⟩,f⟩;have d:=ae f;have j:=ae (mO c x1 ((ab o).later f));have k:=ae p;have n:=ae q;clear p q f C o;generalize dG c=FV at *
 go_wp2_with fail;refine(ab j).mono ?_;rintro e x2 ⟨rfl,a⟩;have g:=ae (ai (ab d) a);by_cases i:c=0
 .
  obtain⟨l,u,b⟩:=ab k i;have h:=ae u;have z:=ae (b.later a (a0a _));subst i;clear u b a j k n d;go_wp2
  go_ret2
  exact⟨⟨_,by rw[ab h];rfl,by rw[ab h];exact ab z⟩,ab g⟩
 .
  have h:=ae (ab n i);have hd:decide (c=0)=false:=a0h i;clear a j k n d;go_wp2
  go_ret2
  exact⟨⟨_,by rw[ab h];rfl,by rw[ab h];exact bX.nil _ _⟩,ab g⟩
theorem Cm(l:List En)(x:ByteArray):atN l x = -1∨∃k,k<l.length/\atN l x=(k:Int):=by
 unfold atN;cases h:l.findIdx? (fun e=>e.n.data.toList == x.data.toList)with
 | none=>exact .inl rfl
 | some k=>exact .inr ⟨k,(List.findIdx?_eq_some_iff_getElem.1 h).1,rfl⟩
theorem LL: ((dU s).getD []).length<=6:=by
 cases h:dU s with
 | none=>simp
 | some l=>
  obtain⟨_,q,_,rfl,a,_⟩:=ny h;exact(jf a).2
theorem Cz(a b:List UInt8):bZ a b=bZ b a:=by
 unfold bZ;rw[Bool.or_comm (fB b a)]
 congr 1
 rw[a2a];simp only[a2N];exact⟨Eq.symm,Eq.symm⟩
def goes(e f:En):Prop:=bZ e.n.data.toList f.n.data.toList=false
theorem vW{e f:En}(h:goes e f):goes f e:=by
 unfold goes at *;rw[Cz];exact h
theorem uW(l:List En):dm l=true<->(∀e∈l,gV e=true)/\l.Pairwise goes/\l.length<=6:=by
 rw[nz,List.pairwise_iff_getElem];have g:∀i (a:i<l.length),l.getD i default=l[i]:=fun i a=>by simp[List.getD,a]
 constructor
 .
  intro h;refine⟨fun e k=>?_,fun i j a b d=>?_,?_⟩
  . obtain⟨i,a,rfl⟩:=a1z k;have:=((fW a).1 (h i a)).1;rwa[g i a]at this
  . have:=((fW b).1 (h j b)).2.1 i d;rw[g i a,g j b]at this;exact this
  .
   rcases a1k 6 l.length with c|c
   . have:=((fW c).1 (h 6 c)).2.2;omega
   . exact c
 . rintro⟨f,h2,m⟩ i a;refine(fW a).2 ⟨by rw[g i a];exact f _ (a19 _),fun j b=>?_,by omega⟩;rw[g i a,g j (by omega)];exact h2 j i (by omega) a b
theorem NG(l:List En)(x:ByteArray):i7 l x=false<->∀e∈l,bZ e.n.data.toList x.data.toList=false:=by
 unfold i7;rw[List.any_eq_false];simp
theorem qW{l:List En}(h:dm l=true)(k:Nat):dm (l.eraseIdx k)=true:=by
 obtain⟨b,h2,c⟩:=(uW l).1 h;have a:=List.eraseIdx_sublist l k;exact(uW _).2 ⟨fun e d=>b e (a.subset d),h2.sublist a,a0E a.length_le c⟩
theorem wz{l:List En}(a:k<l.length)(e:En):l.set k e=l.take k++e :: l.drop (k+1):=by rw[List.set_eq_take_append_cons_drop,a0e a]
theorem Nt{l:List En}{e:En}(h:dm l=true)(d:k<l.length)(i:gV e=true)(c:i7 (l.eraseIdx k) e.n=false):dm (l.set k e)=true:=by
 have b:=(uW _).1 (qW h k);have g:=((uW l).1 h).2.2;rw[a3K]at b c;have c:=(NG _ _).1 c;refine(uW _).2 ⟨fun f a=>?_,?_,by rw[a1d];exact g⟩
 .
  rw[wz d]at a;simp only[a0T,a0U]at a;rcases a with a|rfl|a
  . exact b.1 f (a0T.2 (.inl a))
  . exact i
  . exact b.1 f (a0T.2 (.inr a))
 . rw[wz d,List.pairwise_middle (fun h=>vW h),List.pairwise_cons];exact⟨fun f a=>vW (c f a),b.2.1⟩
def iP(e:En)(x:ByteArray):En:={ e with n:=x }
def dI(x y:ByteArray)(l:List En):Int×List En:=if gu y.data.toList then(if atN l x<0 then(2,[])else if i7 (l.eraseIdx (atN l x).toNat) y then(3,[])else(0,l.set (atN l x).toNat (iP (l.getD (atN l x).toNat default) y)))else(1,[])
theorem NK{l:List En}(h:¬ atN l x<0):∃k:Nat,atN l x=(k:Int)/\(atN l x).toNat=k/\k<l.length:=by
 rcases Cm l x with a|⟨k,b,a⟩
 . omega
 . exact⟨k,a,by omega,b⟩
theorem E5{e:En}(h:gV e=true)(a:gu y.data.toList=true):gV (iP e y)=true:=by
 unfold gV iB at *
 simp only[a0n]at h ⊢;exact⟨a,h.2⟩
theorem xC{l:List En}(h:dm l=true)(a:k<l.length):gV (l.getD k default)=true:=(jf h).1 k a
theorem E6{l:List En}(h:dm l=true)(a:(dI x y l).1=0):dm (dI x y l).2=true:=by
 unfold dI at a ⊢
 split
 .
  rename_i he;rw[a0e he]at a
  split
  . rename_i hc;rw[a0e hc]at a;cases a
  .
   rename_i hc;rw[a0d hc]at a;obtain⟨k,c,h2,b⟩:=NK hc;rw[h2]at a ⊢
   split
   . rename_i hn;rw[a0e hn]at a;cases a
   . rename_i hn;exact Nt h b (E5 (xC h b) he) (by show i7 _ y=false;simpa using hn)
 . rename_i he;rw[a0d he]at a;cases a
def edR(s:ByteArray)(d:List En->Int×List En):Value:=match dU s with
 | none=>.tuple #[.string ⟨#[]⟩,.int .i64 1]
 | some l=>if (d l).1=0 then .tuple #[.string (yG (d l).2),.int .i64 0]else .tuple #[.string s,.int .i64 (d l).1]
theorem EG(h:dU s=none)(d:List En->Int×List En):edR s d = .tuple #[.string ⟨#[]⟩,.int .i64 1]:=by unfold edR;rw[h]
theorem Jj{l r:List En}{d:List En->Int×List En}(h:dU s=some l)(a:d l=(0,r)):edR s d = .tuple #[.string (yG r),.int .i64 0]:=by unfold edR;rw[h];simp[a]
theorem EF{l r:List En}{d:List En->Int×List En}{c:Int}(h:dU s=some l)(a:d l=(c,r))(b:c≠0):edR s d = .tuple #[.string s,.int .i64 c]:=by unfold edR;rw[h];simp[a,b]
theorem EE(s:ByteArray)(d:List En->Int×List En):∃t c,edR s d = .tuple #[.string t,.int .i64 c]:=by
 unfold edR
 split
 . exact⟨_,_,rfl⟩
 . split<;>exact⟨_,_,rfl⟩
theorem sJ{l:List En}(h:dU s=some l):dm l=true:=by
 obtain⟨_,q,_,rfl,a,_⟩:=ny h;exact a
theorem nB{l:List En}(h:dm l=true):∀i,i<l.length->(l.getD i default).n.size<=1048576/\((l.getD i default).t.size:Int)<=9223372036854775807:=by
 intro i a;obtain⟨f1,f2,_⟩:=du (n:=(l.getD i default).n) (t:=(l.getD i default).t) (xC h a);exact⟨by omega,by omega⟩
theorem Nr{l:List En}{n:Nat}(h:dm l=true)(a:l.length=n):yG l=(aI l).1++(aI l).2++dF n (aI l).2.size (aI l).1.size:=by unfold yG;rw[a0e h,a]
theorem vL(l:List En):∀u∈l.flatMap fs,u.oneCell'=true:=fun u a=>by
 obtain⟨e,_,h⟩:=List.mem_flatMap.1 a;exact oT e u h
theorem zt(e:En)(b:Nat)(x:ByteArray)(w:World)(hb:w.cell? ⟨b,0,none⟩=some (.string x)) :
  Calls prog 66 #[.agg #[.string e.n,.int .i64 e.y,.int .i64 e.mo,.int .i64 e.d,.int .i64 e.h,.int .i64 e.mi,.int .i64 e.s,.string e.t],.pointer (some ⟨b,0,none⟩)] w fun f w'=>f = .returned (.bool (e.n.toList == x.toList))/\Below w.heap.size w w':=by
 have a:b<w.heap.size:=World.block_lt_of_cell? _ _ hb;have g:¬ b=w.heap.size:=by omega
 have c:(w.alloc (.cells #[.string e.n,.int .i64 e.y,.int .i64 e.mo,.int .i64 e.d,.int .i64 e.h,.int .i64 e.mi,.int .i64 e.s,.string e.t] 31)).cell? ⟨b,0,none⟩=some (.string x):=by
  rw[World.cell?_alloc_past _ _ _ a];exact hb
 clear hb;go_enter func66,ntmps66;go_wp2;go_ret;exact⟨rfl,(a0c _ _).alloc (a0a _) _⟩
theorem vn(a:Option Addr)(cap:Nat)(l:List En)(n:Nat)(C:l.length=n)(b:Nat)(x:ByteArray)(w:World)(h:kj w a l)(R:(n:Int)<=1048576)(hb:w.cell? ⟨b,0,none⟩=some (.string x)) :
  Ds 65 #[.slice a n cap,.func (.func 66) #[] #[.pointer (some ⟨b,0,none⟩)]] w (.int .i64 (atN l x)):=by
 have K:=ae h;have t:=ae (fun W (z:Below w.heap.size w W)=>(z.cell (p:=⟨b,0,none⟩) (World.block_lt_of_cell? _ _ hb)).trans hb);have E:=ae (fun k (B:k<l.length)=>@wY l x k B);have F:=ae (@yL l x);rw[C]at E F;have G:=ae C;clear h C hb;go_enter func65,ntmps65;go_wp2_with fail
 go_loopw [5,8] (fun _ i wr=>∃k:Nat,k<=n/\i = .int .i64 k/\(∀j,j<k->¬ (l.getD j default).n.toList=x.toList)/\Below w.heap.size w wr) (fun _ i _=>n-(intOf i).toNat)
 case atStart=>exact⟨0,a0g _,rfl,fun j I=>absurd I (by omega),a0c _ _⟩
 case round=>
  obtain⟨k,B,rfl,f,m⟩:=hrel;have c:=ae f;have d:=ae m;clear f m;by_cases q:k<n
  .
   have P:(k:Int)<(n:Int):=by omega
   obtain⟨g,o,rfl,Q,H⟩:=(ab K).later (ab d) (by have:=ab G;omega);obtain⟨c0,c1,c2,c3,c4,M,N,O⟩:=H k (by have:=ab G;omega);have r:=ae q;have v:=ae (ab E k q (ab c));have J:=ae (fun W (z:Below w.heap.size w W)=>zt (l.getD k default) b x W (ab t W z));have y:Hid (¬ (l.getD k default).n.toList=x.toList->∀j,j<k+1->¬ (l.getD j default).n.toList=x.toList):=by
    intro e j I;by_cases A:j=k
    . rw[A];exact e
    . exact ab c j (by omega)
   clear H B c q;generalize l.getD k default=en at *
   go_wp2_with fail;refine(ab J _ (ab d)).mono ?_;rintro e z1 ⟨rfl,s⟩;have D:=ae (ai (ab d) s);clear s c0 c1 c2 c3 c4 M N O;by_cases e:en.n.toList=x.toList
   . have u:=ae (ab v e);rw[show(en.n.toList == x.toList)=true by simp only[a2N];exact e];go_wp2;go_ret;exact⟨by rw[ab u];rfl,ab D⟩
   .
    have L:=ae (ab y e);rw[show(en.n.toList == x.toList)=false by simp only[a03,ne_eq];exact e];clear e;go_wp2;go_roundw
    case rel=>exact⟨k+1,by have:=ab r;omega,by go_num,ab L,ab D⟩
    case measure=>have:=ab r;simp[intOf];omega
  .
   obtain rfl:k=n:=by omega
   have u:=ae (ab F (ab c));go_wp2;go_ret;exact⟨by rw[ab u];rfl,ab d⟩
def Jr(k:Int):Value:=if k<0 then .tuple #[.int .i64 0,.iface 76 (.agg #[.int .i64 2])]else .tuple #[.int .i64 k,.nilIface]
theorem EI{k:Int}(h:k<0):Jr k = .tuple #[.int .i64 0,.iface 76 (.agg #[.int .i64 2])]:=a0e h
theorem zv{k:Int}(h:¬ k<0):Jr k = .tuple #[.int .i64 k,.nilIface]:=a0d h
theorem xA(a:Option Addr)(cap:Nat)(l:List En)(n:Nat)(i:l.length=n)(x:ByteArray)(w:World)(h:kj w a l)(j:(n:Int)<=1048576) :
  Ds 43 #[.slice a n cap,.string x] w (Jr (atN l x)):=by
 have e:=ae ((a0c w.heap.size w).alloc (a0a _) (.cells #[.string x] 9));have C:=ae (vn a cap l n i w.heap.size x _ (h.later (ab e)) j ((aM w #[.string x] 9).cell 0 _ rfl));clear h i;go_enter func43,ntmps43;go_wp2_with fail;refine(ab C).mono ?_;rintro f x1 ⟨rfl,c⟩;have b:=ae (ai (ab e) c);clear c e C;by_cases g:atN l x<0
 .
  have d:=ae (EI g);go_wp2
  go_ret2
  exact⟨by rw[ab d];rfl,ab b⟩
 .
  have d:=ae (zv g);go_wp2
  go_ret2
  exact⟨by rw[ab d];rfl,ab b⟩
def IG(b:Nat)(w:World)(d:Int×List En)(e:Ending)(w':World):Prop:=(∃v,e = .returned (.tuple #[v,dG d.1])/\(∃a n c,v = .slice a n c)/\(d.1=0->gQ w' b v d.2))/\Below b w w'
theorem xt{d:Int×List En}{c:Int}(h:d.1=c)(a:c≠0)(hb:Below b w w'):IG b w d (.returned (.tuple #[.slice none 0 0,.iface 76 (.agg #[.int .i64 c])])) w':=by
 subst h;exact⟨⟨_,by unfold dG;rw[a0d a],⟨_,_,_,rfl⟩,fun e=>absurd e a⟩,hb⟩
theorem tV(s:ByteArray)(b:Bool)(w:World) :
  Calls prog 19 #[.string s,.bool b] w fun e w'=>e = .returned (.string (if b then s else⟨#[]⟩))/\w'=w:=by
 cases b
 all_goals
  go_enter func19,ntmps19;go_wp2;go_ret;exact⟨rfl,rfl⟩
end Go.Proofs.YtchidddpplangaaGreatDoor
