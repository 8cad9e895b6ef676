/- Texts. -/
import Derived.Test.YtfannoajibacnaaGreatDoorM41
import Derived.Test.YtfannoajibacnaaGreatDoorM40
set_option linter.all false
set_option maxRecDepth 100000
set_option maxHeartbeats 12800000
namespace Go.Proofs.YtfannoajibacnaaGreatDoor
open Go.Proofs.Tryz
open Corb
variable {T c s x y:ByteArray}{b i k m:Nat}{u:List UInt8}{w w':World}
def sub(s:ByteArray)(p:Nat):ByteArray:=s.extract p s.size
def gZ(s:ByteArray)(p:Nat):(sub s p).data.toList=s.data.toList.drop p:=by
 rw[sub,ext_list];exact a0t (by simp)
def jI(s:ByteArray)(p:Nat):(sub s p).size=s.size-p:=by
 rw[sub,a2e];omega
def pB(s:ByteArray):Nat:=30+wd s.data.toList 26 2+wd s.data.toList 18 4
def enO(s T:ByteArray):En:=⟨nmB s,gY (wd s.data.toList 10 4:Nat),gM (wd s.data.toList 10 4:Nat),gD (wd s.data.toList 10 4:Nat),gH (wd s.data.toList 10 4:Nat),gI (wd s.data.toList 10 4:Nat),gS (wd s.data.toList 10 4:Nat),T⟩
def ctO(s:ByteArray)(p:Nat):ByteArray:=li (wd s.data.toList 8 2) (wd s.data.toList 10 4) (wd s.data.toList 14 4) (wd s.data.toList 18 4) (wd s.data.toList 22 4) (nmB s) p
def mj(h:iJ s=some T):hdB s=true/\fi (enO s T)=true:=by
 unfold iJ at h
 split at h
 .
  rename_i h0;refine⟨h0,?_⟩
  split at h
  .
   split at h
   .
    rename_i h2;cases h
    simp only[Ry,a0k]at h2;exact h2.2.2
   . cases h
  . cases h
 . cases h
def zst(s:ByteArray):Nat->Option (List En×ByteArray×Nat)
 | 0=>some ([],⟨#[]⟩,0)
 | i+1=>(zst s i).bind fun q=>(iJ (sub s q.2.2)).map fun T=>(q.1++[enO (sub s q.2.2) T],q.2.1++ctO (sub s q.2.2) q.2.2,q.2.2+pB (sub s q.2.2))
def sg{q:List En×ByteArray×Nat}(h:zst s i=some q)(a:iJ (sub s q.2.2)=some T) :
  zst s (i+1)=some (q.1++[enO (sub s q.2.2) T],q.2.1++ctO (sub s q.2.2) q.2.2,q.2.2+pB (sub s q.2.2)):=by
 rw[zst,h,a0f,a,a33]
def UA{q:List En×ByteArray×Nat}(h:zst s i=some q)(a:iJ (sub s q.2.2)=none):zst s (i+1)=none:=by
 rw[zst,h,a0f,a,Option.map_none]
theorem F7{s:ByteArray}{i:Nat}(h:zst s i=none):∀m,i<=m->zst s m=none
 | 0,hm=>by
  have:i=0:=by omega
  rw[←this];exact h
 | m+1,hm=>by
  by_cases e:i=m+1
  . rw[←e];exact h
  . rw[zst,F7 h m (by omega)];rfl
def iO{q:List En×ByteArray×Nat}(h:zst s (i+1)=some q):∃r T,zst s i=some r/\iJ (sub s r.2.2)=some T/\q=(r.1++[enO (sub s r.2.2) T],r.2.1++ctO (sub s r.2.2) r.2.2,r.2.2+pB (sub s r.2.2)):=by
 rw[zst]at h;rcases b:zst s i with _|r
 . rw[b]at h;cases h
 .
  rw[b,a0f]at h;rcases a:iJ (sub s r.2.2)with _|T
  . rw[a]at h;cases h
  .
   rw[a,a33]at h;cases h
   exact⟨r,T,rfl,a,rfl⟩
def wZ(h:iJ s=some T):pB s<=s.size:=(lM.1 (mj h).1).2.2
theorem jt{s:ByteArray} : ∀{i:Nat} {q:List En×ByteArray×Nat},zst s i=some q->q.1.length=i/\q.2.2<=s.size/\(∀e∈q.1,fi e=true)/\(q.2.1=⟨#[]⟩∨q.2.1.data.toList.take 4=[80,75,1,2])/\q.2.1.size<=100*i
 | 0,q,h=>by cases h;exact⟨rfl,a0g _,(fun e a=>by cases a),.inl rfl,a0g _⟩
 | i+1,q,h=>by
  obtain⟨r,T,c,h2,rfl⟩:=iO h;obtain⟨a1,a2,a3,a4,a5⟩:=jt c;have f:=wZ h2;rw[jI]at f;have b:=(mj h2).2;have g:=(dk (n:=(enO (sub s r.2.2) T).n) (t:=(enO (sub s r.2.2) T).t) b).1;have d:(ctO (sub s r.2.2) r.2.2).size=46+(nmB (sub s r.2.2)).size:=iX _ _ _ _ _ _ _;have j:(nmB (sub s r.2.2)).size<=43:=g;refine⟨by simp[a1],?_,?_,?_,?_⟩
  . show r.2.2+pB (sub s r.2.2)<=s.size;omega
  .
   intro e a;rcases a03.1 a with a|a
   . exact a3 e a
   . rw[a09.1 a];exact b
  .
   refine .inr ?_;show(r.2.1++ctO (sub s r.2.2) r.2.2).data.toList.take 4=_;have e0:(ctO (sub s r.2.2) r.2.2).data.toList.take 4=[80,75,1,2]:=by simp[ctO,li]
   rcases a4 with e|e
   . rw[e];simpa using e0
   .
    have:4<=r.2.1.data.toList.length:=by
     have:=congrArg List.length e;rw[a0u]at this;simp at this ⊢;omega
    simp only[a2c,a1H];rw[a1n this];exact e
  . show(r.2.1++ctO (sub s r.2.2) r.2.2).size<=_;rw[a0H,d];omega
theorem my{s:ByteArray}{k:Nat} : ∀{m:Nat} {q:List En×ByteArray×Nat},zst s m=some q->k<=m->∃r,zst s k=some r/\r.1=q.1.take k
 | 0,q,h,hk=>by
  have:k=0:=by omega
  subst this;exact⟨q,h,by cases h;rfl⟩
 | m+1,q,h,hk=>by
  by_cases e:k=m+1
  . subst e;exact⟨q,h,by rw[a0t (by rw[(jt h).1];exact a0a _)]⟩
  . obtain⟨r,T,a,h2,rfl⟩:=iO h;obtain⟨d,b,c⟩:=my a (by omega:k<=m);refine⟨d,b,?_⟩;rw[c];show _=(r.1++_).take k;rw[a1n (by rw[(jt a).1];omega)]
def um(h:iJ s=some T):s.data.toList.take 4=[80,75,3,4]:=by
 obtain⟨a,h2,_⟩:=lM.1 (mj h).1;simp only[nN,a0k,a0v]at h2;have b:30<=s.data.toList.length:=by simpa using a
 have:=(uE (l:=s.data.toList) (i:=0) (k:=4) (by omega) (by decide)).1 h2.1;rw[a1L]at this;rw[this];decide +kernel
def y7(k z p:Nat):(dT k z p).data.toList=[80,75,5,6]++(leS 2 0++(leS 2 0++(leS 2 k++(leS 2 k++(leS 4 z++(leS 4 p++leS 2 0)))))):=by
 simp[dT,ax]
def Jp(k z p:Nat)(a:c=⟨#[]⟩∨c.data.toList.take 4=[80,75,1,2]):(c++dT k z p).data.toList.take 4≠[80,75,3,4]:=by
 simp only[a2c,a1H];rcases a with e|e
 . rw[e,y7];simp
 .
  have:4<=c.data.toList.length:=by
   have:=congrArg List.length e;rw[a0u]at this;simp at this ⊢;omega
  rw[a1n this,e];decide
def NU{z p q:Nat}(h:sub s p=c++dT k z q)(e:k<65536):22<=s.size/\wd s.data.toList (s.size-12) 2=k:=by
 have d:s.size-p=c.size+22:=by rw[←jI,h,a0H,oQ]
 refine⟨by omega,?_⟩;have h2:s.data.toList=(s.data.toList.take p++(c.data.toList++([80,75,5,6]++(leS 2 0++(leS 2 0++leS 2 k)))))++(leS 2 k++(leS 4 z++(leS 4 q++leS 2 0))):=by
  have:s.data.toList.drop p=(c++dT k z q).data.toList:=by rw[←gZ,h]
  conv=>lhs;rw[←a1z p s.data.toList,this]
  simp only[a2c,a1H,y7,a0I]
 have a:(s.data.toList.take p++(c.data.toList++([80,75,5,6]++(leS 2 0++(leS 2 0++leS 2 k))))).length=s.size-12:=by
  simp only[a0i,a0u,aB];have e1:s.data.toList.length=s.size:=by simp
  have e2:c.data.toList.length=c.size:=by simp
  rw[e1,e2];simp;omega
 rw[h2];have:=IV (b:=leS 2 k++(leS 4 z++(leS 4 q++leS 2 0))) (i:=0) 2 a;rw[a1d]at this;rw[this];exact iN _ (by omega)
def cV(s:ByteArray):Option (List En):=
 if 12<=s.size/\wd s.data.toList (s.size-12) 2<=6 then
  (match zst s (wd s.data.toList (s.size-12) 2)with
  | some q=>if bi q.1=true/\sub s q.2.2=q.2.1++dT (wd s.data.toList (s.size-12) 2) q.2.1.size q.2.2 then some q.1 else none
  | none=>none)
 else none
def pt{l:List En}(h:cV s=some l):∃m q,zst s m=some q/\l=q.1/\bi q.1=true/\sub s q.2.2=q.2.1++dT m q.2.1.size q.2.2:=by
 unfold cV at h
 split at h
 .
  split at h
  .
   rename_i q hq
   split at h
   .
    rename_i h2;cases h
    exact⟨_,q,hq,rfl,h2.1,h2.2⟩
   . cases h
  . cases h
 . cases h
def FZ{q:List En×ByteArray×Nat}(h:zst s m=some q)(b:bi q.1=true)(a:sub s q.2.2=q.2.1++dT m q.2.1.size q.2.2):cV s=some q.1:=by
 have c:=(ct b).2;have d:=(jt h).1;obtain⟨e1,e2⟩:=NU a (by omega);unfold cV;rw[a0d ⟨by omega,by omega⟩,e2,h];simp only;rw[a0d ⟨b,a⟩]
def Ah{q r:List En×ByteArray×Nat}(d:zst s k=some q)(b:zst s m=some r)(c:sub s r.2.2=r.2.1++dT m r.2.1.size r.2.2):k<=m:=by
 rcases a1o m k with h|h
 .
  exfalso;obtain⟨x,e,_⟩:=my d (by omega:m+1<=k);obtain⟨y,T,a,h2,_⟩:=iO e;rw[b]at a;cases a
  have:=um h2;rw[c]at this;exact Jp _ _ _ (jt b).2.2.2.1 this
 . exact h
def MI{q:List En×ByteArray×Nat}(b:zst s k=some q)(i:bi q.1=true)(f:(sub s q.2.2).data.toList.take 4≠[80,75,3,4]) :
  cV s=if sub s q.2.2=q.2.1++dT k q.2.1.size q.2.2 then some q.1 else none:=by
 split
 . rename_i he;exact FZ b i he
 .
  rename_i he;rcases h:cV s with _|l
  . rfl
  .
   exfalso;obtain⟨m,r,a,h2,j,c⟩:=pt h;have d:=Ah b a c;by_cases e:k=m
   .
    subst e;rw[b]at a;cases a
    exact he c
   .
    obtain⟨x,g,_⟩:=my a (by omega:k+1<=m);obtain⟨y,T,y1,y2,_⟩:=iO g;rw[b]at y1;cases y1
    exact f (um y2)
def FX{q:List En×ByteArray×Nat}(c:zst s k=some q)(o:(sub s q.2.2).data.toList.take 4=[80,75,3,4])(p:∀T,iJ (sub s q.2.2)=some T->bi (q.1++[enO (sub s q.2.2) T])=false):cV s=none:=by
 rcases h:cV s with _|l
 . rfl
 .
  exfalso;obtain⟨m,r,b,h2,f,g⟩:=pt h;have u:=Ah c b g;by_cases e:k=m
  .
   subst e;rw[c]at b;cases b
   rw[g]at o;exact Jp _ _ _ (jt c).2.2.2.1 o
  .
   obtain⟨x,v,d⟩:=my b (by omega:k+1<=m);obtain⟨y,T,y1,y2,y3⟩:=iO v;rw[c]at y1;cases y1
   have j:=p T y2;have n:bi (r.1.take (k+1))=true:=by
    rw[pu]at f ⊢;intro i t;have a:i<k+1/\i<r.1.length:=by rw[a0u]at t;omega
    have:=f i a.2;unfold jW at this ⊢;rw[pq r.1 (k+1) i a.1,a2X,a1r (by omega)];exact this
   rw[←d,y3]at n;rw[n]at j;cases j
def hqO(x:ByteArray)(p:Nat):Hq:=⟨wd x.data.toList 8 2,wd x.data.toList 10 4,wd x.data.toList 14 4,wd x.data.toList 18 4,wd x.data.toList 22 4,nmB x,p⟩
def wg(s:ByteArray)(k:Nat):Hq:=match zst s k with
 | some q=>hqO (sub s q.2.2) q.2.2
 | none=>hqO ⟨#[]⟩ 0
def hqL(s:ByteArray)(n:Nat):List Hq:=(List.range n).map (wg s)
def vh(s:ByteArray)(n:Nat):(hqL s n).length=n:=by simp[hqL]
def Ov(s:ByteArray)(n:Nat):hqL s (n+1)=hqL s n++[wg s n]:=by simp[hqL,a3T]
def RU(s:ByteArray)(n i:Nat)(d:Hq)(h:i<n):(hqL s n).getD i d=wg s i:=by simp[hqL,List.getD,h]
def Bh{q:List En×ByteArray×Nat}(h:zst s k=some q):wg s k=hqO (sub s q.2.2) q.2.2:=by
 unfold wg;rw[h]
theorem Ek{s:ByteArray} : ∀{k:Nat} {q:List En×ByteArray×Nat},zst s k=some q->fK (wg s) k=q.2.1
 | 0,q,h=>by cases h;rfl
 | k+1,q,h=>by
  obtain⟨r,T,a,h2,rfl⟩:=iO h;rw[fK,Ek a,Bh a];rfl
def RS(j:s.size<=1048576){q:List En×ByteArray×Nat}(h:zst s k=some q):∀i,i<k->okQ (wg s i):=by
 intro i f;obtain⟨x,e,_⟩:=my h (by omega:i+1<=k);obtain⟨r,T,a,h2,_⟩:=iO e;rw[Bh a];have b:=(mj h2).2;have c:=(dk (n:=(enO (sub s r.2.2) T).n) (t:=(enO (sub s r.2.2) T).t) b).1;have d:(nmB (sub s r.2.2)).size<=43:=c;have g:=(jt a).2.1;exact⟨jT _ _,fF _ _,fF _ _,fF _ _,fF _ _,by show(nmB (sub s r.2.2)).size<=54;omega,by show r.2.2<4294967296;omega⟩
def Kh(l:List En)(e:En)(i:Nat)(a:i<l.length):jW (l++[e]) i=jW l i:=by
 unfold jW;rw[a1n (by omega)]
 congr 1
 simp only[List.getD];rw[List.getElem?_append_left a]
def yV(l:List En)(e:En):jW (l++[e]) l.length=aK l e:=by
 unfold jW;rw[a1n (a0a _),a0t (a0a _)]
 congr 1
 simp[List.getD]
def iv{l:List En}(h:bi l=true)(e:En):bi (l++[e])=true<->aK l e=0:=by
 rw[pu]at h ⊢;constructor
 . intro k;have:=k l.length (by simp);rw[yV]at this;exact this
 .
  intro k i b;by_cases a:i<l.length
  . rw[Kh l e i a];exact h i a
  .
   have:i=l.length:=by simp at b;omega
   rw[this,yV];exact k
def Pe(s:ByteArray):Lib.hasPrefix s.data.toList [80,75,3,4]=decide (s.data.toList.take 4=[80,75,3,4]):=by
 rw[a2h,a0v];unfold Lib.hasPrefix;rw[List.isPrefixOf_iff_prefix,List.prefix_iff_eq_take];exact eq_comm
def Ms{v:List UInt8}{n:Nat}(h:30<=v.length)(a:nN v=true)(d:n=wd v 26 2):(fp (wd v 8 2) (wd v 10 4) (wd v 14 4) (wd v 18 4) (wd v 22 4) n).data.toList=(v.drop 4).take 26:=by
 have st:∀i k m,(v.drop i).take (k+m)=(v.drop i).take k++(v.drop (i+k)).take m:=fun i k m=>by rw[a3o,a1W]
 simp only[nN,a0k,a0v]at a;obtain⟨_,b,h2,c⟩:=a;have e1:=(uE (l:=v) (i:=4) (k:=2) (by omega) (by decide)).1 b;have e2:=(uE (l:=v) (i:=6) (k:=2) (by omega) (by decide)).1 h2;have e3:=(uE (l:=v) (i:=28) (k:=2) (by omega) (by decide)).1 c;have e:(fp (wd v 8 2) (wd v 10 4) (wd v 14 4) (wd v 18 4) (wd v 22 4) n).data.toList=leS 2 20++(leS 2 0++(leS 2 (wd v 8 2)++(leS 4 (wd v 10 4)++(leS 4 (wd v 14 4)++(leS 4 (wd v 18 4)++(leS 4 (wd v 22 4)++(leS 2 n++leS 2 0))))))):=by
  unfold fp ax;simp
 rw[e,d,←e1,←e2,jr (i:=8) (k:=2) (by omega),jr (i:=10) (k:=4) (by omega),jr (i:=14) (k:=4) (by omega),jr (i:=18) (k:=4) (by omega),jr (i:=22) (k:=4) (by omega),jr (i:=26) (k:=2) (by omega)]
 conv=>lhs;rhs;rhs;rhs;rhs;rhs;rhs;rhs;rhs;rw[e2,←e3]
 rw[←st 26 2 2,←st 22 4 _,←st 18 4 _,←st 14 4 _,←st 10 4 _,←st 8 2 _,←st 6 2 _,←st 4 2 _]
def uR(u v:List UInt8)(own:Nat):Prop:=30<=u.length/\46+wd u 28 2<=u.length/\30+wd u 28 2<=v.length/\((u.drop 6).take 26=(v.drop 4).take 26/\(u.drop 46).take (wd u 28 2)=(v.drop 30).take (wd u 28 2))/\(u.take 6=leS 4 33639248++leS 2 20/\(u.drop 32).take 14=List.replicate 10 0++leS 4 own)
def Nx(own:Nat)(h:hdB x=true):(ctO x own).data.toList=(leS 4 33639248++leS 2 20)++((x.data.toList.drop 4).take 26++((List.replicate 10 0++leS 4 own)++(x.data.toList.drop 30).take (wd x.data.toList 26 2))):=by
 obtain⟨a,h2,c⟩:=lM.1 h;have b:30<=x.data.toList.length:=by simpa using a
 have e:=Ms b h2 (ml (s:=x) (by omega));have e0:leS 4 33639248=[80,75,1,2]:=by decide +kernel
 rw[e0,←e,←xr];unfold ctO li ax;simp[List.replicate]
def tj{v:List UInt8}(h:(u.drop 6).take 26=(v.drop 4).take 26):wd u 28 2=wd v 26 2:=by
 have e1:((u.drop 6).take 26).drop 22=(u.drop 28).take 4:=by rw[a30,a1W]
 have e2:((v.drop 4).take 26).drop 22=(v.drop 26).take 4:=by rw[a30,a1W]
 have e3:(u.drop 28).take 4=(v.drop 26).take 4:=by rw[←e1,←e2,h]
 have e4:(u.drop 28).take 2=(v.drop 26).take 2:=by
  have:=congrArg (List.take 2) e3;rwa[a2X,a2X]at this
 unfold wd;rw[e4]
def Se(own:Nat)(h:hdB x=true):uR u x.data.toList own<->u.take (46+wd x.data.toList 26 2)=(ctO x own).data.toList:=by
 obtain⟨g,h2,j⟩:=lM.1 h;have d:30+wd x.data.toList 26 2<=x.data.toList.length:=by
  have:x.data.toList.length=x.size:=by simp
  omega
 have st:∀i k m,(u.drop i).take (k+m)=(u.drop i).take k++(u.drop (i+k)).take m:=fun i k m=>by rw[a3o,a1W]
 have eu:∀n,u.take (46+n)=u.take 6++((u.drop 6).take 26++((u.drop 32).take 14++(u.drop 46).take n)):=fun n=>by
  rw[←st 32 14 n,←st 6 26 _];have:=st 0 6 (26+(14+n));rw[a1L,a0G]at this;rw[←this]
  congr 1;omega
 rw[Nx own h];have l1:(leS 4 33639248++leS 2 20).length=6:=by simp[aB]
 have l2:((x.data.toList.drop 4).take 26).length=26:=fQ (by omega);have l3:(List.replicate 10 (0:UInt8)++leS 4 own).length=14:=by simp[aB]
 have l4:((x.data.toList.drop 30).take (wd x.data.toList 26 2)).length=wd x.data.toList 26 2:=fQ d;constructor
 . rintro⟨c0,c1,c2,⟨s1,s2⟩,b,c⟩;have a:=tj s1;rw[a]at s2;rw[eu,b,s1,c,s2]
 .
  intro e;have f:=congrArg List.length e;have m1:=l1;have m3:=l3;simp only[a0i]at f m1 m3;rw[a0u,l2,l4]at f;have l:46+wd x.data.toList 26 2<=u.length:=by omega
  rw[eu]at e;obtain⟨b,e⟩:=a2b e (by rw[l1,a0u];omega);obtain⟨s1,e⟩:=a2b e (by rw[l2,a0u,a04];omega);obtain⟨c,s2⟩:=a2b e (by rw[l3,a0u,a04];omega);have a:=tj s1;exact⟨by omega,by omega,by rw[a];exact d,⟨s1,by rw[a];exact s2⟩,b,c⟩
theorem JR{s:ByteArray}{k:Nat}{r:List En×ByteArray×Nat}(a:zst s k=some r):∀{m:Nat} {q:List En×ByteArray×Nat},zst s m=some q->k<=m->∃x,q.2.1.data.toList=r.2.1.data.toList++x
 | 0,q,h,hkm=>by
  have:k=0:=by omega
  subst this;rw[a]at h;cases h;exact⟨[],by simp⟩
 | m+1,q,h,hkm=>by
  by_cases e:k=m+1
  . subst e;rw[a]at h;cases h;exact⟨[],by simp⟩
  .
   obtain⟨y,T,b,h2,rfl⟩:=iO h;obtain⟨x,c⟩:=JR a b (by omega);exact⟨x++(ctO (sub s y.2.2) y.2.2).data.toList,by
    show(y.2.1++ctO (sub s y.2.2) y.2.2).data.toList=_;simp only[a2c,a1H];rw[c,a0I]⟩
def preB(s c:ByteArray)(A:Nat):Prop:=(s.data.toList.drop A).take c.size=c.data.toList
def E9{A:Nat}{r:List En×ByteArray×Nat}(d:iJ (sub s r.2.2)=some T)(a:preB s r.2.1 A) :
  uR (s.data.toList.drop (A+r.2.1.size)) (s.data.toList.drop r.2.2) r.2.2<->preB s (r.2.1++ctO (sub s r.2.2) r.2.2) A:=by
 have b:=(mj d).1;have c:(ctO (sub s r.2.2) r.2.2).size=46+wd (sub s r.2.2).data.toList 26 2:=by
  have:(ctO (sub s r.2.2) r.2.2).size=46+(nmB (sub s r.2.2)).size:=iX _ _ _ _ _ _ _;rw[this,ml (by have:=(lM.1 b).2.2;omega)]
 have:=Se (u:=s.data.toList.drop (A+r.2.1.size)) r.2.2 b;rw[gZ]at this;rw[this];unfold preB;have st:(s.data.toList.drop A).take (r.2.1.size+(46+wd (s.data.toList.drop r.2.2) 26 2))=(s.data.toList.drop A).take r.2.1.size++(s.data.toList.drop (A+r.2.1.size)).take (46+wd (s.data.toList.drop r.2.2) 26 2):=by rw[a3o,a1W]
 rw[gZ]at c;rw[a0H,c,st];unfold preB at a;simp only[a2c,a1H];constructor
 . intro e;rw[a,e]
 . intro e;rw[a]at e;exact a2p e
theorem se{s:ByteArray}{m:Nat}(a:12<=s.size)(b:wd s.data.toList (s.size-12) 2=m)(c:m<=6):cV s=match zst s m with
  | some q=>if bi q.1=true/\sub s q.2.2=q.2.1++dT m q.2.1.size q.2.2 then some q.1 else none
  | none=>none:=by
 unfold cV
 (rw[a0d ⟨a,by omega⟩,b])<;>(rcases zst s m with _|q<;>rfl)
def FY(h:¬ (12<=s.size/\wd s.data.toList (s.size-12) 2<=6)):cV s=none:=a0e h
def MH{q r:List En×ByteArray×Nat}(a:12<=s.size)(f:wd s.data.toList (s.size-12) 2=m)(d:m<=6)(hq:zst s m=some q)(l:i<m)(j:zst s i=some r)(b:iJ (sub s r.2.2)=some T)(h:preB s r.2.1 q.2.2)
  (g:¬ uR (s.data.toList.drop (q.2.2+r.2.1.size)) (s.data.toList.drop r.2.2) r.2.2):cV s=none:=by
 rw[se a f d,hq];simp only;rw[a0e];rintro⟨_,e⟩;apply g;rw[E9 b h];obtain⟨x,k⟩:=JR (sg j b) hq (by omega);have c:s.data.toList.drop q.2.2=q.2.1.data.toList++(dT m q.2.1.size q.2.2).data.toList:=by
  rw[←gZ,e];simp
 unfold preB;rw[c,k,a0I];simp only;rw[a1n (by simp),a0t (by simp)]
def QR{q:List En×ByteArray×Nat}(b:12<=s.size)(f:wd s.data.toList (s.size-12) 2=m)(e:m<=6)(hq:zst s m=some q)(g:bi q.1=true)(d:preB s q.2.1 q.2.2) :
  cV s=if sub s (q.2.2+q.2.1.size)=dT m q.2.1.size q.2.2 then some q.1 else none:=by
 rw[se b f e,hq];simp only;have:(bi q.1=true/\sub s q.2.2=q.2.1++dT m q.2.1.size q.2.2)<->sub s (q.2.2+q.2.1.size)=dT m q.2.1.size q.2.2:=by
  have e1:s.data.toList.drop q.2.2=q.2.1.data.toList++s.data.toList.drop (q.2.2+q.2.1.size):=by
   conv=>lhs;rw[←a1z q.2.1.size (s.data.toList.drop q.2.2)]
   rw[a1W];unfold preB at d;rw[d]
  constructor
  . rintro⟨_,c⟩;apply ck;have e2:=congrArg (fun x:ByteArray=>x.data.toList) c;simp only[gZ,a2c,a1H]at e2;rw[e1]at e2;rw[gZ];exact a2p e2
  . intro c;refine⟨g,ck ?_⟩;rw[gZ,e1];simp only[a2c,a1H];rw[←c,gZ]
 by_cases a:sub s (q.2.2+q.2.1.size)=dT m q.2.1.size q.2.2
 . rw[a0d (this.2 a),a0d a]
 . rw[a0e (fun h=>a (this.1 h)),a0e a]
open Go.RowKit
def Ir{n t:ByteArray}{y mo d h mi c k:Int}(a:rC x = .tuple #[.agg #[n,y,mo,d,h,mi,c,t],k,.bool true]) :
  ∃T,iJ x=some T/\enO x T=⟨n,y,mo,d,h,mi,c,t⟩/\k=((pB x:Nat):Int):=by
 unfold rC at a;rcases b:iJ x with _|T
 . rw[b]at a;simp at a
 .
  rw[b]at a;simp only[Lr,Value.tuple.injEq,Array.mk.injEq,List.cons.injEq,Value.agg.injEq,Value.string.injEq,Value.int.injEq,a1U,a0Q]at a;obtain⟨⟨e0,e1,e2,e3,e4,e5,e6,e7⟩,e8⟩:=a;refine⟨T,rfl,?_,?_⟩
  . unfold enO;rw[e0,e1,e2,e3,e4,e5,e6,e7]
  . rw[←e8];rfl
def PY(a:rC x = .tuple #[noE,.int .i64 0,.bool false]):iJ x=none:=by
 unfold rC at a;rcases b:iJ x with _|T
 . rfl
 . rw[b]at a;simp at a
def UJ(w:World)(base:Nat)(hb:base<=w.heap.size):cO (w.alloc (.cells #[] 26)) base (.slice w.heap.size 0 0) []:=a0S w #[] 0 hb (by unfold maxLen;omega) rfl
def Ld(s:ByteArray)(m:Nat)(w:World)(hs:s.size<=1048576)(hm:m<=6) :
  Calls prog 55 #[s,m] w fun e w'=>(∃(v:Value) (p:Nat) (ok:Bool),e = .returned (.tuple #[v,p,.bool ok])/\(ok=true->∃q,zst s m=some q/\p=q.2.2/\cO w' w.heap.size v q.1)/\(ok=false->zst s m=none))/\Below w.heap.size w w':=by
 have ad:(m:Int)<=6:=by omega
 have ao:(s.size:Int)<=1048576:=by omega
 have HS:=af hs;have Hm:=af hm;have I:Hid (cO (w.alloc (.cells #[] 26)) w.heap.size (.slice w.heap.size 0 0) []):=UJ _ _ (a0a _);have F:Hid (Below w.heap.size w (w.alloc (.cells #[] 26))):=cC;obtain⟨i0,hi,Y,Z,aa⟩:=a0p Tryz.infoEnt;clear hs hm;go_enter func55,ntmps55;go_wp2_with fail
 go_loopw [7,8,9,10,11,12] (fun v a i _ _ _ wr=>∃(k:Nat) (q:List En×ByteArray×Nat),k<=m/\i = .int .i64 k/\zst s k=some q/\a = .int .i64 (q.2.2:Nat)/\cO wr w.heap.size v q.1/\Below w.heap.size w wr) (fun _ _ i _ _ _ _=>m-(intOf i).toNat)
 case atStart=>exact⟨0,([],⟨#[]⟩,0),a0g _,rfl,rfl,rfl,I,F⟩
 case round=>
  obtain⟨k,q,hk,rfl,N,rfl,hq,g⟩:=hrel;clear I F;by_cases ac:k<m
  .
   have r:=jt N;have al:(q.2.2:Int)<=(s.size:Int):=by have:=r.2.1;omega
   have HL:=af r.1;have K:(sub s q.2.2).size<=1048576:=by rw[jI];have:=ae HS;omega
   have O:=af (fun W=>wK (sub s q.2.2) W K);have E:=af hq;have b:=af g;have HK:=af hk;have HZ:=af N;clear K r hq g hk N;go_wp2_with fail;refine(O wr).mono ?_;rintro e x1⟨⟨n,y,mo,d,h,mi,c,t,kk,ok,rfl,M⟩,u⟩;have D:=af (aj b u);have L:Hid (Below x1.heap.size x1 (x1.alloc (.cells #[n,y,mo,d,h,mi,c,t] 26))):=cC;cases ok
   .
    have P:=af (F7 (UA HZ (PY M)) m (by omega));have B:=af (aj D L);clear M u O E b L;go_wp2
    go_ret3
    exact⟨⟨_,_,false,rfl,(fun h=>by cases h),fun _=>ae P⟩,B⟩
   .
    obtain⟨T,U,hE,rfl⟩:=Ir M;have C:=sg HZ U;have hf:=wZ U;rw[jI]at hf;rw[hE]at C;have R:=af C;have ab:(q.2.2:Int)+((pB (sub s q.2.2):Nat):Int)<=(s.size:Int):=(by omega);have V:=aj u L;have z:=bj.own HL (E.later V (a0a _));have f:=aj b V;have j:=f.size;have o:Hid (k+1<=maxLen/\(k+1)*80<=140737488355328):=by
     show _/\_;have:=ae Hm;unfold maxLen;omega
    obtain⟨W1,hW1⟩:∃x,x1.alloc (.cells #[n,y,mo,d,h,mi,c,t] 26)=x:=⟨_,rfl⟩;have S:=af (ay x1 #[n,y,mo,d,h,mi,c,t] 26);rw[hW1]at z f j S;have pA:=S.cells (n:=8) rfl;clear M U hE hf C u O E b L V D;go_wp2_with (at_builtin;refine a0w _ rfl _ _ 31 rfl w.heap.size 26 i0 (.agg ()) 8 80 a1h hi Y Z aa rfl (by decide) _ _ _ rfl (a0o z _) ⟨W1.heap.size,0,none⟩ 1 1 (bu ⟨n,y,mo,d,h,mi,c,t⟩) rfl rfl (jd W1 _ _) (gP _) o.1 o.2 (ar j _) ?_;intro v' x2 A l H;clear H);have G:=aH (v:=u7) l z (a0a _) j f;have J:cO x2 w.heap.size v' (q.1++[⟨n,y,mo,d,h,mi,c,t⟩]):=bj.snoc HL A;have Q:=af J;have B:=af G;clear A l z J G pA f j S hW1;go_wp2;go_roundw
    case rel=>exact⟨k+1,_,by have:=ae HK;omega,by go_num,R,by go_num,Q,B⟩
    case measure=>simp[intOf];omega
  .
   have X:k=m:=(by omega);subst X;have E:=af hq;have b:=af g;clear hq g;go_wp2
   go_ret3
   exact⟨⟨_,_,true,rfl,fun _=>⟨q,N,rfl,E⟩,(fun h=>by cases h)⟩,b⟩
def Tc(l:List UInt8)(i j k:Nat):wd (l.drop i) j k=wd l (i+j) k:=by unfold wd;rw[a1W]
def ext_eq{a:Nat}{c d:Nat}(e:b=a+k)(h2:d=c+k):(s.extract a b).toList=(x.extract c d).toList<->(s.data.toList.drop a).take k=(x.data.toList.drop c).take k:=by
 rw[dt,ext_list,ext_list,e,h2,a1t,a1t]
def NV{a:Nat}(c:b=a+k):(s.extract a b).toList=y.toList<->(s.data.toList.drop a).take k=y.data.toList:=by
 rw[dt,ext_list,c,a1t]
def Ai{q:List En×ByteArray×Nat}(h:zst s k=some q):∀i,i<k->(q.1.getD i default).n.size<=1048576/\((q.1.getD i default).t.size:Int)<=9223372036854775807:=by
 intro i d;obtain⟨c,_,a,_⟩:=jt h;have b:q.1.getD i default∈q.1:=by
  rw[List.getD,List.getElem?_eq_getElem (by omega:i<q.1.length)];exact a2g _
 obtain⟨f1,f2,_⟩:=dk (n:=(q.1.getD i default).n) (t:=(q.1.getD i default).t) (a _ b);exact⟨by omega,by omega⟩
def Rk{p:Nat}(h:uR u (s.data.toList.drop p) p)(hd:hdB (sub s p)=true):46+wd u 28 2=(ctO (sub s p) p).size:=by
 have e:=tj h.2.2.2.1.1;have a:(ctO (sub s p) p).size=46+(nmB (sub s p)).size:=iX _ _ _ _ _ _ _;rw[a,ml (by have:=(lM.1 hd).2.2;omega),gZ,e]
def below_drewN{B:Nat}{a:World}(h:Below B a w)(n:Nat):Below B a (w.drewN n):=⟨h.os,h.tape,h.output,h.size,h.block⟩
def G6(s:ByteArray)(hd own:Nat)(w:World)(L:s.size<=1048576)(J:hd<=2000000)(h2:own<=2000000) :
  Calls prog 57 #[s,hd,own] w fun e w'=>(∃(k:Nat) (b:Bool),e = .returned (.tuple #[k,.bool b])/\(b=true<->uR (s.data.toList.drop hd) (s.data.toList.drop own) own)/\(b=true->k=46+wd (s.data.toList.drop hd) 28 2))/\Below w.heap.size w w':=by
 have D:=cE
 have ad:(s.size:Int)<=1048576:=by omega
 have aa:(hd:Int)<=2000000:=by omega
 have ab:(own:Int)<=2000000:=by omega
 have G:s.data.toList.length=s.size:=by simp
 have C:Hid (∀W,Ds 53 #[s,.int .i64 ((hd:Int)+28),.int .i64 2] W (.int .i64 (ew s (hd+28) 2))):=fun W=>by
  have:=d9 s (hd+28) 2 W (by omega) (by decide) (by omega);rw[show((hd+28:Nat):Int)=(hd:Int)+28 by omega]at this;exact this
 have u:=Tc s.data.toList hd 28 2;by_cases K:hd+30<=s.size
 .
  rw[iL (by omega)]at C;have v:=jT s.data.toList (hd+28);rw[u];have HP:Hid (uR (s.data.toList.drop hd) (s.data.toList.drop own) own<->(hd+(46+wd s.data.toList (hd+28) 2)<=s.size/\own+30+wd s.data.toList (hd+28) 2<=s.size)/\(((s.data.toList.drop (hd+6)).take 26=(s.data.toList.drop (own+4)).take 26/\(s.data.toList.drop (hd+46)).take (wd s.data.toList (hd+28) 2)=(s.data.toList.drop (own+30)).take (wd s.data.toList (hd+28) 2))/\((s.data.toList.drop hd).take 6=leS 4 33639248++leS 2 20/\(s.data.toList.drop (hd+32)).take 14=List.replicate 10 0++leS 4 own))):=by
   show _<->_;unfold uR;rw[u];simp only[a1W,a04,G];constructor
   . rintro⟨a,b,c,d,e⟩;exact⟨⟨by omega,by omega⟩,d,e⟩
   . rintro⟨⟨a,b⟩,d,e⟩;exact⟨by omega,by omega,by omega,d,e⟩
  clear u G;generalize wd s.data.toList (hd+28) 2=NM at *;have ac:(NM:Int)<65536:=by omega
  by_cases B:hd+(46+NM)<=s.size/\own+30+NM<=s.size
  .
   have P:=af B;obtain⟨b1,b2⟩:=B;have N:(hd:Int)+(46+(NM:Int))<=(s.size:Int):=(by omega);have S:(own:Int)+30+(NM:Int)<=(s.size:Int):=(by omega);have d0:decide ((NM:Int)<0)=false:=a0m (by omega);have d1:decide ((s.size:Int)<(hd:Int)+(46+(NM:Int)))=false:=a0m (by omega);have d2:decide ((s.size:Int)<(own:Int)+30+(NM:Int))=false:=a0m (by omega);have Z:Hid (∀W,Ds 92 #[.int .i64 33639248,.int .i64 4] W (.string (ax (leS 4 33639248)))):=fun W=>aP 33639248 4 W (by omega) (by omega);have CV:Hid (∀W,Ds 92 #[.int .i64 20,.int .i64 2] W (.string (ax (leS 2 20)))):=fun W=>aP 20 2 W (by omega) (by omega);have Y:Hid (∀W,Ds 92 #[.int .i64 0,.int .i64 10] W (.string (ax (leS 10 0)))):=fun W=>aP 0 10 W (by omega) (by omega);have CP:Hid (∀W,Ds 92 #[own,.int .i64 4] W (.string (ax (leS 4 own)))):=fun W=>aP own 4 W (by omega) (by omega);have E1:Hid ((s.extract (hd+6) (hd+32)).toList=(s.extract (own+4) (own+30)).toList<->(s.data.toList.drop (hd+6)).take 26=(s.data.toList.drop (own+4)).take 26):=ext_eq rfl rfl;have E2:Hid ((s.extract (hd+46) (hd+(46+NM))).toList=(s.extract (own+30) (own+30+NM)).toList<->(s.data.toList.drop (hd+46)).take NM=(s.data.toList.drop (own+30)).take NM):=ext_eq (by omega) rfl;have E3:Hid ((s.extract hd (hd+6)).toList=(ax (leS 4 33639248)++ax (leS 2 20)).toList<->(s.data.toList.drop hd).take 6=leS 4 33639248++leS 2 20):=by
    have:=NV (s:=s) (y:=ax (leS 4 33639248)++ax (leS 2 20)) (a:=hd) (b:=hd+6) (k:=6) rfl;rw[show(ax (leS 4 33639248)++ax (leS 2 20)).data.toList=leS 4 33639248++leS 2 20 by simp[ax]]at this;exact this
   have E4:Hid ((s.extract (hd+32) (hd+46)).toList=(ax (leS 10 0)++ax (leS 4 own)).toList<->(s.data.toList.drop (hd+32)).take 14=List.replicate 10 0++leS 4 own):=by
    have:=NV (s:=s) (y:=ax (leS 10 0)++ax (leS 4 own)) (a:=hd+32) (b:=hd+46) (k:=14) rfl;have e0:leS 10 0=List.replicate 10 0:=by decide +kernel
    rw[show(ax (leS 10 0)++ax (leS 4 own)).data.toList=List.replicate 10 0++leS 4 own by rw[e0];simp[ax]]at this;exact this
   have z1:(ax (leS 4 33639248)).size<=10:=by rw[bF,aB];omega
   have z2:(ax (leS 2 20)).size<=10:=by rw[bF,aB];omega
   have z3:(ax (leS 10 0)).size<=10:=by rw[bF,aB];omega
   have z4:(ax (leS 4 own)).size<=10:=by rw[bF,aB];omega
   have m1:¬ 9223372036854775807<(ax (leS 4 33639248)).size+(ax (leS 2 20)).size:=(by omega);have m2:¬ 9223372036854775807<(ax (leS 10 0)).size+(ax (leS 4 own)).size:=(by omega);generalize ax (leS 4 33639248)=A1,ax (leS 2 20)=A2,ax (leS 10 0)=A3,ax (leS 4 own)=A4 at *;rw[←ae E1,←ae E2,←ae E3,←ae E4]at HP;obtain⟨X1,l⟩:∃x,s.extract (hd+6) (hd+32)=x:=⟨_,rfl⟩;obtain⟨Y1,n⟩:∃x,s.extract (own+4) (own+30)=x:=⟨_,rfl⟩;obtain⟨X2,m⟩:∃x,s.extract (hd+46) (hd+(46+NM))=x:=⟨_,rfl⟩;obtain⟨Y2,o⟩:∃x,s.extract (own+30) (own+30+NM)=x:=⟨_,rfl⟩;obtain⟨X3,r⟩:∃x,s.extract hd (hd+6)=x:=⟨_,rfl⟩;obtain⟨X4,t⟩:∃x,s.extract (hd+32) (hd+46)=x:=⟨_,rfl⟩;rw[l,n,m,o,r,t]at HP;obtain⟨B1,g⟩:∃b,(X1.toList == Y1.toList)=b:=⟨_,rfl⟩;obtain⟨B2,j⟩:∃b,(X2.toList == Y2.toList)=b:=⟨_,rfl⟩;obtain⟨B3,p⟩:∃b,(X3.toList == (A1++A2).toList)=b:=⟨_,rfl⟩;obtain⟨B4,q⟩:∃b,(X4.toList == (A3++A4).toList)=b:=⟨_,rfl⟩;have HR:Hid (((B1&&B2)&&(B3&&B4))=true<->uR (s.data.toList.drop hd) (s.data.toList.drop own) own):=by
    show _<->_;rw[ae HP,←g,←j,←p,←q];simp only[a0k,a2A];exact⟨fun h=>⟨P,h⟩,fun h=>h.2⟩
   have R:=af (a0b l (a0b n (a0b m (a0b o (a0b r t)))));have z:=af (a0b g (a0b j (a0b p q)));have Q:=af (a0b m1 m2);clear HP E1 E2 E3 E4 K J h2 L v b1 b2 z1 z2 z3 z4 P l m r t n o g j p q m1 m2;have O:=C;cases B1<;>cases B2<;>cases B3
   all_goals
    go_enter func57,a4a;go_wp2_with fail;refine(O _).mono ?_;rintro e x1⟨rfl,f⟩;have i:=af f;clear f C O;go_wp2_with fail;have w1:IntKind.i64.wrap ((hd:Int)+6)=(hd:Int)+6:=by rw[a0V];omega
    have t1:((hd:Int)+6).toNat=hd+6:=(by omega);have l1:0<=(hd:Int)+6:=(by omega);have g1:(hd:Int)+6<=(s.size:Int):=(by omega);have w2:IntKind.i64.wrap ((hd:Int)+32)=(hd:Int)+32:=by rw[a0V];omega
    have t2:((hd:Int)+32).toNat=hd+32:=(by omega);have l2:0<=(hd:Int)+32:=(by omega);have g2:(hd:Int)+32<=(s.size:Int):=(by omega);have w3:IntKind.i64.wrap ((own:Int)+4)=(own:Int)+4:=by rw[a0V];omega
    have t3:((own:Int)+4).toNat=own+4:=(by omega);have l3:0<=(own:Int)+4:=(by omega);have g3:(own:Int)+4<=(s.size:Int):=(by omega);have w4:IntKind.i64.wrap ((own:Int)+30)=(own:Int)+30:=by rw[a0V];omega
    have t4:((own:Int)+30).toNat=own+30:=(by omega);have l4:0<=(own:Int)+30:=(by omega);have g4:(own:Int)+30<=(s.size:Int):=(by omega);have w5:IntKind.i64.wrap ((hd:Int)+46)=(hd:Int)+46:=by rw[a0V];omega
    have t5:((hd:Int)+46).toNat=hd+46:=(by omega);have l5:0<=(hd:Int)+46:=(by omega);have g5:(hd:Int)+46<=(s.size:Int):=(by omega);have w6:IntKind.i64.wrap ((hd:Int)+(46+(NM:Int)))=(hd:Int)+(46+(NM:Int)):=by rw[a0V];omega
    have t6:((hd:Int)+(46+(NM:Int))).toNat=hd+(46+NM):=(by omega);have l6:0<=(hd:Int)+(46+(NM:Int)):=(by omega);have w7:IntKind.i64.wrap ((own:Int)+30+(NM:Int))=(own:Int)+30+(NM:Int):=by rw[a0V];omega
    have t7:((own:Int)+30+(NM:Int)).toNat=own+30+NM:=(by omega);have l7:0<=(own:Int)+30+(NM:Int):=(by omega);have w8:IntKind.i64.wrap ((hd:Int))=(hd:Int):=by rw[a0V];omega
    have t8:((hd:Int)).toNat=hd:=(by omega);have l8:0<=(hd:Int):=(by omega);have o1:(hd:Int)+6<=(hd:Int)+32:=(by omega);have o2:(own:Int)+4<=(own:Int)+30:=(by omega);have o3:(hd:Int)+46<=(hd:Int)+(46+(NM:Int)):=(by omega);have o4:(own:Int)+30<=(own:Int)+30+(NM:Int):=(by omega);have o5:(hd:Int)<=(hd:Int)+6:=(by omega);have o6:(hd:Int)+32<=(hd:Int)+46:=(by omega);obtain⟨l,n,m,o,r,t⟩:=ae R;obtain⟨g,j,p,q⟩:=ae z;obtain⟨m1,m2⟩:=ae Q
    go_quiet (fail)
    have H:Hid (Below w.heap.size w (x1.drewN nq)):=below_drewN i nq;clear w3 t3 l3 g3 w4 t4 l4 g4 w6 t6 l6 w7 t7 l7 o1 o2 o3 o4 l n m o g j d0 d1 d2 N S R z Q;generalize x1.drewN nq=x2 at *;go_wp2_with fail;have T:=fun d os=>Calls.regrown_of (w:=x2) (d:=d) (os:=os) (Z _);have U:=fun d os=>Calls.regrown_of (w:=x2) (d:=d) (os:=os) (CV _);have V:=fun d os=>Calls.regrown_of (w:=x2) (d:=d) (os:=os) (Y _);have X:=fun d os=>Calls.regrown_of (w:=x2) (d:=d) (os:=os) (CP _);refine wp_region_quiet_below D (by kernel_rfl) ?_
    go_big_quiet_step (fail)
    go_big_quiet_step (fail)
    go_big_quiet_step (fail)
    go_big_quiet_step (fail)
    go_big_quiet_step (fail)
    go_big_quiet_step (exact T _ _)
    go_big_quiet_step (exact U _ _)
    go_big_quiet_step (fail)
    go_big_quiet_step (fail)
    go_big_quiet_step (fail)
    go_big_quiet_step (fail)
    go_big_quiet_step (fail)
    go_big_quiet_step (fail)
    go_big_quiet_step (fail)
    go_big_quiet_step (fail)
    go_big_quiet_step (fail)
    go_big_quiet_step (exact V _ _)
    go_big_quiet_step (fail)
    go_big_quiet_step (exact X _ _)
    go_big_quiet_step (fail)
    go_big_quiet_step (fail)
    go_big_quiet_step (fail)
    go_big_quiet_step (fail)
    refine a1w ?_;intro zw M;obtain⟨⟨dq,osq⟩,E⟩:=M;have I:=below_regrown x2 dq osq;rw[←E]at I;have T9:=af (aj H I);clear E I T U V X;go_wp2
    go_ret2
    exact⟨⟨46+NM,_,by rw[Int.natCast_add];rfl,HR,fun _=>rfl⟩,T9⟩
  .
   have A:Hid (¬ uR (s.data.toList.drop hd) (s.data.toList.drop own) own):=fun h=>B (HP.1 h).1;have F:Hid (false=true<->uR (s.data.toList.drop hd) (s.data.toList.drop own) own):=⟨(fun h=>by cases h),fun h=>absurd h (ae A)⟩;clear HP A;by_cases g:hd+(46+NM)<=s.size
   .
    have N:(hd:Int)+(46+(NM:Int))<=(s.size:Int):=(by omega);have S:(s.size:Int)<(own:Int)+30+(NM:Int):=(by omega);clear B g K J h2 L v;go_enter func57,a4a;go_wp2_with fail;refine(C _).mono ?_;rintro e x1⟨rfl,f⟩;have i:=af f;clear f C;go_wp2
    go_ret2
    exact⟨⟨0,false,rfl,F,fun h=>by cases h⟩,i⟩
   .
    have N:(s.size:Int)<(hd:Int)+(46+(NM:Int)):=(by omega);clear B g K J h2 L v;go_enter func57,a4a;go_wp2_with fail;refine(C _).mono ?_;rintro e x1⟨rfl,f⟩;have i:=af f;clear f C;go_wp2
    go_ret2
    exact⟨⟨0,false,rfl,F,fun h=>by cases h⟩,i⟩
 .
  rw[BE (by omega)]at C;have A:Hid (¬ uR (s.data.toList.drop hd) (s.data.toList.drop own) own):=fun h=>by
   have:=h.1;rw[a04,G]at this;omega
  have F:Hid (false=true<->uR (s.data.toList.drop hd) (s.data.toList.drop own) own):=⟨(fun h=>by cases h),fun h=>absurd h (ae A)⟩;clear A u G;go_enter func57,a4a;go_wp2_with fail;refine(C _).mono ?_;rintro e x1⟨rfl,f⟩;have i:=af f;clear f C;go_wp2
  go_ret2
  exact⟨⟨0,false,rfl,F,fun h=>by cases h⟩,i⟩
def Uo{A:Nat}(h:preB s c A)(b:A<=s.size):A+c.size<=s.size:=by
 have:=congrArg List.length h;rw[a0u,a04]at this;have a:s.data.toList.length=s.size:=by simp
 have h2:c.data.toList.length=c.size:=by simp
 omega
def Ar{a b:ByteArray}{c:Bool}(h:(a.toList == b.toList)=c):c=true<->a=b:=by
 rw[←h,a2A,dt];exact⟨fun e=>ck e,fun e=>by rw[e]⟩
def kQ(s:ByteArray)(w:World)(hs:s.size<=1048576) :
  Calls prog 23 #[s] w fun e w'=>(∃v,e = .returned (.tuple #[v,.bool (cV s).isSome])/\cO w' w.heap.size v ((cV s).getD []))/\Below w.heap.size w w':=by
 have a4:=cE
 have b7:(s.size:Int)<=1048576:=by omega
 have u:Hid (cV s=none->∀W,Below w.heap.size w W->(∃v,Ending.returned (.tuple #[.slice W.heap.size 0 0,.bool false]) = .returned (.tuple #[v,.bool (cV s).isSome])/\cO (W.alloc (.cells #[] 26)) w.heap.size v ((cV s).getD []))/\Below w.heap.size w (W.alloc (.cells #[] 26))):=fun h W hb=>by
  rw[h];exact⟨⟨_,rfl,UJ _ _ hb.size⟩,hb.alloc hb.size _⟩
 by_cases L:12<=s.size
 .
  have C:Hid (∀W,Ds 53 #[s,.int .i64 ((s.size:Int)-12),.int .i64 2] W (.int .i64 ((wd s.data.toList (s.size-12) 2:Nat):Int))):=fun W=>by
   have:=d9 s (s.size-12) 2 W (by omega) (by decide) (by omega);rw[show((s.size-12:Nat):Int)=(s.size:Int)-12 by omega,iL (by omega)]at this;exact this
  have S:=jT s.data.toList (s.size-12);have bb:∃NM,wd s.data.toList (s.size-12) 2=NM:=⟨_,rfl⟩;obtain⟨NM,U⟩:=bb;rw[U]at C S;have HW:=af U;have I:=af L;clear U;have bn:(NM:Int)<65536:=by omega
  by_cases h6:NM<=6
  .
   have bl:(NM:Int)<=6:=(by omega);have M:Hid (∀W,Calls prog 54 #[NM,.int .i64 0,.int .i64 6] W fun e w'=>e = .returned (.bool true)/\w'=W):=fun W=>by
    have:=aU (NM:Int) 0 6 W;rw[show inB (NM:Int) 0 6=true by rw[aI];omega]at this;exact this
   have C2:=af (fun W=>Ld s NM W hs h6);have H6:=af h6;have HS:=af hs;clear L hs S;go_enter func23,ntmps23;go_wp2_with fail;refine(C _).mono ?_;rintro e x1⟨rfl,j⟩;have m:=af j;clear j C;go_wp2_with fail;refine(M _).mono ?_;rintro e x2⟨rfl,F⟩;subst F;clear M;go_wp2_with fail;refine(C2 _).mono ?_;rintro e x3⟨⟨v,p,ok,rfl,G,ab⟩,V⟩;have J:=af (aj m V);cases ok
   .
    have D:=af (ae u (by rw[se I HW H6,ab rfl]) x3 (ae J));clear G ab V C2;go_wp2
    go_ret2
    exact D
   .
    obtain⟨q,hq,rfl,a⟩:=G rfl;have f:=jt hq;obtain⟨va,vc,rfl,b8,_⟩:=a.formN f.1;have Aj:=af (a.mono (base':=w.heap.size) (by have:=m.size;omega));have C3:=af (yM va vc q.1 NM f.1 x3 (bv f.1 a) (by omega) (Ai hq));have HQ:=af hq;have b4:(q.2.2:Int)<=(s.size:Int):=by have:=f.2.1;omega
    have bs:q.2.1.size<=600:=by have:=f.2.2.2.2;omega
    clear G ab V C2 a f hq;cases H:bi q.1
    .
     have D:=af (fun W hb=>ae u (by rw[se I HW H6,ae HQ];simp[H]) W hb);rw[H]at C3;go_wp2_with fail;refine C3.mono ?_;rintro e x4⟨rfl,z⟩;have K:=af (aj J z);clear z C3;go_wp2
     go_ret2
     exact D _ (ae K)
    .
     rw[H]at C3;have a2:=af H;clear H;go_wp2_with fail;refine C3.mono ?_;rintro e x4⟨rfl,z⟩;have K:=af (aj J z);have al:=af (Aj.later z (a0a _));clear z C3 Aj J;have Q:=af (fun hd own (W:World) (h1:hd<=2000000) (h2:own<=2000000)=>G6 s hd own W HS h1 h2);have ac:=af (fun p W=>wK (sub s p) W (by rw[jI];have:=ae HS;omega));have HE:Hid (∀p,s.extract p s.size=sub s p):=fun _=>rfl;go_wp2_with fail
     go_loopw [8,9,10,11,12,13,14,15] (fun h o i _ _ _ _ _ wr=>∃(k:Nat) (r:List En×ByteArray×Nat),k<=NM/\i = .int .i64 k/\zst s k=some r/\h = .int .i64 ((q.2.2:Nat)+(r.2.1.size:Nat))/\o = .int .i64 (r.2.2:Nat)/\preB s r.2.1 q.2.2/\cO wr w.heap.size (.slice va NM vc) q.1/\Below w.heap.size w wr) (fun _ _ i _ _ _ _ _ _=>NM-(intOf i).toNat)
     case atStart=>exact⟨0,([],⟨#[]⟩,0),a0g _,rfl,rfl,by show _=Value.int .i64 ((q.2.2:Nat)+((0:Nat):Int));simp,rfl,rfl,al,K⟩
     case round=>
      obtain⟨k,r,hk,rfl,hr,rfl,rfl,P,a,O⟩:=hrel;have E:=jt hr;have b6:r.2.1.size<=600:=by have:=E.2.2.2.2;omega
      have b5:(r.2.1.size:Int)<=600:=(by omega);have b3:(r.2.2:Int)<=(s.size:Int):=by have:=E.2.1;omega
      have HR:=af hr;have g:=af P;have Aj:=af a;have A:=af O;have HK:=af hk;clear E hr P a O al K;by_cases bd:k<NM
      .
       obtain⟨y,hy,_⟩:=my HQ (by omega:k+1<=NM);obtain⟨r',T,h1,hT,_⟩:=iO hy;rw[ae HR]at h1;cases h1
       have HT:=af hT;have CH:=af (fun W=>ae Q (q.2.2+r.2.1.size) r.2.2 W (by omega) (by omega));rw[show((q.2.2+r.2.1.size:Nat):Int)=(q.2.2:Nat)+(r.2.1.size:Nat) by omega]at CH;clear hy hT Q;go_wp2_with fail;refine(CH _).mono ?_;rintro e x5⟨⟨kk,b,rfl,hb,aa⟩,Y⟩;have R:=af (aj A Y);have ao:=af (Aj.later Y (a0a _));clear Y CH Aj A;cases b
       .
        have D:=af (ae u (MH I HW H6 HQ bd HR HT g (fun h=>by have:=hb.2 h;cases this)) x5 (ae R));clear hb aa;go_wp2
        go_ret2
        exact D
       .
        have hl:=hb.1 rfl;have e1:=aa rfl;rw[Rk hl (mj HT).1]at e1;have ba:=af ((E9 HT g).1 hl);have a1:=af (sg HR HT);have b1:kk<=2000:=by
         have h7:=(jt a1).2.2.2.2;simp only[a0H]at h7;omega
        have a8:=af e1;clear hb aa hl e1;go_wp2_with fail;refine(ac r.2.2 _).mono ?_;rintro e x6⟨⟨n,yy,mo,d,h,mi,c,t,kx,ok,rfl,hv⟩,Z⟩;have ad:=af (aj R Z);have a0:=af (ao.later Z (a0a _));have hA:=(a0c x6.heap.size x6).alloc (a0a _) (.cells #[n,yy,mo,d,h,mi,c,t] 26);have a7:=af (aj ad hA);have a9:=af (a0.later hA (a0a _));cases ok
        . have:=PY hv;rw[ae HT]at this;cases this
        .
         obtain⟨T2,a3,_,rfl⟩:=Ir hv;have hf:=wZ a3;rw[jI]at hf;have b0:(r.2.2:Int)+((pB (sub s r.2.2):Nat):Int)<=(s.size:Int):=(by omega);clear hv a3 hf Z hA ad a0 R ao;go_wp2;go_roundw
         case rel=>exact⟨k+1,_,by omega,by go_num,a1,by simp only[a0H];rw[←ae a8];go_num,by go_num,ba,a9,a7⟩
         case measure=>simp[intOf];omega
      .
       have bc:k=NM:=(by omega);subst bc;have a5:=ae HR;rw[ae HQ]at a5;cases a5
       have b2:=Uo g (by omega);have bk:(q.2.2:Int)+(q.2.1.size:Int)<=(s.size:Int):=(by omega);have l:=af (QR I HW H6 HQ a2 g);have N:=af (fun W=>zt k q.2.1.size q.2.2 W (by omega) (by omega) (by omega));have q1:=fun d os=>Calls.regrown_of (w:=wr) (d:=d) (os:=os) (N _);have t1:((q.2.2:Int)+(q.2.1.size:Int)).toNat=q.2.2+q.2.1.size:=(by omega);have w1:IntKind.i64.wrap ((q.2.2:Int)+(q.2.1.size:Int)-(q.2.2:Int))=(q.2.1.size:Int):=by rw[a0V];omega
       have l1:0<=(q.2.2:Int)+(q.2.1.size:Int):=(by omega);rw[←ae HE]at l;generalize dT k q.2.1.size q.2.2=EN at *;obtain⟨X,hX⟩:∃x,s.extract (q.2.2+q.2.1.size) s.size=x:=⟨_,rfl⟩;rw[hX]at l;obtain⟨B,hB⟩:∃b,(X.toList == EN.toList)=b:=⟨_,rfl⟩;have HB:=af hB;clear Q ac HE a2 g N;go_wp2_with fail;refine wp_region_quiet_below a4 (by kernel_rfl) ?_;cases B
       all_goals
        quiet_step (fail)
        quiet_step (fail)
        quiet_step (fail)
        quiet_step (fail)
        quiet_step (fail)
        quiet_step (fail)
        quiet_step (fail)
        quiet_step (fail)
        quiet_step (exact q1 _ _)
        quiet_step (fail)
        refine a1w ?_;intro zw be;obtain⟨⟨dq,osq⟩,a6⟩:=be;have HZ:=below_regrown wr dq osq;rw[←a6]at HZ;have T9:=af (aj A HZ);have O9:=af (Aj.later HZ (a0a _));clear a6 HZ q1
       .
        have D:=af (ae u (by rw[ae l,a0e (fun e=>by have:=(Ar HB).2 e;cases this)]) zw (ae T9));go_wp2
        go_ret2
        exact D
       .
        have HY:Hid (cV s=some q.1):=by show _=_;rw[ae l,a0d ((Ar HB).1 rfl)]
        go_wp2
        go_ret2
        exact⟨⟨_,by rw[ae HY];rfl,by rw[ae HY];exact O9⟩,T9⟩
  .
   have M:Hid (∀W,Calls prog 54 #[NM,.int .i64 0,.int .i64 6] W fun e w'=>e = .returned (.bool false)/\w'=W):=fun W=>by
    have:=aU (NM:Int) 0 6 W;rw[show inB (NM:Int) 0 6=false by rw[fs];omega]at this;exact this
   have D:=af (ae u (FY (by rw[ae HW];omega)));clear L hs S;go_enter func23,ntmps23;go_wp2_with fail;refine(C _).mono ?_;rintro e x1⟨rfl,j⟩;have m:=af j;clear j C;go_wp2_with fail;refine(M _).mono ?_;rintro e x2⟨rfl,F⟩;subst F;clear M;go_wp2
   go_ret2
   exact D _ (ae m)
 .
  have C:=af (fun W=>Lb s ((s.size:Int)-12) W (by omega));have M:Hid (∀W,Calls prog 54 #[.int .i64 (-1),.int .i64 0,.int .i64 6] W fun e w'=>e = .returned (.bool false)/\w'=W):=fun W=>by
   have:=aU (-1) 0 6 W;rw[show inB (-1) 0 6=false by decide]at this;exact this
  have D:=af (ae u (FY (fun h=>L h.1)));go_enter func23,ntmps23;go_wp2_with fail;refine(C _).mono ?_;rintro e x1⟨rfl,j⟩;have m:=af j;clear j C;go_wp2_with fail;refine(M _).mono ?_;rintro e x2⟨rfl,F⟩;subst F;clear M;go_wp2
  go_ret2
  exact D _ (ae m)
abbrev UC:=bj (α:=Hq) 105 7 Dp
def wv{o:Obj}{a c e1 e2 s1 s2 n1 n2:Nat}{v1 v2:Value}{x1 x2:List Value}(b:w.ownsRow a e1 s1 v1 n1 x1)(h2:w.ownsRow c e2 s2 v2 n2 x2)(d:e1≠e2)(e:(w.alloc o).grownBy w' v2.ownBlock):w'.ownsRow a e1 s1 v1 n1 x1:=
 a1V (a0o b o) e (qD (a0o b o) (a0o h2 o) d)
def Ti:bi []=true:=by decide
def OS(h:hdB x=false):iJ x=none:=by
 unfold iJ;rw[a0e (by rw[h];decide)]
def Cq{q:List En×ByteArray×Nat}(b:zst s k=some q)(c:(sub s q.2.2).data.toList.take 4=[80,75,3,4])(a:iJ (sub s q.2.2)=none):cV s=none:=
 FX b c (fun T h=>by rw[a]at h;cases h)
def Nb{q:List En×ByteArray×Nat}(b:zst s k=some q)(e:bi q.1=true)(c:(sub s q.2.2).data.toList.take 4=[80,75,3,4])(a:iJ (sub s q.2.2)=some T)(d:aK q.1 (enO (sub s q.2.2) T)≠0):cV s=none:=
 FX b c (fun T' h=>by
  rw[a]at h;cases h
  cases hb:bi (q.1++[enO (sub s q.2.2) T])
  . rfl
  . exact absurd ((iv e _).1 hb) d)
def ZrP(s:ByteArray)(w:World)(e:Ending)(w':World):Prop:=∃v c,e = .returned (.tuple #[v,cX c])/\(c=0->∃l,cV s=some l/\cO w' w.heap.size v l)/\(c≠0->cV s=none)
def F5(h:cV s=none)(c:Int)(a:c≠0):ZrP s w (.returned (.tuple #[.slice none 0 0,.iface 83 (.agg #[c])])) w':=
 ⟨.slice none 0 0,c,by unfold cX;rw[a0e a],fun b=>absurd b a,fun _=>h⟩
theorem F4(s:ByteArray)(m:Int)(w:World)(hs:s.size<=1048576)(hm:w.cell? ⟨2,0,none⟩=some (.int .i64 m))(hO:dp w) :
  Calls prog 28 #[s] w fun e w'=>ZrP s w e w'/\Below w.heap.size w w':=by
 have ch:=cE
 have eh:(s.size:Int)<=1048576:=by omega
 have HS:=af hs;have HM:=af hm;have d2:=af (World.block_lt_of_cell? _ _ hm);have CM:=af (fun W (hb:Below w.heap.size w W)=>(hb.cell (p:=⟨2,0,none⟩) (ae d2)).trans (ae HM));have HO:=af (fun W (hb:Below w.heap.size w W)=>hO.later hb);obtain⟨i0,hi,d7,d8,b0⟩:=a0p Tryz.infoEnt;obtain⟨j0,hj,d4,d5,d6⟩:=a0p Tryz.infoHd;clear hs hm hO;go_enter func28,ntmps28;go_wp2_with fail
 go_loopw [4,5,6,7,8,9,10,11] (fun f h p _ _ _ _ _ wr=>∃(k:Nat) (q:List En×ByteArray×Nat),zst s k=some q/\bi q.1=true/\p = .int .i64 (q.2.2:Nat)/\cO wr w.heap.size f q.1/\UC wr w.heap.size h (hqL s k)/\Below w.heap.size w wr) (fun _ _ p _ _ _ _ _ _=>s.size-(intOf p).toNat)
 case atStart=>exact⟨0,([],⟨#[]⟩,0),rfl,Ti,rfl,bj.nil _ _,bj.nil _ _,a0c _ _⟩
 case round=>
  obtain⟨k,q,hz,ab,rfl,hf,l,U⟩:=hrel;have K:=jt hz;have d1:k<=6:=by have:=(ct ab).2;omega
  have ed:(q.2.2:Int)<=(s.size:Int):=by have:=K.2.1;omega
  have CX:Hid (∀W,Calls prog 63 #[.string (sub s q.2.2),.string ⟨#[80,75,3,4]⟩] W fun e w'=>e = .returned (.bool (decide ((sub s q.2.2).data.toList.take 4=[80,75,3,4])))/\w'=W):=fun W=>by
   have h:=Tryz.strings_HasPrefix (sub s q.2.2) (⟨#[80,75,3,4]⟩:ByteArray) W;rw[←Pe];exact h
  have HE:Hid (s.extract q.2.2 s.size=sub s q.2.2):=rfl;have I:=af hz;have bb:=af ab;have HF:=af hf;have HH:=af l;have P:=af U;have F:=af K
  have a8:(sub s q.2.2).size<=1048576:=by rw[jI];have:=ae HS;omega
  by_cases N:(sub s q.2.2).data.toList.take 4=[80,75,3,4]
  .
   have a2:=af N;rw[a0B N]at CX;have CH:=af (fun W=>tg (sub s q.2.2) W a8);have Q:=af a8;clear N hf l U K hz ab a8;go_wp2_with fail;refine(ae CX _).mono ?_;rintro e x0⟨rfl,bs⟩;subst bs;clear CX;go_wp2_with fail;refine(ae CH _).mono ?_;rintro e x1⟨hp,a4⟩;have ac:=af (aj (ae P) a4);have ao:=af ((ae HF).later a4 (a0a _));have a1:=af ((ae HH).later a4 (a0a _));have R:Hid (∀j,Value.ownBlock u4=some j->j<x1.heap.size):=fun j hj=>(a0z (ae ao) j hj).2;have S:Hid (∀j,Value.ownBlock u5=some j->j<x1.heap.size):=fun j hj=>(a0z (ae a1) j hj).2;clear a4 CH HF HH P;rcases hp with⟨hd,rfl⟩|⟨hd,a,b,c,d,f,n,t,ho,rfl⟩
   .
    obtain⟨dl,d0,bk⟩:=lM.1 hd;have co:=ml (s:=sub s q.2.2) (by omega);have ca:=Cr (s:=sub s q.2.2) bk;have l1:=jT (sub s q.2.2).data.toList 8;have l2:=fF (sub s q.2.2).data.toList 10;have l3:=fF (sub s q.2.2).data.toList 14;have l4:=fF (sub s q.2.2).data.toList 18;have l5:=fF (sub s q.2.2).data.toList 22;have l6:=jT (sub s q.2.2).data.toList 26;have c9:=ae Q;have E:=af (fun W (hb:Below w.heap.size w W)=>uh (wd (sub s q.2.2).data.toList 8 2) (wd (sub s q.2.2).data.toList 10 4) (wd (sub s q.2.2).data.toList 14 4) (wd (sub s q.2.2).data.toList 18 4) (wd (sub s q.2.2).data.toList 22 4) (nmB (sub s q.2.2)) (bdB (sub s q.2.2)) m W (by omega) l1 l2 l3 l5 (by omega) (ae CM _ hb) (ae HO _ hb));have b1:=af (fun(hen:enB (wd (sub s q.2.2).data.toList 8 2) (wd (sub s q.2.2).data.toList 10 4) (wd (sub s q.2.2).data.toList 14 4) (wd (sub s q.2.2).data.toList 22 4) (nmB (sub s q.2.2)) (bdB (sub s q.2.2))=true) W=>tY (wd (sub s q.2.2).data.toList 8 2) (wd (sub s q.2.2).data.toList 10 4) (wd (sub s q.2.2).data.toList 14 4) (wd (sub s q.2.2).data.toList 18 4) (wd (sub s q.2.2).data.toList 22 4) (nmB (sub s q.2.2)) (bdB (sub s q.2.2)) W l1 l2 l3 l4 l5 (by omega) (by have:=NO hen;omega));have bd:(df (wd (sub s q.2.2).data.toList 8 2) (wd (sub s q.2.2).data.toList 10 4) (wd (sub s q.2.2).data.toList 14 4) (wd (sub s q.2.2).data.toList 18 4) (wd (sub s q.2.2).data.toList 22 4) (nmB (sub s q.2.2))++bdB (sub s q.2.2)).size=pB (sub s q.2.2):=by
     unfold df pB;rw[a0H,a0H,a0H,fV,co,ca];show 4+26+_+_=_;omega
    have b7:pB (sub s q.2.2)<=(sub s q.2.2).size/\30<=pB (sub s q.2.2):=⟨bk,by unfold pB;omega⟩;have HY:Hid (enB (wd (sub s q.2.2).data.toList 8 2) (wd (sub s q.2.2).data.toList 10 4) (wd (sub s q.2.2).data.toList 14 4) (wd (sub s q.2.2).data.toList 22 4) (nmB (sub s q.2.2)) (bdB (sub s q.2.2))=true->∃T,iJ (sub s q.2.2)=some T/\enO (sub s q.2.2) T=⟨nmB (sub s q.2.2),zz (gOk (wd (sub s q.2.2).data.toList 10 4:Nat)) (gY (wd (sub s q.2.2).data.toList 10 4:Nat)),zz (gOk (wd (sub s q.2.2).data.toList 10 4:Nat)) (gM (wd (sub s q.2.2).data.toList 10 4:Nat)),zz (gOk (wd (sub s q.2.2).data.toList 10 4:Nat)) (gD (wd (sub s q.2.2).data.toList 10 4:Nat)),zz (gOk (wd (sub s q.2.2).data.toList 10 4:Nat)) (gH (wd (sub s q.2.2).data.toList 10 4:Nat)),zz (gOk (wd (sub s q.2.2).data.toList 10 4:Nat)) (gI (wd (sub s q.2.2).data.toList 10 4:Nat)),zz (gOk (wd (sub s q.2.2).data.toList 10 4:Nat)) (gS (wd (sub s q.2.2).data.toList 10 4:Nat)),uxT (wd (sub s q.2.2).data.toList 8 2) (bdB (sub s q.2.2))⟩):=fun h=>by
     have:=OQ hd;rw[a0d h]at this;obtain⟨T,a,b,_⟩:=Ir this;exact⟨T,a,b⟩
    have HN:Hid (enB (wd (sub s q.2.2).data.toList 8 2) (wd (sub s q.2.2).data.toList 10 4) (wd (sub s q.2.2).data.toList 14 4) (wd (sub s q.2.2).data.toList 22 4) (nmB (sub s q.2.2)) (bdB (sub s q.2.2))=false->iJ (sub s q.2.2)=none):=fun h=>by
     have:=OQ hd;rw[a0e (by rw[h];decide)]at this;exact PY this
    have c8:Hid (wg s k=⟨wd (sub s q.2.2).data.toList 8 2,wd (sub s q.2.2).data.toList 10 4,wd (sub s q.2.2).data.toList 14 4,wd (sub s q.2.2).data.toList 18 4,wd (sub s q.2.2).data.toList 22 4,nmB (sub s q.2.2),q.2.2⟩):=Bh (ae I);have b8:(nmB (sub s q.2.2)).size<=1048576:=by omega
    have dv:(uxT (wd (sub s q.2.2).data.toList 8 2) (bdB (sub s q.2.2))).size<=1048576:=FO (by omega);have cr:(sub s q.2.2).size=s.size-q.2.2:=jI _ _;unfold enE at E;generalize df (wd (sub s q.2.2).data.toList 8 2) (wd (sub s q.2.2).data.toList 10 4) (wd (sub s q.2.2).data.toList 14 4) (wd (sub s q.2.2).data.toList 18 4) (wd (sub s q.2.2).data.toList 22 4) (nmB (sub s q.2.2))++bdB (sub s q.2.2)=PB at *
    generalize enB (wd (sub s q.2.2).data.toList 8 2) (wd (sub s q.2.2).data.toList 10 4) (wd (sub s q.2.2).data.toList 14 4) (wd (sub s q.2.2).data.toList 22 4) (nmB (sub s q.2.2)) (bdB (sub s q.2.2))=EB at *
    generalize uxT (wd (sub s q.2.2).data.toList 8 2) (bdB (sub s q.2.2))=UT at *
    generalize zz (gOk (wd (sub s q.2.2).data.toList 10 4:Nat)) (gY (wd (sub s q.2.2).data.toList 10 4:Nat))=yy at *
    generalize zz (gOk (wd (sub s q.2.2).data.toList 10 4:Nat)) (gM (wd (sub s q.2.2).data.toList 10 4:Nat))=mo at *
    generalize zz (gOk (wd (sub s q.2.2).data.toList 10 4:Nat)) (gD (wd (sub s q.2.2).data.toList 10 4:Nat))=dd at *
    generalize zz (gOk (wd (sub s q.2.2).data.toList 10 4:Nat)) (gH (wd (sub s q.2.2).data.toList 10 4:Nat))=l at *
    generalize zz (gOk (wd (sub s q.2.2).data.toList 10 4:Nat)) (gI (wd (sub s q.2.2).data.toList 10 4:Nat))=mi at *
    generalize zz (gOk (wd (sub s q.2.2).data.toList 10 4:Nat)) (gS (wd (sub s q.2.2).data.toList 10 4:Nat))=ss at *
    generalize bdB (sub s q.2.2)=BD at *
    generalize nmB (sub s q.2.2)=NM at *
    generalize wd (sub s q.2.2).data.toList 8 2=HW at *
    generalize wd (sub s q.2.2).data.toList 10 4=ST at *
    generalize wd (sub s q.2.2).data.toList 14 4=CR at *
    generalize wd (sub s q.2.2).data.toList 18 4=PK at *
    generalize wd (sub s q.2.2).data.toList 22 4=LN at *
    generalize wd (sub s q.2.2).data.toList 26 2=NL at *
    obtain⟨LO,hLO⟩:∃x,pB (sub s q.2.2)=x:=⟨_,rfl⟩;rw[hLO]at bd b7;have eg:(q.2.2:Int)+(PB.size:Int)<=(s.size:Int):=by omega
    have eb:30<=(PB.size:Int):=by omega
    have c5:=af (hLO.trans bd.symm);clear hd dl d0 bk co ca l1 l2 l3 l4 l5 l6 c9 bd b7 hLO cr;have G:=af ((a0c x1.heap.size x1).alloc (a0a _) (.cells #[HW,ST,CR,PK,LN,NM,BD] 64));have R2:=af (ay x1 #[HW,ST,CR,PK,LN,NM,BD] 64);go_wp2_with fail;refine(ae E _ (aj (ae ac) (ae G))).mono ?_;rintro e x2⟨rfl,D⟩;have J:=aj (ae G) D;have L:=af (aj (ae ac) J);have b2:=af ((ae ao).later J (a0a _));have b4:=af ((ae a1).later J (a0a _));have R3:=af ((ae R2).later D (ae R2).1);obtain⟨HB,hHB⟩:∃x,x1.heap.size=x:=⟨_,rfl⟩;rw[hHB]at R3 R S;rw[hHB];clear D J G R2 hHB E ac ao a1;cases EB
    .
     have o:=af (Cq (ae I) (ae a2) (ae HN rfl));rw[show(if false=true then Value.tuple #[.agg #[NM,yy,mo,dd,l,mi,ss,UT],.bool true]else .tuple #[noE,.bool false]) = .tuple #[.agg (),.bool false]from rfl];have y:=af (aj (ae L) ((a0c x2.heap.size x2).alloc (a0a _) (.cells () 26)));go_wp2
     go_ret2
     exact⟨F5 (ae o) 1 (by decide),ae y⟩
    .
     rw[show(if true=true then Value.tuple #[.agg #[NM,yy,mo,dd,l,mi,ss,UT],.bool true]else .tuple #[noE,.bool false]) = .tuple #[.agg #[NM,yy,mo,dd,l,mi,ss,UT],.bool true]from rfl];have al:Hid (∃T,iJ (sub s q.2.2)=some T/\enO (sub s q.2.2) T=⟨NM,yy,mo,dd,l,mi,ss,UT⟩):=ae HY rfl;have c7:Hid (∀W,_):=ae b1 rfl;have hA:=(a0c x2.heap.size x2).alloc (a0a _) (.cells #[NM,yy,mo,dd,l,mi,ss,UT] 26);have y:=af (aj (ae L) hA);have a0:=af ((ae b2).later hA (a0a _));have b5:=af ((ae b4).later hA (a0a _));have R4:=af ((ae R3).later hA (ae R3).1);have Q4:=af (ay x2 #[NM,yy,mo,dd,l,mi,ss,UT] 26);obtain⟨fa,fc,bl,_,_⟩:=(ae a0).formN (ae F).1;have ds:HB<x2.heap.size:=(ae R3).1;have ba:=af (lA fa fc q.1 k (ae F).1 ⟨NM,yy,mo,dd,l,mi,ss,UT⟩ m _ (bv (ae F).1 (by have:=ae a0;rw[bl]at this;exact this)) (by omega) (fun i hi=>by have:=(Ai (ae I) i hi).1;omega) b8 (by show(UT.size:Int)<=_;omega) (ae CM _ (ae y)));rw[←bl]at ba;clear hA HY HN b1 b2 b4 R3 bl L b8 dv;go_wp2_with fail;refine(ae ba).mono ?_;rintro e x4⟨rfl,M⟩;have ad:=af (aj (ae y) M);have b3:=af ((ae a0).later M (a0a _));have b6:=af ((ae b5).later M (a0a _));have R5:=af ((ae R4).later M (ae R4).1);have Q5:=af ((ae Q4).later M (ae Q4).1);obtain⟨QB,hQBe⟩:∃x,x2.heap.size=x:=⟨_,rfl⟩;rw[hQBe]at Q5 ds;rw[hQBe];clear M y a0 b5 R4 Q4 ba hQBe;by_cases H:aK q.1 ⟨NM,yy,mo,dd,l,mi,ss,UT⟩=0
     .
      rw[show cX (aK q.1 ⟨NM,yy,mo,dd,l,mi,ss,UT⟩) = .nilIface by rw[H];rfl];have c6:Hid (∃T,zst s (k+1)=some (q.1++[⟨NM,yy,mo,dd,l,mi,ss,UT⟩],T,q.2.2+PB.size)/\bi (q.1++[⟨NM,yy,mo,dd,l,mi,ss,UT⟩])=true):=by
       obtain⟨T,hT,hE⟩:=ae al;have h2:=sg (ae I) hT;rw[hE,ae c5]at h2;exact⟨_,h2,(iv (ae bb) _).2 H⟩
      have A:Hid ((k+1<=maxLen/\(k+1)*80<=140737488355328)/\(k+1)*64<=140737488355328):=by
       show(_/\_)/\_;unfold maxLen;omega
      have a6:=bj.own (ae F).1 (ae b3);have cg:=bj.own (vh s k) (ae b6);have V:=(ae ad).size;have pA:=(ae Q5).cells (n:=8) rfl;clear H al a2 Q HE;go_wp2_with (first
       | (at_builtin;refine a0w _ rfl _ _ 31 rfl w.heap.size 26 i0 (.agg ()) 8 80 a1h hi d7 d8 b0 rfl (by decide) _ _ _ rfl (a0o a6 _) ⟨x4.heap.size,0,none⟩ 1 1 (bu ⟨NM,yy,mo,dd,l,mi,ss,UT⟩) rfl rfl (jd x4 _ _) (gP _) (ae A).1.1 (ae A).1.2 (ar V _) ?_;intro v5 x5 a9 z Z;clear Z;have R6:=af (Blk.grown (Blk.later (ae R5) cC (ae R5).1) z (fun e=>absurd (ae R _ e.symm) (a2W _)));have rA:=(ae R6).cells (n:=7) rfl;have a7:=wv cg a6 (by decide) z;have bc:=aH (v:=u4) z a6 (a0a _) V (ae ad);have Y:=bc.size)
       | (at_builtin;refine a0w _ rfl _ _ 97 rfl w.heap.size 105 j0 (.agg #[.int .i64 0,.int .i64 0,.int .i64 0,.int .i64 0,.int .i64 0,.string ⟨#[]⟩,.int .i64 0]) 7 64 underlying97 hj d4 d5 d6 rfl (by decide) _ _ _ rfl (a0o a7 _) ⟨x5.heap.size,0,none⟩ 1 1 (Dp ⟨HW,ST,CR,PK,LN,NM,q.2.2⟩) rfl rfl (jd x5 _ _) (NQ _) (ae A).1.1 (ae A).2 (ar Y _) ?_;intro v6 x6 aa r Z;clear Z;have R7:=af (Blk.grown (Blk.later (ae R6) cC (ae R6).1) r (fun e=>absurd (ae S _ e.symm) (a2W _)));have rA:=(ae R7).cells (n:=7) rfl;have cc:=wv a9 a7 (by decide) r;have b9:=aH (v:=u5) r a7 (a0a _) Y bc))
      refine(ae c7 _).mono ?_;rintro e x7⟨rfl,a5⟩;have cp:cO x6 w.heap.size v5 (q.1++[⟨NM,yy,mo,dd,l,mi,ss,UT⟩]):=bj.snoc (ae F).1 cc;have be:UC x6 w.heap.size v6 (hqL s k++[wg s k]):=bj.snoc (vh s k) (by rw[ae c8];exact aa);rw[←Ov]at be;have cv:=af (cp.later a5 (a0a _));have cy:=af (be.later a5 (a0a _));have cu:=af (aj b9 a5);clear a9 aa z r cp be a5 b9 bc V Y a6 cc cg a7 rA R5 R6 R7 Q5 pA b3 b6 ad;go_wp2;go_roundw
      case rel=>
       obtain⟨C,b0,D⟩:=ae c6;exact⟨k+1,_,b0,D,by go_num,ae cv,ae cy,ae cu⟩
      case measure=>simp[intOf];omega
     .
      rw[show cX (aK q.1 ⟨NM,yy,mo,dd,l,mi,ss,UT⟩) = .iface 83 (.agg #[.int .i64 (aK q.1 ⟨NM,yy,mo,dd,l,mi,ss,UT⟩)]) by unfold cX;rw[a0e H]];have o:Hid (cV s=none):=by
       obtain⟨T,hT,hE⟩:=ae al;exact Nb (ae I) (ae bb) (ae a2) hT (by rw[hE];exact H)
      have HC:=af H;clear H al;generalize aK q.1 ⟨NM,yy,mo,dd,l,mi,ss,UT⟩=c at *
      go_wp2
      go_ret2
      exact⟨F5 (ae o) c (ae HC),ae ad⟩
   .
    have o:=af (Cq (ae I) (ae a2) (OS hd));obtain⟨o1,o2,o3,o4,o5,o6,o7⟩:=ho;have E:=af (fun W (hb:Below w.heap.size w W)=>uh a b c d f n t m W (by have:=ae Q;omega) o1 o2 o3 o5 (by have:=ae Q;omega) (ae CM _ hb) (ae HO _ hb));unfold enE at E;generalize enB a b c f n t=EB at *
    generalize uxT a t=UT at *
    generalize zz (gOk (b:Nat)) (gY (b:Nat))=yy at *
    generalize zz (gOk (b:Nat)) (gM (b:Nat))=mo at *
    generalize zz (gOk (b:Nat)) (gD (b:Nat))=dd at *
    generalize zz (gOk (b:Nat)) (gH (b:Nat))=l at *
    generalize zz (gOk (b:Nat)) (gI (b:Nat))=mi at *
    generalize zz (gOk (b:Nat)) (gS (b:Nat))=ss at *
    have G:=af (aj (ae ac) ((a0c x1.heap.size x1).alloc (a0a _) (.cells #[a,b,c,d,f,n,t] 64)));clear o1 o2 o3 o4 o5 o6 o7 ao a1 R S hd Q F HE;go_wp2_with fail;refine(ae E _ (ae G)).mono ?_;rintro e x2⟨rfl,D⟩;have L:=af (aj (ae G) D);clear D G E;cases EB
    .
     rw[show(if false=true then Value.tuple #[.agg #[n,yy,mo,dd,l,mi,ss,UT],.bool true]else .tuple #[noE,.bool false]) = .tuple #[.agg (),.bool false]from rfl];have y:=af (aj (ae L) ((a0c x2.heap.size x2).alloc (a0a _) (.cells () 26)));go_wp2
     go_ret2
     exact⟨F5 (ae o) 1 (by decide),ae y⟩
    .
     rw[show(if true=true then Value.tuple #[.agg #[n,yy,mo,dd,l,mi,ss,UT],.bool true]else .tuple #[noE,.bool false]) = .tuple #[.agg #[n,yy,mo,dd,l,mi,ss,UT],.bool true]from rfl];have y:=af (aj (ae L) ((a0c x2.heap.size x2).alloc (a0a _) (.cells #[n,yy,mo,dd,l,mi,ss,UT] 26)));go_wp2
     go_ret2
     exact⟨F5 (ae o) 1 (by decide),ae y⟩
  .
   rw[a0m N]at CX;have a3:=af (MI hz ab N);obtain⟨ha,hc,bn,_,_⟩:=l.formN (vh s k);have HW:Hid (yi wr ha k fun i=>Dp (wg s i)):=by
    rw[bn]at l;intro h0;obtain⟨g,e,hg,hc⟩:=xD NP ⟨0,0,0,0,0,⟨#[]⟩,0⟩ (vh s k) l h0;exact⟨g,e,hg,fun i hi j u hu=>hc i hi j u (by show(Dp ((hqL s k).getD i _))[j]?=_;rw[RU s k i _ hi];exact hu)⟩
   have O:Hid (∀W,Below wr.heap.size wr W->Ds 68 #[.slice ha k hc,.int .i64 (q.2.2:Nat)] W (.string (q.2.1++dT k q.2.1.size q.2.2))):=fun W hb=>by
    have:=FW ha hc k q.2.2 (wg s) W ((ae HW).later hb) d1 (RS (ae HS) (ae I)) (by omega);rw[Ek (ae I)]at this;exact this
   rw[←bn]at O;rw[←ae HE]at CX a3;have q1:=fun d os=>Calls.regrown_of (w:=wr) (d:=d) (os:=os) (ae O _ (below_regrown wr d os));have z1:((q.2.2:Nat):Int).toNat=q.2.2:=a0n _;generalize q.2.1++dT k q.2.1.size q.2.2=EN at *
   obtain⟨X,hX⟩:∃x,s.extract q.2.2 s.size=x:=⟨_,rfl⟩;rw[hX]at CX a3;obtain⟨B,hB⟩:∃b,(X.toList == EN.toList)=b:=⟨_,rfl⟩;have HB:=af hB;clear hf l U K hz ab a8 N HH HW O bn I bb F HE;go_wp2_with fail;refine(ae CX _).mono ?_;rintro e x0⟨rfl,bs⟩;subst bs;clear CX;go_wp2_with fail;refine wp_region_quiet_below ch (by kernel_rfl) ?_;cases B
   all_goals
    quiet_step (fail)
    quiet_step (fail)
    quiet_step (fail)
    quiet_step (fail)
    quiet_step (fail)
    quiet_step (exact q1 _ _)
    quiet_step (fail)
    refine a1w ?_;intro zw d3;obtain⟨⟨dq,osq⟩,cs⟩:=d3;have I:=below_regrown x0 dq osq;rw[←cs]at I;have T9:=af (aj (ae P) I);have O9:=af ((ae HF).later I (a0a _));clear cs I q1
   .
    have HN:Hid (cV s=none):=by show _=_;rw[ae a3,a0e (fun e=>by have:=(Ar (ae HB)).2 e;cases this)]
    go_wp2
    go_ret2
    exact⟨F5 (ae HN) 1 (by decide),ae T9⟩
   .
    have HY:Hid (cV s=some q.1):=by show _=_;rw[ae a3,a0d ((Ar (ae HB)).1 rfl)]
    go_wp2
    go_ret2
    exact⟨⟨_,0,rfl,fun _=>⟨_,ae HY,ae O9⟩,fun h=>absurd rfl h⟩,ae T9⟩
def j9.later{W:World}(a:j9 w)(hb:Below w.heap.size w W):j9 W:=(hb.cell (p:=⟨0,0,none⟩) (World.block_lt_of_cell? _ _ a)).trans a
def bS(s:ByteArray)(m:Int)(w:World)(y:s.size<=1048576)(x:w.cell? ⟨2,0,none⟩=some (.int .i64 m))(t:j9 w)(r:dp w) :
  Calls prog 9 #[s] w fun e w'=>(∃v,e = .returned (.tuple #[v,.bool (cV s).isSome])/\cO w' w.heap.size v ((cV s).getD []))/\Below w.heap.size w w':=by
 have C:=af (F4 s m w y x r);have o:=af t;clear x t r y;go_enter func9,ntmps9;go_wp2_with fail;refine C.mono ?_;rintro e x1⟨⟨v,c,rfl,p,q⟩,f⟩;have d:=af f;have j:=af (iy c x1 (o.later f));have k:=af p;have n:=af q;clear p q f C o;generalize cX c=FV at *;go_wp2_with fail;refine j.mono ?_;rintro e x2⟨rfl,a⟩;have g:=af (aj d a);by_cases i:c=0
 .
  obtain⟨l,u,b⟩:=ae k i;have h:=af u;have z:=af (b.later a (a0a _));subst i;clear u b a j k n d;go_wp2
  go_ret2
  exact⟨⟨_,by rw[ae h];rfl,by rw[ae h];exact z⟩,g⟩
 .
  have h:=af (ae n i);have hd:decide (c=0)=false:=a0m i;clear a j k n d;go_wp2
  go_ret2
  exact⟨⟨_,by rw[ae h];rfl,by rw[ae h];exact bj.nil _ _⟩,g⟩
def su(l:List En)(x:ByteArray):atN l x = -1∨∃k,k<l.length/\atN l x=(k:Int):=by
 unfold atN;cases h:l.findIdx? (fun e=>e.n.data.toList == x.data.toList)with
 | none=>exact .inl rfl
 | some k=>exact .inr ⟨k,(List.findIdx?_eq_some_iff_getElem.1 h).1,rfl⟩
def goes(e f:En):Prop:=cb e.n.data.toList f.n.data.toList=false
def qF(l:List En):bi l=true<->(∀e∈l,fi e=true)/\l.Pairwise goes/\l.length<=6:=by
 rw[pu,List.pairwise_iff_getElem];have g:∀i (a:i<l.length),l.getD i default=l[i]:=fun i a=>by simp[List.getD,a]
 constructor
 .
  intro h;refine⟨fun e k=>?_,fun i j a b d=>?_,?_⟩
  . obtain⟨i,a,rfl⟩:=a1M k;have:=((ij a).1 (h i a)).1;rwa[g i a]at this
  . have:=((ij b).1 (h j b)).2.1 i d;rw[g i a,g j b]at this;exact this
  .
   rcases a1o 6 l.length with c|c
   . have:=((ij c).1 (h 6 c)).2.2;omega
   . exact c
 . rintro⟨f,h2,m⟩ i a;refine(ij a).2 ⟨by rw[g i a];exact f _ (a2g _),fun j b=>?_,by omega⟩;rw[g i a,g j (by omega)];exact h2 j i (by omega) a b
def Gb(l:List En)(x:ByteArray):fI l x=false<->∀e∈l,cb e.n.data.toList x.data.toList=false:=by
 unfold fI;rw[List.any_eq_false];simp
def pw{l:List En}(h:bi l=true)(k:Nat):bi (l.eraseIdx k)=true:=by
 obtain⟨b,h2,c⟩:=(qF l).1 h;have a:=List.eraseIdx_sublist l k;exact(qF _).2 ⟨fun e d=>b e (a.subset d),h2.sublist a,a0E a.length_le c⟩
def lI{l:List En}(h:bi l=true)(a:k<l.length):fi (l.getD k default)=true:=(ct h).1 k a
def edR(s:ByteArray)(d:List En->Int×List En):Value:=match cV s with
 | none=>.tuple #[.string ⟨#[]⟩,.int .i64 1]
 | some l=>if (d l).1=0 then .tuple #[.string (dC (d l).2),.int .i64 0]else .tuple #[s,.int .i64 (d l).1]
def ju(h:cV s=none)(d:List En->Int×List En):edR s d = .tuple #[.string ⟨#[]⟩,.int .i64 1]:=by unfold edR;rw[h]
def iY{l r:List En}{d:List En->Int×List En}(h:cV s=some l)(a:d l=(0,r)):edR s d = .tuple #[.string (dC r),.int .i64 0]:=by unfold edR;rw[h];simp[a]
def lj{l r:List En}{d:List En->Int×List En}{c:Int}(h:cV s=some l)(a:d l=(c,r))(b:c≠0):edR s d = .tuple #[s,c]:=by unfold edR;rw[h];simp[a,b]
def ve(s:ByteArray)(d:List En->Int×List En):∃t c,edR s d = .tuple #[.string t,.int .i64 c]:=by
 unfold edR
 split
 . exact⟨_,_,rfl⟩
 . split<;>exact⟨_,_,rfl⟩
def eG{l:List En}(h:cV s=some l):bi l=true:=by
 obtain⟨_,q,_,rfl,a,_⟩:=pt h;exact a
def dK{l:List En}(h:bi l=true):∀i,i<l.length->(l.getD i default).n.size<=1048576/\((l.getD i default).t.size:Int)<=9223372036854775807:=by
 intro i a;obtain⟨f1,f2,_⟩:=dk (n:=(l.getD i default).n) (t:=(l.getD i default).t) (lI h a);exact⟨by omega,by omega⟩
def vw{l:List En}{n:Nat}(h:bi l=true)(a:l.length=n):dC l=(aG l).1++(aG l).2++dT n (aG l).2.size (aG l).1.size:=by unfold dC;rw[a0d h,a]
def kz(l:List En):∀u∈l.flatMap bu,u.oneCell'=true:=fun u a=>by
 obtain⟨e,_,h⟩:=List.mem_flatMap.1 a;exact gP e u h
def Sl{e:En}(k:fi e=true)(r:ByteArray):iJ (loE e++r)=some e.t/\enO (loE e++r) e.t=e/\(∀p,ctO (loE e++r) p=heE e p)/\pB (loE e++r)=(loE e).size:=by
 have c:gQ e.n e.y e.mo e.d e.h e.mi e.s e.t=true:=k;obtain⟨f1,f2,f3⟩:=dk c;obtain⟨g1,g2,g3,g4⟩:=oC f3;have e2:(((stN e.y e.mo e.d e.h e.mi e.s).toNat:Nat):Int)=stN e.y e.mo e.d e.h e.mi e.s:=by rw[←g4];simp[stI,f3]
 have l:=(uk (n:=e.n) (t:=e.t) g3 (by omega) (by omega)).1;obtain⟨m,f,a,g,i,j,o,b,q⟩:=Em (n:=e.n) (t:=e.t) g3 (by omega) (by omega) r;obtain⟨s0,s1,s2,s3,s4,s5⟩:=SS f3;have el:loE e=da e.n e.t (stN e.y e.mo e.d e.h e.mi e.s).toNat:=rfl;rw[el];refine⟨?_,?_,fun p=>?_,?_⟩
 . unfold iJ;rw[a0d m,f,q,QH e.t f2];simp only;rw[a0d];unfold Ry GB;rw[g,j,a,b,e2,s0,s1,s2,s3,s4,s5,c];simp
 . unfold enO;rw[b,a,e2,s0,s1,s2,s3,s4,s5]
 . unfold ctO heE eN;rw[f,a,g,i,j,b]
 . unfold pB;rw[o,i,l]
def JF(a b:ByteArray):sub (a++b) a.size=b:=ck (by
 rw[gZ];simp only[a2c,a1H];exact List.drop_left' (by simp))
theorem Ag(l:List En)(k:Nat):∀j,k<=j->j<=l.length->∃x,(aG (l.take j)).1=(aG (l.take k)).1++x
 | 0,h,_=>by
  have:k=0:=by omega
  subst this;exact⟨⟨#[]⟩,ck (by simp)⟩
 | j+1,h,hj=>by
  by_cases e:k=j+1
  . subst e;exact⟨⟨#[]⟩,ck (by simp)⟩
  . obtain⟨x,a⟩:=Ag l k j (by omega) (by omega);refine⟨x++loE (l.getD j default),?_⟩;rw[iz l j (by omega)];show(aG (l.take j)).1++loE _=_;rw[a,a2D]
def QT{l:List En}(h:bi l=true)(b:k<l.length):∃r,dC l=(aG (l.take k)).1++(loE (l.getD k default)++r):=by
 obtain⟨x,a⟩:=Ag l (k+1) l.length (by omega) (a0a _);rw[a2y,iz l k b]at a;have a:(aG l).1=(aG (l.take k)).1++loE (l.getD k default)++x:=a;refine⟨x++((aG l).2++dT l.length (aG l).2.size (aG l).1.size),?_⟩;unfold dC;rw[a0d h,a2D];generalize (aG l).2++dT l.length (aG l).2.size (aG l).1.size=T;rw[a];simp only[a2D]
theorem F6{l:List En}(h:bi l=true):∀k,k<=l.length->zst (dC l) k=some (l.take k,(aG (l.take k)).2,(aG (l.take k)).1.size)
 | 0,_=>rfl
 | k+1,hk=>by
  have ih:=F6 h k (by omega);obtain⟨r,f⟩:=QT h (by omega:k<l.length);have a:sub (dC l) (aG (l.take k)).1.size=loE (l.getD k default)++r:=by rw[f,JF]
  obtain⟨b,c,d,e⟩:=Sl ((ct h).1 k (by omega)) r;have:=sg (T:=(l.getD k default).t) ih (by show iJ (sub _ _)=_;rw[a];exact b);rw[this];simp only[a,c,d,e];rw[iz l k (by omega),qA l default k (by omega)];simp only[Tg,a0H]
def kY{l:List En}(h:bi l=true):cV (dC l)=some l:=by
 have a:=F6 h l.length (a0a _);rw[a2y]at a;refine FZ a h ?_;show sub (dC l) (aG l).1.size=(aG l).2++dT l.length (aG l).2.size (aG l).1.size;unfold dC;rw[a0d h,a2D,JF]
def QS{l:List En}(h:bi l=true):(dC l).size=(aG l).1.size+(aG l).2.size+22:=by
 unfold dC;rw[a0d h,a0H,a0H,oQ]
def kX(l:List En):(dC l).size<=4000:=by
 by_cases h:bi l=true
 . rw[QS h];obtain⟨a,h2⟩:=ct h;have:=mx l a l.length (a0a _);rw[a2y]at this;omega
 . unfold dC;rw[a0e h];exact a0g _
def xA(w:World)(base d:Nat)(hb:base<=w.heap.size)(hd:d<256):bC (w.alloc (.cells #[.int .u8 (d:Int)] 5)) base (.slice w.heap.size 1 1) [UInt8.ofNat d]:=by
 have h:(w.alloc (.cells #[.int .u8 (d:Int)] 5)).ownsRow base 5 1 (.slice w.heap.size 1 1) 1 [.int .u8 (d:Int)]:=a0S w #[.int .u8 (d:Int)] 1 hb (by unfold maxLen;omega) rfl;have e:((UInt8.ofNat d).toNat:Int)=(d:Int):=by rw[a3h];omega
 show World.ownsRow _ _ _ _ _ _ (dD [UInt8.ofNat d]);rw[show dD [UInt8.ofNat d]=[.int .u8 ((UInt8.ofNat d).toNat:Int)]from rfl,e];exact h
def Dt(e:En)(b:Nat)(x:ByteArray)(w:World)(hb:w.cell? ⟨b,0,none⟩=some (.string x)) :
  Calls prog 91 #[.agg e,.pointer b] w fun f w'=>f = .returned (.bool (e.n.toList == x.toList))/\Below w.heap.size w w':=by
 have a:b<w.heap.size:=World.block_lt_of_cell? _ _ hb;have g:¬ b=w.heap.size:=by omega
 have c:(w.alloc (.cells e 26)).cell? ⟨b,0,none⟩=some (.string x):=by
  rw[World.cell?_alloc_past _ _ _ a];exact hb
 clear hb;go_enter func91,ntmps91;go_wp2;go_ret;exact⟨rfl,cC⟩
def yA(a:Option Addr)(cap:Nat)(l:List En)(n:Nat)(C:l.length=n)(b:Nat)(x:ByteArray)(w:World)(h:iA w a l)(R:(n:Int)<=1048576)(hb:w.cell? ⟨b,0,none⟩=some (.string x)) :
  Ds 90 #[.slice a n cap,.func (.func 91) #[] #[.pointer b]] w (.int .i64 (atN l x)):=by
 have K:=af h;have t:=af (fun W (z:Below w.heap.size w W)=>(z.cell (p:=⟨b,0,none⟩) (World.block_lt_of_cell? _ _ hb)).trans hb);have E:=af (fun k (B:k<l.length)=>@uZ l x k B);have F:=af (@qM l x);rw[C]at E F;have G:=af C;clear h C hb;go_enter func90,ntmps90;go_wp2_with fail
 go_loopw [5,8] (fun _ i wr=>∃k:Nat,k<=n/\i = .int .i64 k/\(∀j,j<k->¬ (l.getD j default).n.toList=x.toList)/\Below w.heap.size w wr) (fun _ i _=>n-(intOf i).toNat)
 case atStart=>exact⟨0,a0g _,rfl,fun j I=>absurd I (by omega),a0c _ _⟩
 case round=>
  obtain⟨k,B,rfl,f,m⟩:=hrel;have c:=af f;have d:=af m;clear f m;by_cases q:k<n
  .
   have P:(k:Int)<(n:Int):=(by omega);obtain⟨g,o,rfl,Q,H⟩:=K.later d (by have:=ae G;omega);obtain⟨c0,c1,c2,c3,c4,M,N,O⟩:=H k (by have:=ae G;omega);have r:=af q;have v:=af (ae E k q (ae c));have J:=af (fun W (z:Below w.heap.size w W)=>Dt (l.getD k default) b x W (t W z));have y:Hid (¬ (l.getD k default).n.toList=x.toList->∀j,j<k+1->¬ (l.getD j default).n.toList=x.toList):=by
    intro e j I;by_cases A:j=k
    . rw[A];exact e
    . exact c j (by omega)
   clear H B c q;generalize l.getD k default=en at *;go_wp2_with fail;refine(J _ (ae d)).mono ?_;rintro e z1⟨rfl,s⟩;have D:=af (aj d s);clear s c0 c1 c2 c3 c4 M N O;by_cases e:en.n.toList=x.toList
   . have u:=af (ae v e);rw[show(en.n.toList == x.toList)=true by simp only[a2A];exact e];go_wp2;go_ret;exact⟨by rw[ae u];rfl,D⟩
   .
    have L:=af (ae y e);rw[show(en.n.toList == x.toList)=false by simp only[a0X,ne_eq];exact e];clear e;go_wp2;go_roundw
    case rel=>exact⟨k+1,by have:=ae r;omega,by go_num,L,D⟩
    case measure=>have:=ae r;simp[intOf];omega
  .
   obtain rfl:k=n:=by omega
   have u:=af (ae F (ae c));go_wp2;go_ret;exact⟨by rw[ae u];rfl,d⟩
def NW(k:Int):Value:=if k<0 then .tuple #[.int .i64 0,.iface 83 (.agg #[.int .i64 2])]else .tuple #[k,.nilIface]
def vf{k:Int}(h:k<0):NW k = .tuple #[.int .i64 0,.iface 83 (.agg #[.int .i64 2])]:=a0d h
def qZ{k:Int}(h:¬ k<0):NW k = .tuple #[k,.nilIface]:=a0e h
def mH(a:Option Addr)(cap:Nat)(l:List En)(n:Nat)(i:l.length=n)(x:ByteArray)(w:World)(h:iA w a l)(j:(n:Int)<=1048576) :
  Ds 52 #[.slice a n cap,x] w (NW (atN l x)):=by
 have e:=af ((a0c w.heap.size w).alloc (a0a _) (.cells #[x] 9));have C:=af (yA a cap l n i w.heap.size x _ (h.later e) j ((ay w #[x] 9).cell 0 _ rfl));clear h i;go_enter func52,ntmps52;go_wp2_with fail;refine C.mono ?_;rintro f x1⟨rfl,c⟩;have b:=af (aj e c);clear c e C;by_cases g:atN l x<0
 .
  have d:=af (vf g);go_wp2
  go_ret2
  exact⟨by rw[ae d];rfl,b⟩
 .
  have d:=af (qZ g);go_wp2
  go_ret2
  exact⟨by rw[ae d];rfl,b⟩
def qG(b:Nat)(w:World)(d:Int×List En)(e:Ending)(w':World):Prop:=(∃v,e = .returned (.tuple #[v,cX d.1])/\(∃a n c,v = .slice a n c)/\(d.1=0->cO w' b v d.2))/\Below b w w'
def mF{d:Int×List En}{c:Int}(h:d.1=c)(a:c≠0)(hb:Below b w w'):qG b w d (.returned (.tuple #[.slice none 0 0,.iface 83 (.agg #[c])])) w':=by
 subst h;exact⟨⟨_,by unfold cX;rw[a0e a],⟨_,_,_,rfl⟩,fun e=>absurd e a⟩,hb⟩
