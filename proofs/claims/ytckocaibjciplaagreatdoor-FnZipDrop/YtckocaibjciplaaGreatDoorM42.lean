/- Texts. -/
import Derived.Test.YtckocaibjciplaaGreatDoorM41
import Derived.Test.YtckocaibjciplaaGreatDoorM40
set_option linter.all false
set_option maxRecDepth 100000
set_option maxHeartbeats 12800000
namespace Go.Proofs.YtckocaibjciplaaGreatDoor
open Go.Proofs.Tryz
open Corb
variable {T c s x:ByteArray}{b i k m:Nat}{u:List UInt8}{w w':World}
def sub(s:ByteArray)(p:Nat):ByteArray:=s.extract p s.size
def gB(s:ByteArray)(p:Nat):(sub s p).data.toList=s.data.toList.drop p:=by
 rw[sub,ext_list];exact a0u (by simp)
def jo(s:ByteArray)(p:Nat):(sub s p).size=s.size-p:=by
 rw[sub,a2d];omega
def oQ(s:ByteArray):Nat:=30+wd s.data.toList 26 2+wd s.data.toList 18 4
def enO(s T:ByteArray):En:=⟨nmB s,gY (wd s.data.toList 10 4:Nat),gM (wd s.data.toList 10 4:Nat),gD (wd s.data.toList 10 4:Nat),gH (wd s.data.toList 10 4:Nat),gI (wd s.data.toList 10 4:Nat),gS (wd s.data.toList 10 4:Nat),T⟩
def ctO(s:ByteArray)(p:Nat):ByteArray:=kF (wd s.data.toList 8 2) (wd s.data.toList 10 4) (wd s.data.toList 14 4) (wd s.data.toList 18 4) (wd s.data.toList 22 4) (nmB s) p
def lF(h:im s=some T):hdB s=true/\je (enO s T)=true:=by
 unfold im at h
 split at h
 .
  rename_i h0;refine⟨h0,?_⟩
  split at h
  .
   split at h
   .
    rename_i h2;cases h
    simp only[Qn,a0l]at h2;exact h2.2.2
   . cases h
  . cases h
 . cases h
def zst(s:ByteArray):Nat->Option (List En×ByteArray×Nat)
 | 0=>some ([],⟨#[]⟩,0)
 | i+1=>(zst s i).bind fun q=>(im (sub s q.2.2)).map fun T=>(q.1++[enO (sub s q.2.2) T],q.2.1++ctO (sub s q.2.2) q.2.2,q.2.2+oQ (sub s q.2.2))
def rx{q:List En×ByteArray×Nat}(h:zst s i=some q)(a:im (sub s q.2.2)=some T) :
  zst s (i+1)=some (q.1++[enO (sub s q.2.2) T],q.2.1++ctO (sub s q.2.2) q.2.2,q.2.2+oQ (sub s q.2.2)):=by
 rw[zst,h,a0f,a,a3X]
def S8{q:List En×ByteArray×Nat}(h:zst s i=some q)(a:im (sub s q.2.2)=none):zst s (i+1)=none:=by
 rw[zst,h,a0f,a,Option.map_none]
theorem Fe{s:ByteArray}{i:Nat}(h:zst s i=none):∀m,i<=m->zst s m=none
 | 0,hm=>by
  have:i=0:=by omega
  rw[←this];exact h
 | m+1,hm=>by
  by_cases e:i=m+1
  . rw[←e];exact h
  . rw[zst,Fe h m (by omega)];rfl
def iu{q:List En×ByteArray×Nat}(h:zst s (i+1)=some q):∃r T,zst s i=some r/\im (sub s r.2.2)=some T/\q=(r.1++[enO (sub s r.2.2) T],r.2.1++ctO (sub s r.2.2) r.2.2,r.2.2+oQ (sub s r.2.2)):=by
 rw[zst]at h;rcases b:zst s i with _|r
 . rw[b]at h;cases h
 .
  rw[b,a0f]at h;rcases a:im (sub s r.2.2)with _|T
  . rw[a]at h;cases h
  .
   rw[a,a3X]at h;cases h
   exact⟨r,T,rfl,a,rfl⟩
def wb(h:im s=some T):oQ s<=s.size:=(li.1 (lF h).1).2.2
theorem i6{s:ByteArray} : ∀{i:Nat} {q:List En×ByteArray×Nat},zst s i=some q->q.1.length=i/\q.2.2<=s.size/\(∀e∈q.1,je e=true)/\(q.2.1=⟨#[]⟩∨q.2.1.data.toList.take 4=[80,75,1,2])/\q.2.1.size<=100*i
 | 0,q,h=>by cases h;exact⟨rfl,a0g _,(fun e a=>by cases a),.inl rfl,a0g _⟩
 | i+1,q,h=>by
  obtain⟨r,T,c,h2,rfl⟩:=iu h;obtain⟨a1,a2,a3,a4,a5⟩:=i6 c;have f:=wb h2;rw[jo]at f;have b:=(lF h2).2;have g:=(cU (n:=(enO (sub s r.2.2) T).n) (t:=(enO (sub s r.2.2) T).t) b).1;have d:(ctO (sub s r.2.2) r.2.2).size=46+(nmB (sub s r.2.2)).size:=iH _ _ _ _ _ _ _;have j:(nmB (sub s r.2.2)).size<=43:=g;refine⟨by simp[a1],?_,?_,?_,?_⟩
  . show r.2.2+oQ (sub s r.2.2)<=s.size;omega
  .
   intro e a;rcases a02.1 a with a|a
   . exact a3 e a
   . rw[a09.1 a];exact b
  .
   refine .inr ?_;show(r.2.1++ctO (sub s r.2.2) r.2.2).data.toList.take 4=_;have e0:(ctO (sub s r.2.2) r.2.2).data.toList.take 4=[80,75,1,2]:=by simp[ctO,kF]
   rcases a4 with e|e
   . rw[e];simpa using e0
   .
    have:4<=r.2.1.data.toList.length:=by
     have:=congrArg List.length e;rw[a0v]at this;simp at this ⊢;omega
    simp only[a2b,a1D];rw[a1r this];exact e
  . show(r.2.1++ctO (sub s r.2.2) r.2.2).size<=_;rw[a0G,d];omega
theorem lS{s:ByteArray}{k:Nat} : ∀{m:Nat} {q:List En×ByteArray×Nat},zst s m=some q->k<=m->∃r,zst s k=some r/\r.1=q.1.take k
 | 0,q,h,hk=>by
  have:k=0:=by omega
  subst this;exact⟨q,h,by cases h;rfl⟩
 | m+1,q,h,hk=>by
  by_cases e:k=m+1
  . subst e;exact⟨q,h,by rw[a0u (by rw[(i6 h).1];exact a0a _)]⟩
  . obtain⟨r,T,a,h2,rfl⟩:=iu h;obtain⟨d,b,c⟩:=lS a (by omega:k<=m);refine⟨d,b,?_⟩;rw[c];show _=(r.1++_).take k;rw[a1r (by rw[(i6 a).1];omega)]
def tD(h:im s=some T):s.data.toList.take 4=[80,75,3,4]:=by
 obtain⟨a,h2,_⟩:=li.1 (lF h).1;simp only[nh,a0l,a0t]at h2;have b:30<=s.data.toList.length:=by simpa using a
 have:=(tV (l:=s.data.toList) (i:=0) (k:=4) (by omega) (by decide)).1 h2.1;rw[a1V]at this;rw[this];decide +kernel
def yg(k z p:Nat):(dC k z p).data.toList=[80,75,5,6]++(leS 2 0++(leS 2 0++(leS 2 k++(leS 2 k++(leS 4 z++(leS 4 p++leS 2 0)))))):=by
 simp[dC,ax]
def IA(k z p:Nat)(a:c=⟨#[]⟩∨c.data.toList.take 4=[80,75,1,2]):(c++dC k z p).data.toList.take 4≠[80,75,3,4]:=by
 simp only[a2b,a1D];rcases a with e|e
 . rw[e,yg];simp
 .
  have:4<=c.data.toList.length:=by
   have:=congrArg List.length e;rw[a0v]at this;simp at this ⊢;omega
  rw[a1r this,e];decide
def MN{z p q:Nat}(h:sub s p=c++dC k z q)(e:k<65536):22<=s.size/\wd s.data.toList (s.size-12) 2=k:=by
 have d:s.size-p=c.size+22:=by rw[←jo,h,a0G,oq]
 refine⟨by omega,?_⟩;have h2:s.data.toList=(s.data.toList.take p++(c.data.toList++([80,75,5,6]++(leS 2 0++(leS 2 0++leS 2 k)))))++(leS 2 k++(leS 4 z++(leS 4 q++leS 2 0))):=by
  have:s.data.toList.drop p=(c++dC k z q).data.toList:=by rw[←gB,h]
  conv=>lhs;rw[←a1P p s.data.toList,this]
  simp only[a2b,a1D,yg,a0K]
 have a:(s.data.toList.take p++(c.data.toList++([80,75,5,6]++(leS 2 0++(leS 2 0++leS 2 k))))).length=s.size-12:=by
  simp only[a0j,a0v,az];have e1:s.data.toList.length=s.size:=by simp
  have e2:c.data.toList.length=c.size:=by simp
  rw[e1,e2];simp;omega
 rw[h2];have:=Hh (b:=leS 2 k++(leS 4 z++(leS 4 q++leS 2 0))) (i:=0) 2 a;rw[a1b]at this;rw[this];exact ir _ (by omega)
def dr(s:ByteArray):Option (List En):=
 if 12<=s.size/\wd s.data.toList (s.size-12) 2<=6 then
  (match zst s (wd s.data.toList (s.size-12) 2)with
  | some q=>if bF q.1=true/\sub s q.2.2=q.2.1++dC (wd s.data.toList (s.size-12) 2) q.2.1.size q.2.2 then some q.1 else none
  | none=>none)
 else none
def oK{l:List En}(h:dr s=some l):∃m q,zst s m=some q/\l=q.1/\bF q.1=true/\sub s q.2.2=q.2.1++dC m q.2.1.size q.2.2:=by
 unfold dr at h
 split at h
 .
  split at h
  .
   rename_i q hq
   split at h
   .
    rename_i h2;cases h
    exact⟨_,q,hq,rfl,h2.1,h2.2⟩
   . cases h
  . cases h
 . cases h
def E7{q:List En×ByteArray×Nat}(h:zst s m=some q)(b:bF q.1=true)(a:sub s q.2.2=q.2.1++dC m q.2.1.size q.2.2):dr s=some q.1:=by
 have c:=(dS b).2;have d:=(i6 h).1;obtain⟨e1,e2⟩:=MN a (by omega);unfold dr;rw[a0d ⟨by omega,by omega⟩,e2,h];simp only;rw[a0d ⟨b,a⟩]
def zk{q r:List En×ByteArray×Nat}(d:zst s k=some q)(b:zst s m=some r)(c:sub s r.2.2=r.2.1++dC m r.2.1.size r.2.2):k<=m:=by
 rcases a1l m k with h|h
 .
  exfalso;obtain⟨x,e,_⟩:=lS d (by omega:m+1<=k);obtain⟨y,T,a,h2,_⟩:=iu e;rw[b]at a;cases a
  have:=tD h2;rw[c]at this;exact IA _ _ _ (i6 b).2.2.2.1 this
 . exact h
def LF{q:List En×ByteArray×Nat}(b:zst s k=some q)(i:bF q.1=true)(f:(sub s q.2.2).data.toList.take 4≠[80,75,3,4]) :
  dr s=if sub s q.2.2=q.2.1++dC k q.2.1.size q.2.2 then some q.1 else none:=by
 split
 . rename_i he;exact E7 b i he
 .
  rename_i he;rcases h:dr s with _|l
  . rfl
  .
   exfalso;obtain⟨m,r,a,h2,j,c⟩:=oK h;have d:=zk b a c;by_cases e:k=m
   .
    subst e;rw[b]at a;cases a
    exact he c
   .
    obtain⟨x,g,_⟩:=lS a (by omega:k+1<=m);obtain⟨y,T,y1,y2,_⟩:=iu g;rw[b]at y1;cases y1
    exact f (tD y2)
def EZ{q:List En×ByteArray×Nat}(c:zst s k=some q)(o:(sub s q.2.2).data.toList.take 4=[80,75,3,4])(p:∀T,im (sub s q.2.2)=some T->bF (q.1++[enO (sub s q.2.2) T])=false):dr s=none:=by
 rcases h:dr s with _|l
 . rfl
 .
  exfalso;obtain⟨m,r,b,h2,f,g⟩:=oK h;have u:=zk c b g;by_cases e:k=m
  .
   subst e;rw[c]at b;cases b
   rw[g]at o;exact IA _ _ _ (i6 c).2.2.2.1 o
  .
   obtain⟨x,v,d⟩:=lS b (by omega:k+1<=m);obtain⟨y,T,y1,y2,y3⟩:=iu v;rw[c]at y1;cases y1
   have j:=p T y2;have n:bF (r.1.take (k+1))=true:=by
    rw[oL]at f ⊢;intro i t;have a:i<k+1/\i<r.1.length:=by rw[a0v]at t;omega
    have:=f i a.2;unfold jC at this ⊢;rw[oI r.1 (k+1) i a.1,a2T,a1w (by omega)];exact this
   rw[←d,y3]at n;rw[n]at j;cases j
def hqO(x:ByteArray)(p:Nat):Hq:=⟨wd x.data.toList 8 2,wd x.data.toList 10 4,wd x.data.toList 14 4,wd x.data.toList 18 4,wd x.data.toList 22 4,nmB x,p⟩
def vn(s:ByteArray)(k:Nat):Hq:=match zst s k with
 | some q=>hqO (sub s q.2.2) q.2.2
 | none=>hqO ⟨#[]⟩ 0
def hqL(s:ByteArray)(n:Nat):List Hq:=(List.range n).map (vn s)
def uv(s:ByteArray)(n:Nat):(hqL s n).length=n:=by simp[hqL]
def Nl(s:ByteArray)(n:Nat):hqL s (n+1)=hqL s n++[vn s n]:=by simp[hqL,a3N]
def Qz(s:ByteArray)(n i:Nat)(d:Hq)(h:i<n):(hqL s n).getD i d=vn s i:=by simp[hqL,List.getD,h]
def Ah{q:List En×ByteArray×Nat}(h:zst s k=some q):vn s k=hqO (sub s q.2.2) q.2.2:=by
 unfold vn;rw[h]
theorem Du{s:ByteArray} : ∀{k:Nat} {q:List En×ByteArray×Nat},zst s k=some q->ft (vn s) k=q.2.1
 | 0,q,h=>by cases h;rfl
 | k+1,q,h=>by
  obtain⟨r,T,a,h2,rfl⟩:=iu h;rw[ft,Du a,Ah a];rfl
def Qy(j:s.size<=1048576){q:List En×ByteArray×Nat}(h:zst s k=some q):∀i,i<k->okQ (vn s i):=by
 intro i f;obtain⟨x,e,_⟩:=lS h (by omega:i+1<=k);obtain⟨r,T,a,h2,_⟩:=iu e;rw[Ah a];have b:=(lF h2).2;have c:=(cU (n:=(enO (sub s r.2.2) T).n) (t:=(enO (sub s r.2.2) T).t) b).1;have d:(nmB (sub s r.2.2)).size<=43:=c;have g:=(i6 a).2.1;exact⟨jz _ _,fo _ _,fo _ _,fo _ _,fo _ _,by show(nmB (sub s r.2.2)).size<=54;omega,by show r.2.2<4294967296;omega⟩
def Jk(l:List En)(e:En)(i:Nat)(a:i<l.length):jC (l++[e]) i=jC l i:=by
 unfold jC;rw[a1r (by omega)]
 congr 1
 simp only[List.getD];rw[List.getElem?_append_left a]
def xX(l:List En)(e:En):jC (l++[e]) l.length=aH l e:=by
 unfold jC;rw[a1r (a0a _),a0u (a0a _)]
 congr 1
 simp[List.getD]
def dp{l:List En}(h:bF l=true)(e:En):bF (l++[e])=true<->aH l e=0:=by
 rw[oL]at h ⊢;constructor
 . intro k;have:=k l.length (by simp);rw[xX]at this;exact this
 .
  intro k i b;by_cases a:i<l.length
  . rw[Jk l e i a];exact h i a
  .
   have:i=l.length:=by simp at b;omega
   rw[this,xX];exact k
def NU(s:ByteArray):Lib.hasPrefix s.data.toList [80,75,3,4]=decide (s.data.toList.take 4=[80,75,3,4]):=by
 rw[a2g,a0t];unfold Lib.hasPrefix;rw[List.isPrefixOf_iff_prefix,List.prefix_iff_eq_take];exact eq_comm
def Lo{v:List UInt8}{n:Nat}(h:30<=v.length)(a:nh v=true)(d:n=wd v 26 2):(eU (wd v 8 2) (wd v 10 4) (wd v 14 4) (wd v 18 4) (wd v 22 4) n).data.toList=(v.drop 4).take 26:=by
 have st:∀i k m,(v.drop i).take (k+m)=(v.drop i).take k++(v.drop (i+k)).take m:=fun i k m=>by rw[a3l,a1W]
 simp only[nh,a0l,a0t]at a;obtain⟨_,b,h2,c⟩:=a;have e1:=(tV (l:=v) (i:=4) (k:=2) (by omega) (by decide)).1 b;have e2:=(tV (l:=v) (i:=6) (k:=2) (by omega) (by decide)).1 h2;have e3:=(tV (l:=v) (i:=28) (k:=2) (by omega) (by decide)).1 c;have e:(eU (wd v 8 2) (wd v 10 4) (wd v 14 4) (wd v 18 4) (wd v 22 4) n).data.toList=leS 2 20++(leS 2 0++(leS 2 (wd v 8 2)++(leS 4 (wd v 10 4)++(leS 4 (wd v 14 4)++(leS 4 (wd v 18 4)++(leS 4 (wd v 22 4)++(leS 2 n++leS 2 0))))))):=by
  unfold eU ax;simp
 rw[e,d,←e1,←e2,iY (i:=8) (k:=2) (by omega),iY (i:=10) (k:=4) (by omega),iY (i:=14) (k:=4) (by omega),iY (i:=18) (k:=4) (by omega),iY (i:=22) (k:=4) (by omega),iY (i:=26) (k:=2) (by omega)]
 conv=>lhs;rhs;rhs;rhs;rhs;rhs;rhs;rhs;rhs;rw[e2,←e3]
 rw[←st 26 2 2,←st 22 4 _,←st 18 4 _,←st 14 4 _,←st 10 4 _,←st 8 2 _,←st 6 2 _,←st 4 2 _]
def ui(u v:List UInt8)(own:Nat):Prop:=30<=u.length/\46+wd u 28 2<=u.length/\30+wd u 28 2<=v.length/\((u.drop 6).take 26=(v.drop 4).take 26/\(u.drop 46).take (wd u 28 2)=(v.drop 30).take (wd u 28 2))/\(u.take 6=leS 4 33639248++leS 2 20/\(u.drop 32).take 14=List.replicate 10 0++leS 4 own)
def Mw(own:Nat)(h:hdB x=true):(ctO x own).data.toList=(leS 4 33639248++leS 2 20)++((x.data.toList.drop 4).take 26++((List.replicate 10 0++leS 4 own)++(x.data.toList.drop 30).take (wd x.data.toList 26 2))):=by
 obtain⟨a,h2,c⟩:=li.1 h;have b:30<=x.data.toList.length:=by simpa using a
 have e:=Lo b h2 (lH (s:=x) (by omega));have e0:leS 4 33639248=[80,75,1,2]:=by decide +kernel
 rw[e0,←e,←wm];unfold ctO kF ax;simp[List.replicate]
def sB{v:List UInt8}(h:(u.drop 6).take 26=(v.drop 4).take 26):wd u 28 2=wd v 26 2:=by
 have e1:((u.drop 6).take 26).drop 22=(u.drop 28).take 4:=by rw[a3V,a1W]
 have e2:((v.drop 4).take 26).drop 22=(v.drop 26).take 4:=by rw[a3V,a1W]
 have e3:(u.drop 28).take 4=(v.drop 26).take 4:=by rw[←e1,←e2,h]
 have e4:(u.drop 28).take 2=(v.drop 26).take 2:=by
  have:=congrArg (List.take 2) e3;rwa[a2T,a2T]at this
 unfold wd;rw[e4]
def QH(own:Nat)(h:hdB x=true):ui u x.data.toList own<->u.take (46+wd x.data.toList 26 2)=(ctO x own).data.toList:=by
 obtain⟨g,h2,j⟩:=li.1 h;have d:30+wd x.data.toList 26 2<=x.data.toList.length:=by
  have:x.data.toList.length=x.size:=by simp
  omega
 have st:∀i k m,(u.drop i).take (k+m)=(u.drop i).take k++(u.drop (i+k)).take m:=fun i k m=>by rw[a3l,a1W]
 have eu:∀n,u.take (46+n)=u.take 6++((u.drop 6).take 26++((u.drop 32).take 14++(u.drop 46).take n)):=fun n=>by
  rw[←st 32 14 n,←st 6 26 _];have:=st 0 6 (26+(14+n));rw[a1V,a0H]at this;rw[←this]
  congr 1;omega
 rw[Mw own h];have l1:(leS 4 33639248++leS 2 20).length=6:=by simp[az]
 have l2:((x.data.toList.drop 4).take 26).length=26:=fx (by omega);have l3:(List.replicate 10 (0:UInt8)++leS 4 own).length=14:=by simp[az]
 have l4:((x.data.toList.drop 30).take (wd x.data.toList 26 2)).length=wd x.data.toList 26 2:=fx d;constructor
 . rintro⟨c0,c1,c2,⟨s1,s2⟩,b,c⟩;have a:=sB s1;rw[a]at s2;rw[eu,b,s1,c,s2]
 .
  intro e;have f:=congrArg List.length e;have m1:=l1;have m3:=l3;simp only[a0j]at f m1 m3;rw[a0v,l2,l4]at f;have l:46+wd x.data.toList 26 2<=u.length:=by omega
  rw[eu]at e;obtain⟨b,e⟩:=a2a e (by rw[l1,a0v];omega);obtain⟨s1,e⟩:=a2a e (by rw[l2,a0v,a04];omega);obtain⟨c,s2⟩:=a2a e (by rw[l3,a0v,a04];omega);have a:=sB s1;exact⟨by omega,by omega,by rw[a];exact d,⟨s1,by rw[a];exact s2⟩,b,c⟩
theorem I1{s:ByteArray}{k:Nat}{r:List En×ByteArray×Nat}(a:zst s k=some r):∀{m:Nat} {q:List En×ByteArray×Nat},zst s m=some q->k<=m->∃x,q.2.1.data.toList=r.2.1.data.toList++x
 | 0,q,h,hkm=>by
  have:k=0:=by omega
  subst this;rw[a]at h;cases h;exact⟨[],by simp⟩
 | m+1,q,h,hkm=>by
  by_cases e:k=m+1
  . subst e;rw[a]at h;cases h;exact⟨[],by simp⟩
  .
   obtain⟨y,T,b,h2,rfl⟩:=iu h;obtain⟨x,c⟩:=I1 a b (by omega);exact⟨x++(ctO (sub s y.2.2) y.2.2).data.toList,by
    show(y.2.1++ctO (sub s y.2.2) y.2.2).data.toList=_;simp only[a2b,a1D];rw[c,a0K]⟩
def preB(s c:ByteArray)(A:Nat):Prop:=(s.data.toList.drop A).take c.size=c.data.toList
def Ec{A:Nat}{r:List En×ByteArray×Nat}(d:im (sub s r.2.2)=some T)(a:preB s r.2.1 A) :
  ui (s.data.toList.drop (A+r.2.1.size)) (s.data.toList.drop r.2.2) r.2.2<->preB s (r.2.1++ctO (sub s r.2.2) r.2.2) A:=by
 have b:=(lF d).1;have c:(ctO (sub s r.2.2) r.2.2).size=46+wd (sub s r.2.2).data.toList 26 2:=by
  have:(ctO (sub s r.2.2) r.2.2).size=46+(nmB (sub s r.2.2)).size:=iH _ _ _ _ _ _ _;rw[this,lH (by have:=(li.1 b).2.2;omega)]
 have:=QH (u:=s.data.toList.drop (A+r.2.1.size)) r.2.2 b;rw[gB]at this;rw[this];unfold preB;have st:(s.data.toList.drop A).take (r.2.1.size+(46+wd (s.data.toList.drop r.2.2) 26 2))=(s.data.toList.drop A).take r.2.1.size++(s.data.toList.drop (A+r.2.1.size)).take (46+wd (s.data.toList.drop r.2.2) 26 2):=by rw[a3l,a1W]
 rw[gB]at c;rw[a0G,c,st];unfold preB at a;simp only[a2b,a1D];constructor
 . intro e;rw[a,e]
 . intro e;rw[a]at e;exact a2n e
theorem ru{s:ByteArray}{m:Nat}(a:12<=s.size)(b:wd s.data.toList (s.size-12) 2=m)(c:m<=6):dr s=match zst s m with
  | some q=>if bF q.1=true/\sub s q.2.2=q.2.1++dC m q.2.1.size q.2.2 then some q.1 else none
  | none=>none:=by
 unfold dr
 (rw[a0d ⟨a,by omega⟩,b])<;>(rcases zst s m with _|q<;>rfl)
def E5(h:¬ (12<=s.size/\wd s.data.toList (s.size-12) 2<=6)):dr s=none:=a0e h
def LE{q r:List En×ByteArray×Nat}(a:12<=s.size)(f:wd s.data.toList (s.size-12) 2=m)(d:m<=6)(hq:zst s m=some q)(l:i<m)(j:zst s i=some r)(b:im (sub s r.2.2)=some T)(h:preB s r.2.1 q.2.2)
  (g:¬ ui (s.data.toList.drop (q.2.2+r.2.1.size)) (s.data.toList.drop r.2.2) r.2.2):dr s=none:=by
 rw[ru a f d,hq];simp only;rw[a0e];rintro⟨_,e⟩;apply g;rw[Ec b h];obtain⟨x,k⟩:=I1 (rx j b) hq (by omega);have c:s.data.toList.drop q.2.2=q.2.1.data.toList++(dC m q.2.1.size q.2.2).data.toList:=by
  rw[←gB,e];simp
 unfold preB;rw[c,k,a0K];simp only;rw[a1r (by simp),a0u (by simp)]
def PH{q:List En×ByteArray×Nat}(b:12<=s.size)(f:wd s.data.toList (s.size-12) 2=m)(e:m<=6)(hq:zst s m=some q)(g:bF q.1=true)(d:preB s q.2.1 q.2.2) :
  dr s=if sub s (q.2.2+q.2.1.size)=dC m q.2.1.size q.2.2 then some q.1 else none:=by
 rw[ru b f e,hq];simp only;have:(bF q.1=true/\sub s q.2.2=q.2.1++dC m q.2.1.size q.2.2)<->sub s (q.2.2+q.2.1.size)=dC m q.2.1.size q.2.2:=by
  have e1:s.data.toList.drop q.2.2=q.2.1.data.toList++s.data.toList.drop (q.2.2+q.2.1.size):=by
   conv=>lhs;rw[←a1P q.2.1.size (s.data.toList.drop q.2.2)]
   rw[a1W];unfold preB at d;rw[d]
  constructor
  . rintro⟨_,c⟩;apply ck;have e2:=congrArg (fun x:ByteArray=>x.data.toList) c;simp only[gB,a2b,a1D]at e2;rw[e1]at e2;rw[gB];exact a2n e2
  . intro c;refine⟨g,ck ?_⟩;rw[gB,e1];simp only[a2b,a1D];rw[←c,gB]
 by_cases a:sub s (q.2.2+q.2.1.size)=dC m q.2.1.size q.2.2
 . rw[a0d (this.2 a),a0d a]
 . rw[a0e (fun h=>a (this.1 h)),a0e a]
open Go.RowKit
def GH{n t:ByteArray}{y mo d h mi c k:Int}(a:qN x = .tuple #[.agg #[n,y,mo,d,h,mi,c,t],k,.bool true]) :
  ∃T,im x=some T/\enO x T=⟨n,y,mo,d,h,mi,c,t⟩/\k=((oQ x:Nat):Int):=by
 unfold qN at a;rcases b:im x with _|T
 . rw[b]at a;simp at a
 .
  rw[b]at a;simp only[Kq,Value.tuple.injEq,Array.mk.injEq,List.cons.injEq,Value.agg.injEq,Value.string.injEq,Value.int.injEq,a1S,a0Q]at a;obtain⟨⟨e0,e1,e2,e3,e4,e5,e6,e7⟩,e8⟩:=a;refine⟨T,rfl,?_,?_⟩
  . unfold enO;rw[e0,e1,e2,e3,e4,e5,e6,e7]
  . rw[←e8];rfl
def OH(a:qN x = .tuple #[noE,.int .i64 0,.bool false]):im x=none:=by
 unfold qN at a;rcases b:im x with _|T
 . rfl
 . rw[b]at a;simp at a
def Ti(w:World)(base:Nat)(hb:base<=w.heap.size):dF (w.alloc (.cells #[] 34)) base (.slice w.heap.size 0 0) []:=a0S w #[] 0 hb (by unfold maxLen;omega) rfl
def J9(s:ByteArray)(m:Nat)(w:World)(hs:s.size<=1048576)(hm:m<=6) :
  Calls prog 47 #[s,m] w fun e w'=>(∃(v:Value) (p:Nat) (ok:Bool),e = .returned (.tuple #[v,p,.bool ok])/\(ok=true->∃q,zst s m=some q/\p=q.2.2/\dF w' w.heap.size v q.1)/\(ok=false->zst s m=none))/\Below w.heap.size w w':=by
 have ad:(m:Int)<=6:=by omega
 have ao:(s.size:Int)<=1048576:=by omega
 have HS:=af hs;have Hm:=af hm;have I:Hid (dF (w.alloc (.cells #[] 34)) w.heap.size (.slice w.heap.size 0 0) []):=Ti _ _ (a0a _);have F:Hid (Below w.heap.size w (w.alloc (.cells #[] 34))):=cC;obtain⟨i0,hi,Y,Z,aa⟩:=a0s Tryz.infoEnt;clear hs hm;go_enter func47,ntmps47;go_wp2_with fail
 go_loopw [7,8,9,10,11,12] (fun v a i _ _ _ wr=>∃(k:Nat) (q:List En×ByteArray×Nat),k<=m/\i = .int .i64 k/\zst s k=some q/\a = .int .i64 (q.2.2:Nat)/\dF wr w.heap.size v q.1/\Below w.heap.size w wr) (fun _ _ i _ _ _ _=>m-(intOf i).toNat)
 case atStart=>exact⟨0,([],⟨#[]⟩,0),a0g _,rfl,rfl,rfl,I,F⟩
 case round=>
  obtain⟨k,q,hk,rfl,N,rfl,hq,g⟩:=hrel;clear I F;by_cases ac:k<m
  .
   have r:=i6 N;have al:(q.2.2:Int)<=(s.size:Int):=by have:=r.2.1;omega
   have HL:=af r.1;have K:(sub s q.2.2).size<=1048576:=by rw[jo];have:=ae HS;omega
   have O:=af (fun W=>vN (sub s q.2.2) W K);have E:=af hq;have b:=af g;have HK:=af hk;have HZ:=af N;clear K r hq g hk N;go_wp2_with fail;refine(O wr).mono ?_;rintro e x1⟨⟨n,y,mo,d,h,mi,c,t,kk,ok,rfl,M⟩,u⟩;have D:=af (aj b u);have L:Hid (Below x1.heap.size x1 (x1.alloc (.cells #[n,y,mo,d,h,mi,c,t] 34))):=cC;cases ok
   .
    have P:=af (Fe (S8 HZ (OH M)) m (by omega));have B:=af (aj D L);clear M u O E b L;go_wp2
    go_ret3
    exact⟨⟨_,_,false,rfl,(fun h=>by cases h),fun _=>ae P⟩,B⟩
   .
    obtain⟨T,U,hE,rfl⟩:=GH M;have C:=rx HZ U;have hf:=wb U;rw[jo]at hf;rw[hE]at C;have R:=af C;have ab:(q.2.2:Int)+((oQ (sub s q.2.2):Nat):Int)<=(s.size:Int):=(by omega);have V:=aj u L;have z:=bU.own HL (E.later V (a0a _));have f:=aj b V;have j:=f.size;have o:Hid (k+1<=maxLen/\(k+1)*80<=140737488355328):=by
     show _/\_;have:=ae Hm;unfold maxLen;omega
    obtain⟨W1,hW1⟩:∃x,x1.alloc (.cells #[n,y,mo,d,h,mi,c,t] 34)=x:=⟨_,rfl⟩;have S:=af (aG x1 #[n,y,mo,d,h,mi,c,t] 34);rw[hW1]at z f j S;have pA:=S.cells (n:=8) rfl;clear M U hE hf C u O E b L V D;go_wp2_with (at_builtin;refine a0w _ rfl _ _ 27 rfl w.heap.size 34 i0 (.agg ()) 8 80 a1m hi Y Z aa rfl (by decide) _ _ _ rfl (a0n z _) ⟨W1.heap.size,0,none⟩ 1 1 (bY ⟨n,y,mo,d,h,mi,c,t⟩) rfl rfl (jZ W1 _ _) (ie _) o.1 o.2 (au j _) ?_;intro v' x2 A l H;clear H);have G:=aJ (v:=u7) l z (a0a _) j f;have J:dF x2 w.heap.size v' (q.1++[⟨n,y,mo,d,h,mi,c,t⟩]):=bU.snoc HL A;have Q:=af J;have B:=af G;clear A l z J G pA f j S hW1;go_wp2;go_roundw
    case rel=>exact⟨k+1,_,by have:=ae HK;omega,by go_num,R,by go_num,Q,B⟩
    case measure=>simp[intOf];omega
  .
   have X:k=m:=(by omega);subst X;have E:=af hq;have b:=af g;clear hq g;go_wp2
   go_ret3
   exact⟨⟨_,_,true,rfl,fun _=>⟨q,N,rfl,E⟩,(fun h=>by cases h)⟩,b⟩
def Rx(l:List UInt8)(i j k:Nat):wd (l.drop i) j k=wd l (i+j) k:=by unfold wd;rw[a1W]
def ext_eq{a:Nat}{c d:Nat}(e:b=a+k)(h2:d=c+k):(s.extract a b).toList=(x.extract c d).toList<->(s.data.toList.drop a).take k=(x.data.toList.drop c).take k:=by
 rw[dw,ext_list,ext_list,e,h2,a1q,a1q]
def MO{y:ByteArray}{a:Nat}(c:b=a+k):(s.extract a b).toList=y.toList<->(s.data.toList.drop a).take k=y.data.toList:=by
 rw[dw,ext_list,c,a1q]
def zm{q:List En×ByteArray×Nat}(h:zst s k=some q):∀i,i<k->(q.1.getD i default).n.size<=1048576/\((q.1.getD i default).t.size:Int)<=9223372036854775807:=by
 intro i d;obtain⟨c,_,a,_⟩:=i6 h;have b:q.1.getD i default∈q.1:=by
  rw[List.getD,List.getElem?_eq_getElem (by omega:i<q.1.length)];exact a2e _
 obtain⟨f1,f2,_⟩:=cU (n:=(q.1.getD i default).n) (t:=(q.1.getD i default).t) (a _ b);exact⟨by omega,by omega⟩
def Qa{p:Nat}(h:ui u (s.data.toList.drop p) p)(hd:hdB (sub s p)=true):46+wd u 28 2=(ctO (sub s p) p).size:=by
 have e:=sB h.2.2.2.1.1;have a:(ctO (sub s p) p).size=46+(nmB (sub s p)).size:=iH _ _ _ _ _ _ _;rw[a,lH (by have:=(li.1 hd).2.2;omega),gB,e]
def below_drewN{B:Nat}{a:World}(h:Below B a w)(n:Nat):Below B a (w.drewN n):=⟨h.os,h.tape,h.output,h.size,h.block⟩
def Gf(s:ByteArray)(hd own:Nat)(w:World)(L:s.size<=1048576)(J:hd<=2000000)(h2:own<=2000000) :
  Calls prog 49 #[s,hd,own] w fun e w'=>(∃(k:Nat) (b:Bool),e = .returned (.tuple #[k,.bool b])/\(b=true<->ui (s.data.toList.drop hd) (s.data.toList.drop own) own)/\(b=true->k=46+wd (s.data.toList.drop hd) 28 2))/\Below w.heap.size w w':=by
 have D:=cE
 have ad:(s.size:Int)<=1048576:=by omega
 have aa:(hd:Int)<=2000000:=by omega
 have ab:(own:Int)<=2000000:=by omega
 have G:s.data.toList.length=s.size:=by simp
 have C:Hid (∀W,Ds 45 #[s,.int .i64 ((hd:Int)+28),.int .i64 2] W (.int .i64 (dX s (hd+28) 2))):=fun W=>by
  have:=dN s (hd+28) 2 W (by omega) (by decide) (by omega);rw[show((hd+28:Nat):Int)=(hd:Int)+28 by omega]at this;exact this
 have u:=Rx s.data.toList hd 28 2;by_cases K:hd+30<=s.size
 .
  rw[ip (by omega)]at C;have v:=jz s.data.toList (hd+28);rw[u];have HP:Hid (ui (s.data.toList.drop hd) (s.data.toList.drop own) own<->(hd+(46+wd s.data.toList (hd+28) 2)<=s.size/\own+30+wd s.data.toList (hd+28) 2<=s.size)/\(((s.data.toList.drop (hd+6)).take 26=(s.data.toList.drop (own+4)).take 26/\(s.data.toList.drop (hd+46)).take (wd s.data.toList (hd+28) 2)=(s.data.toList.drop (own+30)).take (wd s.data.toList (hd+28) 2))/\((s.data.toList.drop hd).take 6=leS 4 33639248++leS 2 20/\(s.data.toList.drop (hd+32)).take 14=List.replicate 10 0++leS 4 own))):=by
   show _<->_;unfold ui;rw[u];simp only[a1W,a04,G];constructor
   . rintro⟨a,b,c,d,e⟩;exact⟨⟨by omega,by omega⟩,d,e⟩
   . rintro⟨⟨a,b⟩,d,e⟩;exact⟨by omega,by omega,by omega,d,e⟩
  clear u G;generalize wd s.data.toList (hd+28) 2=NM at *;have ac:(NM:Int)<65536:=by omega
  by_cases B:hd+(46+NM)<=s.size/\own+30+NM<=s.size
  .
   have P:=af B;obtain⟨b1,b2⟩:=B;have N:(hd:Int)+(46+(NM:Int))<=(s.size:Int):=(by omega);have S:(own:Int)+30+(NM:Int)<=(s.size:Int):=(by omega);have d0:decide ((NM:Int)<0)=false:=a0m (by omega);have d1:decide ((s.size:Int)<(hd:Int)+(46+(NM:Int)))=false:=a0m (by omega);have d2:decide ((s.size:Int)<(own:Int)+30+(NM:Int))=false:=a0m (by omega);have Z:Hid (∀W,Ds 82 #[.int .i64 33639248,.int .i64 4] W (.string (ax (leS 4 33639248)))):=fun W=>aO 33639248 4 W (by omega) (by omega);have CV:Hid (∀W,Ds 82 #[.int .i64 20,.int .i64 2] W (.string (ax (leS 2 20)))):=fun W=>aO 20 2 W (by omega) (by omega);have Y:Hid (∀W,Ds 82 #[.int .i64 0,.int .i64 10] W (.string (ax (leS 10 0)))):=fun W=>aO 0 10 W (by omega) (by omega);have CP:Hid (∀W,Ds 82 #[own,.int .i64 4] W (.string (ax (leS 4 own)))):=fun W=>aO own 4 W (by omega) (by omega);have E1:Hid ((s.extract (hd+6) (hd+32)).toList=(s.extract (own+4) (own+30)).toList<->(s.data.toList.drop (hd+6)).take 26=(s.data.toList.drop (own+4)).take 26):=ext_eq rfl rfl;have E2:Hid ((s.extract (hd+46) (hd+(46+NM))).toList=(s.extract (own+30) (own+30+NM)).toList<->(s.data.toList.drop (hd+46)).take NM=(s.data.toList.drop (own+30)).take NM):=ext_eq (by omega) rfl;have E3:Hid ((s.extract hd (hd+6)).toList=(ax (leS 4 33639248)++ax (leS 2 20)).toList<->(s.data.toList.drop hd).take 6=leS 4 33639248++leS 2 20):=by
    have:=MO (s:=s) (y:=ax (leS 4 33639248)++ax (leS 2 20)) (a:=hd) (b:=hd+6) (k:=6) rfl;rw[show(ax (leS 4 33639248)++ax (leS 2 20)).data.toList=leS 4 33639248++leS 2 20 by simp[ax]]at this;exact this
   have E4:Hid ((s.extract (hd+32) (hd+46)).toList=(ax (leS 10 0)++ax (leS 4 own)).toList<->(s.data.toList.drop (hd+32)).take 14=List.replicate 10 0++leS 4 own):=by
    have:=MO (s:=s) (y:=ax (leS 10 0)++ax (leS 4 own)) (a:=hd+32) (b:=hd+46) (k:=14) rfl;have e0:leS 10 0=List.replicate 10 0:=by decide +kernel
    rw[show(ax (leS 10 0)++ax (leS 4 own)).data.toList=List.replicate 10 0++leS 4 own by rw[e0];simp[ax]]at this;exact this
   have z1:(ax (leS 4 33639248)).size<=10:=by rw[bu,az];omega
   have z2:(ax (leS 2 20)).size<=10:=by rw[bu,az];omega
   have z3:(ax (leS 10 0)).size<=10:=by rw[bu,az];omega
   have z4:(ax (leS 4 own)).size<=10:=by rw[bu,az];omega
   have m1:¬ 9223372036854775807<(ax (leS 4 33639248)).size+(ax (leS 2 20)).size:=(by omega);have m2:¬ 9223372036854775807<(ax (leS 10 0)).size+(ax (leS 4 own)).size:=(by omega);generalize ax (leS 4 33639248)=A1,ax (leS 2 20)=A2,ax (leS 10 0)=A3,ax (leS 4 own)=A4 at *;rw[←ae E1,←ae E2,←ae E3,←ae E4]at HP;obtain⟨X1,l⟩:∃x,s.extract (hd+6) (hd+32)=x:=⟨_,rfl⟩;obtain⟨Y1,n⟩:∃x,s.extract (own+4) (own+30)=x:=⟨_,rfl⟩;obtain⟨X2,m⟩:∃x,s.extract (hd+46) (hd+(46+NM))=x:=⟨_,rfl⟩;obtain⟨Y2,o⟩:∃x,s.extract (own+30) (own+30+NM)=x:=⟨_,rfl⟩;obtain⟨X3,r⟩:∃x,s.extract hd (hd+6)=x:=⟨_,rfl⟩;obtain⟨X4,t⟩:∃x,s.extract (hd+32) (hd+46)=x:=⟨_,rfl⟩;rw[l,n,m,o,r,t]at HP;obtain⟨B1,g⟩:∃b,(X1.toList == Y1.toList)=b:=⟨_,rfl⟩;obtain⟨B2,j⟩:∃b,(X2.toList == Y2.toList)=b:=⟨_,rfl⟩;obtain⟨B3,p⟩:∃b,(X3.toList == (A1++A2).toList)=b:=⟨_,rfl⟩;obtain⟨B4,q⟩:∃b,(X4.toList == (A3++A4).toList)=b:=⟨_,rfl⟩;have HR:Hid (((B1&&B2)&&(B3&&B4))=true<->ui (s.data.toList.drop hd) (s.data.toList.drop own) own):=by
    show _<->_;rw[ae HP,←g,←j,←p,←q];simp only[a0l,a2z];exact⟨fun h=>⟨P,h⟩,fun h=>h.2⟩
   have R:=af (a0b l (a0b n (a0b m (a0b o (a0b r t)))));have z:=af (a0b g (a0b j (a0b p q)));have Q:=af (a0b m1 m2);clear HP E1 E2 E3 E4 K J h2 L v b1 b2 z1 z2 z3 z4 P l m r t n o g j p q m1 m2;have O:=C;cases B1<;>cases B2<;>cases B3
   all_goals
    go_enter func49,a34;go_wp2_with fail;refine(O _).mono ?_;rintro e x1⟨rfl,f⟩;have i:=af f;clear f C O;go_wp2_with fail;have w1:IntKind.i64.wrap ((hd:Int)+6)=(hd:Int)+6:=by rw[a0W];omega
    have t1:((hd:Int)+6).toNat=hd+6:=(by omega);have l1:0<=(hd:Int)+6:=(by omega);have g1:(hd:Int)+6<=(s.size:Int):=(by omega);have w2:IntKind.i64.wrap ((hd:Int)+32)=(hd:Int)+32:=by rw[a0W];omega
    have t2:((hd:Int)+32).toNat=hd+32:=(by omega);have l2:0<=(hd:Int)+32:=(by omega);have g2:(hd:Int)+32<=(s.size:Int):=(by omega);have w3:IntKind.i64.wrap ((own:Int)+4)=(own:Int)+4:=by rw[a0W];omega
    have t3:((own:Int)+4).toNat=own+4:=(by omega);have l3:0<=(own:Int)+4:=(by omega);have g3:(own:Int)+4<=(s.size:Int):=(by omega);have w4:IntKind.i64.wrap ((own:Int)+30)=(own:Int)+30:=by rw[a0W];omega
    have t4:((own:Int)+30).toNat=own+30:=(by omega);have l4:0<=(own:Int)+30:=(by omega);have g4:(own:Int)+30<=(s.size:Int):=(by omega);have w5:IntKind.i64.wrap ((hd:Int)+46)=(hd:Int)+46:=by rw[a0W];omega
    have t5:((hd:Int)+46).toNat=hd+46:=(by omega);have l5:0<=(hd:Int)+46:=(by omega);have g5:(hd:Int)+46<=(s.size:Int):=(by omega);have w6:IntKind.i64.wrap ((hd:Int)+(46+(NM:Int)))=(hd:Int)+(46+(NM:Int)):=by rw[a0W];omega
    have t6:((hd:Int)+(46+(NM:Int))).toNat=hd+(46+NM):=(by omega);have l6:0<=(hd:Int)+(46+(NM:Int)):=(by omega);have w7:IntKind.i64.wrap ((own:Int)+30+(NM:Int))=(own:Int)+30+(NM:Int):=by rw[a0W];omega
    have t7:((own:Int)+30+(NM:Int)).toNat=own+30+NM:=(by omega);have l7:0<=(own:Int)+30+(NM:Int):=(by omega);have w8:IntKind.i64.wrap ((hd:Int))=(hd:Int):=by rw[a0W];omega
    have t8:((hd:Int)).toNat=hd:=(by omega);have l8:0<=(hd:Int):=(by omega);have o1:(hd:Int)+6<=(hd:Int)+32:=(by omega);have o2:(own:Int)+4<=(own:Int)+30:=(by omega);have o3:(hd:Int)+46<=(hd:Int)+(46+(NM:Int)):=(by omega);have o4:(own:Int)+30<=(own:Int)+30+(NM:Int):=(by omega);have o5:(hd:Int)<=(hd:Int)+6:=(by omega);have o6:(hd:Int)+32<=(hd:Int)+46:=(by omega);obtain⟨l,n,m,o,r,t⟩:=ae R;obtain⟨g,j,p,q⟩:=ae z;obtain⟨m1,m2⟩:=ae Q
    go_quiet (fail)
    have H:Hid (Below w.heap.size w (x1.drewN nq)):=below_drewN i nq;clear w3 t3 l3 g3 w4 t4 l4 g4 w6 t6 l6 w7 t7 l7 o1 o2 o3 o4 l n m o g j d0 d1 d2 N S R z Q;generalize x1.drewN nq=x2 at *;go_wp2_with fail;have T:=fun d os=>Calls.regrown_of (w:=x2) (d:=d) (os:=os) (Z _);have U:=fun d os=>Calls.regrown_of (w:=x2) (d:=d) (os:=os) (CV _);have V:=fun d os=>Calls.regrown_of (w:=x2) (d:=d) (os:=os) (Y _);have X:=fun d os=>Calls.regrown_of (w:=x2) (d:=d) (os:=os) (CP _);refine wp_region_quiet_below D (by kernel_rfl) ?_
    go_big_quiet_step (fail)
    go_big_quiet_step (fail)
    go_big_quiet_step (fail)
    go_big_quiet_step (fail)
    go_big_quiet_step (fail)
    go_big_quiet_step (exact T _ _)
    go_big_quiet_step (exact U _ _)
    go_big_quiet_step (fail)
    go_big_quiet_step (fail)
    go_big_quiet_step (fail)
    go_big_quiet_step (fail)
    go_big_quiet_step (fail)
    go_big_quiet_step (fail)
    go_big_quiet_step (fail)
    go_big_quiet_step (fail)
    go_big_quiet_step (fail)
    go_big_quiet_step (exact V _ _)
    go_big_quiet_step (fail)
    go_big_quiet_step (exact X _ _)
    go_big_quiet_step (fail)
    go_big_quiet_step (fail)
    go_big_quiet_step (fail)
    go_big_quiet_step (fail)
    refine a1L ?_;intro zw M;obtain⟨⟨dq,osq⟩,E⟩:=M;have I:=below_regrown x2 dq osq;rw[←E]at I;have T9:=af (aj H I);clear E I T U V X;go_wp2
    go_ret2
    exact⟨⟨46+NM,_,by rw[Int.natCast_add];rfl,HR,fun _=>rfl⟩,T9⟩
  .
   have A:Hid (¬ ui (s.data.toList.drop hd) (s.data.toList.drop own) own):=fun h=>B (HP.1 h).1;have F:Hid (false=true<->ui (s.data.toList.drop hd) (s.data.toList.drop own) own):=⟨(fun h=>by cases h),fun h=>absurd h (ae A)⟩;clear HP A;by_cases g:hd+(46+NM)<=s.size
   .
    have N:(hd:Int)+(46+(NM:Int))<=(s.size:Int):=(by omega);have S:(s.size:Int)<(own:Int)+30+(NM:Int):=(by omega);clear B g K J h2 L v;go_enter func49,a34;go_wp2_with fail;refine(C _).mono ?_;rintro e x1⟨rfl,f⟩;have i:=af f;clear f C;go_wp2
    go_ret2
    exact⟨⟨0,false,rfl,F,fun h=>by cases h⟩,i⟩
   .
    have N:(s.size:Int)<(hd:Int)+(46+(NM:Int)):=(by omega);clear B g K J h2 L v;go_enter func49,a34;go_wp2_with fail;refine(C _).mono ?_;rintro e x1⟨rfl,f⟩;have i:=af f;clear f C;go_wp2
    go_ret2
    exact⟨⟨0,false,rfl,F,fun h=>by cases h⟩,i⟩
 .
  rw[Aw (by omega)]at C;have A:Hid (¬ ui (s.data.toList.drop hd) (s.data.toList.drop own) own):=fun h=>by
   have:=h.1;rw[a04,G]at this;omega
  have F:Hid (false=true<->ui (s.data.toList.drop hd) (s.data.toList.drop own) own):=⟨(fun h=>by cases h),fun h=>absurd h (ae A)⟩;clear A u G;go_enter func49,a34;go_wp2_with fail;refine(C _).mono ?_;rintro e x1⟨rfl,f⟩;have i:=af f;clear f C;go_wp2
  go_ret2
  exact⟨⟨0,false,rfl,F,fun h=>by cases h⟩,i⟩
def SL{A:Nat}(h:preB s c A)(b:A<=s.size):A+c.size<=s.size:=by
 have:=congrArg List.length h;rw[a0v,a04]at this;have a:s.data.toList.length=s.size:=by simp
 have h2:c.data.toList.length=c.size:=by simp
 omega
def zx{a b:ByteArray}{c:Bool}(h:(a.toList == b.toList)=c):c=true<->a=b:=by
 rw[←h,a2z,dw];exact⟨fun e=>ck e,fun e=>by rw[e]⟩
def nS(s:ByteArray)(w:World)(hs:s.size<=1048576) :
  Calls prog 25 #[s] w fun e w'=>(∃v,e = .returned (.tuple #[v,.bool (dr s).isSome])/\dF w' w.heap.size v ((dr s).getD []))/\Below w.heap.size w w':=by
 have a4:=cE
 have b8:(s.size:Int)<=1048576:=by omega
 have u:Hid (dr s=none->∀W,Below w.heap.size w W->(∃v,Ending.returned (.tuple #[.slice W.heap.size 0 0,.bool false]) = .returned (.tuple #[v,.bool (dr s).isSome])/\dF (W.alloc (.cells #[] 34)) w.heap.size v ((dr s).getD []))/\Below w.heap.size w (W.alloc (.cells #[] 34))):=fun h W hb=>by
  rw[h];exact⟨⟨_,rfl,Ti _ _ hb.size⟩,hb.alloc hb.size _⟩
 by_cases L:12<=s.size
 .
  have C:Hid (∀W,Ds 45 #[s,.int .i64 ((s.size:Int)-12),.int .i64 2] W (.int .i64 ((wd s.data.toList (s.size-12) 2:Nat):Int))):=fun W=>by
   have:=dN s (s.size-12) 2 W (by omega) (by decide) (by omega);rw[show((s.size-12:Nat):Int)=(s.size:Int)-12 by omega,ip (by omega)]at this;exact this
  have S:=jz s.data.toList (s.size-12);have bb:∃NM,wd s.data.toList (s.size-12) 2=NM:=⟨_,rfl⟩;obtain⟨NM,U⟩:=bb;rw[U]at C S;have HW:=af U;have I:=af L;clear U;have bs:(NM:Int)<65536:=by omega
  by_cases h6:NM<=6
  .
   have bl:(NM:Int)<=6:=(by omega);have M:Hid (∀W,Calls prog 46 #[NM,.int .i64 0,.int .i64 6] W fun e w'=>e = .returned (.bool true)/\w'=W):=fun W=>by
    have:=aT (NM:Int) 0 6 W;rw[show inB (NM:Int) 0 6=true by rw[aI];omega]at this;exact this
   have C2:=af (fun W=>J9 s NM W hs h6);have H6:=af h6;have HS:=af hs;clear L hs S;go_enter func25,ntmps25;go_wp2_with fail;refine(C _).mono ?_;rintro e x1⟨rfl,j⟩;have m:=af j;clear j C;go_wp2_with fail;refine(M _).mono ?_;rintro e x2⟨rfl,F⟩;subst F;clear M;go_wp2_with fail;refine(C2 _).mono ?_;rintro e x3⟨⟨v,p,ok,rfl,G,ab⟩,V⟩;have J:=af (aj m V);cases ok
   .
    have D:=af (ae u (by rw[ru I HW H6,ab rfl]) x3 (ae J));clear G ab V C2;go_wp2
    go_ret2
    exact D
   .
    obtain⟨q,hq,rfl,a⟩:=G rfl;have f:=i6 hq;obtain⟨va,vc,rfl,b9,_⟩:=a.formN f.1;have zo:=af (a.mono (base':=w.heap.size) (by have:=m.size;omega));have C3:=af (xO va vc q.1 NM f.1 x3 (eO f.1 a) (by omega) (zm hq));have HQ:=af hq;have b5:(q.2.2:Int)<=(s.size:Int):=by have:=f.2.1;omega
    have b0:q.2.1.size<=600:=by have:=f.2.2.2.2;omega
    clear G ab V C2 a f hq;cases H:bF q.1
    .
     have D:=af (fun W hb=>ae u (by rw[ru I HW H6,ae HQ];simp[H]) W hb);rw[H]at C3;go_wp2_with fail;refine C3.mono ?_;rintro e x4⟨rfl,z⟩;have K:=af (aj J z);clear z C3;go_wp2
     go_ret2
     exact D _ (ae K)
    .
     rw[H]at C3;have a2:=af H;clear H;go_wp2_with fail;refine C3.mono ?_;rintro e x4⟨rfl,z⟩;have K:=af (aj J z);have al:=af (zo.later z (a0a _));clear z C3 zo J;have Q:=af (fun hd own (W:World) (h1:hd<=2000000) (h2:own<=2000000)=>Gf s hd own W HS h1 h2);have ac:=af (fun p W=>vN (sub s p) W (by rw[jo];have:=ae HS;omega));have HE:Hid (∀p,s.extract p s.size=sub s p):=fun _=>rfl;go_wp2_with fail
     go_loopw [8,9,10,11,12,13,14,15] (fun h o i _ _ _ _ _ wr=>∃(k:Nat) (r:List En×ByteArray×Nat),k<=NM/\i = .int .i64 k/\zst s k=some r/\h = .int .i64 ((q.2.2:Nat)+(r.2.1.size:Nat))/\o = .int .i64 (r.2.2:Nat)/\preB s r.2.1 q.2.2/\dF wr w.heap.size (.slice va NM vc) q.1/\Below w.heap.size w wr) (fun _ _ i _ _ _ _ _ _=>NM-(intOf i).toNat)
     case atStart=>exact⟨0,([],⟨#[]⟩,0),a0g _,rfl,rfl,by show _=Value.int .i64 ((q.2.2:Nat)+((0:Nat):Int));simp,rfl,rfl,al,K⟩
     case round=>
      obtain⟨k,r,hk,rfl,hr,rfl,rfl,P,a,O⟩:=hrel;have E:=i6 hr;have b7:r.2.1.size<=600:=by have:=E.2.2.2.2;omega
      have b6:(r.2.1.size:Int)<=600:=(by omega);have b4:(r.2.2:Int)<=(s.size:Int):=by have:=E.2.1;omega
      have HR:=af hr;have g:=af P;have zo:=af a;have A:=af O;have HK:=af hk;clear E hr P a O al K;by_cases bd:k<NM
      .
       obtain⟨y,hy,_⟩:=lS HQ (by omega:k+1<=NM);obtain⟨r',T,h1,hT,_⟩:=iu hy;rw[ae HR]at h1;cases h1
       have HT:=af hT;have CH:=af (fun W=>ae Q (q.2.2+r.2.1.size) r.2.2 W (by omega) (by omega));rw[show((q.2.2+r.2.1.size:Nat):Int)=(q.2.2:Nat)+(r.2.1.size:Nat) by omega]at CH;clear hy hT Q;go_wp2_with fail;refine(CH _).mono ?_;rintro e x5⟨⟨kk,b,rfl,hb,aa⟩,Y⟩;have R:=af (aj A Y);have ao:=af (zo.later Y (a0a _));clear Y CH zo A;cases b
       .
        have D:=af (ae u (LE I HW H6 HQ bd HR HT g (fun h=>by have:=hb.2 h;cases this)) x5 (ae R));clear hb aa;go_wp2
        go_ret2
        exact D
       .
        have hl:=hb.1 rfl;have e1:=aa rfl;rw[Qa hl (lF HT).1]at e1;have ba:=af ((Ec HT g).1 hl);have a1:=af (rx HR HT);have b2:kk<=2000:=by
         have h7:=(i6 a1).2.2.2.2;simp only[a0G]at h7;omega
        have a8:=af e1;clear hb aa hl e1;go_wp2_with fail;refine(ac r.2.2 _).mono ?_;rintro e x6⟨⟨n,yy,mo,d,h,mi,c,t,kx,ok,rfl,hv⟩,Z⟩;have ad:=af (aj R Z);have a0:=af (ao.later Z (a0a _));have hA:=(a0c x6.heap.size x6).alloc (a0a _) (.cells #[n,yy,mo,d,h,mi,c,t] 34);have a7:=af (aj ad hA);have a9:=af (a0.later hA (a0a _));cases ok
        . have:=OH hv;rw[ae HT]at this;cases this
        .
         obtain⟨T2,a3,_,rfl⟩:=GH hv;have hf:=wb a3;rw[jo]at hf;have b1:(r.2.2:Int)+((oQ (sub s r.2.2):Nat):Int)<=(s.size:Int):=(by omega);clear hv a3 hf Z hA ad a0 R ao;go_wp2;go_roundw
         case rel=>exact⟨k+1,_,by omega,by go_num,a1,by simp only[a0G];rw[←ae a8];go_num,by go_num,ba,a9,a7⟩
         case measure=>simp[intOf];omega
      .
       have bc:k=NM:=(by omega);subst bc;have a5:=ae HR;rw[ae HQ]at a5;cases a5
       have b3:=SL g (by omega);have bk:(q.2.2:Int)+(q.2.1.size:Int)<=(s.size:Int):=(by omega);have l:=af (PH I HW H6 HQ a2 g);have N:=af (fun W=>yC k q.2.1.size q.2.2 W (by omega) (by omega) (by omega));have q1:=fun d os=>Calls.regrown_of (w:=wr) (d:=d) (os:=os) (N _);have t1:((q.2.2:Int)+(q.2.1.size:Int)).toNat=q.2.2+q.2.1.size:=(by omega);have w1:IntKind.i64.wrap ((q.2.2:Int)+(q.2.1.size:Int)-(q.2.2:Int))=(q.2.1.size:Int):=by rw[a0W];omega
       have l1:0<=(q.2.2:Int)+(q.2.1.size:Int):=(by omega);rw[←ae HE]at l;generalize dC k q.2.1.size q.2.2=EN at *;obtain⟨X,hX⟩:∃x,s.extract (q.2.2+q.2.1.size) s.size=x:=⟨_,rfl⟩;rw[hX]at l;obtain⟨B,hB⟩:∃b,(X.toList == EN.toList)=b:=⟨_,rfl⟩;have HB:=af hB;clear Q ac HE a2 g N;go_wp2_with fail;refine wp_region_quiet_below a4 (by kernel_rfl) ?_;cases B
       all_goals
        quiet_step (fail)
        quiet_step (fail)
        quiet_step (fail)
        quiet_step (fail)
        quiet_step (fail)
        quiet_step (fail)
        quiet_step (fail)
        quiet_step (fail)
        quiet_step (exact q1 _ _)
        quiet_step (fail)
        refine a1L ?_;intro zw be;obtain⟨⟨dq,osq⟩,a6⟩:=be;have HZ:=below_regrown wr dq osq;rw[←a6]at HZ;have T9:=af (aj A HZ);have O9:=af (zo.later HZ (a0a _));clear a6 HZ q1
       .
        have D:=af (ae u (by rw[ae l,a0e (fun e=>by have:=(zx HB).2 e;cases this)]) zw (ae T9));go_wp2
        go_ret2
        exact D
       .
        have HY:Hid (dr s=some q.1):=by show _=_;rw[ae l,a0d ((zx HB).1 rfl)]
        go_wp2
        go_ret2
        exact⟨⟨_,by rw[ae HY];rfl,by rw[ae HY];exact O9⟩,T9⟩
  .
   have M:Hid (∀W,Calls prog 46 #[NM,.int .i64 0,.int .i64 6] W fun e w'=>e = .returned (.bool false)/\w'=W):=fun W=>by
    have:=aT (NM:Int) 0 6 W;rw[show inB (NM:Int) 0 6=false by rw[eW];omega]at this;exact this
   have D:=af (ae u (E5 (by rw[ae HW];omega)));clear L hs S;go_enter func25,ntmps25;go_wp2_with fail;refine(C _).mono ?_;rintro e x1⟨rfl,j⟩;have m:=af j;clear j C;go_wp2_with fail;refine(M _).mono ?_;rintro e x2⟨rfl,F⟩;subst F;clear M;go_wp2
   go_ret2
   exact D _ (ae m)
 .
  have C:=af (fun W=>J6 s ((s.size:Int)-12) W (by omega));have M:Hid (∀W,Calls prog 46 #[.int .i64 (-1),.int .i64 0,.int .i64 6] W fun e w'=>e = .returned (.bool false)/\w'=W):=fun W=>by
   have:=aT (-1) 0 6 W;rw[show inB (-1) 0 6=false by decide]at this;exact this
  have D:=af (ae u (E5 (fun h=>L h.1)));go_enter func25,ntmps25;go_wp2_with fail;refine(C _).mono ?_;rintro e x1⟨rfl,j⟩;have m:=af j;clear j C;go_wp2_with fail;refine(M _).mono ?_;rintro e x2⟨rfl,F⟩;subst F;clear M;go_wp2
  go_ret2
  exact D _ (ae m)
abbrev Ta:=bU (α:=Hq) 101 7 BW
def vB{o:Obj}{a c e1 e2 s1 s2 n1 n2:Nat}{v1 v2:Value}{x1 x2:List Value}(b:w.ownsRow a e1 s1 v1 n1 x1)(h2:w.ownsRow c e2 s2 v2 n2 x2)(d:e1≠e2)(e:(w.alloc o).grownBy w' v2.ownBlock):w'.ownsRow a e1 s1 v1 n1 x1:=
 a1U (a0n b o) e (pV (a0n b o) (a0n h2 o) d)
def RG:bF []=true:=by decide
def NH(h:hdB x=false):im x=none:=by
 unfold im;rw[a0e (by rw[h];decide)]
def Br{q:List En×ByteArray×Nat}(b:zst s k=some q)(c:(sub s q.2.2).data.toList.take 4=[80,75,3,4])(a:im (sub s q.2.2)=none):dr s=none:=
 EZ b c (fun T h=>by rw[a]at h;cases h)
def Md{q:List En×ByteArray×Nat}(b:zst s k=some q)(e:bF q.1=true)(c:(sub s q.2.2).data.toList.take 4=[80,75,3,4])(a:im (sub s q.2.2)=some T)(d:aH q.1 (enO (sub s q.2.2) T)≠0):dr s=none:=
 EZ b c (fun T' h=>by
  rw[a]at h;cases h
  cases hb:bF (q.1++[enO (sub s q.2.2) T])
  . rfl
  . exact absurd ((dp e _).1 hb) d)
def ZrP(s:ByteArray)(w:World)(e:Ending)(w':World):Prop:=∃v c,e = .returned (.tuple #[v,dJ c])/\(c=0->∃l,dr s=some l/\dF w' w.heap.size v l)/\(c≠0->dr s=none)
def Fb(h:dr s=none)(c:Int)(a:c≠0):ZrP s w (.returned (.tuple #[.slice none 0 0,.iface 99 (.agg #[c])])) w':=
 ⟨.slice none 0 0,c,by unfold dJ;rw[a0e a],fun b=>absurd b a,fun _=>h⟩
theorem Fa(s:ByteArray)(m:Int)(w:World)(hs:s.size<=1048576)(hm:w.cell? ⟨2,0,none⟩=some (.int .i64 m))(hO:dG w) :
  Calls prog 28 #[s] w fun e w'=>ZrP s w e w'/\Below w.heap.size w w':=by
 have co:=cE
 have eg:(s.size:Int)<=1048576:=by omega
 have HS:=af hs;have HM:=af hm;have d3:=af (World.block_lt_of_cell? _ _ hm);have CM:=af (fun W (hb:Below w.heap.size w W)=>(hb.cell (p:=⟨2,0,none⟩) (ae d3)).trans (ae HM));have HO:=af (fun W (hb:Below w.heap.size w W)=>hO.later hb);obtain⟨i0,hi,d8,ea,b1⟩:=a0s Tryz.infoEnt;obtain⟨j0,hj,d5,d6,d7⟩:=a0s Tryz.infoHd;clear hs hm hO;go_enter func28,ntmps28;go_wp2_with fail
 go_loopw [4,5,6,7,8,9,10,11] (fun f h p _ _ _ _ _ wr=>∃(k:Nat) (q:List En×ByteArray×Nat),zst s k=some q/\bF q.1=true/\p = .int .i64 (q.2.2:Nat)/\dF wr w.heap.size f q.1/\Ta wr w.heap.size h (hqL s k)/\Below w.heap.size w wr) (fun _ _ p _ _ _ _ _ _=>s.size-(intOf p).toNat)
 case atStart=>exact⟨0,([],⟨#[]⟩,0),rfl,RG,rfl,bU.nil _ _,bU.nil _ _,a0c _ _⟩
 case round=>
  obtain⟨k,q,hz,ab,rfl,hf,l,U⟩:=hrel;have K:=i6 hz;have d2:k<=6:=by have:=(dS ab).2;omega
  have ed:(q.2.2:Int)<=(s.size:Int):=by have:=K.2.1;omega
  have CX:Hid (∀W,Calls prog 56 #[.string (sub s q.2.2),.string ⟨#[80,75,3,4]⟩] W fun e w'=>e = .returned (.bool (decide ((sub s q.2.2).data.toList.take 4=[80,75,3,4])))/\w'=W):=fun W=>by
   have h:=Tryz.strings_HasPrefix (sub s q.2.2) (⟨#[80,75,3,4]⟩:ByteArray) W;rw[←NU];exact h
  have HE:Hid (s.extract q.2.2 s.size=sub s q.2.2):=rfl;have I:=af hz;have bb:=af ab;have HF:=af hf;have HH:=af l;have P:=af U;have F:=af K
  have a8:(sub s q.2.2).size<=1048576:=by rw[jo];have:=ae HS;omega
  by_cases N:(sub s q.2.2).data.toList.take 4=[80,75,3,4]
  .
   have a2:=af N;rw[a0B N]at CX;have CH:=af (fun W=>sx (sub s q.2.2) W a8);have Q:=af a8;clear N hf l U K hz ab a8;go_wp2_with fail;refine(ae CX _).mono ?_;rintro e x0⟨rfl,b0⟩;subst b0;clear CX;go_wp2_with fail;refine(ae CH _).mono ?_;rintro e x1⟨hp,a4⟩;have ac:=af (aj (ae P) a4);have ao:=af ((ae HF).later a4 (a0a _));have a1:=af ((ae HH).later a4 (a0a _));have R:Hid (∀j,Value.ownBlock u4=some j->j<x1.heap.size):=fun j hj=>(a0z (ae ao) j hj).2;have S:Hid (∀j,Value.ownBlock u5=some j->j<x1.heap.size):=fun j hj=>(a0z (ae a1) j hj).2;clear a4 CH HF HH P;rcases hp with⟨hd,rfl⟩|⟨hd,a,b,c,d,f,n,t,ho,rfl⟩
   .
    obtain⟨ds,d1,bk⟩:=li.1 hd;have cp:=lH (s:=sub s q.2.2) (by omega);have cc:=Bs (s:=sub s q.2.2) bk;have l1:=jz (sub s q.2.2).data.toList 8;have l2:=fo (sub s q.2.2).data.toList 10;have l3:=fo (sub s q.2.2).data.toList 14;have l4:=fo (sub s q.2.2).data.toList 18;have l5:=fo (sub s q.2.2).data.toList 22;have l6:=jz (sub s q.2.2).data.toList 26;have dl:=ae Q;have E:=af (fun W (hb:Below w.heap.size w W)=>ts (wd (sub s q.2.2).data.toList 8 2) (wd (sub s q.2.2).data.toList 10 4) (wd (sub s q.2.2).data.toList 14 4) (wd (sub s q.2.2).data.toList 18 4) (wd (sub s q.2.2).data.toList 22 4) (nmB (sub s q.2.2)) (bdB (sub s q.2.2)) m W (by omega) l1 l2 l3 l5 (by omega) (ae CM _ hb) (ae HO _ hb));have b2:=af (fun(hen:enB (wd (sub s q.2.2).data.toList 8 2) (wd (sub s q.2.2).data.toList 10 4) (wd (sub s q.2.2).data.toList 14 4) (wd (sub s q.2.2).data.toList 22 4) (nmB (sub s q.2.2)) (bdB (sub s q.2.2))=true) W=>tg (wd (sub s q.2.2).data.toList 8 2) (wd (sub s q.2.2).data.toList 10 4) (wd (sub s q.2.2).data.toList 14 4) (wd (sub s q.2.2).data.toList 18 4) (wd (sub s q.2.2).data.toList 22 4) (nmB (sub s q.2.2)) (bdB (sub s q.2.2)) W l1 l2 l3 l4 l5 (by omega) (by have:=MJ hen;omega));have bd:(cO (wd (sub s q.2.2).data.toList 8 2) (wd (sub s q.2.2).data.toList 10 4) (wd (sub s q.2.2).data.toList 14 4) (wd (sub s q.2.2).data.toList 18 4) (wd (sub s q.2.2).data.toList 22 4) (nmB (sub s q.2.2))++bdB (sub s q.2.2)).size=oQ (sub s q.2.2):=by
     unfold cO oQ;rw[a0G,a0G,a0G,fE,cp,cc];show 4+26+_+_=_;omega
    have b8:oQ (sub s q.2.2)<=(sub s q.2.2).size/\30<=oQ (sub s q.2.2):=⟨bk,by unfold oQ;omega⟩;have HY:Hid (enB (wd (sub s q.2.2).data.toList 8 2) (wd (sub s q.2.2).data.toList 10 4) (wd (sub s q.2.2).data.toList 14 4) (wd (sub s q.2.2).data.toList 22 4) (nmB (sub s q.2.2)) (bdB (sub s q.2.2))=true->∃T,im (sub s q.2.2)=some T/\enO (sub s q.2.2) T=⟨nmB (sub s q.2.2),zz (gOk (wd (sub s q.2.2).data.toList 10 4:Nat)) (gY (wd (sub s q.2.2).data.toList 10 4:Nat)),zz (gOk (wd (sub s q.2.2).data.toList 10 4:Nat)) (gM (wd (sub s q.2.2).data.toList 10 4:Nat)),zz (gOk (wd (sub s q.2.2).data.toList 10 4:Nat)) (gD (wd (sub s q.2.2).data.toList 10 4:Nat)),zz (gOk (wd (sub s q.2.2).data.toList 10 4:Nat)) (gH (wd (sub s q.2.2).data.toList 10 4:Nat)),zz (gOk (wd (sub s q.2.2).data.toList 10 4:Nat)) (gI (wd (sub s q.2.2).data.toList 10 4:Nat)),zz (gOk (wd (sub s q.2.2).data.toList 10 4:Nat)) (gS (wd (sub s q.2.2).data.toList 10 4:Nat)),uxT (wd (sub s q.2.2).data.toList 8 2) (bdB (sub s q.2.2))⟩):=fun h=>by
     have:=NF hd;rw[a0d h]at this;obtain⟨T,a,b,_⟩:=GH this;exact⟨T,a,b⟩
    have HN:Hid (enB (wd (sub s q.2.2).data.toList 8 2) (wd (sub s q.2.2).data.toList 10 4) (wd (sub s q.2.2).data.toList 14 4) (wd (sub s q.2.2).data.toList 22 4) (nmB (sub s q.2.2)) (bdB (sub s q.2.2))=false->im (sub s q.2.2)=none):=fun h=>by
     have:=NF hd;rw[a0e (by rw[h];decide)]at this;exact OH this
    have c9:Hid (vn s k=⟨wd (sub s q.2.2).data.toList 8 2,wd (sub s q.2.2).data.toList 10 4,wd (sub s q.2.2).data.toList 14 4,wd (sub s q.2.2).data.toList 18 4,wd (sub s q.2.2).data.toList 22 4,nmB (sub s q.2.2),q.2.2⟩):=Ah (ae I);have b9:(nmB (sub s q.2.2)).size<=1048576:=by omega
    have d0:(uxT (wd (sub s q.2.2).data.toList 8 2) (bdB (sub s q.2.2))).size<=1048576:=EQ (by omega);have cs:(sub s q.2.2).size=s.size-q.2.2:=jo _ _;unfold enE at E;generalize cO (wd (sub s q.2.2).data.toList 8 2) (wd (sub s q.2.2).data.toList 10 4) (wd (sub s q.2.2).data.toList 14 4) (wd (sub s q.2.2).data.toList 18 4) (wd (sub s q.2.2).data.toList 22 4) (nmB (sub s q.2.2))++bdB (sub s q.2.2)=PB at *
    generalize enB (wd (sub s q.2.2).data.toList 8 2) (wd (sub s q.2.2).data.toList 10 4) (wd (sub s q.2.2).data.toList 14 4) (wd (sub s q.2.2).data.toList 22 4) (nmB (sub s q.2.2)) (bdB (sub s q.2.2))=EB at *
    generalize uxT (wd (sub s q.2.2).data.toList 8 2) (bdB (sub s q.2.2))=UT at *
    generalize zz (gOk (wd (sub s q.2.2).data.toList 10 4:Nat)) (gY (wd (sub s q.2.2).data.toList 10 4:Nat))=yy at *
    generalize zz (gOk (wd (sub s q.2.2).data.toList 10 4:Nat)) (gM (wd (sub s q.2.2).data.toList 10 4:Nat))=mo at *
    generalize zz (gOk (wd (sub s q.2.2).data.toList 10 4:Nat)) (gD (wd (sub s q.2.2).data.toList 10 4:Nat))=dd at *
    generalize zz (gOk (wd (sub s q.2.2).data.toList 10 4:Nat)) (gH (wd (sub s q.2.2).data.toList 10 4:Nat))=l at *
    generalize zz (gOk (wd (sub s q.2.2).data.toList 10 4:Nat)) (gI (wd (sub s q.2.2).data.toList 10 4:Nat))=mi at *
    generalize zz (gOk (wd (sub s q.2.2).data.toList 10 4:Nat)) (gS (wd (sub s q.2.2).data.toList 10 4:Nat))=ss at *
    generalize bdB (sub s q.2.2)=BD at *
    generalize nmB (sub s q.2.2)=NM at *
    generalize wd (sub s q.2.2).data.toList 8 2=HW at *
    generalize wd (sub s q.2.2).data.toList 10 4=ST at *
    generalize wd (sub s q.2.2).data.toList 14 4=CR at *
    generalize wd (sub s q.2.2).data.toList 18 4=PK at *
    generalize wd (sub s q.2.2).data.toList 22 4=LN at *
    generalize wd (sub s q.2.2).data.toList 26 2=NL at *
    obtain⟨LO,hLO⟩:∃x,oQ (sub s q.2.2)=x:=⟨_,rfl⟩;rw[hLO]at bd b8;have ef:(q.2.2:Int)+(PB.size:Int)<=(s.size:Int):=by omega
    have eb:30<=(PB.size:Int):=by omega
    have c6:=af (hLO.trans bd.symm);clear hd ds d1 bk cp cc l1 l2 l3 l4 l5 l6 dl bd b8 hLO cs;have G:=af ((a0c x1.heap.size x1).alloc (a0a _) (.cells #[HW,ST,CR,PK,LN,NM,BD] 65));have R2:=af (aG x1 #[HW,ST,CR,PK,LN,NM,BD] 65);go_wp2_with fail;refine(ae E _ (aj (ae ac) (ae G))).mono ?_;rintro e x2⟨rfl,D⟩;have J:=aj (ae G) D;have L:=af (aj (ae ac) J);have b3:=af ((ae ao).later J (a0a _));have b5:=af ((ae a1).later J (a0a _));have R3:=af ((ae R2).later D (ae R2).1);obtain⟨HB,hHB⟩:∃x,x1.heap.size=x:=⟨_,rfl⟩;rw[hHB]at R3 R S;rw[hHB];clear D J G R2 hHB E ac ao a1;cases EB
    .
     have o:=af (Br (ae I) (ae a2) (ae HN rfl));rw[show(if false=true then Value.tuple #[.agg #[NM,yy,mo,dd,l,mi,ss,UT],.bool true]else .tuple #[noE,.bool false]) = .tuple #[.agg (),.bool false]from rfl];have y:=af (aj (ae L) ((a0c x2.heap.size x2).alloc (a0a _) (.cells () 34)));go_wp2
     go_ret2
     exact⟨Fb (ae o) 1 (by decide),ae y⟩
    .
     rw[show(if true=true then Value.tuple #[.agg #[NM,yy,mo,dd,l,mi,ss,UT],.bool true]else .tuple #[noE,.bool false]) = .tuple #[.agg #[NM,yy,mo,dd,l,mi,ss,UT],.bool true]from rfl];have al:Hid (∃T,im (sub s q.2.2)=some T/\enO (sub s q.2.2) T=⟨NM,yy,mo,dd,l,mi,ss,UT⟩):=ae HY rfl;have c8:Hid (∀W,_):=ae b2 rfl;have hA:=(a0c x2.heap.size x2).alloc (a0a _) (.cells #[NM,yy,mo,dd,l,mi,ss,UT] 34);have y:=af (aj (ae L) hA);have a0:=af ((ae b3).later hA (a0a _));have b6:=af ((ae b5).later hA (a0a _));have R4:=af ((ae R3).later hA (ae R3).1);have Q4:=af (aG x2 #[NM,yy,mo,dd,l,mi,ss,UT] 34);obtain⟨fa,fc,bl,_,_⟩:=(ae a0).formN (ae F).1;have dv:HB<x2.heap.size:=(ae R3).1;have ba:=af (nZ fa fc q.1 k (ae F).1 ⟨NM,yy,mo,dd,l,mi,ss,UT⟩ m _ (eO (ae F).1 (by have:=ae a0;rw[bl]at this;exact this)) (by omega) (fun i hi=>by have:=(zm (ae I) i hi).1;omega) b9 (by show(UT.size:Int)<=_;omega) (ae CM _ (ae y)));rw[←bl]at ba;clear hA HY HN b2 b3 b5 R3 bl L b9 d0;go_wp2_with fail;refine(ae ba).mono ?_;rintro e x4⟨rfl,M⟩;have ad:=af (aj (ae y) M);have b4:=af ((ae a0).later M (a0a _));have b7:=af ((ae b6).later M (a0a _));have R5:=af ((ae R4).later M (ae R4).1);have Q5:=af ((ae Q4).later M (ae Q4).1);obtain⟨QB,hQBe⟩:∃x,x2.heap.size=x:=⟨_,rfl⟩;rw[hQBe]at Q5 dv;rw[hQBe];clear M y a0 b6 R4 Q4 ba hQBe;by_cases H:aH q.1 ⟨NM,yy,mo,dd,l,mi,ss,UT⟩=0
     .
      rw[show dJ (aH q.1 ⟨NM,yy,mo,dd,l,mi,ss,UT⟩) = .nilIface by rw[H];rfl];have c7:Hid (∃T,zst s (k+1)=some (q.1++[⟨NM,yy,mo,dd,l,mi,ss,UT⟩],T,q.2.2+PB.size)/\bF (q.1++[⟨NM,yy,mo,dd,l,mi,ss,UT⟩])=true):=by
       obtain⟨T,hT,hE⟩:=ae al;have h2:=rx (ae I) hT;rw[hE,ae c6]at h2;exact⟨_,h2,(dp (ae bb) _).2 H⟩
      have A:Hid ((k+1<=maxLen/\(k+1)*80<=140737488355328)/\(k+1)*64<=140737488355328):=by
       show(_/\_)/\_;unfold maxLen;omega
      have a6:=bU.own (ae F).1 (ae b4);have ch:=bU.own (uv s k) (ae b7);have V:=(ae ad).size;have pA:=(ae Q5).cells (n:=8) rfl;clear H al a2 Q HE;go_wp2_with (first
       | (at_builtin;refine a0w _ rfl _ _ 27 rfl w.heap.size 34 i0 (.agg ()) 8 80 a1m hi d8 ea b1 rfl (by decide) _ _ _ rfl (a0n a6 _) ⟨x4.heap.size,0,none⟩ 1 1 (bY ⟨NM,yy,mo,dd,l,mi,ss,UT⟩) rfl rfl (jZ x4 _ _) (ie _) (ae A).1.1 (ae A).1.2 (au V _) ?_;intro v5 x5 a9 z Z;clear Z;have R6:=af (Blk.grown (Blk.later (ae R5) cC (ae R5).1) z (fun e=>absurd (ae R _ e.symm) (a2S _)));have rA:=(ae R6).cells (n:=7) rfl;have a7:=vB ch a6 (by decide) z;have bc:=aJ (v:=u4) z a6 (a0a _) V (ae ad);have Y:=bc.size)
       | (at_builtin;refine a0w _ rfl _ _ 92 rfl w.heap.size 101 j0 (.agg #[.int .i64 0,.int .i64 0,.int .i64 0,.int .i64 0,.int .i64 0,.string ⟨#[]⟩,.int .i64 0]) 7 64 underlying92 hj d5 d6 d7 rfl (by decide) _ _ _ rfl (a0n a7 _) ⟨x5.heap.size,0,none⟩ 1 1 (BW ⟨HW,ST,CR,PK,LN,NM,q.2.2⟩) rfl rfl (jZ x5 _ _) (ML _) (ae A).1.1 (ae A).2 (au Y _) ?_;intro v6 x6 aa r Z;clear Z;have R7:=af (Blk.grown (Blk.later (ae R6) cC (ae R6).1) r (fun e=>absurd (ae S _ e.symm) (a2S _)));have rA:=(ae R7).cells (n:=7) rfl;have cg:=vB a9 a7 (by decide) r;have ca:=aJ (v:=u5) r a7 (a0a _) Y bc))
      refine(ae c8 _).mono ?_;rintro e x7⟨rfl,a5⟩;have cr:dF x6 w.heap.size v5 (q.1++[⟨NM,yy,mo,dd,l,mi,ss,UT⟩]):=bU.snoc (ae F).1 cg;have be:Ta x6 w.heap.size v6 (hqL s k++[vn s k]):=bU.snoc (uv s k) (by rw[ae c9];exact aa);rw[←Nl]at be;have cy:=af (cr.later a5 (a0a _));have c5:=af (be.later a5 (a0a _));have cv:=af (aj ca a5);clear a9 aa z r cr be a5 ca bc V Y a6 cg ch a7 rA R5 R6 R7 Q5 pA b4 b7 ad;go_wp2;go_roundw
      case rel=>
       obtain⟨C,b1,D⟩:=ae c7;exact⟨k+1,_,b1,D,by go_num,ae cy,ae c5,ae cv⟩
      case measure=>simp[intOf];omega
     .
      rw[show dJ (aH q.1 ⟨NM,yy,mo,dd,l,mi,ss,UT⟩) = .iface 99 (.agg #[.int .i64 (aH q.1 ⟨NM,yy,mo,dd,l,mi,ss,UT⟩)]) by unfold dJ;rw[a0e H]];have o:Hid (dr s=none):=by
       obtain⟨T,hT,hE⟩:=ae al;exact Md (ae I) (ae bb) (ae a2) hT (by rw[hE];exact H)
      have HC:=af H;clear H al;generalize aH q.1 ⟨NM,yy,mo,dd,l,mi,ss,UT⟩=c at *
      go_wp2
      go_ret2
      exact⟨Fb (ae o) c (ae HC),ae ad⟩
   .
    have o:=af (Br (ae I) (ae a2) (NH hd));obtain⟨o1,o2,o3,o4,o5,o6,o7⟩:=ho;have E:=af (fun W (hb:Below w.heap.size w W)=>ts a b c d f n t m W (by have:=ae Q;omega) o1 o2 o3 o5 (by have:=ae Q;omega) (ae CM _ hb) (ae HO _ hb));unfold enE at E;generalize enB a b c f n t=EB at *
    generalize uxT a t=UT at *
    generalize zz (gOk (b:Nat)) (gY (b:Nat))=yy at *
    generalize zz (gOk (b:Nat)) (gM (b:Nat))=mo at *
    generalize zz (gOk (b:Nat)) (gD (b:Nat))=dd at *
    generalize zz (gOk (b:Nat)) (gH (b:Nat))=l at *
    generalize zz (gOk (b:Nat)) (gI (b:Nat))=mi at *
    generalize zz (gOk (b:Nat)) (gS (b:Nat))=ss at *
    have G:=af (aj (ae ac) ((a0c x1.heap.size x1).alloc (a0a _) (.cells #[a,b,c,d,f,n,t] 65)));clear o1 o2 o3 o4 o5 o6 o7 ao a1 R S hd Q F HE;go_wp2_with fail;refine(ae E _ (ae G)).mono ?_;rintro e x2⟨rfl,D⟩;have L:=af (aj (ae G) D);clear D G E;cases EB
    .
     rw[show(if false=true then Value.tuple #[.agg #[n,yy,mo,dd,l,mi,ss,UT],.bool true]else .tuple #[noE,.bool false]) = .tuple #[.agg (),.bool false]from rfl];have y:=af (aj (ae L) ((a0c x2.heap.size x2).alloc (a0a _) (.cells () 34)));go_wp2
     go_ret2
     exact⟨Fb (ae o) 1 (by decide),ae y⟩
    .
     rw[show(if true=true then Value.tuple #[.agg #[n,yy,mo,dd,l,mi,ss,UT],.bool true]else .tuple #[noE,.bool false]) = .tuple #[.agg #[n,yy,mo,dd,l,mi,ss,UT],.bool true]from rfl];have y:=af (aj (ae L) ((a0c x2.heap.size x2).alloc (a0a _) (.cells #[n,yy,mo,dd,l,mi,ss,UT] 34)));go_wp2
     go_ret2
     exact⟨Fb (ae o) 1 (by decide),ae y⟩
  .
   rw[a0m N]at CX;have a3:=af (LF hz ab N);obtain⟨ha,hc,bs,_,_⟩:=l.formN (uv s k);have HW:Hid (xj wr ha k fun i=>BW (vn s i)):=by
    rw[bs]at l;intro h0;obtain⟨g,e,hg,hc⟩:=wC MK ⟨0,0,0,0,0,⟨#[]⟩,0⟩ (uv s k) l h0;exact⟨g,e,hg,fun i hi j u hu=>hc i hi j u (by show(BW ((hqL s k).getD i _))[j]?=_;rw[Qz s k i _ hi];exact hu)⟩
   have O:Hid (∀W,Below wr.heap.size wr W->Ds 60 #[.slice ha k hc,.int .i64 (q.2.2:Nat)] W (.string (q.2.1++dC k q.2.1.size q.2.2))):=fun W hb=>by
    have:=EW ha hc k q.2.2 (vn s) W ((ae HW).later hb) d2 (Qy (ae HS) (ae I)) (by omega);rw[Du (ae I)]at this;exact this
   rw[←bs]at O;rw[←ae HE]at CX a3;have q1:=fun d os=>Calls.regrown_of (w:=wr) (d:=d) (os:=os) (ae O _ (below_regrown wr d os));have z1:((q.2.2:Nat):Int).toNat=q.2.2:=a0o _;generalize q.2.1++dC k q.2.1.size q.2.2=EN at *
   obtain⟨X,hX⟩:∃x,s.extract q.2.2 s.size=x:=⟨_,rfl⟩;rw[hX]at CX a3;obtain⟨B,hB⟩:∃b,(X.toList == EN.toList)=b:=⟨_,rfl⟩;have HB:=af hB;clear hf l U K hz ab a8 N HH HW O bs I bb F HE;go_wp2_with fail;refine(ae CX _).mono ?_;rintro e x0⟨rfl,b0⟩;subst b0;clear CX;go_wp2_with fail;refine wp_region_quiet_below co (by kernel_rfl) ?_;cases B
   all_goals
    quiet_step (fail)
    quiet_step (fail)
    quiet_step (fail)
    quiet_step (fail)
    quiet_step (fail)
    quiet_step (exact q1 _ _)
    quiet_step (fail)
    refine a1L ?_;intro zw d4;obtain⟨⟨dq,osq⟩,cu⟩:=d4;have I:=below_regrown x0 dq osq;rw[←cu]at I;have T9:=af (aj (ae P) I);have O9:=af ((ae HF).later I (a0a _));clear cu I q1
   .
    have HN:Hid (dr s=none):=by show _=_;rw[ae a3,a0e (fun e=>by have:=(zx (ae HB)).2 e;cases this)]
    go_wp2
    go_ret2
    exact⟨Fb (ae HN) 1 (by decide),ae T9⟩
   .
    have HY:Hid (dr s=some q.1):=by show _=_;rw[ae a3,a0d ((zx (ae HB)).1 rfl)]
    go_wp2
    go_ret2
    exact⟨⟨_,0,rfl,fun _=>⟨_,ae HY,ae O9⟩,fun h=>absurd rfl h⟩,ae T9⟩
def mO.later{W:World}(a:mO w)(hb:Below w.heap.size w W):mO W:=(hb.cell (p:=⟨0,0,none⟩) (World.block_lt_of_cell? _ _ a)).trans a
def fs(s:ByteArray)(m:Int)(w:World)(y:s.size<=1048576)(x:w.cell? ⟨2,0,none⟩=some (.int .i64 m))(t:mO w)(r:dG w) :
  Calls prog 10 #[s] w fun e w'=>(∃v,e = .returned (.tuple #[v,.bool (dr s).isSome])/\dF w' w.heap.size v ((dr s).getD []))/\Below w.heap.size w w':=by
 have C:=af (Fa s m w y x r);have o:=af t;clear x t r y;go_enter func10,ntmps10;go_wp2_with fail;refine C.mono ?_;rintro e x1⟨⟨v,c,rfl,p,q⟩,f⟩;have d:=af f;have j:=af (kT c x1 (o.later f));have k:=af p;have n:=af q;clear p q f C o;generalize dJ c=FV at *;go_wp2_with fail;refine j.mono ?_;rintro e x2⟨rfl,a⟩;have g:=af (aj d a);by_cases i:c=0
 .
  obtain⟨l,u,b⟩:=ae k i;have h:=af u;have z:=af (b.later a (a0a _));subst i;clear u b a j k n d;go_wp2
  go_ret2
  exact⟨⟨_,by rw[ae h];rfl,by rw[ae h];exact z⟩,g⟩
 .
  have h:=af (ae n i);have hd:decide (c=0)=false:=a0m i;clear a j k n d;go_wp2
  go_ret2
  exact⟨⟨_,by rw[ae h];rfl,by rw[ae h];exact bU.nil _ _⟩,g⟩
def zV(l:List En)(x:ByteArray):Value:=if atN l x<0 then .tuple #[.string ⟨#[]⟩,.bool false]else .tuple #[.string (l.getD (atN l x).toNat default).t,.bool true]
def M4{l:List En}(h:atN l x = -1):zV l x = .tuple #[.string ⟨#[]⟩,.bool false]:=by unfold zV;rw[h];rfl
def zW{l:List En}(h:atN l x=(k:Int)):zV l x = .tuple #[.string (l.getD k default).t,.bool true]:=by unfold zV;rw[h,a0e (by omega),a0o]
def E6: ((dr s).getD []).length<=6:=by
 cases h:dr s with
 | none=>simp
 | some l=>
  obtain⟨_,q,_,rfl,a,_⟩:=oK h;exact(dS a).2
def jt(s x:ByteArray)(m:Int)(w:World)(Z:s.size<=1048576)(Y:w.cell? ⟨2,0,none⟩=some (.int .i64 m))(Q:mO w)(W:dG w) :
  Ds 17 #[s,x] w (zV ((dr s).getD []) x):=by
 have C:=af (fs s m w Z Y Q W);have hz:=E6 (s:=s);clear Z Y Q W;go_enter func17,ntmps17;go_wp2_with fail;refine C.mono ?_;rintro e x1⟨⟨v,rfl,f⟩,I⟩;have B:=af I;obtain⟨L,hL⟩:∃l,(dr s).getD []=l:=⟨_,rfl⟩;rw[hL]at f hz;have T:=af hL;obtain⟨n,hn⟩:∃n,L.length=n:=⟨_,rfl⟩;obtain⟨a,c,rfl,hc,_⟩:=f.formN hn;have ab:(n:Int)<=6:=by omega
 have U:=af (eO hn f);have M:=af (fun k (S:k<L.length)=>@uq L x k S);have N:=af (@qe L x);rw[hn]at M N;have V:=af hn;clear I C f hL hc hz hn;go_wp2_with fail
 go_loopw [9,17] (fun _ i wr=>∃k:Nat,k<=n/\i = .int .i64 k/\(∀j,j<k->¬ (L.getD j default).n.toList=x.toList)/\Below w.heap.size w wr/\jI wr a L) (fun _ i _=>n-(intOf i).toNat)
 case atStart=>exact⟨0,a0g _,rfl,fun j X=>absurd X (by omega),B,U⟩
 case round=>
  obtain⟨k,S,rfl,A,u,q⟩:=hrel;have b:=af A;have r:=af u;clear A U B;by_cases K:k<n
  .
   have aa:(k:Int)<(n:Int):=(by omega);have z:=af q;obtain⟨g,o,rfl,Q,J⟩:=q (by have:=ae V;omega);obtain⟨c0,c1,c2,c3,c4,c5,c6,c7⟩:=J k (by have:=ae V;omega);have F:=af (ae M k K (ae b));have H:Hid (¬ (L.getD k default).n.toList=x.toList->∀j,j<k+1->¬ (L.getD j default).n.toList=x.toList):=by
    intro e j X;by_cases R:j=k
    . rw[R];exact e
    . exact b j (by omega)
   have HF:Hid (atN L x=(k:Int)->zV L x = .tuple #[.string (L.getD k default).t,.bool true]):=fun h=>zW h;have G:=af K;clear J S b q u M N;generalize L.getD k default=en at *;obtain⟨p,hp⟩:∃p,en.n=p:=⟨_,rfl⟩;have P:=(a0c wr.heap.size wr).alloc (a0a _) (.cells #[.string p,en.y,en.mo,en.d,en.h,en.mi,en.s,en.t] 34);have D:=af (aj r P);have O:=af (z.later P);rw[hp]at c0 F H;clear P r z hp;by_cases e:p.toList=x.toList
   .
    have E:=af (ae HF (ae F e));have eB:(p.toList == x.toList)=true:=by simp only[a2z];exact e
    go_wp2
    go_ret2
    exact⟨by rw[ae T,ae E];rfl,D⟩
   .
    have E:=af (ae H e);have eB:(p.toList == x.toList)=false:=by simp only[a0Z,ne_eq];exact e
    go_wp2;go_roundw
    case rel=>exact⟨k+1,by have:=ae G;omega,by go_num,E,D,O⟩
    case measure=>have:=ae G;simp[intOf];omega
  .
   obtain rfl:k=n:=by omega
   have E:=af (M4 (N (ae b)));clear q u;go_wp2
   go_ret2
   exact⟨by rw[ae T,ae E];rfl,r⟩
def goes(e f:En):Prop:=bW e.n.data.toList f.n.data.toList=false
def rB(l:List En)(x:ByteArray):iG l x=false<->∀e∈l,bW e.n.data.toList x.data.toList=false:=by
 unfold iG;rw[List.any_eq_false];simp
def zQ{l:List En}(h:bF l=true)(a:k<l.length):je (l.getD k default)=true:=(dS h).1 k a
def edR(s:ByteArray)(d:List En->Int×List En):Value:=match dr s with
 | none=>.tuple #[.string ⟨#[]⟩,.int .i64 1]
 | some l=>if (d l).1=0 then .tuple #[.string (dD (d l).2),.int .i64 0]else .tuple #[s,.int .i64 (d l).1]
def oo(h:dr s=none)(d:List En->Int×List En):edR s d = .tuple #[.string ⟨#[]⟩,.int .i64 1]:=by unfold edR;rw[h]
def lY{l r:List En}{d:List En->Int×List En}(h:dr s=some l)(a:d l=(0,r)):edR s d = .tuple #[.string (dD r),.int .i64 0]:=by unfold edR;rw[h];simp[a]
def nf{l r:List En}{d:List En->Int×List En}{c:Int}(h:dr s=some l)(a:d l=(c,r))(b:c≠0):edR s d = .tuple #[s,c]:=by unfold edR;rw[h];simp[a,b]
def Ii(s:ByteArray)(d:List En->Int×List En):∃t c,edR s d = .tuple #[.string t,.int .i64 c]:=by
 unfold edR
 split
 . exact⟨_,_,rfl⟩
 . split<;>exact⟨_,_,rfl⟩
def jR{l:List En}(h:dr s=some l):bF l=true:=by
 obtain⟨_,q,_,rfl,a,_⟩:=oK h;exact a
def oM{l:List En}(h:bF l=true):∀i,i<l.length->(l.getD i default).n.size<=1048576/\((l.getD i default).t.size:Int)<=9223372036854775807:=by
 intro i a;obtain⟨f1,f2,_⟩:=cU (n:=(l.getD i default).n) (t:=(l.getD i default).t) (zQ h a);exact⟨by omega,by omega⟩
def Ba{l:List En}{n:Nat}(h:bF l=true)(a:l.length=n):dD l=(aF l).1++(aF l).2++dC n (aF l).2.size (aF l).1.size:=by unfold dD;rw[a0d h,a]
def jT(l:List En):∀u∈l.flatMap bY,u.oneCell'=true:=fun u a=>by
 obtain⟨e,_,h⟩:=List.mem_flatMap.1 a;exact ie e u h
def QN{e:En}(k:je e=true)(r:ByteArray):im (loE e++r)=some e.t/\enO (loE e++r) e.t=e/\(∀p,ctO (loE e++r) p=heE e p)/\oQ (loE e++r)=(loE e).size:=by
 have c:iv e.n e.y e.mo e.d e.h e.mi e.s e.t=true:=k;obtain⟨f1,f2,f3⟩:=cU c;obtain⟨g1,g2,g3,g4⟩:=nT f3;have e2:(((stN e.y e.mo e.d e.h e.mi e.s).toNat:Nat):Int)=stN e.y e.mo e.d e.h e.mi e.s:=by rw[←g4];simp[stI,f3]
 have l:=(tB (n:=e.n) (t:=e.t) g3 (by omega) (by omega)).1;obtain⟨m,f,a,g,i,j,o,b,q⟩:=Dw (n:=e.n) (t:=e.t) g3 (by omega) (by omega) r;obtain⟨s0,s1,s2,s3,s4,s5⟩:=Rn f3;have el:loE e=cJ e.n e.t (stN e.y e.mo e.d e.h e.mi e.s).toNat:=rfl;rw[el];refine⟨?_,?_,fun p=>?_,?_⟩
 . unfold im;rw[a0d m,f,q,Pu e.t f2];simp only;rw[a0d];unfold Qn FK;rw[g,j,a,b,e2,s0,s1,s2,s3,s4,s5,c];simp
 . unfold enO;rw[b,a,e2,s0,s1,s2,s3,s4,s5]
 . unfold ctO heE eN;rw[f,a,g,i,j,b]
 . unfold oQ;rw[o,i,l]
def IQ(a b:ByteArray):sub (a++b) a.size=b:=ck (by
 rw[gB];simp only[a2b,a1D];exact List.drop_left' (by simp))
theorem zj(l:List En)(k:Nat):∀j,k<=j->j<=l.length->∃x,(aF (l.take j)).1=(aF (l.take k)).1++x
 | 0,h,_=>by
  have:k=0:=by omega
  subst this;exact⟨⟨#[]⟩,ck (by simp)⟩
 | j+1,h,hj=>by
  by_cases e:k=j+1
  . subst e;exact⟨⟨#[]⟩,ck (by simp)⟩
  . obtain⟨x,a⟩:=zj l k j (by omega) (by omega);refine⟨x++loE (l.getD j default),?_⟩;rw[gX l j (by omega)];show(aF (l.take j)).1++loE _=_;rw[a,a2C]
def PI{l:List En}(h:bF l=true)(b:k<l.length):∃r,dD l=(aF (l.take k)).1++(loE (l.getD k default)++r):=by
 obtain⟨x,a⟩:=zj l (k+1) l.length (by omega) (a0a _);rw[a2x,gX l k b]at a;have a:(aF l).1=(aF (l.take k)).1++loE (l.getD k default)++x:=a;refine⟨x++((aF l).2++dC l.length (aF l).2.size (aF l).1.size),?_⟩;unfold dD;rw[a0d h,a2C];generalize (aF l).2++dC l.length (aF l).2.size (aF l).1.size=T;rw[a];simp only[a2C]
theorem Fc{l:List En}(h:bF l=true):∀k,k<=l.length->zst (dD l) k=some (l.take k,(aF (l.take k)).2,(aF (l.take k)).1.size)
 | 0,_=>rfl
 | k+1,hk=>by
  have ih:=Fc h k (by omega);obtain⟨r,f⟩:=PI h (by omega:k<l.length);have a:sub (dD l) (aF (l.take k)).1.size=loE (l.getD k default)++r:=by rw[f,IQ]
  obtain⟨b,c,d,e⟩:=QN ((dS h).1 k (by omega)) r;have:=rx (T:=(l.getD k default).t) ih (by show im (sub _ _)=_;rw[a];exact b);rw[this];simp only[a,c,d,e];rw[gX l k (by omega),pS l default k (by omega)];simp only[Hu,a0G]
def lR{l:List En}(h:bF l=true):dr (dD l)=some l:=by
 have a:=Fc h l.length (a0a _);rw[a2x]at a;refine E7 a h ?_;show sub (dD l) (aF l).1.size=(aF l).2++dC l.length (aF l).2.size (aF l).1.size;unfold dD;rw[a0d h,a2C,IQ]
def E9{l:List En}(h:bF l=true):(dD l).size=(aF l).1.size+(aF l).2.size+22:=by
 unfold dD;rw[a0d h,a0G,a0G,oq]
def fG(l:List En):(dD l).size<=4000:=by
 by_cases h:bF l=true
 . rw[E9 h];obtain⟨a,h2⟩:=dS h;have:=lQ l a l.length (a0a _);rw[a2x]at this;omega
 . unfold dD;rw[a0e h];exact a0g _
def ww(w:World)(base d:Nat)(hb:base<=w.heap.size)(hd:d<256):bp (w.alloc (.cells #[.int .u8 (d:Int)] 5)) base (.slice w.heap.size 1 1) [UInt8.ofNat d]:=by
 have h:(w.alloc (.cells #[.int .u8 (d:Int)] 5)).ownsRow base 5 1 (.slice w.heap.size 1 1) 1 [.int .u8 (d:Int)]:=a0S w #[.int .u8 (d:Int)] 1 hb (by unfold maxLen;omega) rfl;have e:((UInt8.ofNat d).toNat:Int)=(d:Int):=by rw[a3d];omega
 show World.ownsRow _ _ _ _ _ _ (df [UInt8.ofNat d]);rw[show df [UInt8.ofNat d]=[.int .u8 ((UInt8.ofNat d).toNat:Int)]from rfl,e];exact h
def Bc(b:Nat)(w:World)(d:Int×List En)(e:Ending)(w':World):Prop:=(∃v,e = .returned (.tuple #[v,dJ d.1])/\(∃a n c,v = .slice a n c)/\(d.1=0->dF w' b v d.2))/\Below b w w'
def Ih{d:Int×List En}{c:Int}(h:d.1=c)(a:c≠0)(hb:Below b w w'):Bc b w d (.returned (.tuple #[.slice none 0 0,.iface 99 (.agg #[c])])) w':=by
 subst h;exact⟨⟨_,by unfold dJ;rw[a0e a],⟨_,_,_,rfl⟩,fun e=>absurd e a⟩,hb⟩
