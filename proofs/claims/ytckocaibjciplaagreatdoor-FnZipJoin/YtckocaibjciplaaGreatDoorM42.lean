/- Texts. -/
import Derived.Test.YtckocaibjciplaaGreatDoorM41
import Derived.Test.YtckocaibjciplaaGreatDoorM40
set_option linter.all false
set_option maxRecDepth 100000
set_option maxHeartbeats 12800000
namespace Go.Proofs.YtckocaibjciplaaGreatDoor
open Go.Proofs.Tryz
open Corb
variable {T c s x:ByteArray}{b i k m:Nat}{u:List UInt8}{w w':World}
def sub(s:ByteArray)(p:Nat):ByteArray:=s.extract p s.size
def gm(s:ByteArray)(p:Nat):(sub s p).data.toList=s.data.toList.drop p:=by
 rw[sub,ext_list];exact a0u (by simp)
def i7(s:ByteArray)(p:Nat):(sub s p).size=s.size-p:=by
 rw[sub,a2c];omega
def oh(s:ByteArray):Nat:=30+wd s.data.toList 26 2+wd s.data.toList 18 4
def enO(s T:ByteArray):En:=⟨nmB s,gY (wd s.data.toList 10 4:Nat),gM (wd s.data.toList 10 4:Nat),gD (wd s.data.toList 10 4:Nat),gH (wd s.data.toList 10 4:Nat),gI (wd s.data.toList 10 4:Nat),gS (wd s.data.toList 10 4:Nat),T⟩
def ctO(s:ByteArray)(p:Nat):ByteArray:=kf (wd s.data.toList 8 2) (wd s.data.toList 10 4) (wd s.data.toList 14 4) (wd s.data.toList 18 4) (wd s.data.toList 22 4) (nmB s) p
def lm(h:gW s=some T):hdB s=true/\je (enO s T)=true:=by
 unfold gW at h
 split at h
 .
  rename_i h0;refine⟨h0,?_⟩
  split at h
  .
   split at h
   .
    rename_i h2;cases h
    simp only[OP,a0k]at h2;exact h2.2.2
   . cases h
  . cases h
 . cases h
def zst(s:ByteArray):Nat->Option (List En×ByteArray×Nat)
 | 0=>some ([],⟨#[]⟩,0)
 | i+1=>(zst s i).bind fun q=>(gW (sub s q.2.2)).map fun T=>(q.1++[enO (sub s q.2.2) T],q.2.1++ctO (sub s q.2.2) q.2.2,q.2.2+oh (sub s q.2.2))
def qD{q:List En×ByteArray×Nat}(h:zst s i=some q)(a:gW (sub s q.2.2)=some T) :
  zst s (i+1)=some (q.1++[enO (sub s q.2.2) T],q.2.1++ctO (sub s q.2.2) q.2.2,q.2.2+oh (sub s q.2.2)):=by
 rw[zst,h,a0f,a,a3W]
def Ro{q:List En×ByteArray×Nat}(h:zst s i=some q)(a:gW (sub s q.2.2)=none):zst s (i+1)=none:=by
 rw[zst,h,a0f,a,Option.map_none]
theorem DY{s:ByteArray}{i:Nat}(h:zst s i=none):∀m,i<=m->zst s m=none
 | 0,hm=>by
  have:i=0:=by omega
  rw[←this];exact h
 | m+1,hm=>by
  by_cases e:i=m+1
  . rw[←e];exact h
  . rw[zst,DY h m (by omega)];rfl
def ia{q:List En×ByteArray×Nat}(h:zst s (i+1)=some q):∃r T,zst s i=some r/\gW (sub s r.2.2)=some T/\q=(r.1++[enO (sub s r.2.2) T],r.2.1++ctO (sub s r.2.2) r.2.2,r.2.2+oh (sub s r.2.2)):=by
 rw[zst]at h;rcases b:zst s i with _|r
 . rw[b]at h;cases h
 .
  rw[b,a0f]at h;rcases a:gW (sub s r.2.2)with _|T
  . rw[a]at h;cases h
  .
   rw[a,a3W]at h;cases h
   exact⟨r,T,rfl,a,rfl⟩
def vj(h:gW s=some T):oh s<=s.size:=(kP.1 (lm h).1).2.2
theorem iM{s:ByteArray} : ∀{i:Nat} {q:List En×ByteArray×Nat},zst s i=some q->q.1.length=i/\q.2.2<=s.size/\(∀e∈q.1,je e=true)/\(q.2.1=⟨#[]⟩∨q.2.1.data.toList.take 4=[80,75,1,2])/\q.2.1.size<=100*i
 | 0,q,h=>by cases h;exact⟨rfl,a0g _,(fun e a=>by cases a),.inl rfl,a0g _⟩
 | i+1,q,h=>by
  obtain⟨r,T,c,h2,rfl⟩:=ia h;obtain⟨a1,a2,a3,a4,a5⟩:=iM c;have f:=vj h2;rw[i7]at f;have b:=(lm h2).2;have g:=(cR (n:=(enO (sub s r.2.2) T).n) (t:=(enO (sub s r.2.2) T).t) b).1;have d:(ctO (sub s r.2.2) r.2.2).size=46+(nmB (sub s r.2.2)).size:=ip _ _ _ _ _ _ _;have j:(nmB (sub s r.2.2)).size<=43:=g;refine⟨by simp[a1],?_,?_,?_,?_⟩
  . show r.2.2+oh (sub s r.2.2)<=s.size;omega
  .
   intro e a;rcases a01.1 a with a|a
   . exact a3 e a
   . rw[a06.1 a];exact b
  .
   refine .inr ?_;show(r.2.1++ctO (sub s r.2.2) r.2.2).data.toList.take 4=_;have e0:(ctO (sub s r.2.2) r.2.2).data.toList.take 4=[80,75,1,2]:=by simp[ctO,kf]
   rcases a4 with e|e
   . rw[e];simpa using e0
   .
    have:4<=r.2.1.data.toList.length:=by
     have:=congrArg List.length e;rw[a0x]at this;simp at this ⊢;omega
    simp only[a2a,a1A];rw[a1P this];exact e
  . show(r.2.1++ctO (sub s r.2.2) r.2.2).size<=_;rw[a0G,d];omega
theorem lz{s:ByteArray}{k:Nat} : ∀{m:Nat} {q:List En×ByteArray×Nat},zst s m=some q->k<=m->∃r,zst s k=some r/\r.1=q.1.take k
 | 0,q,h,hk=>by
  have:k=0:=by omega
  subst this;exact⟨q,h,by cases h;rfl⟩
 | m+1,q,h,hk=>by
  by_cases e:k=m+1
  . subst e;exact⟨q,h,by rw[a0u (by rw[(iM h).1];exact a0a _)]⟩
  . obtain⟨r,T,a,h2,rfl⟩:=ia h;obtain⟨d,b,c⟩:=lz a (by omega:k<=m);refine⟨d,b,?_⟩;rw[c];show _=(r.1++_).take k;rw[a1P (by rw[(iM a).1];omega)]
def sF(h:gW s=some T):s.data.toList.take 4=[80,75,3,4]:=by
 obtain⟨a,h2,_⟩:=kP.1 (lm h).1;simp only[mF,a0k,a0t]at h2;have b:30<=s.data.toList.length:=by simpa using a
 have:=(sV (l:=s.data.toList) (i:=0) (k:=4) (by omega) (by decide)).1 h2.1;rw[a1N]at this;rw[this];decide +kernel
def wU(k z p:Nat):(dy k z p).data.toList=[80,75,5,6]++(leS 2 0++(leS 2 0++(leS 2 k++(leS 2 k++(leS 4 z++(leS 4 p++leS 2 0)))))):=by
 simp[dy,ax]
def Gy(k z p:Nat)(a:c=⟨#[]⟩∨c.data.toList.take 4=[80,75,1,2]):(c++dy k z p).data.toList.take 4≠[80,75,3,4]:=by
 simp only[a2a,a1A];rcases a with e|e
 . rw[e,wU];simp
 .
  have:4<=c.data.toList.length:=by
   have:=congrArg List.length e;rw[a0x]at this;simp at this ⊢;omega
  rw[a1P this,e];decide
def Lt{z p q:Nat}(h:sub s p=c++dy k z q)(e:k<65536):22<=s.size/\wd s.data.toList (s.size-12) 2=k:=by
 have d:s.size-p=c.size+22:=by rw[←i7,h,a0G,nE]
 refine⟨by omega,?_⟩;have h2:s.data.toList=(s.data.toList.take p++(c.data.toList++([80,75,5,6]++(leS 2 0++(leS 2 0++leS 2 k)))))++(leS 2 k++(leS 4 z++(leS 4 q++leS 2 0))):=by
  have:s.data.toList.drop p=(c++dy k z q).data.toList:=by rw[←gm,h]
  conv=>lhs;rw[←a1V p s.data.toList,this]
  simp only[a2a,a1A,wU,a0K]
 have a:(s.data.toList.take p++(c.data.toList++([80,75,5,6]++(leS 2 0++(leS 2 0++leS 2 k))))).length=s.size-12:=by
  simp only[a0i,a0x,az];have e1:s.data.toList.length=s.size:=by simp
  have e2:c.data.toList.length=c.size:=by simp
  rw[e1,e2];simp;omega
 rw[h2];have:=FZ (b:=leS 2 k++(leS 4 z++(leS 4 q++leS 2 0))) (i:=0) 2 a;rw[a1c]at this;rw[this];exact hH _ (by omega)
def dD(s:ByteArray):Option (List En):=
 if 12<=s.size/\wd s.data.toList (s.size-12) 2<=6 then
  (match zst s (wd s.data.toList (s.size-12) 2)with
  | some q=>if cB q.1=true/\sub s q.2.2=q.2.1++dy (wd s.data.toList (s.size-12) 2) q.2.1.size q.2.2 then some q.1 else none
  | none=>none)
 else none
def rT{l:List En}(h:dD s=some l):∃m q,zst s m=some q/\l=q.1/\cB q.1=true/\sub s q.2.2=q.2.1++dy m q.2.1.size q.2.2:=by
 unfold dD at h
 split at h
 .
  split at h
  .
   rename_i q hq
   split at h
   .
    rename_i h2;cases h
    exact⟨_,q,hq,rfl,h2.1,h2.2⟩
   . cases h
  . cases h
 . cases h
def DR{q:List En×ByteArray×Nat}(h:zst s m=some q)(b:cB q.1=true)(a:sub s q.2.2=q.2.1++dy m q.2.1.size q.2.2):dD s=some q.1:=by
 have c:=(ep b).2;have d:=(iM h).1;obtain⟨e1,e2⟩:=Lt a (by omega);unfold dD;rw[a0d ⟨by omega,by omega⟩,e2,h];simp only;rw[a0d ⟨b,a⟩]
def yl{q r:List En×ByteArray×Nat}(d:zst s k=some q)(b:zst s m=some r)(c:sub s r.2.2=r.2.1++dy m r.2.1.size r.2.2):k<=m:=by
 rcases a1o m k with h|h
 .
  exfalso;obtain⟨x,e,_⟩:=lz d (by omega:m+1<=k);obtain⟨y,T,a,h2,_⟩:=ia e;rw[b]at a;cases a
  have:=sF h2;rw[c]at this;exact Gy _ _ _ (iM b).2.2.2.1 this
 . exact h
def Kh{q:List En×ByteArray×Nat}(b:zst s k=some q)(i:cB q.1=true)(f:(sub s q.2.2).data.toList.take 4≠[80,75,3,4]) :
  dD s=if sub s q.2.2=q.2.1++dy k q.2.1.size q.2.2 then some q.1 else none:=by
 split
 . rename_i he;exact DR b i he
 .
  rename_i he;rcases h:dD s with _|l
  . rfl
  .
   exfalso;obtain⟨m,r,a,h2,j,c⟩:=rT h;have d:=yl b a c;by_cases e:k=m
   .
    subst e;rw[b]at a;cases a
    exact he c
   .
    obtain⟨x,g,_⟩:=lz a (by omega:k+1<=m);obtain⟨y,T,y1,y2,_⟩:=ia g;rw[b]at y1;cases y1
    exact f (sF y2)
def DN{q:List En×ByteArray×Nat}(c:zst s k=some q)(o:(sub s q.2.2).data.toList.take 4=[80,75,3,4])(p:∀T,gW (sub s q.2.2)=some T->cB (q.1++[enO (sub s q.2.2) T])=false):dD s=none:=by
 rcases h:dD s with _|l
 . rfl
 .
  exfalso;obtain⟨m,r,b,h2,f,g⟩:=rT h;have u:=yl c b g;by_cases e:k=m
  .
   subst e;rw[c]at b;cases b
   rw[g]at o;exact Gy _ _ _ (iM c).2.2.2.1 o
  .
   obtain⟨x,v,d⟩:=lz b (by omega:k+1<=m);obtain⟨y,T,y1,y2,y3⟩:=ia v;rw[c]at y1;cases y1
   have j:=p T y2;have n:cB (r.1.take (k+1))=true:=by
    rw[rU]at f ⊢;intro i t;have a:i<k+1/\i<r.1.length:=by rw[a0x]at t;omega
    have:=f i a.2;unfold jo at this ⊢;rw[nZ r.1 (k+1) i a.1,a3h,a1u (by omega)];exact this
   rw[←d,y3]at n;rw[n]at j;cases j
def hqO(x:ByteArray)(p:Nat):Hq:=⟨wd x.data.toList 8 2,wd x.data.toList 10 4,wd x.data.toList 14 4,wd x.data.toList 18 4,wd x.data.toList 22 4,nmB x,p⟩
def uq(s:ByteArray)(k:Nat):Hq:=match zst s k with
 | some q=>hqO (sub s q.2.2) q.2.2
 | none=>hqO ⟨#[]⟩ 0
def hqL(s:ByteArray)(n:Nat):List Hq:=(List.range n).map (uq s)
def tu(s:ByteArray)(n:Nat):(hqL s n).length=n:=by simp[hqL]
def LU(s:ByteArray)(n:Nat):hqL s (n+1)=hqL s n++[uq s n]:=by simp[hqL,a3L]
def Pb(s:ByteArray)(n i:Nat)(d:Hq)(h:i<n):(hqL s n).getD i d=uq s i:=by simp[hqL,List.getD,h]
def yY{q:List En×ByteArray×Nat}(h:zst s k=some q):uq s k=hqO (sub s q.2.2) q.2.2:=by
 unfold uq;rw[h]
theorem BM{s:ByteArray} : ∀{k:Nat} {q:List En×ByteArray×Nat},zst s k=some q->fg (uq s) k=q.2.1
 | 0,q,h=>by cases h;rfl
 | k+1,q,h=>by
  obtain⟨r,T,a,h2,rfl⟩:=ia h;rw[fg,BM a,yY a];rfl
def Pa(j:s.size<=1048576){q:List En×ByteArray×Nat}(h:zst s k=some q):∀i,i<k->okQ (uq s i):=by
 intro i f;obtain⟨x,e,_⟩:=lz h (by omega:i+1<=k);obtain⟨r,T,a,h2,_⟩:=ia e;rw[yY a];have b:=(lm h2).2;have c:=(cR (n:=(enO (sub s r.2.2) T).n) (t:=(enO (sub s r.2.2) T).t) b).1;have d:(nmB (sub s r.2.2)).size<=43:=c;have g:=(iM a).2.1;exact⟨jk _ _,eW _ _,eW _ _,eW _ _,eW _ _,by show(nmB (sub s r.2.2)).size<=54;omega,by show r.2.2<4294967296;omega⟩
def H9(l:List En)(e:En)(i:Nat)(a:i<l.length):jo (l++[e]) i=jo l i:=by
 unfold jo;rw[a1P (by omega)]
 congr 1
 simp only[List.getD];rw[List.getElem?_append_left a]
def wP(l:List En)(e:En):jo (l++[e]) l.length=aT l e:=by
 unfold jo;rw[a1P (a0a _),a0u (a0a _)]
 congr 1
 simp[List.getD]
def gG{l:List En}(h:cB l=true)(e:En):cB (l++[e])=true<->aT l e=0:=by
 rw[rU]at h ⊢;constructor
 . intro k;have:=k l.length (by simp);rw[wP]at this;exact this
 .
  intro k i b;by_cases a:i<l.length
  . rw[H9 l e i a];exact h i a
  .
   have:i=l.length:=by simp at b;omega
   rw[this,wP];exact k
def Mx(s:ByteArray):Lib.hasPrefix s.data.toList [80,75,3,4]=decide (s.data.toList.take 4=[80,75,3,4]):=by
 rw[a2o,a0t];unfold Lib.hasPrefix;rw[List.isPrefixOf_iff_prefix,List.prefix_iff_eq_take];exact eq_comm
def JV{v:List UInt8}{n:Nat}(h:30<=v.length)(a:mF v=true)(d:n=wd v 26 2):(eG (wd v 8 2) (wd v 10 4) (wd v 14 4) (wd v 18 4) (wd v 22 4) n).data.toList=(v.drop 4).take 26:=by
 have st:∀i k m,(v.drop i).take (k+m)=(v.drop i).take k++(v.drop (i+k)).take m:=fun i k m=>by rw[a3g,a1Q]
 simp only[mF,a0k,a0t]at a;obtain⟨_,b,h2,c⟩:=a;have e1:=(sV (l:=v) (i:=4) (k:=2) (by omega) (by decide)).1 b;have e2:=(sV (l:=v) (i:=6) (k:=2) (by omega) (by decide)).1 h2;have e3:=(sV (l:=v) (i:=28) (k:=2) (by omega) (by decide)).1 c;have e:(eG (wd v 8 2) (wd v 10 4) (wd v 14 4) (wd v 18 4) (wd v 22 4) n).data.toList=leS 2 20++(leS 2 0++(leS 2 (wd v 8 2)++(leS 4 (wd v 10 4)++(leS 4 (wd v 14 4)++(leS 4 (wd v 18 4)++(leS 4 (wd v 22 4)++(leS 2 n++leS 2 0))))))):=by
  unfold eG ax;simp
 rw[e,d,←e1,←e2,iK (i:=8) (k:=2) (by omega),iK (i:=10) (k:=4) (by omega),iK (i:=14) (k:=4) (by omega),iK (i:=18) (k:=4) (by omega),iK (i:=22) (k:=4) (by omega),iK (i:=26) (k:=2) (by omega)]
 conv=>lhs;rhs;rhs;rhs;rhs;rhs;rhs;rhs;rhs;rw[e2,←e3]
 rw[←st 26 2 2,←st 22 4 _,←st 18 4 _,←st 14 4 _,←st 10 4 _,←st 8 2 _,←st 6 2 _,←st 4 2 _]
def tg(u v:List UInt8)(own:Nat):Prop:=30<=u.length/\46+wd u 28 2<=u.length/\30+wd u 28 2<=v.length/\((u.drop 6).take 26=(v.drop 4).take 26/\(u.drop 46).take (wd u 28 2)=(v.drop 30).take (wd u 28 2))/\(u.take 6=leS 4 33639248++leS 2 20/\(u.drop 32).take 14=List.replicate 10 0++leS 4 own)
def Lc(own:Nat)(h:hdB x=true):(ctO x own).data.toList=(leS 4 33639248++leS 2 20)++((x.data.toList.drop 4).take 26++((List.replicate 10 0++leS 4 own)++(x.data.toList.drop 30).take (wd x.data.toList 26 2))):=by
 obtain⟨a,h2,c⟩:=kP.1 h;have b:30<=x.data.toList.length:=by simpa using a
 have e:=JV b h2 (lp (s:=x) (by omega));have e0:leS 4 33639248=[80,75,1,2]:=by decide +kernel
 rw[e0,←e,←vu];unfold ctO kf ax;simp[List.replicate]
def ry{v:List UInt8}(h:(u.drop 6).take 26=(v.drop 4).take 26):wd u 28 2=wd v 26 2:=by
 have e1:((u.drop 6).take 26).drop 22=(u.drop 28).take 4:=by rw[a3T,a1Q]
 have e2:((v.drop 4).take 26).drop 22=(v.drop 26).take 4:=by rw[a3T,a1Q]
 have e3:(u.drop 28).take 4=(v.drop 26).take 4:=by rw[←e1,←e2,h]
 have e4:(u.drop 28).take 2=(v.drop 26).take 2:=by
  have:=congrArg (List.take 2) e3;rwa[a3h,a3h]at this
 unfold wd;rw[e4]
def Pj(own:Nat)(h:hdB x=true):tg u x.data.toList own<->u.take (46+wd x.data.toList 26 2)=(ctO x own).data.toList:=by
 obtain⟨g,h2,j⟩:=kP.1 h;have d:30+wd x.data.toList 26 2<=x.data.toList.length:=by
  have:x.data.toList.length=x.size:=by simp
  omega
 have st:∀i k m,(u.drop i).take (k+m)=(u.drop i).take k++(u.drop (i+k)).take m:=fun i k m=>by rw[a3g,a1Q]
 have eu:∀n,u.take (46+n)=u.take 6++((u.drop 6).take 26++((u.drop 32).take 14++(u.drop 46).take n)):=fun n=>by
  rw[←st 32 14 n,←st 6 26 _];have:=st 0 6 (26+(14+n));rw[a1N,a0H]at this;rw[←this]
  congr 1;omega
 rw[Lc own h];have l1:(leS 4 33639248++leS 2 20).length=6:=by simp[az]
 have l2:((x.data.toList.drop 4).take 26).length=26:=fm (by omega);have l3:(List.replicate 10 (0:UInt8)++leS 4 own).length=14:=by simp[az]
 have l4:((x.data.toList.drop 30).take (wd x.data.toList 26 2)).length=wd x.data.toList 26 2:=fm d;constructor
 . rintro⟨c0,c1,c2,⟨s1,s2⟩,b,c⟩;have a:=ry s1;rw[a]at s2;rw[eu,b,s1,c,s2]
 .
  intro e;have f:=congrArg List.length e;have m1:=l1;have m3:=l3;simp only[a0i]at f m1 m3;rw[a0x,l2,l4]at f;have l:46+wd x.data.toList 26 2<=u.length:=by omega
  rw[eu]at e;obtain⟨b,e⟩:=a19 e (by rw[l1,a0x];omega);obtain⟨s1,e⟩:=a19 e (by rw[l2,a0x,a09];omega);obtain⟨c,s2⟩:=a19 e (by rw[l3,a0x,a09];omega);have a:=ry s1;exact⟨by omega,by omega,by rw[a];exact d,⟨s1,by rw[a];exact s2⟩,b,c⟩
theorem GX{s:ByteArray}{k:Nat}{r:List En×ByteArray×Nat}(a:zst s k=some r):∀{m:Nat} {q:List En×ByteArray×Nat},zst s m=some q->k<=m->∃x,q.2.1.data.toList=r.2.1.data.toList++x
 | 0,q,h,hkm=>by
  have:k=0:=by omega
  subst this;rw[a]at h;cases h;exact⟨[],by simp⟩
 | m+1,q,h,hkm=>by
  by_cases e:k=m+1
  . subst e;rw[a]at h;cases h;exact⟨[],by simp⟩
  .
   obtain⟨y,T,b,h2,rfl⟩:=ia h;obtain⟨x,c⟩:=GX a b (by omega);exact⟨x++(ctO (sub s y.2.2) y.2.2).data.toList,by
    show(y.2.1++ctO (sub s y.2.2) y.2.2).data.toList=_;simp only[a2a,a1A];rw[c,a0K]⟩
def preB(s c:ByteArray)(A:Nat):Prop:=(s.data.toList.drop A).take c.size=c.data.toList
def Cv{A:Nat}{r:List En×ByteArray×Nat}(d:gW (sub s r.2.2)=some T)(a:preB s r.2.1 A) :
  tg (s.data.toList.drop (A+r.2.1.size)) (s.data.toList.drop r.2.2) r.2.2<->preB s (r.2.1++ctO (sub s r.2.2) r.2.2) A:=by
 have b:=(lm d).1;have c:(ctO (sub s r.2.2) r.2.2).size=46+wd (sub s r.2.2).data.toList 26 2:=by
  have:(ctO (sub s r.2.2) r.2.2).size=46+(nmB (sub s r.2.2)).size:=ip _ _ _ _ _ _ _;rw[this,lp (by have:=(kP.1 b).2.2;omega)]
 have:=Pj (u:=s.data.toList.drop (A+r.2.1.size)) r.2.2 b;rw[gm]at this;rw[this];unfold preB;have st:(s.data.toList.drop A).take (r.2.1.size+(46+wd (s.data.toList.drop r.2.2) 26 2))=(s.data.toList.drop A).take r.2.1.size++(s.data.toList.drop (A+r.2.1.size)).take (46+wd (s.data.toList.drop r.2.2) 26 2):=by rw[a3g,a1Q]
 rw[gm]at c;rw[a0G,c,st];unfold preB at a;simp only[a2a,a1A];constructor
 . intro e;rw[a,e]
 . intro e;rw[a]at e;exact a2j e
theorem qC{s:ByteArray}{m:Nat}(a:12<=s.size)(b:wd s.data.toList (s.size-12) 2=m)(c:m<=6):dD s=match zst s m with
  | some q=>if cB q.1=true/\sub s q.2.2=q.2.1++dy m q.2.1.size q.2.2 then some q.1 else none
  | none=>none:=by
 unfold dD
 (rw[a0d ⟨a,by omega⟩,b])<;>(rcases zst s m with _|q<;>rfl)
def DO(h:¬ (12<=s.size/\wd s.data.toList (s.size-12) 2<=6)):dD s=none:=a0e h
def Kg{q r:List En×ByteArray×Nat}(a:12<=s.size)(f:wd s.data.toList (s.size-12) 2=m)(d:m<=6)(hq:zst s m=some q)(l:i<m)(j:zst s i=some r)(b:gW (sub s r.2.2)=some T)(h:preB s r.2.1 q.2.2)
  (g:¬ tg (s.data.toList.drop (q.2.2+r.2.1.size)) (s.data.toList.drop r.2.2) r.2.2):dD s=none:=by
 rw[qC a f d,hq];simp only;rw[a0e];rintro⟨_,e⟩;apply g;rw[Cv b h];obtain⟨x,k⟩:=GX (qD j b) hq (by omega);have c:s.data.toList.drop q.2.2=q.2.1.data.toList++(dy m q.2.1.size q.2.2).data.toList:=by
  rw[←gm,e];simp
 unfold preB;rw[c,k,a0K];simp only;rw[a1P (by simp),a0u (by simp)]
def Oa{q:List En×ByteArray×Nat}(b:12<=s.size)(f:wd s.data.toList (s.size-12) 2=m)(e:m<=6)(hq:zst s m=some q)(g:cB q.1=true)(d:preB s q.2.1 q.2.2) :
  dD s=if sub s (q.2.2+q.2.1.size)=dy m q.2.1.size q.2.2 then some q.1 else none:=by
 rw[qC b f e,hq];simp only;have:(cB q.1=true/\sub s q.2.2=q.2.1++dy m q.2.1.size q.2.2)<->sub s (q.2.2+q.2.1.size)=dy m q.2.1.size q.2.2:=by
  have e1:s.data.toList.drop q.2.2=q.2.1.data.toList++s.data.toList.drop (q.2.2+q.2.1.size):=by
   conv=>lhs;rw[←a1V q.2.1.size (s.data.toList.drop q.2.2)]
   rw[a1Q];unfold preB at d;rw[d]
  constructor
  . rintro⟨_,c⟩;apply dm;have e2:=congrArg (fun x:ByteArray=>x.data.toList) c;simp only[gm,a2a,a1A]at e2;rw[e1]at e2;rw[gm];exact a2j e2
  . intro c;refine⟨g,dm ?_⟩;rw[gm,e1];simp only[a2a,a1A];rw[←c,gm]
 by_cases a:sub s (q.2.2+q.2.1.size)=dy m q.2.1.size q.2.2
 . rw[a0d (this.2 a),a0d a]
 . rw[a0e (fun h=>a (this.1 h)),a0e a]
open Go.RowKit
def Fy{n t:ByteArray}{y mo d h mi c k:Int}(a:pY x = .tuple #[.agg #[n,y,mo,d,h,mi,c,t],k,.bool true]) :
  ∃T,gW x=some T/\enO x T=⟨n,y,mo,d,h,mi,c,t⟩/\k=((oh x:Nat):Int):=by
 unfold pY at a;rcases b:gW x with _|T
 . rw[b]at a;simp at a
 .
  rw[b]at a;simp only[I7,Value.tuple.injEq,Array.mk.injEq,a20,Value.agg.injEq,Value.string.injEq,Value.int.injEq,a1t,a0O]at a;obtain⟨⟨e0,e1,e2,e3,e4,e5,e6,e7⟩,e8⟩:=a;refine⟨T,rfl,?_,?_⟩
  . unfold enO;rw[e0,e1,e2,e3,e4,e5,e6,e7]
  . rw[←e8];rfl
def Nc(a:pY x = .tuple #[noE,.int .i64 0,.bool false]):gW x=none:=by
 unfold pY at a;rcases b:gW x with _|T
 . rfl
 . rw[b]at a;simp at a
def Rx(w:World)(base:Nat)(hb:base<=w.heap.size):fS (w.alloc (.cells #[] 34)) base (.slice w.heap.size 0 0) []:=a0U w #[] 0 hb (by unfold maxLen;omega) rfl
def IR(s:ByteArray)(m:Nat)(w:World)(hs:s.size<=1048576)(hm:m<=6) :
  Calls prog 47 #[s,m] w fun e w'=>(∃(v:Value) (p:Nat) (ok:Bool),e = .returned (.tuple #[v,p,.bool ok])/\(ok=true->∃q,zst s m=some q/\p=q.2.2/\fS w' w.heap.size v q.1)/\(ok=false->zst s m=none))/\Below w.heap.size w w':=by
 have ad:(m:Int)<=6:=by omega
 have ao:(s.size:Int)<=1048576:=by omega
 have HS:=af hs;have Hm:=af hm;have I:Hid (fS (w.alloc (.cells #[] 34)) w.heap.size (.slice w.heap.size 0 0) []):=Rx _ _ (a0a _);have F:Hid (Below w.heap.size w (w.alloc (.cells #[] 34))):=cC;obtain⟨i0,hi,Y,Z,aa⟩:=a0r Tryz.infoEnt;clear hs hm;go_enter func47,ntmps47;go_wp2_with fail
 go_loopw [7,8,9,10,11,12] (fun v a i _ _ _ wr=>∃(k:Nat) (q:List En×ByteArray×Nat),k<=m/\i = .int .i64 k/\zst s k=some q/\a = .int .i64 (q.2.2:Nat)/\fS wr w.heap.size v q.1/\Below w.heap.size w wr) (fun _ _ i _ _ _ _=>m-(intOf i).toNat)
 case atStart=>exact⟨0,([],⟨#[]⟩,0),a0g _,rfl,rfl,rfl,I,F⟩
 case round=>
  obtain⟨k,q,hk,rfl,N,rfl,hq,g⟩:=hrel;clear I F;by_cases ac:k<m
  .
   have r:=iM N;have al:(q.2.2:Int)<=(s.size:Int):=by have:=r.2.1;omega
   have HL:=af r.1;have K:(sub s q.2.2).size<=1048576:=by rw[i7];have:=ae HS;omega
   have O:=af (fun W=>uS (sub s q.2.2) W K);have E:=af hq;have b:=af g;have HK:=af hk;have HZ:=af N;clear K r hq g hk N;go_wp2_with fail;refine(O wr).mono ?_;rintro e x1⟨⟨n,y,mo,d,h,mi,c,t,kk,ok,rfl,M⟩,u⟩;have D:=af (aj b u);have L:Hid (Below x1.heap.size x1 (x1.alloc (.cells #[n,y,mo,d,h,mi,c,t] 34))):=cC;cases ok
   .
    have P:=af (DY (Ro HZ (Nc M)) m (by omega));have B:=af (aj D L);clear M u O E b L;go_wp2
    go_ret3
    exact⟨⟨_,_,false,rfl,(fun h=>by cases h),fun _=>ae P⟩,B⟩
   .
    obtain⟨T,U,hE,rfl⟩:=Fy M;have C:=qD HZ U;have hf:=vj U;rw[i7]at hf;rw[hE]at C;have R:=af C;have ab:(q.2.2:Int)+((oh (sub s q.2.2):Nat):Int)<=(s.size:Int):=by omega
    have V:=aj u L;have z:=cb.own HL (E.later V (a0a _));have f:=aj b V;have j:=f.size;have o:Hid (k+1<=maxLen/\(k+1)*80<=140737488355328):=by
     show _/\_;have:=ae Hm;unfold maxLen;omega
    obtain⟨W1,hW1⟩:∃x,x1.alloc (.cells #[n,y,mo,d,h,mi,c,t] 34)=x:=⟨_,rfl⟩;have S:=af (aJ x1 #[n,y,mo,d,h,mi,c,t] 34);rw[hW1]at z f j S;have pA:=S.cells (n:=8) rfl;clear M U hE hf C u O E b L V D;go_wp2_with (at_builtin;refine a0v _ rfl _ _ 27 rfl w.heap.size 34 i0 (.agg ()) 8 80 a1S hi Y Z aa rfl (by decide) _ _ _ rfl (a0n z _) ⟨W1.heap.size,0,none⟩ 1 1 (jw ⟨n,y,mo,d,h,mi,c,t⟩) rfl rfl (jH W1 _ _) (iS _) o.1 o.2 (au j _) ?_;intro v' x2 A l H;clear H);have G:=aH (v:=u7) l z (a0a _) j f;have J:fS x2 w.heap.size v' (q.1++[⟨n,y,mo,d,h,mi,c,t⟩]):=cb.snoc HL A;have Q:=af J;have B:=af G;clear A l z J G pA f j S hW1;go_wp2;go_roundw
    case rel=>exact⟨k+1,_,by have:=ae HK;omega,by go_num,R,by go_num,Q,B⟩
    case measure=>simp[intOf];omega
  .
   have X:k=m:=by omega
   subst X;have E:=af hq;have b:=af g;clear hq g;go_wp2
   go_ret3
   exact⟨⟨_,_,true,rfl,fun _=>⟨q,N,rfl,E⟩,(fun h=>by cases h)⟩,b⟩
def Qd(l:List UInt8)(i j k:Nat):wd (l.drop i) j k=wd l (i+j) k:=by unfold wd;rw[a1Q]
def ext_eq{a:Nat}{c d:Nat}(e:b=a+k)(h2:d=c+k):(s.extract a b).toList=(x.extract c d).toList<->(s.data.toList.drop a).take k=(x.data.toList.drop c).take k:=by
 rw[ef,ext_list,ext_list,e,h2,a1v,a1v]
def Lu{y:ByteArray}{a:Nat}(c:b=a+k):(s.extract a b).toList=y.toList<->(s.data.toList.drop a).take k=y.data.toList:=by
 rw[ef,ext_list,c,a1v]
def ym{q:List En×ByteArray×Nat}(h:zst s k=some q):∀i,i<k->(q.1.getD i default).n.size<=1048576/\((q.1.getD i default).t.size:Int)<=9223372036854775807:=by
 intro i d;obtain⟨c,_,a,_⟩:=iM h;have b:q.1.getD i default∈q.1:=by
  rw[List.getD,List.getElem?_eq_getElem (by omega:i<q.1.length)];exact a2n _
 obtain⟨f1,f2,_⟩:=cR (n:=(q.1.getD i default).n) (t:=(q.1.getD i default).t) (a _ b);exact⟨by omega,by omega⟩
def Oz{p:Nat}(h:tg u (s.data.toList.drop p) p)(hd:hdB (sub s p)=true):46+wd u 28 2=(ctO (sub s p) p).size:=by
 have e:=ry h.2.2.2.1.1;have a:(ctO (sub s p) p).size=46+(nmB (sub s p)).size:=ip _ _ _ _ _ _ _;rw[a,lp (by have:=(kP.1 hd).2.2;omega),gm,e]
def below_drewN{B:Nat}{a:World}(h:Below B a w)(n:Nat):Below B a (w.drewN n):=⟨h.os,h.tape,h.output,h.size,h.block⟩
def EV(s:ByteArray)(hd own:Nat)(w:World)(L:s.size<=1048576)(J:hd<=2000000)(h2:own<=2000000) :
  Calls prog 49 #[s,hd,own] w fun e w'=>(∃(k:Nat) (b:Bool),e = .returned (.tuple #[k,.bool b])/\(b=true<->tg (s.data.toList.drop hd) (s.data.toList.drop own) own)/\(b=true->k=46+wd (s.data.toList.drop hd) 28 2))/\Below w.heap.size w w':=by
 have D:=cE
 have ad:(s.size:Int)<=1048576:=by omega
 have aa:(hd:Int)<=2000000:=by omega
 have ab:(own:Int)<=2000000:=by omega
 have G:s.data.toList.length=s.size:=by simp
 have C:Hid (∀W,Ds 45 #[s,.int .i64 ((hd:Int)+28),.int .i64 2] W (.int .i64 (dR s (hd+28) 2))):=fun W=>by
  have:=dG s (hd+28) 2 W (by omega) (by decide) (by omega);rw[show((hd+28:Nat):Int)=(hd:Int)+28 by omega]at this;exact this
 have u:=Qd s.data.toList hd 28 2;by_cases K:hd+30<=s.size
 .
  rw[gZ (by omega)]at C;have v:=jk s.data.toList (hd+28);rw[u];have HP:Hid (tg (s.data.toList.drop hd) (s.data.toList.drop own) own<->(hd+(46+wd s.data.toList (hd+28) 2)<=s.size/\own+30+wd s.data.toList (hd+28) 2<=s.size)/\(((s.data.toList.drop (hd+6)).take 26=(s.data.toList.drop (own+4)).take 26/\(s.data.toList.drop (hd+46)).take (wd s.data.toList (hd+28) 2)=(s.data.toList.drop (own+30)).take (wd s.data.toList (hd+28) 2))/\((s.data.toList.drop hd).take 6=leS 4 33639248++leS 2 20/\(s.data.toList.drop (hd+32)).take 14=List.replicate 10 0++leS 4 own))):=by
   show _<->_;unfold tg;rw[u];simp only[a1Q,a09,G];constructor
   . rintro⟨a,b,c,d,e⟩;exact⟨⟨by omega,by omega⟩,d,e⟩
   . rintro⟨⟨a,b⟩,d,e⟩;exact⟨by omega,by omega,by omega,d,e⟩
  clear u G;generalize wd s.data.toList (hd+28) 2=NM at *
  have ac:(NM:Int)<65536:=by omega
  by_cases B:hd+(46+NM)<=s.size/\own+30+NM<=s.size
  .
   have P:=af B;obtain⟨b1,b2⟩:=B;have N:(hd:Int)+(46+(NM:Int))<=(s.size:Int):=by omega
   have S:(own:Int)+30+(NM:Int)<=(s.size:Int):=by omega
   have d0:decide ((NM:Int)<0)=false:=a0m (by omega);have d1:decide ((s.size:Int)<(hd:Int)+(46+(NM:Int)))=false:=a0m (by omega);have d2:decide ((s.size:Int)<(own:Int)+30+(NM:Int))=false:=a0m (by omega);have Z:Hid (∀W,Ds 82 #[.int .i64 33639248,.int .i64 4] W (.string (ax (leS 4 33639248)))):=fun W=>aM 33639248 4 W (by omega) (by omega);have CV:Hid (∀W,Ds 82 #[.int .i64 20,.int .i64 2] W (.string (ax (leS 2 20)))):=fun W=>aM 20 2 W (by omega) (by omega);have Y:Hid (∀W,Ds 82 #[.int .i64 0,.int .i64 10] W (.string (ax (leS 10 0)))):=fun W=>aM 0 10 W (by omega) (by omega);have CP:Hid (∀W,Ds 82 #[own,.int .i64 4] W (.string (ax (leS 4 own)))):=fun W=>aM own 4 W (by omega) (by omega);have E1:Hid ((s.extract (hd+6) (hd+32)).toList=(s.extract (own+4) (own+30)).toList<->(s.data.toList.drop (hd+6)).take 26=(s.data.toList.drop (own+4)).take 26):=ext_eq rfl rfl;have E2:Hid ((s.extract (hd+46) (hd+(46+NM))).toList=(s.extract (own+30) (own+30+NM)).toList<->(s.data.toList.drop (hd+46)).take NM=(s.data.toList.drop (own+30)).take NM):=ext_eq (by omega) rfl;have E3:Hid ((s.extract hd (hd+6)).toList=(ax (leS 4 33639248)++ax (leS 2 20)).toList<->(s.data.toList.drop hd).take 6=leS 4 33639248++leS 2 20):=by
    have:=Lu (s:=s) (y:=ax (leS 4 33639248)++ax (leS 2 20)) (a:=hd) (b:=hd+6) (k:=6) rfl;rw[show(ax (leS 4 33639248)++ax (leS 2 20)).data.toList=leS 4 33639248++leS 2 20 by simp[ax]]at this;exact this
   have E4:Hid ((s.extract (hd+32) (hd+46)).toList=(ax (leS 10 0)++ax (leS 4 own)).toList<->(s.data.toList.drop (hd+32)).take 14=List.replicate 10 0++leS 4 own):=by
    have:=Lu (s:=s) (y:=ax (leS 10 0)++ax (leS 4 own)) (a:=hd+32) (b:=hd+46) (k:=14) rfl;have e0:leS 10 0=List.replicate 10 0:=by decide +kernel
    rw[show(ax (leS 10 0)++ax (leS 4 own)).data.toList=List.replicate 10 0++leS 4 own by rw[e0];simp[ax]]at this;exact this
   have z1:(ax (leS 4 33639248)).size<=10:=by rw[bu,az];omega
   have z2:(ax (leS 2 20)).size<=10:=by rw[bu,az];omega
   have z3:(ax (leS 10 0)).size<=10:=by rw[bu,az];omega
   have z4:(ax (leS 4 own)).size<=10:=by rw[bu,az];omega
   have m1:¬ 9223372036854775807<(ax (leS 4 33639248)).size+(ax (leS 2 20)).size:=by omega
   have m2:¬ 9223372036854775807<(ax (leS 10 0)).size+(ax (leS 4 own)).size:=by omega
   generalize ax (leS 4 33639248)=A1 at *
   generalize ax (leS 2 20)=A2 at *
   generalize ax (leS 10 0)=A3 at *
   generalize ax (leS 4 own)=A4 at *
   rw[←ae E1,←ae E2,←ae E3,←ae E4]at HP;obtain⟨X1,l⟩:∃x,s.extract (hd+6) (hd+32)=x:=⟨_,rfl⟩;obtain⟨Y1,n⟩:∃x,s.extract (own+4) (own+30)=x:=⟨_,rfl⟩;obtain⟨X2,m⟩:∃x,s.extract (hd+46) (hd+(46+NM))=x:=⟨_,rfl⟩;obtain⟨Y2,o⟩:∃x,s.extract (own+30) (own+30+NM)=x:=⟨_,rfl⟩;obtain⟨X3,r⟩:∃x,s.extract hd (hd+6)=x:=⟨_,rfl⟩;obtain⟨X4,t⟩:∃x,s.extract (hd+32) (hd+46)=x:=⟨_,rfl⟩;rw[l,n,m,o,r,t]at HP;obtain⟨B1,g⟩:∃b,(X1.toList == Y1.toList)=b:=⟨_,rfl⟩;obtain⟨B2,j⟩:∃b,(X2.toList == Y2.toList)=b:=⟨_,rfl⟩;obtain⟨B3,p⟩:∃b,(X3.toList == (A1++A2).toList)=b:=⟨_,rfl⟩;obtain⟨B4,q⟩:∃b,(X4.toList == (A3++A4).toList)=b:=⟨_,rfl⟩;have HR:Hid (((B1&&B2)&&(B3&&B4))=true<->tg (s.data.toList.drop hd) (s.data.toList.drop own) own):=by
    show _<->_;rw[ae HP,←g,←j,←p,←q];simp only[a0k,a3V];exact⟨fun h=>⟨P,h⟩,fun h=>h.2⟩
   have R:=af (a0b l (a0b n (a0b m (a0b o (a0b r t)))));have z:=af (a0b g (a0b j (a0b p q)));have Q:=af (a0b m1 m2);clear HP E1 E2 E3 E4 K J h2 L v b1 b2 z1 z2 z3 z4 P l m r t n o g j p q m1 m2;have O:=C;cases B1<;>cases B2<;>cases B3
   all_goals
    go_enter func49,a32;go_wp2_with fail;refine(O _).mono ?_;rintro e x1⟨rfl,f⟩;have i:=af f;clear f C O;go_wp2_with fail;have w1:IntKind.i64.wrap ((hd:Int)+6)=(hd:Int)+6:=by rw[a0W];omega
    have t1:((hd:Int)+6).toNat=hd+6:=by omega
    have l1:0<=(hd:Int)+6:=by omega
    have g1:(hd:Int)+6<=(s.size:Int):=by omega
    have w2:IntKind.i64.wrap ((hd:Int)+32)=(hd:Int)+32:=by rw[a0W];omega
    have t2:((hd:Int)+32).toNat=hd+32:=by omega
    have l2:0<=(hd:Int)+32:=by omega
    have g2:(hd:Int)+32<=(s.size:Int):=by omega
    have w3:IntKind.i64.wrap ((own:Int)+4)=(own:Int)+4:=by rw[a0W];omega
    have t3:((own:Int)+4).toNat=own+4:=by omega
    have l3:0<=(own:Int)+4:=by omega
    have g3:(own:Int)+4<=(s.size:Int):=by omega
    have w4:IntKind.i64.wrap ((own:Int)+30)=(own:Int)+30:=by rw[a0W];omega
    have t4:((own:Int)+30).toNat=own+30:=by omega
    have l4:0<=(own:Int)+30:=by omega
    have g4:(own:Int)+30<=(s.size:Int):=by omega
    have w5:IntKind.i64.wrap ((hd:Int)+46)=(hd:Int)+46:=by rw[a0W];omega
    have t5:((hd:Int)+46).toNat=hd+46:=by omega
    have l5:0<=(hd:Int)+46:=by omega
    have g5:(hd:Int)+46<=(s.size:Int):=by omega
    have w6:IntKind.i64.wrap ((hd:Int)+(46+(NM:Int)))=(hd:Int)+(46+(NM:Int)):=by rw[a0W];omega
    have t6:((hd:Int)+(46+(NM:Int))).toNat=hd+(46+NM):=by omega
    have l6:0<=(hd:Int)+(46+(NM:Int)):=by omega
    have w7:IntKind.i64.wrap ((own:Int)+30+(NM:Int))=(own:Int)+30+(NM:Int):=by rw[a0W];omega
    have t7:((own:Int)+30+(NM:Int)).toNat=own+30+NM:=by omega
    have l7:0<=(own:Int)+30+(NM:Int):=by omega
    have w8:IntKind.i64.wrap ((hd:Int))=(hd:Int):=by rw[a0W];omega
    have t8:((hd:Int)).toNat=hd:=by omega
    have l8:0<=(hd:Int):=by omega
    have o1:(hd:Int)+6<=(hd:Int)+32:=by omega
    have o2:(own:Int)+4<=(own:Int)+30:=by omega
    have o3:(hd:Int)+46<=(hd:Int)+(46+(NM:Int)):=by omega
    have o4:(own:Int)+30<=(own:Int)+30+(NM:Int):=by omega
    have o5:(hd:Int)<=(hd:Int)+6:=by omega
    have o6:(hd:Int)+32<=(hd:Int)+46:=by omega
    obtain⟨l,n,m,o,r,t⟩:=ae R;obtain⟨g,j,p,q⟩:=ae z;obtain⟨m1,m2⟩:=ae Q
    go_quiet (fail)
    have H:Hid (Below w.heap.size w (x1.drewN nq)):=below_drewN i nq;clear w3 t3 l3 g3 w4 t4 l4 g4 w6 t6 l6 w7 t7 l7 o1 o2 o3 o4 l n m o g j d0 d1 d2 N S R z Q;generalize x1.drewN nq=x2 at *
    go_wp2_with fail;have T:=fun d os=>Calls.regrown_of (w:=x2) (d:=d) (os:=os) (Z _);have U:=fun d os=>Calls.regrown_of (w:=x2) (d:=d) (os:=os) (CV _);have V:=fun d os=>Calls.regrown_of (w:=x2) (d:=d) (os:=os) (Y _);have X:=fun d os=>Calls.regrown_of (w:=x2) (d:=d) (os:=os) (CP _);refine wp_region_quiet_below D (by kernel_rfl) ?_
    go_big_quiet_step (fail)
    go_big_quiet_step (fail)
    go_big_quiet_step (fail)
    go_big_quiet_step (fail)
    go_big_quiet_step (fail)
    go_big_quiet_step (exact T _ _)
    go_big_quiet_step (exact U _ _)
    go_big_quiet_step (fail)
    go_big_quiet_step (fail)
    go_big_quiet_step (fail)
    go_big_quiet_step (fail)
    go_big_quiet_step (fail)
    go_big_quiet_step (fail)
    go_big_quiet_step (fail)
    go_big_quiet_step (fail)
    go_big_quiet_step (fail)
    go_big_quiet_step (exact V _ _)
    go_big_quiet_step (fail)
    go_big_quiet_step (exact X _ _)
    go_big_quiet_step (fail)
    go_big_quiet_step (fail)
    go_big_quiet_step (fail)
    go_big_quiet_step (fail)
    refine a1F ?_;intro zw M;obtain⟨⟨dq,osq⟩,E⟩:=M;have I:=below_regrown x2 dq osq;rw[←E]at I;have T9:=af (aj H I);clear E I T U V X;go_wp2
    go_ret2
    exact⟨⟨46+NM,_,by rw[Int.natCast_add];rfl,HR,fun _=>rfl⟩,T9⟩
  .
   have A:Hid (¬ tg (s.data.toList.drop hd) (s.data.toList.drop own) own):=fun h=>B (HP.1 h).1;have F:Hid (false=true<->tg (s.data.toList.drop hd) (s.data.toList.drop own) own):=⟨(fun h=>by cases h),fun h=>absurd h (ae A)⟩;clear HP A;by_cases g:hd+(46+NM)<=s.size
   .
    have N:(hd:Int)+(46+(NM:Int))<=(s.size:Int):=by omega
    have S:(s.size:Int)<(own:Int)+30+(NM:Int):=by omega
    clear B g K J h2 L v;go_enter func49,a32;go_wp2_with fail;refine(C _).mono ?_;rintro e x1⟨rfl,f⟩;have i:=af f;clear f C;go_wp2
    go_ret2
    exact⟨⟨0,false,rfl,F,fun h=>by cases h⟩,i⟩
   .
    have N:(s.size:Int)<(hd:Int)+(46+(NM:Int)):=by omega
    clear B g K J h2 L v;go_enter func49,a32;go_wp2_with fail;refine(C _).mono ?_;rintro e x1⟨rfl,f⟩;have i:=af f;clear f C;go_wp2
    go_ret2
    exact⟨⟨0,false,rfl,F,fun h=>by cases h⟩,i⟩
 .
  rw[zl (by omega)]at C;have A:Hid (¬ tg (s.data.toList.drop hd) (s.data.toList.drop own) own):=fun h=>by
   have:=h.1;rw[a09,G]at this;omega
  have F:Hid (false=true<->tg (s.data.toList.drop hd) (s.data.toList.drop own) own):=⟨(fun h=>by cases h),fun h=>absurd h (ae A)⟩;clear A u G;go_enter func49,a32;go_wp2_with fail;refine(C _).mono ?_;rintro e x1⟨rfl,f⟩;have i:=af f;clear f C;go_wp2
  go_ret2
  exact⟨⟨0,false,rfl,F,fun h=>by cases h⟩,i⟩
def Q8{A:Nat}(h:preB s c A)(b:A<=s.size):A+c.size<=s.size:=by
 have:=congrArg List.length h;rw[a0x,a09]at this;have a:s.data.toList.length=s.size:=by simp
 have h2:c.data.toList.length=c.size:=by simp
 omega
def yz{a b:ByteArray}{c:Bool}(h:(a.toList == b.toList)=c):c=true<->a=b:=by
 rw[←h,a3V,ef];exact⟨fun e=>dm e,fun e=>by rw[e]⟩
def nd(s:ByteArray)(w:World)(hs:s.size<=1048576) :
  Calls prog 25 #[s] w fun e w'=>(∃v,e = .returned (.tuple #[v,.bool (dD s).isSome])/\fS w' w.heap.size v ((dD s).getD []))/\Below w.heap.size w w':=by
 have a4:=cE
 have b8:(s.size:Int)<=1048576:=by omega
 have u:Hid (dD s=none->∀W,Below w.heap.size w W->(∃v,Ending.returned (.tuple #[.slice W.heap.size 0 0,.bool false]) = .returned (.tuple #[v,.bool (dD s).isSome])/\fS (W.alloc (.cells #[] 34)) w.heap.size v ((dD s).getD []))/\Below w.heap.size w (W.alloc (.cells #[] 34))):=fun h W hb=>by
  rw[h];exact⟨⟨_,rfl,Rx _ _ hb.size⟩,hb.alloc hb.size _⟩
 by_cases L:12<=s.size
 .
  have C:Hid (∀W,Ds 45 #[s,.int .i64 ((s.size:Int)-12),.int .i64 2] W (.int .i64 ((wd s.data.toList (s.size-12) 2:Nat):Int))):=fun W=>by
   have:=dG s (s.size-12) 2 W (by omega) (by decide) (by omega);rw[show((s.size-12:Nat):Int)=(s.size:Int)-12 by omega,gZ (by omega)]at this;exact this
  have S:=jk s.data.toList (s.size-12);have bb:∃NM,wd s.data.toList (s.size-12) 2=NM:=⟨_,rfl⟩;obtain⟨NM,U⟩:=bb;rw[U]at C S;have HW:=af U;have I:=af L;clear U;have bs:(NM:Int)<65536:=by omega
  by_cases h6:NM<=6
  .
   have bl:(NM:Int)<=6:=by omega
   have M:Hid (∀W,Calls prog 46 #[NM,.int .i64 0,.int .i64 6] W fun e w'=>e = .returned (.bool true)/\w'=W):=fun W=>by
    have:=aS (NM:Int) 0 6 W;rw[show inB (NM:Int) 0 6=true by rw[aG];omega]at this;exact this
   have C2:=af (fun W=>IR s NM W hs h6);have H6:=af h6;have HS:=af hs;clear L hs S;go_enter func25,ntmps25;go_wp2_with fail;refine(C _).mono ?_;rintro e x1⟨rfl,j⟩;have m:=af j;clear j C;go_wp2_with fail;refine(M _).mono ?_;rintro e x2⟨rfl,F⟩;subst F;clear M;go_wp2_with fail;refine(C2 _).mono ?_;rintro e x3⟨⟨v,p,ok,rfl,G,ab⟩,V⟩;have J:=af (aj m V);cases ok
   .
    have D:=af (ae u (by rw[qC I HW H6,ab rfl]) x3 (ae J));clear G ab V C2;go_wp2
    go_ret2
    exact D
   .
    obtain⟨q,hq,rfl,a⟩:=G rfl;have f:=iM hq;obtain⟨va,vc,rfl,b9,_⟩:=a.formN f.1;have yo:=af (a.mono (base':=w.heap.size) (by have:=m.size;omega));have C3:=af (wH va vc q.1 NM f.1 x3 (gQ f.1 a) (by omega) (ym hq));have HQ:=af hq;have b5:(q.2.2:Int)<=(s.size:Int):=by have:=f.2.1;omega
    have b0:q.2.1.size<=600:=by have:=f.2.2.2.2;omega
    clear G ab V C2 a f hq;cases H:cB q.1
    .
     have D:=af (fun W hb=>ae u (by rw[qC I HW H6,ae HQ];simp[H]) W hb);rw[H]at C3;go_wp2_with fail;refine C3.mono ?_;rintro e x4⟨rfl,z⟩;have K:=af (aj J z);clear z C3;go_wp2
     go_ret2
     exact D _ (ae K)
    .
     rw[H]at C3;have a2:=af H;clear H;go_wp2_with fail;refine C3.mono ?_;rintro e x4⟨rfl,z⟩;have K:=af (aj J z);have al:=af (yo.later z (a0a _));clear z C3 yo J;have Q:=af (fun hd own (W:World) (h1:hd<=2000000) (h2:own<=2000000)=>EV s hd own W HS h1 h2);have ac:=af (fun p W=>uS (sub s p) W (by rw[i7];have:=ae HS;omega));have HE:Hid (∀p,s.extract p s.size=sub s p):=fun _=>rfl;go_wp2_with fail
     go_loopw [8,9,10,11,12,13,14,15] (fun h o i _ _ _ _ _ wr=>∃(k:Nat) (r:List En×ByteArray×Nat),k<=NM/\i = .int .i64 k/\zst s k=some r/\h = .int .i64 ((q.2.2:Nat)+(r.2.1.size:Nat))/\o = .int .i64 (r.2.2:Nat)/\preB s r.2.1 q.2.2/\fS wr w.heap.size (.slice va NM vc) q.1/\Below w.heap.size w wr) (fun _ _ i _ _ _ _ _ _=>NM-(intOf i).toNat)
     case atStart=>exact⟨0,([],⟨#[]⟩,0),a0g _,rfl,rfl,by show _=Value.int .i64 ((q.2.2:Nat)+((0:Nat):Int));simp,rfl,rfl,al,K⟩
     case round=>
      obtain⟨k,r,hk,rfl,hr,rfl,rfl,P,a,O⟩:=hrel;have E:=iM hr;have b7:r.2.1.size<=600:=by have:=E.2.2.2.2;omega
      have b6:(r.2.1.size:Int)<=600:=by omega
      have b4:(r.2.2:Int)<=(s.size:Int):=by have:=E.2.1;omega
      have HR:=af hr;have g:=af P;have yo:=af a;have A:=af O;have HK:=af hk;clear E hr P a O al K;by_cases bd:k<NM
      .
       obtain⟨y,hy,_⟩:=lz HQ (by omega:k+1<=NM);obtain⟨r',T,h1,hT,_⟩:=ia hy;rw[ae HR]at h1;cases h1
       have HT:=af hT;have CH:=af (fun W=>ae Q (q.2.2+r.2.1.size) r.2.2 W (by omega) (by omega));rw[show((q.2.2+r.2.1.size:Nat):Int)=(q.2.2:Nat)+(r.2.1.size:Nat) by omega]at CH;clear hy hT Q;go_wp2_with fail;refine(CH _).mono ?_;rintro e x5⟨⟨kk,b,rfl,hb,aa⟩,Y⟩;have R:=af (aj A Y);have ao:=af (yo.later Y (a0a _));clear Y CH yo A;cases b
       .
        have D:=af (ae u (Kg I HW H6 HQ bd HR HT g (fun h=>by have:=hb.2 h;cases this)) x5 (ae R));clear hb aa;go_wp2
        go_ret2
        exact D
       .
        have hl:=hb.1 rfl;have e1:=aa rfl;rw[Oz hl (lm HT).1]at e1;have ba:=af ((Cv HT g).1 hl);have a1:=af (qD HR HT);have b2:kk<=2000:=by
         have h7:=(iM a1).2.2.2.2;simp only[a0G]at h7;omega
        have a8:=af e1;clear hb aa hl e1;go_wp2_with fail;refine(ac r.2.2 _).mono ?_;rintro e x6⟨⟨n,yy,mo,d,h,mi,c,t,kx,ok,rfl,hv⟩,Z⟩;have ad:=af (aj R Z);have a0:=af (ao.later Z (a0a _));have hA:=(a0c x6.heap.size x6).alloc (a0a _) (.cells #[n,yy,mo,d,h,mi,c,t] 34);have a7:=af (aj ad hA);have a9:=af (a0.later hA (a0a _));cases ok
        . have:=Nc hv;rw[ae HT]at this;cases this
        .
         obtain⟨T2,a3,_,rfl⟩:=Fy hv;have hf:=vj a3;rw[i7]at hf;have b1:(r.2.2:Int)+((oh (sub s r.2.2):Nat):Int)<=(s.size:Int):=by omega
         clear hv a3 hf Z hA ad a0 R ao;go_wp2;go_roundw
         case rel=>exact⟨k+1,_,by omega,by go_num,a1,by simp only[a0G];rw[←ae a8];go_num,by go_num,ba,a9,a7⟩
         case measure=>simp[intOf];omega
      .
       have bc:k=NM:=by omega
       subst bc;have a5:=ae HR;rw[ae HQ]at a5;cases a5
       have b3:=Q8 g (by omega);have bk:(q.2.2:Int)+(q.2.1.size:Int)<=(s.size:Int):=by omega
       have l:=af (Oa I HW H6 HQ a2 g);have N:=af (fun W=>xw k q.2.1.size q.2.2 W (by omega) (by omega) (by omega));have q1:=fun d os=>Calls.regrown_of (w:=wr) (d:=d) (os:=os) (N _);have t1:((q.2.2:Int)+(q.2.1.size:Int)).toNat=q.2.2+q.2.1.size:=by omega
       have w1:IntKind.i64.wrap ((q.2.2:Int)+(q.2.1.size:Int)-(q.2.2:Int))=(q.2.1.size:Int):=by rw[a0W];omega
       have l1:0<=(q.2.2:Int)+(q.2.1.size:Int):=by omega
       rw[←ae HE]at l;generalize dy k q.2.1.size q.2.2=EN at *
       obtain⟨X,hX⟩:∃x,s.extract (q.2.2+q.2.1.size) s.size=x:=⟨_,rfl⟩;rw[hX]at l;obtain⟨B,hB⟩:∃b,(X.toList == EN.toList)=b:=⟨_,rfl⟩;have HB:=af hB;clear Q ac HE a2 g N;go_wp2_with fail;refine wp_region_quiet_below a4 (by kernel_rfl) ?_;cases B
       all_goals
        quiet_step (fail)
        quiet_step (fail)
        quiet_step (fail)
        quiet_step (fail)
        quiet_step (fail)
        quiet_step (fail)
        quiet_step (fail)
        quiet_step (fail)
        quiet_step (exact q1 _ _)
        quiet_step (fail)
        refine a1F ?_;intro zw be;obtain⟨⟨dq,osq⟩,a6⟩:=be;have HZ:=below_regrown wr dq osq;rw[←a6]at HZ;have T9:=af (aj A HZ);have O9:=af (yo.later HZ (a0a _));clear a6 HZ q1
       .
        have D:=af (ae u (by rw[ae l,a0e (fun e=>by have:=(yz HB).2 e;cases this)]) zw (ae T9));go_wp2
        go_ret2
        exact D
       .
        have HY:Hid (dD s=some q.1):=by show _=_;rw[ae l,a0d ((yz HB).1 rfl)]
        go_wp2
        go_ret2
        exact⟨⟨_,by rw[ae HY];rfl,by rw[ae HY];exact O9⟩,T9⟩
  .
   have M:Hid (∀W,Calls prog 46 #[NM,.int .i64 0,.int .i64 6] W fun e w'=>e = .returned (.bool false)/\w'=W):=fun W=>by
    have:=aS (NM:Int) 0 6 W;rw[show inB (NM:Int) 0 6=false by rw[eJ];omega]at this;exact this
   have D:=af (ae u (DO (by rw[ae HW];omega)));clear L hs S;go_enter func25,ntmps25;go_wp2_with fail;refine(C _).mono ?_;rintro e x1⟨rfl,j⟩;have m:=af j;clear j C;go_wp2_with fail;refine(M _).mono ?_;rintro e x2⟨rfl,F⟩;subst F;clear M;go_wp2
   go_ret2
   exact D _ (ae m)
 .
  have C:=af (fun W=>IP s ((s.size:Int)-12) W (by omega));have M:Hid (∀W,Calls prog 46 #[.int .i64 (-1),.int .i64 0,.int .i64 6] W fun e w'=>e = .returned (.bool false)/\w'=W):=fun W=>by
   have:=aS (-1) 0 6 W;rw[show inB (-1) 0 6=false by decide]at this;exact this
  have D:=af (ae u (DO (fun h=>L h.1)));go_enter func25,ntmps25;go_wp2_with fail;refine(C _).mono ?_;rintro e x1⟨rfl,j⟩;have m:=af j;clear j C;go_wp2_with fail;refine(M _).mono ?_;rintro e x2⟨rfl,F⟩;subst F;clear M;go_wp2
  go_ret2
  exact D _ (ae m)
abbrev Rq:=cb (α:=Hq) 101 7 Ay
def uG{o:Obj}{a c e1 e2 s1 s2 n1 n2:Nat}{v1 v2:Value}{x1 x2:List Value}(b:w.ownsRow a e1 s1 v1 n1 x1)(h2:w.ownsRow c e2 s2 v2 n2 x2)(d:e1≠e2)(e:(w.alloc o).grownBy w' v2.ownBlock):w'.ownsRow a e1 s1 v1 n1 x1:=
 a1M (a0n b o) e (pp (a0n b o) (a0n h2 o) d)
def Qi:cB []=true:=by decide
def Mn(h:hdB x=false):gW x=none:=by
 unfold gW;rw[a0e (by rw[h];decide)]
def zV{q:List En×ByteArray×Nat}(b:zst s k=some q)(c:(sub s q.2.2).data.toList.take 4=[80,75,3,4])(a:gW (sub s q.2.2)=none):dD s=none:=
 DN b c (fun T h=>by rw[a]at h;cases h)
def KH{q:List En×ByteArray×Nat}(b:zst s k=some q)(e:cB q.1=true)(c:(sub s q.2.2).data.toList.take 4=[80,75,3,4])(a:gW (sub s q.2.2)=some T)(d:aT q.1 (enO (sub s q.2.2) T)≠0):dD s=none:=
 DN b c (fun T' h=>by
  rw[a]at h;cases h
  cases hb:cB (q.1++[enO (sub s q.2.2) T])
  . rfl
  . exact absurd ((gG e _).1 hb) d)
def ZrP(s:ByteArray)(w:World)(e:Ending)(w':World):Prop:=∃v c,e = .returned (.tuple #[v,dO c])/\(c=0->∃l,dD s=some l/\fS w' w.heap.size v l)/\(c≠0->dD s=none)
def DW(h:dD s=none)(c:Int)(a:c≠0):ZrP s w (.returned (.tuple #[.slice none 0 0,.iface 99 (.agg #[c])])) w':=
 ⟨.slice none 0 0,c,by unfold dO;rw[a0e a],fun b=>absurd b a,fun _=>h⟩
def DU(s:ByteArray)(m:Int)(w:World)(hs:s.size<=1048576)(hm:w.cell? ⟨2,0,none⟩=some (.int .i64 m))(hO:dQ w) :
  Calls prog 28 #[s] w fun e w'=>ZrP s w e w'/\Below w.heap.size w w':=by
 have co:=cE
 have ei:(s.size:Int)<=1048576:=by omega
 have HS:=af hs;have HM:=af hm;have d3:=af (World.block_lt_of_cell? _ _ hm);have CM:=af (fun W (hb:Below w.heap.size w W)=>(hb.cell (p:=⟨2,0,none⟩) d3).trans HM);have HO:=af (fun W (hb:Below w.heap.size w W)=>hO.later hb);obtain⟨i0,hi,d8,eb,b1⟩:=a0r Tryz.infoEnt;obtain⟨j0,hj,d5,d6,d7⟩:=a0r Tryz.infoHd;clear hs hm hO;go_enter func28,ntmps28;go_wp2_with fail
 go_loopw [4,5,6,7,8,9,10,11] (fun f h p _ _ _ _ _ wr=>∃(k:Nat) (q:List En×ByteArray×Nat),zst s k=some q/\cB q.1=true/\p = .int .i64 (q.2.2:Nat)/\fS wr w.heap.size f q.1/\Rq wr w.heap.size h (hqL s k)/\Below w.heap.size w wr) (fun _ _ p _ _ _ _ _ _=>s.size-(intOf p).toNat)
 case atStart=>exact⟨0,([],⟨#[]⟩,0),rfl,Qi,rfl,cb.nil _ _,cb.nil _ _,a0c _ _⟩
 case round=>
  obtain⟨k,q,hz,ab,rfl,hf,l,U⟩:=hrel;have K:=iM hz;have d2:k<=6:=by have:=(ep ab).2;omega
  have eg:(q.2.2:Int)<=(s.size:Int):=by have:=K.2.1;omega
  have CX:Hid (∀W,Calls prog 56 #[.string (sub s q.2.2),.string ⟨#[80,75,3,4]⟩] W fun e w'=>e = .returned (.bool (decide ((sub s q.2.2).data.toList.take 4=[80,75,3,4])))/\w'=W):=fun W=>by
   have h:=Tryz.strings_HasPrefix (sub s q.2.2) (⟨#[80,75,3,4]⟩:ByteArray) W;rw[←Mx];exact h
  have HE:Hid (s.extract q.2.2 s.size=sub s q.2.2):=rfl;have I:=af hz;have bb:=af ab;have HF:=af hf;have HH:=af l;have P:=af U;have F:=af K
  have a8:(sub s q.2.2).size<=1048576:=by rw[i7];have:=ae HS;omega
  by_cases N:(sub s q.2.2).data.toList.take 4=[80,75,3,4]
  .
   have a2:=af N;rw[a0y N]at CX;have CH:=af (fun W=>ru (sub s q.2.2) W a8);have Q:=af a8;clear N hf l U K hz ab a8;go_wp2_with fail;refine(CX _).mono ?_;rintro e x0⟨rfl,b0⟩;subst b0;clear CX;go_wp2_with fail;refine(CH _).mono ?_;rintro e x1⟨hp,a4⟩;have ac:=af (aj P a4);have ao:=af (HF.later a4 (a0a _));have a1:=af (HH.later a4 (a0a _));have R:Hid (∀j,Value.ownBlock u4=some j->j<x1.heap.size):=fun j hj=>(a0z ao j hj).2;have S:Hid (∀j,Value.ownBlock u5=some j->j<x1.heap.size):=fun j hj=>(a0z a1 j hj).2;clear a4 CH HF HH P;rcases hp with⟨hd,rfl⟩|⟨hd,a,b,c,d,f,n,t,ho,rfl⟩
   .
    obtain⟨ds,d1,bk⟩:=kP.1 hd;have cp:=lp (s:=sub s q.2.2) (by omega);have cc:=zW (s:=sub s q.2.2) bk;have l1:=jk (sub s q.2.2).data.toList 8;have l2:=eW (sub s q.2.2).data.toList 10;have l3:=eW (sub s q.2.2).data.toList 14;have l4:=eW (sub s q.2.2).data.toList 18;have l5:=eW (sub s q.2.2).data.toList 22;have l6:=jk (sub s q.2.2).data.toList 26;have dl:=ae Q;have E:=af (fun W (hb:Below w.heap.size w W)=>sy (wd (sub s q.2.2).data.toList 8 2) (wd (sub s q.2.2).data.toList 10 4) (wd (sub s q.2.2).data.toList 14 4) (wd (sub s q.2.2).data.toList 18 4) (wd (sub s q.2.2).data.toList 22 4) (nmB (sub s q.2.2)) (bdB (sub s q.2.2)) m W (by omega) l1 l2 l3 l5 (by omega) (CM _ hb) (HO _ hb));have b2:=af (fun(hen:enB (wd (sub s q.2.2).data.toList 8 2) (wd (sub s q.2.2).data.toList 10 4) (wd (sub s q.2.2).data.toList 14 4) (wd (sub s q.2.2).data.toList 22 4) (nmB (sub s q.2.2)) (bdB (sub s q.2.2))=true) W=>sg (wd (sub s q.2.2).data.toList 8 2) (wd (sub s q.2.2).data.toList 10 4) (wd (sub s q.2.2).data.toList 14 4) (wd (sub s q.2.2).data.toList 18 4) (wd (sub s q.2.2).data.toList 22 4) (nmB (sub s q.2.2)) (bdB (sub s q.2.2)) W l1 l2 l3 l4 l5 (by omega) (by have:=Lo hen;omega));have bd:(cM (wd (sub s q.2.2).data.toList 8 2) (wd (sub s q.2.2).data.toList 10 4) (wd (sub s q.2.2).data.toList 14 4) (wd (sub s q.2.2).data.toList 18 4) (wd (sub s q.2.2).data.toList 22 4) (nmB (sub s q.2.2))++bdB (sub s q.2.2)).size=oh (sub s q.2.2):=by
     unfold cM oh;rw[a0G,a0G,a0G,ft,cp,cc];show 4+26+_+_=_;omega
    have b8:oh (sub s q.2.2)<=(sub s q.2.2).size/\30<=oh (sub s q.2.2):=⟨bk,by unfold oh;omega⟩;have HY:Hid (enB (wd (sub s q.2.2).data.toList 8 2) (wd (sub s q.2.2).data.toList 10 4) (wd (sub s q.2.2).data.toList 14 4) (wd (sub s q.2.2).data.toList 22 4) (nmB (sub s q.2.2)) (bdB (sub s q.2.2))=true->∃T,gW (sub s q.2.2)=some T/\enO (sub s q.2.2) T=⟨nmB (sub s q.2.2),zz (gOk (wd (sub s q.2.2).data.toList 10 4:Nat)) (gY (wd (sub s q.2.2).data.toList 10 4:Nat)),zz (gOk (wd (sub s q.2.2).data.toList 10 4:Nat)) (gM (wd (sub s q.2.2).data.toList 10 4:Nat)),zz (gOk (wd (sub s q.2.2).data.toList 10 4:Nat)) (gD (wd (sub s q.2.2).data.toList 10 4:Nat)),zz (gOk (wd (sub s q.2.2).data.toList 10 4:Nat)) (gH (wd (sub s q.2.2).data.toList 10 4:Nat)),zz (gOk (wd (sub s q.2.2).data.toList 10 4:Nat)) (gI (wd (sub s q.2.2).data.toList 10 4:Nat)),zz (gOk (wd (sub s q.2.2).data.toList 10 4:Nat)) (gS (wd (sub s q.2.2).data.toList 10 4:Nat)),uxT (wd (sub s q.2.2).data.toList 8 2) (bdB (sub s q.2.2))⟩):=fun h=>by
     have:=Ml hd;rw[a0d h]at this;obtain⟨T,a,b,_⟩:=Fy this;exact⟨T,a,b⟩
    have HN:Hid (enB (wd (sub s q.2.2).data.toList 8 2) (wd (sub s q.2.2).data.toList 10 4) (wd (sub s q.2.2).data.toList 14 4) (wd (sub s q.2.2).data.toList 22 4) (nmB (sub s q.2.2)) (bdB (sub s q.2.2))=false->gW (sub s q.2.2)=none):=fun h=>by
     have:=Ml hd;rw[a0e (by rw[h];decide)]at this;exact Nc this
    have c9:Hid (uq s k=⟨wd (sub s q.2.2).data.toList 8 2,wd (sub s q.2.2).data.toList 10 4,wd (sub s q.2.2).data.toList 14 4,wd (sub s q.2.2).data.toList 18 4,wd (sub s q.2.2).data.toList 22 4,nmB (sub s q.2.2),q.2.2⟩):=yY I;have b9:(nmB (sub s q.2.2)).size<=1048576:=by omega
    have d0:(uxT (wd (sub s q.2.2).data.toList 8 2) (bdB (sub s q.2.2))).size<=1048576:=DD (by omega);have cs:(sub s q.2.2).size=s.size-q.2.2:=i7 _ _;unfold enE at E;generalize cM (wd (sub s q.2.2).data.toList 8 2) (wd (sub s q.2.2).data.toList 10 4) (wd (sub s q.2.2).data.toList 14 4) (wd (sub s q.2.2).data.toList 18 4) (wd (sub s q.2.2).data.toList 22 4) (nmB (sub s q.2.2))++bdB (sub s q.2.2)=PB at *
    generalize enB (wd (sub s q.2.2).data.toList 8 2) (wd (sub s q.2.2).data.toList 10 4) (wd (sub s q.2.2).data.toList 14 4) (wd (sub s q.2.2).data.toList 22 4) (nmB (sub s q.2.2)) (bdB (sub s q.2.2))=EB at *
    generalize uxT (wd (sub s q.2.2).data.toList 8 2) (bdB (sub s q.2.2))=UT at *
    generalize zz (gOk (wd (sub s q.2.2).data.toList 10 4:Nat)) (gY (wd (sub s q.2.2).data.toList 10 4:Nat))=yy at *
    generalize zz (gOk (wd (sub s q.2.2).data.toList 10 4:Nat)) (gM (wd (sub s q.2.2).data.toList 10 4:Nat))=mo at *
    generalize zz (gOk (wd (sub s q.2.2).data.toList 10 4:Nat)) (gD (wd (sub s q.2.2).data.toList 10 4:Nat))=dd at *
    generalize zz (gOk (wd (sub s q.2.2).data.toList 10 4:Nat)) (gH (wd (sub s q.2.2).data.toList 10 4:Nat))=l at *
    generalize zz (gOk (wd (sub s q.2.2).data.toList 10 4:Nat)) (gI (wd (sub s q.2.2).data.toList 10 4:Nat))=mi at *
    generalize zz (gOk (wd (sub s q.2.2).data.toList 10 4:Nat)) (gS (wd (sub s q.2.2).data.toList 10 4:Nat))=ss at *
    generalize bdB (sub s q.2.2)=BD at *
    generalize nmB (sub s q.2.2)=NM at *
    generalize wd (sub s q.2.2).data.toList 8 2=HW at *
    generalize wd (sub s q.2.2).data.toList 10 4=ST at *
    generalize wd (sub s q.2.2).data.toList 14 4=CR at *
    generalize wd (sub s q.2.2).data.toList 18 4=PK at *
    generalize wd (sub s q.2.2).data.toList 22 4=LN at *
    generalize wd (sub s q.2.2).data.toList 26 2=NL at *
    obtain⟨LO,hLO⟩:∃x,oh (sub s q.2.2)=x:=⟨_,rfl⟩;rw[hLO]at bd b8;have eh:(q.2.2:Int)+(PB.size:Int)<=(s.size:Int):=by omega
    have ed:30<=(PB.size:Int):=by omega
    have c6:=af (hLO.trans bd.symm);clear hd ds d1 bk cp cc l1 l2 l3 l4 l5 l6 dl bd b8 hLO cs;have G:=af ((a0c x1.heap.size x1).alloc (a0a _) (.cells #[HW,ST,CR,PK,LN,NM,BD] 65));have R2:=af (aJ x1 #[HW,ST,CR,PK,LN,NM,BD] 65);go_wp2_with fail;refine(E _ (aj ac G)).mono ?_;rintro e x2⟨rfl,D⟩;have J:=aj G D;have L:=af (aj ac J);have b3:=af (ao.later J (a0a _));have b5:=af (a1.later J (a0a _));have R3:=af (R2.later D R2.1);obtain⟨HB,hHB⟩:∃x,x1.heap.size=x:=⟨_,rfl⟩;rw[hHB]at R3 R S;rw[hHB];clear D J G R2 hHB E ac ao a1;cases EB
    .
     have o:=af (zV I a2 (HN rfl));rw[show(if false=true then Value.tuple #[.agg #[NM,yy,mo,dd,l,mi,ss,UT],.bool true]else .tuple #[noE,.bool false]) = .tuple #[.agg (),.bool false]from rfl];have y:=af (aj L ((a0c x2.heap.size x2).alloc (a0a _) (.cells () 34)));go_wp2
     go_ret2
     exact⟨DW o 1 (by decide),y⟩
    .
     rw[show(if true=true then Value.tuple #[.agg #[NM,yy,mo,dd,l,mi,ss,UT],.bool true]else .tuple #[noE,.bool false]) = .tuple #[.agg #[NM,yy,mo,dd,l,mi,ss,UT],.bool true]from rfl];have al:Hid (∃T,gW (sub s q.2.2)=some T/\enO (sub s q.2.2) T=⟨NM,yy,mo,dd,l,mi,ss,UT⟩):=ae HY rfl;have c8:Hid (∀W,_):=ae b2 rfl;have hA:=(a0c x2.heap.size x2).alloc (a0a _) (.cells #[NM,yy,mo,dd,l,mi,ss,UT] 34);have y:=af (aj L hA);have a0:=af (b3.later hA (a0a _));have b6:=af (b5.later hA (a0a _));have R4:=af (R3.later hA R3.1);have Q4:=af (aJ x2 #[NM,yy,mo,dd,l,mi,ss,UT] 34);obtain⟨fa,fc,bl,_,_⟩:=a0.formN F.1;have dv:HB<x2.heap.size:=R3.1;have ba:=af (np fa fc q.1 k F.1 ⟨NM,yy,mo,dd,l,mi,ss,UT⟩ m _ (gQ F.1 (by have:=ae a0;rw[bl]at this;exact this)) (by omega) (fun i hi=>by have:=(ym I i hi).1;omega) b9 (by show(UT.size:Int)<=_;omega) (CM _ (ae y)));rw[←bl]at ba;clear hA HY HN b2 b3 b5 R3 bl L b9 d0;go_wp2_with fail;refine ba.mono ?_;rintro e x4⟨rfl,M⟩;have ad:=af (aj y M);have b4:=af (a0.later M (a0a _));have b7:=af (b6.later M (a0a _));have R5:=af (R4.later M R4.1);have Q5:=af (Q4.later M Q4.1);obtain⟨QB,hQBe⟩:∃x,x2.heap.size=x:=⟨_,rfl⟩;rw[hQBe]at Q5 dv;rw[hQBe];clear M y a0 b6 R4 Q4 ba hQBe;by_cases H:aT q.1 ⟨NM,yy,mo,dd,l,mi,ss,UT⟩=0
     .
      rw[show dO (aT q.1 ⟨NM,yy,mo,dd,l,mi,ss,UT⟩) = .nilIface by rw[H];rfl];have c7:Hid (∃T,zst s (k+1)=some (q.1++[⟨NM,yy,mo,dd,l,mi,ss,UT⟩],T,q.2.2+PB.size)/\cB (q.1++[⟨NM,yy,mo,dd,l,mi,ss,UT⟩])=true):=by
       obtain⟨T,hT,hE⟩:=ae al;have h2:=qD I hT;rw[hE,ae c6]at h2;exact⟨_,h2,(gG bb _).2 H⟩
      have A:Hid ((k+1<=maxLen/\(k+1)*80<=140737488355328)/\(k+1)*64<=140737488355328):=by
       show(_/\_)/\_;unfold maxLen;omega
      have a6:=cb.own F.1 b4;have ch:=cb.own (tu s k) b7;have V:=ad.size;have pA:=Q5.cells (n:=8) rfl;clear H al a2 Q HE;go_wp2_with (first
       | (at_builtin;refine a0v _ rfl _ _ 27 rfl w.heap.size 34 i0 (.agg ()) 8 80 a1S hi d8 eb b1 rfl (by decide) _ _ _ rfl (a0n a6 _) ⟨x4.heap.size,0,none⟩ 1 1 (jw ⟨NM,yy,mo,dd,l,mi,ss,UT⟩) rfl rfl (jH x4 _ _) (iS _) A.1.1 A.1.2 (au V _) ?_;intro v5 x5 a9 z Z;clear Z;have R6:=af (Blk.grown (Blk.later R5 cC R5.1) z (fun e=>absurd (ae R _ e.symm) (a2P _)));have rA:=R6.cells (n:=7) rfl;have a7:=uG ch a6 (by decide) z;have bc:=aH (v:=u4) z a6 (a0a _) V ad;have Y:=bc.size)
       | (at_builtin;refine a0v _ rfl _ _ 92 rfl w.heap.size 101 j0 (.agg #[.int .i64 0,.int .i64 0,.int .i64 0,.int .i64 0,.int .i64 0,.string ⟨#[]⟩,.int .i64 0]) 7 64 underlying92 hj d5 d6 d7 rfl (by decide) _ _ _ rfl (a0n a7 _) ⟨x5.heap.size,0,none⟩ 1 1 (Ay ⟨HW,ST,CR,PK,LN,NM,q.2.2⟩) rfl rfl (jH x5 _ _) (Lr _) A.1.1 A.2 (au Y _) ?_;intro v6 x6 aa r Z;clear Z;have R7:=af (Blk.grown (Blk.later R6 cC R6.1) r (fun e=>absurd (ae S _ e.symm) (a2P _)));have rA:=R7.cells (n:=7) rfl;have cg:=uG a9 a7 (by decide) r;have ca:=aH (v:=u5) r a7 (a0a _) Y bc))
      refine(c8 _).mono ?_;rintro e x7⟨rfl,a5⟩;have cr:fS x6 w.heap.size v5 (q.1++[⟨NM,yy,mo,dd,l,mi,ss,UT⟩]):=cb.snoc F.1 cg;have be:Rq x6 w.heap.size v6 (hqL s k++[uq s k]):=cb.snoc (tu s k) (by rw[ae c9];exact aa);rw[←LU]at be;have cy:=af (cr.later a5 (a0a _));have c5:=af (be.later a5 (a0a _));have cv:=af (aj ca a5);clear a9 aa z r cr be a5 ca bc V Y a6 cg ch a7 rA R5 R6 R7 Q5 pA b4 b7 ad;go_wp2;go_roundw
      case rel=>
       obtain⟨C,b1,D⟩:=ae c7;exact⟨k+1,_,b1,D,by go_num,cy,c5,cv⟩
      case measure=>simp[intOf];omega
     .
      rw[show dO (aT q.1 ⟨NM,yy,mo,dd,l,mi,ss,UT⟩) = .iface 99 (.agg #[.int .i64 (aT q.1 ⟨NM,yy,mo,dd,l,mi,ss,UT⟩)]) by unfold dO;rw[a0e H]];have o:Hid (dD s=none):=by
       obtain⟨T,hT,hE⟩:=ae al;exact KH I bb a2 hT (by rw[hE];exact H)
      have HC:=af H;clear H al;generalize aT q.1 ⟨NM,yy,mo,dd,l,mi,ss,UT⟩=c at *
      go_wp2
      go_ret2
      exact⟨DW o c HC,ad⟩
   .
    have o:=af (zV I a2 (Mn hd));obtain⟨o1,o2,o3,o4,o5,o6,o7⟩:=ho;have E:=af (fun W (hb:Below w.heap.size w W)=>sy a b c d f n t m W (by have:=ae Q;omega) o1 o2 o3 o5 (by have:=ae Q;omega) (CM _ hb) (HO _ hb));unfold enE at E;generalize enB a b c f n t=EB at *
    generalize uxT a t=UT at *
    generalize zz (gOk (b:Nat)) (gY (b:Nat))=yy at *
    generalize zz (gOk (b:Nat)) (gM (b:Nat))=mo at *
    generalize zz (gOk (b:Nat)) (gD (b:Nat))=dd at *
    generalize zz (gOk (b:Nat)) (gH (b:Nat))=l at *
    generalize zz (gOk (b:Nat)) (gI (b:Nat))=mi at *
    generalize zz (gOk (b:Nat)) (gS (b:Nat))=ss at *
    have G:=af (aj ac ((a0c x1.heap.size x1).alloc (a0a _) (.cells #[a,b,c,d,f,n,t] 65)));clear o1 o2 o3 o4 o5 o6 o7 ao a1 R S hd Q F HE;go_wp2_with fail;refine(E _ (ae G)).mono ?_;rintro e x2⟨rfl,D⟩;have L:=af (aj G D);clear D G E;cases EB
    .
     rw[show(if false=true then Value.tuple #[.agg #[n,yy,mo,dd,l,mi,ss,UT],.bool true]else .tuple #[noE,.bool false]) = .tuple #[.agg (),.bool false]from rfl];have y:=af (aj L ((a0c x2.heap.size x2).alloc (a0a _) (.cells () 34)));go_wp2
     go_ret2
     exact⟨DW o 1 (by decide),y⟩
    .
     rw[show(if true=true then Value.tuple #[.agg #[n,yy,mo,dd,l,mi,ss,UT],.bool true]else .tuple #[noE,.bool false]) = .tuple #[.agg #[n,yy,mo,dd,l,mi,ss,UT],.bool true]from rfl];have y:=af (aj L ((a0c x2.heap.size x2).alloc (a0a _) (.cells #[n,yy,mo,dd,l,mi,ss,UT] 34)));go_wp2
     go_ret2
     exact⟨DW o 1 (by decide),y⟩
  .
   rw[a0m N]at CX;have a3:=af (Kh hz ab N);obtain⟨ha,hc,bs,_,_⟩:=l.formN (tu s k);have HW:Hid (wg wr ha k fun i=>Ay (uq s i)):=by
    rw[bs]at l;intro h0;obtain⟨g,e,hg,hc⟩:=vD Lq ⟨0,0,0,0,0,⟨#[]⟩,0⟩ (tu s k) l h0;exact⟨g,e,hg,fun i hi j u hu=>hc i hi j u (by show(Ay ((hqL s k).getD i _))[j]?=_;rw[Pb s k i _ hi];exact hu)⟩
   have O:Hid (∀W,Below wr.heap.size wr W->Ds 60 #[.slice ha k hc,.int .i64 (q.2.2:Nat)] W (.string (q.2.1++dy k q.2.1.size q.2.2))):=fun W hb=>by
    have:=DL ha hc k q.2.2 (uq s) W (HW.later hb) d2 (Pa HS I) (by omega);rw[BM I]at this;exact this
   rw[←bs]at O;rw[←ae HE]at CX a3;have q1:=fun d os=>Calls.regrown_of (w:=wr) (d:=d) (os:=os) (O _ (below_regrown wr d os));have z1:((q.2.2:Nat):Int).toNat=q.2.2:=a0o _;generalize q.2.1++dy k q.2.1.size q.2.2=EN at *
   obtain⟨X,hX⟩:∃x,s.extract q.2.2 s.size=x:=⟨_,rfl⟩;rw[hX]at CX a3;obtain⟨B,hB⟩:∃b,(X.toList == EN.toList)=b:=⟨_,rfl⟩;have HB:=af hB;clear hf l U K hz ab a8 N HH HW O bs I bb F HE;go_wp2_with fail;refine(CX _).mono ?_;rintro e x0⟨rfl,b0⟩;subst b0;clear CX;go_wp2_with fail;refine wp_region_quiet_below co (by kernel_rfl) ?_;cases B
   all_goals
    quiet_step (fail)
    quiet_step (fail)
    quiet_step (fail)
    quiet_step (fail)
    quiet_step (fail)
    quiet_step (exact q1 _ _)
    quiet_step (fail)
    refine a1F ?_;intro zw d4;obtain⟨⟨dq,osq⟩,cu⟩:=d4;have I:=below_regrown x0 dq osq;rw[←cu]at I;have T9:=af (aj P I);have O9:=af (HF.later I (a0a _));clear cu I q1
   .
    have HN:Hid (dD s=none):=by show _=_;rw[ae a3,a0e (fun e=>by have:=(yz HB).2 e;cases this)]
    go_wp2
    go_ret2
    exact⟨DW HN 1 (by decide),T9⟩
   .
    have HY:Hid (dD s=some q.1):=by show _=_;rw[ae a3,a0d ((yz HB).1 rfl)]
    go_wp2
    go_ret2
    exact⟨⟨_,0,rfl,fun _=>⟨_,HY,O9⟩,fun h=>absurd rfl h⟩,T9⟩
def oC.later{W:World}(a:oC w)(hb:Below w.heap.size w W):oC W:=(hb.cell (p:=⟨0,0,none⟩) (World.block_lt_of_cell? _ _ a)).trans a
def jP(s:ByteArray)(m:Int)(w:World)(y:s.size<=1048576)(x:w.cell? ⟨2,0,none⟩=some (.int .i64 m))(t:oC w)(r:dQ w) :
  Calls prog 10 #[s] w fun e w'=>(∃v,e = .returned (.tuple #[v,.bool (dD s).isSome])/\fS w' w.heap.size v ((dD s).getD []))/\Below w.heap.size w w':=by
 have C:=af (DU s m w y x r);have o:=af t;clear x t r y;go_enter func10,ntmps10;go_wp2_with fail;refine C.mono ?_;rintro e x1⟨⟨v,c,rfl,p,q⟩,f⟩;have d:=af f;have j:=af (nn c x1 (o.later f));have k:=af p;have n:=af q;clear p q f C o;generalize dO c=FV at *
 go_wp2_with fail;refine j.mono ?_;rintro e x2⟨rfl,a⟩;have g:=af (aj d a);by_cases i:c=0
 .
  obtain⟨l,u,b⟩:=ae k i;have h:=af u;have z:=af (b.later a (a0a _));subst i;clear u b a j k n d;go_wp2
  go_ret2
  exact⟨⟨_,by rw[ae h];rfl,by rw[ae h];exact z⟩,g⟩
 .
  have h:=af (ae n i);have hd:decide (c=0)=false:=a0m i;clear a j k n d;go_wp2
  go_ret2
  exact⟨⟨_,by rw[ae h];rfl,by rw[ae h];exact cb.nil _ _⟩,g⟩
def goes(e f:En):Prop:=ct e.n.data.toList f.n.data.toList=false
def Qx(l:List En)(x:ByteArray):lA l x=false<->∀e∈l,ct e.n.data.toList x.data.toList=false:=by
 unfold lA;rw[List.any_eq_false];simp
def dZ:List En->List En->Int×List En
 | [],l=>(0,l)
 | e :: r,l=>if aT l e=0 then dZ r (l++[e])else(aT l e,[])
def Qs{r l:List En}(h:cB l=true)(a:(dZ r l).1=0):cB (dZ r l).2=true:=by
 induction r generalizing l with
 | nil=>exact h
 | cons e r ih=>
  unfold dZ at a ⊢
  split at a
  . rename_i hc;rw[a0d hc];exact ih ((gG h e).2 hc) a
  . rename_i hc;exact absurd a hc
def Es{l:List En}(h:cB l=true)(a:k<l.length):je (l.getD k default)=true:=(ep h).1 k a
def edR(s:ByteArray)(d:List En->Int×List En):Value:=match dD s with
 | none=>.tuple #[.string ⟨#[]⟩,.int .i64 1]
 | some l=>if (d l).1=0 then .tuple #[.string (fe (d l).2),.int .i64 0]else .tuple #[s,.int .i64 (d l).1]
def Gf(h:dD s=none)(d:List En->Int×List En):edR s d = .tuple #[.string ⟨#[]⟩,.int .i64 1]:=by unfold edR;rw[h]
def yM{l r:List En}{d:List En->Int×List En}(h:dD s=some l)(a:d l=(0,r)):edR s d = .tuple #[.string (fe r),.int .i64 0]:=by unfold edR;rw[h];simp[a]
def Ge{l r:List En}{d:List En->Int×List En}{c:Int}(h:dD s=some l)(a:d l=(c,r))(b:c≠0):edR s d = .tuple #[s,c]:=by unfold edR;rw[h];simp[a,b]
def yL(s:ByteArray)(d:List En->Int×List En):∃t c,edR s d = .tuple #[.string t,.int .i64 c]:=by
 unfold edR
 split
 . exact⟨_,_,rfl⟩
 . split<;>exact⟨_,_,rfl⟩
def oc{l:List En}(h:dD s=some l):cB l=true:=by
 obtain⟨_,q,_,rfl,a,_⟩:=rT h;exact a
def jK{l:List En}(h:cB l=true):∀i,i<l.length->(l.getD i default).n.size<=1048576/\((l.getD i default).t.size:Int)<=9223372036854775807:=by
 intro i a;obtain⟨f1,f2,_⟩:=cR (n:=(l.getD i default).n) (t:=(l.getD i default).t) (Es h a);exact⟨by omega,by omega⟩
def GV{l:List En}{n:Nat}(h:cB l=true)(a:l.length=n):fe l=(aF l).1++(aF l).2++dy n (aF l).2.size (aF l).1.size:=by unfold fe;rw[a0d h,a]
def qR(l:List En):∀u∈l.flatMap jw,u.oneCell'=true:=fun u a=>by
 obtain⟨e,_,h⟩:=List.mem_flatMap.1 a;exact iS e u h
def Pp{e:En}(k:je e=true)(r:ByteArray):gW (loE e++r)=some e.t/\enO (loE e++r) e.t=e/\(∀p,ctO (loE e++r) p=heE e p)/\oh (loE e++r)=(loE e).size:=by
 have c:ib e.n e.y e.mo e.d e.h e.mi e.s e.t=true:=k;obtain⟨f1,f2,f3⟩:=cR c;obtain⟨g1,g2,g3,g4⟩:=nf f3;have e2:(((stN e.y e.mo e.d e.h e.mi e.s).toNat:Nat):Int)=stN e.y e.mo e.d e.h e.mi e.s:=by rw[←g4];simp[stI,f3]
 have l:=(sD (n:=e.n) (t:=e.t) g3 (by omega) (by omega)).1;obtain⟨m,f,a,g,i,j,o,b,q⟩:=BO (n:=e.n) (t:=e.t) g3 (by omega) (by omega) r;obtain⟨s0,s1,s2,s3,s4,s5⟩:=P3 f3;have el:loE e=cG e.n e.t (stN e.y e.mo e.d e.h e.mi e.s).toNat:=rfl;rw[el];refine⟨?_,?_,fun p=>?_,?_⟩
 . unfold gW;rw[a0d m,f,q,NU e.t f2];simp only;rw[a0d];unfold OP Er;rw[g,j,a,b,e2,s0,s1,s2,s3,s4,s5,c];simp
 . unfold enO;rw[b,a,e2,s0,s1,s2,s3,s4,s5]
 . unfold ctO heE eN;rw[f,a,g,i,j,b]
 . unfold oh;rw[o,i,l]
def GL(a b:ByteArray):sub (a++b) a.size=b:=dm (by
 rw[gm];simp only[a2a,a1A];exact List.drop_left' (by simp))
theorem yk(l:List En)(k:Nat):∀j,k<=j->j<=l.length->∃x,(aF (l.take j)).1=(aF (l.take k)).1++x
 | 0,h,_=>by
  have:k=0:=by omega
  subst this;exact⟨⟨#[]⟩,dm (by simp)⟩
 | j+1,h,hj=>by
  by_cases e:k=j+1
  . subst e;exact⟨⟨#[]⟩,dm (by simp)⟩
  . obtain⟨x,a⟩:=yk l k j (by omega) (by omega);refine⟨x++loE (l.getD j default),?_⟩;rw[gJ l j (by omega)];show(aF (l.take j)).1++loE _=_;rw[a,a2A]
def Oc{l:List En}(h:cB l=true)(b:k<l.length):∃r,fe l=(aF (l.take k)).1++(loE (l.getD k default)++r):=by
 obtain⟨x,a⟩:=yk l (k+1) l.length (by omega) (a0a _);rw[a2w,gJ l k b]at a;have a:(aF l).1=(aF (l.take k)).1++loE (l.getD k default)++x:=a;refine⟨x++((aF l).2++dy l.length (aF l).2.size (aF l).1.size),?_⟩;unfold fe;rw[a0d h,a2A];generalize (aF l).2++dy l.length (aF l).2.size (aF l).1.size=T;rw[a];simp only[a2A]
theorem DX{l:List En}(h:cB l=true):∀k,k<=l.length->zst (fe l) k=some (l.take k,(aF (l.take k)).2,(aF (l.take k)).1.size)
 | 0,_=>rfl
 | k+1,hk=>by
  have ih:=DX h k (by omega);obtain⟨r,f⟩:=Oc h (by omega:k<l.length);have a:sub (fe l) (aF (l.take k)).1.size=loE (l.getD k default)++r:=by rw[f,GL]
  obtain⟨b,c,d,e⟩:=Pp ((ep h).1 k (by omega)) r;have:=qD (T:=(l.getD k default).t) ih (by show gW (sub _ _)=_;rw[a];exact b);rw[this];simp only[a,c,d,e];rw[gJ l k (by omega),pm l default k (by omega)];simp only[Qh,a0G]
def DV{l:List En}(h:cB l=true):dD (fe l)=some l:=by
 have a:=DX h l.length (a0a _);rw[a2w]at a;refine DR a h ?_;show sub (fe l) (aF l).1.size=(aF l).2++dy l.length (aF l).2.size (aF l).1.size;unfold fe;rw[a0d h,a2A,GL]
def Ob{l:List En}(h:cB l=true):(fe l).size=(aF l).1.size+(aF l).2.size+22:=by
 unfold fe;rw[a0d h,a0G,a0G,nE]
def pr(l:List En):(fe l).size<=4000:=by
 by_cases h:cB l=true
 . rw[Ob h];obtain⟨a,h2⟩:=ep h;have:=ly l a l.length (a0a _);rw[a2w]at this;omega
 . unfold fe;rw[a0e h];exact a0g _
def Kp{l:List En}{e:En}(h:aT l e=0):dZ [e] l=(0,l++[e]):=by unfold dZ;rw[a0d h];rfl
def Kq{l:List En}{e:En}(h:aT l e≠0):dZ [e] l=(aT l e,[]):=by unfold dZ;rw[a0e h]
def vA(w:World)(base d:Nat)(hb:base<=w.heap.size)(hd:d<256):bp (w.alloc (.cells #[.int .u8 (d:Int)] 5)) base (.slice w.heap.size 1 1) [UInt8.ofNat d]:=by
 have h:(w.alloc (.cells #[.int .u8 (d:Int)] 5)).ownsRow base 5 1 (.slice w.heap.size 1 1) 1 [.int .u8 (d:Int)]:=a0U w #[.int .u8 (d:Int)] 1 hb (by unfold maxLen;omega) rfl;have e:((UInt8.ofNat d).toNat:Int)=(d:Int):=by rw[a3a];omega
 show World.ownsRow _ _ _ _ _ _ (dc [UInt8.ofNat d]);rw[show dc [UInt8.ofNat d]=[.int .u8 ((UInt8.ofNat d).toNat:Int)]from rfl,e];exact h
def Ki(b:Nat)(w:World)(d:Int×List En)(e:Ending)(w':World):Prop:=(∃v,e = .returned (.tuple #[v,dO d.1])/\(∃a n c,v = .slice a n c)/\(d.1=0->fS w' b v d.2))/\Below b w w'
def OI{d:Int×List En}{c:Int}(h:d.1=c)(a:c≠0)(hb:Below b w w'):Ki b w d (.returned (.tuple #[.slice none 0 0,.iface 99 (.agg #[c])])) w':=by
 subst h;exact⟨⟨_,by unfold dO;rw[a0e a],⟨_,_,_,rfl⟩,fun e=>absurd e a⟩,hb⟩
