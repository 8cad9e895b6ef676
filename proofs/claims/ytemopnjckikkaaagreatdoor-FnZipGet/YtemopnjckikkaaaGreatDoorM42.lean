/- Texts. -/
import Derived.Test.YtemopnjckikkaaaGreatDoorM40
import Derived.Test.YtemopnjckikkaaaGreatDoorM41
set_option linter.all false
set_option maxRecDepth 100000
set_option maxHeartbeats 12800000
namespace Go.Proofs.YtemopnjckikkaaaGreatDoor
open Go.Proofs.Tryz
open Corb
variable {T c s x:ByteArray}{i k m:Nat}{u:List UInt8}{w:World}
def sub(s:ByteArray)(p:Nat):ByteArray:=s.extract p s.size
def gg(s:ByteArray)(p:Nat):(sub s p).data.toList=s.data.toList.drop p:=by
 rw[sub,ext_list];exact a0t (by simp)
def iX(s:ByteArray)(p:Nat):(sub s p).size=s.size-p:=by
 rw[sub,a1Y];omega
def nZ(s:ByteArray):Nat:=30+wd s.data.toList 26 2+wd s.data.toList 18 4
def enO(s T:ByteArray):En:=⟨nmB s,gY (wd s.data.toList 10 4:Nat),gM (wd s.data.toList 10 4:Nat),gD (wd s.data.toList 10 4:Nat),gH (wd s.data.toList 10 4:Nat),gI (wd s.data.toList 10 4:Nat),gS (wd s.data.toList 10 4:Nat),T⟩
def ctO(s:ByteArray)(p:Nat):ByteArray:=j6 (wd s.data.toList 8 2) (wd s.data.toList 10 4) (wd s.data.toList 14 4) (wd s.data.toList 18 4) (wd s.data.toList 22 4) (nmB s) p
def li(h:gT s=some T):hdB s=true/\jb (enO s T)=true:=by
 unfold gT at h
 split at h
 .
  rename_i h0;refine⟨h0,?_⟩
  split at h
  .
   split at h
   .
    rename_i h2;cases h
    simp only[Oo,a0k]at h2;exact h2.2.2
   . cases h
  . cases h
 . cases h
def zst(s:ByteArray):Nat->Option (List En×ByteArray×Nat)
 | 0=>some ([],⟨#[]⟩,0)
 | i+1=>(zst s i).bind fun q=>(gT (sub s q.2.2)).map fun T=>(q.1++[enO (sub s q.2.2) T],q.2.1++ctO (sub s q.2.2) q.2.2,q.2.2+nZ (sub s q.2.2))
def qp{q:List En×ByteArray×Nat}(h:zst s i=some q)(a:gT (sub s q.2.2)=some T) :
  zst s (i+1)=some (q.1++[enO (sub s q.2.2) T],q.2.1++ctO (sub s q.2.2) q.2.2,q.2.2+nZ (sub s q.2.2)):=by
 rw[zst,h,a0e,a,a3f]
def QY{q:List En×ByteArray×Nat}(h:zst s i=some q)(a:gT (sub s q.2.2)=none):zst s (i+1)=none:=by
 rw[zst,h,a0e,a,Option.map_none]
theorem DC{s:ByteArray}{i:Nat}(h:zst s i=none):∀m,i<=m->zst s m=none
 | 0,hm=>by
  have:i=0:=by omega
  rw[←this];exact h
 | m+1,hm=>by
  by_cases e:i=m+1
  . rw[←e];exact h
  . rw[zst,DC h m (by omega)];rfl
def gZ{q:List En×ByteArray×Nat}(h:zst s (i+1)=some q):∃r T,zst s i=some r/\gT (sub s r.2.2)=some T/\q=(r.1++[enO (sub s r.2.2) T],r.2.1++ctO (sub s r.2.2) r.2.2,r.2.2+nZ (sub s r.2.2)):=by
 rw[zst]at h;rcases b:zst s i with _|r
 . rw[b]at h;cases h
 .
  rw[b,a0e]at h;rcases a:gT (sub s r.2.2)with _|T
  . rw[a]at h;cases h
  .
   rw[a,a3f]at h;cases h
   exact⟨r,T,rfl,a,rfl⟩
def uT(h:gT s=some T):nZ s<=s.size:=(kK.1 (li h).1).2.2
theorem iJ{s:ByteArray} : ∀{i:Nat} {q:List En×ByteArray×Nat},zst s i=some q->q.1.length=i/\q.2.2<=s.size/\(∀e∈q.1,jb e=true)/\(q.2.1=⟨#[]⟩∨q.2.1.data.toList.take 4=[80,75,1,2])/\q.2.1.size<=100*i
 | 0,q,h=>by cases h;exact⟨rfl,a0f _,(fun e a=>by cases a),.inl rfl,a0f _⟩
 | i+1,q,h=>by
  obtain⟨r,T,c,h2,rfl⟩:=gZ h;obtain⟨a1,a2,a3,a4,a5⟩:=iJ c;have f:=uT h2;rw[iX]at f;have b:=(li h2).2;have g:=(cR (n:=(enO (sub s r.2.2) T).n) (t:=(enO (sub s r.2.2) T).t) b).1;have d:(ctO (sub s r.2.2) r.2.2).size=46+(nmB (sub s r.2.2)).size:=im _ _ _ _ _ _ _;have j:(nmB (sub s r.2.2)).size<=43:=g;refine⟨by simp[a1],?_,?_,?_,?_⟩
  . show r.2.2+nZ (sub s r.2.2)<=s.size;omega
  .
   intro e a;rcases a0X.1 a with a|a
   . exact a3 e a
   . rw[a02.1 a];exact b
  .
   refine .inr ?_;show(r.2.1++ctO (sub s r.2.2) r.2.2).data.toList.take 4=_;have e0:(ctO (sub s r.2.2) r.2.2).data.toList.take 4=[80,75,1,2]:=by simp[ctO,j6]
   rcases a4 with e|e
   . rw[e];simpa using e0
   .
    have:4<=r.2.1.data.toList.length:=by
     have:=congrArg List.length e;rw[a0w]at this;simp at this ⊢;omega
    simp only[a1V,a1s];rw[a1F this];exact e
  . show(r.2.1++ctO (sub s r.2.2) r.2.2).size<=_;rw[a0D,d];omega
theorem lw{s:ByteArray}{k:Nat} : ∀{m:Nat} {q:List En×ByteArray×Nat},zst s m=some q->k<=m->∃r,zst s k=some r/\r.1=q.1.take k
 | 0,q,h,hk=>by
  have:k=0:=by omega
  subst this;exact⟨q,h,by cases h;rfl⟩
 | m+1,q,h,hk=>by
  by_cases e:k=m+1
  . subst e;exact⟨q,h,by rw[a0t (by rw[(iJ h).1];exact a0a _)]⟩
  . obtain⟨r,T,a,h2,rfl⟩:=gZ h;obtain⟨d,b,c⟩:=lw a (by omega:k<=m);refine⟨d,b,?_⟩;rw[c];show _=(r.1++_).take k;rw[a1F (by rw[(iJ a).1];omega)]
def si(h:gT s=some T):s.data.toList.take 4=[80,75,3,4]:=by
 obtain⟨a,h2,_⟩:=kK.1 (li h).1;simp only[mC,a0k,a0s]at h2;have b:30<=s.data.toList.length:=by simpa using a
 have:=(sK (l:=s.data.toList) (i:=0) (k:=4) (by omega) (by decide)).1 h2.1;rw[a1D]at this;rw[this];decide +kernel
def wK(k z p:Nat):(dz k z p).data.toList=[80,75,5,6]++(leS 2 0++(leS 2 0++(leS 2 k++(leS 2 k++(leS 4 z++(leS 4 p++leS 2 0)))))):=by
 simp[dz,ay]
def Gf(k z p:Nat)(a:c=⟨#[]⟩∨c.data.toList.take 4=[80,75,1,2]):(c++dz k z p).data.toList.take 4≠[80,75,3,4]:=by
 simp only[a1V,a1s];rcases a with e|e
 . rw[e,wK];simp
 .
  have:4<=c.data.toList.length:=by
   have:=congrArg List.length e;rw[a0w]at this;simp at this ⊢;omega
  rw[a1F this,e];decide
def KY{z p q:Nat}(h:sub s p=c++dz k z q)(e:k<65536):22<=s.size/\wd s.data.toList (s.size-12) 2=k:=by
 have d:s.size-p=c.size+22:=by rw[←iX,h,a0D,ny]
 refine⟨by omega,?_⟩;have h2:s.data.toList=(s.data.toList.take p++(c.data.toList++([80,75,5,6]++(leS 2 0++(leS 2 0++leS 2 k)))))++(leS 2 k++(leS 4 z++(leS 4 q++leS 2 0))):=by
  have:s.data.toList.drop p=(c++dz k z q).data.toList:=by rw[←gg,h]
  conv=>lhs;rw[←a1K p s.data.toList,this]
  simp only[a1V,a1s,wK,a0I]
 have a:(s.data.toList.take p++(c.data.toList++([80,75,5,6]++(leS 2 0++(leS 2 0++leS 2 k))))).length=s.size-12:=by
  simp only[a0i,a0w,aB];have e1:s.data.toList.length=s.size:=by simp
  have e2:c.data.toList.length=c.size:=by simp
  rw[e1,e2];simp;omega
 rw[h2];have:=FH (b:=leS 2 k++(leS 4 z++(leS 4 q++leS 2 0))) (i:=0) 2 a;rw[a09]at this;rw[this];exact gX _ (by omega)
def gj(s:ByteArray):Option (List En):=
 if 12<=s.size/\wd s.data.toList (s.size-12) 2<=6 then
  (match zst s (wd s.data.toList (s.size-12) 2)with
  | some q=>if dO q.1=true/\sub s q.2.2=q.2.1++dz (wd s.data.toList (s.size-12) 2) q.2.1.size q.2.2 then some q.1 else none
  | none=>none)
 else none
def rJ{l:List En}(h:gj s=some l):∃m q,zst s m=some q/\l=q.1/\dO q.1=true/\sub s q.2.2=q.2.1++dz m q.2.1.size q.2.2:=by
 unfold gj at h
 split at h
 .
  split at h
  .
   rename_i q hq
   split at h
   .
    rename_i h2;cases h
    exact⟨_,q,hq,rfl,h2.1,h2.2⟩
   . cases h
  . cases h
 . cases h
def Dv{q:List En×ByteArray×Nat}(h:zst s m=some q)(b:dO q.1=true)(a:sub s q.2.2=q.2.1++dz m q.2.1.size q.2.2):gj s=some q.1:=by
 have c:=(jz b).2;have d:=(iJ h).1;obtain⟨e1,e2⟩:=KY a (by omega);unfold gj;rw[a0c ⟨by omega,by omega⟩,e2,h];simp only;rw[a0c ⟨b,a⟩]
def xW{q r:List En×ByteArray×Nat}(d:zst s k=some q)(b:zst s m=some r)(c:sub s r.2.2=r.2.1++dz m r.2.1.size r.2.2):k<=m:=by
 rcases a1i m k with h|h
 .
  exfalso;obtain⟨x,e,_⟩:=lw d (by omega:m+1<=k);obtain⟨y,T,a,h2,_⟩:=gZ e;rw[b]at a;cases a
  have:=si h2;rw[c]at this;exact Gf _ _ _ (iJ b).2.2.2.1 this
 . exact h
def JS{q:List En×ByteArray×Nat}(b:zst s k=some q)(i:dO q.1=true)(f:(sub s q.2.2).data.toList.take 4≠[80,75,3,4]) :
  gj s=if sub s q.2.2=q.2.1++dz k q.2.1.size q.2.2 then some q.1 else none:=by
 split
 . rename_i he;exact Dv b i he
 .
  rename_i he;rcases h:gj s with _|l
  . rfl
  .
   exfalso;obtain⟨m,r,a,h2,j,c⟩:=rJ h;have d:=xW b a c;by_cases e:k=m
   .
    subst e;rw[b]at a;cases a
    exact he c
   .
    obtain⟨x,g,_⟩:=lw a (by omega:k+1<=m);obtain⟨y,T,y1,y2,_⟩:=gZ g;rw[b]at y1;cases y1
    exact f (si y2)
def Dt{q:List En×ByteArray×Nat}(c:zst s k=some q)(o:(sub s q.2.2).data.toList.take 4=[80,75,3,4])(p:∀T,gT (sub s q.2.2)=some T->dO (q.1++[enO (sub s q.2.2) T])=false):gj s=none:=by
 rcases h:gj s with _|l
 . rfl
 .
  exfalso;obtain⟨m,r,b,h2,f,g⟩:=rJ h;have u:=xW c b g;by_cases e:k=m
  .
   subst e;rw[c]at b;cases b
   rw[g]at o;exact Gf _ _ _ (iJ c).2.2.2.1 o
  .
   obtain⟨x,v,d⟩:=lw b (by omega:k+1<=m);obtain⟨y,T,y1,y2,y3⟩:=gZ v;rw[c]at y1;cases y1
   have j:=p T y2;have n:dO (r.1.take (k+1))=true:=by
    rw[rK]at f ⊢;intro i t;have a:i<k+1/\i<r.1.length:=by rw[a0w]at t;omega
    have:=f i a.2;unfold jk at this ⊢;rw[nT r.1 (k+1) i a.1,a2O,a1n (by omega)];exact this
   rw[←d,y3]at n;rw[n]at j;cases j
def hqO(x:ByteArray)(p:Nat):Hq:=⟨wd x.data.toList 8 2,wd x.data.toList 10 4,wd x.data.toList 14 4,wd x.data.toList 18 4,wd x.data.toList 22 4,nmB x,p⟩
def ud(s:ByteArray)(k:Nat):Hq:=match zst s k with
 | some q=>hqO (sub s q.2.2) q.2.2
 | none=>hqO ⟨#[]⟩ 0
def hqL(s:ByteArray)(n:Nat):List Hq:=(List.range n).map (ud s)
def td(s:ByteArray)(n:Nat):(hqL s n).length=n:=by simp[hqL]
def Lu(s:ByteArray)(n:Nat):hqL s (n+1)=hqL s n++[ud s n]:=by simp[hqL,a26]
def OE(s:ByteArray)(n i:Nat)(d:Hq)(h:i<n):(hqL s n).getD i d=ud s i:=by simp[hqL,List.getD,h]
def yL{q:List En×ByteArray×Nat}(h:zst s k=some q):ud s k=hqO (sub s q.2.2) q.2.2:=by
 unfold ud;rw[h]
theorem Bs{s:ByteArray} : ∀{k:Nat} {q:List En×ByteArray×Nat},zst s k=some q->eZ (ud s) k=q.2.1
 | 0,q,h=>by cases h;rfl
 | k+1,q,h=>by
  obtain⟨r,T,a,h2,rfl⟩:=gZ h;rw[eZ,Bs a,yL a];rfl
def OD(j:s.size<=1048576){q:List En×ByteArray×Nat}(h:zst s k=some q):∀i,i<k->okQ (ud s i):=by
 intro i f;obtain⟨x,e,_⟩:=lw h (by omega:i+1<=k);obtain⟨r,T,a,h2,_⟩:=gZ e;rw[yL a];have b:=(li h2).2;have c:=(cR (n:=(enO (sub s r.2.2) T).n) (t:=(enO (sub s r.2.2) T).t) b).1;have d:(nmB (sub s r.2.2)).size<=43:=c;have g:=(iJ a).2.1;exact⟨jg _ _,eU _ _,eU _ _,eU _ _,eU _ _,by show(nmB (sub s r.2.2)).size<=54;omega,by show r.2.2<4294967296;omega⟩
def GV(l:List En)(e:En)(i:Nat)(a:i<l.length):jk (l++[e]) i=jk l i:=by
 unfold jk;rw[a1F (by omega)]
 congr 1
 simp only[List.getD];rw[List.getElem?_append_left a]
def wF(l:List En)(e:En):jk (l++[e]) l.length=bU l e:=by
 unfold jk;rw[a1F (a0a _),a0t (a0a _)]
 congr 1
 simp[List.getD]
def nV{l:List En}(h:dO l=true)(e:En):dO (l++[e])=true<->bU l e=0:=by
 rw[rK]at h ⊢;constructor
 . intro k;have:=k l.length (by simp);rw[wF]at this;exact this
 .
  intro k i b;by_cases a:i<l.length
  . rw[GV l e i a];exact h i a
  .
   have:i=l.length:=by simp at b;omega
   rw[this,wF];exact k
def Md(s:ByteArray):Lib.hasPrefix s.data.toList [80,75,3,4]=decide (s.data.toList.take 4=[80,75,3,4]):=by
 rw[a19,a0s];unfold Lib.hasPrefix;rw[List.isPrefixOf_iff_prefix,List.prefix_iff_eq_take];exact eq_comm
def Jz{v:List UInt8}{n:Nat}(h:30<=v.length)(a:mC v=true)(d:n=wd v 26 2):(ez (wd v 8 2) (wd v 10 4) (wd v 14 4) (wd v 18 4) (wd v 22 4) n).data.toList=(v.drop 4).take 26:=by
 have st:∀i k m,(v.drop i).take (k+m)=(v.drop i).take k++(v.drop (i+k)).take m:=fun i k m=>by rw[a2N,a1G]
 simp only[mC,a0k,a0s]at a;obtain⟨_,b,h2,c⟩:=a;have e1:=(sK (l:=v) (i:=4) (k:=2) (by omega) (by decide)).1 b;have e2:=(sK (l:=v) (i:=6) (k:=2) (by omega) (by decide)).1 h2;have e3:=(sK (l:=v) (i:=28) (k:=2) (by omega) (by decide)).1 c;have e:(ez (wd v 8 2) (wd v 10 4) (wd v 14 4) (wd v 18 4) (wd v 22 4) n).data.toList=leS 2 20++(leS 2 0++(leS 2 (wd v 8 2)++(leS 4 (wd v 10 4)++(leS 4 (wd v 14 4)++(leS 4 (wd v 18 4)++(leS 4 (wd v 22 4)++(leS 2 n++leS 2 0))))))):=by
  unfold ez ay;simp
 rw[e,d,←e1,←e2,iH (i:=8) (k:=2) (by omega),iH (i:=10) (k:=4) (by omega),iH (i:=14) (k:=4) (by omega),iH (i:=18) (k:=4) (by omega),iH (i:=22) (k:=4) (by omega),iH (i:=26) (k:=2) (by omega)]
 conv=>lhs;rhs;rhs;rhs;rhs;rhs;rhs;rhs;rhs;rw[e2,←e3]
 rw[←st 26 2 2,←st 22 4 _,←st 18 4 _,←st 14 4 _,←st 10 4 _,←st 8 2 _,←st 6 2 _,←st 4 2 _]
def sU(u v:List UInt8)(own:Nat):Prop:=30<=u.length/\46+wd u 28 2<=u.length/\30+wd u 28 2<=v.length/\((u.drop 6).take 26=(v.drop 4).take 26/\(u.drop 46).take (wd u 28 2)=(v.drop 30).take (wd u 28 2))/\(u.take 6=leS 4 33639248++leS 2 20/\(u.drop 32).take 14=List.replicate 10 0++leS 4 own)
def KE(own:Nat)(h:hdB x=true):(ctO x own).data.toList=(leS 4 33639248++leS 2 20)++((x.data.toList.drop 4).take 26++((List.replicate 10 0++leS 4 own)++(x.data.toList.drop 30).take (wd x.data.toList 26 2))):=by
 obtain⟨a,h2,c⟩:=kK.1 h;have b:30<=x.data.toList.length:=by simpa using a
 have e:=Jz b h2 (ll (s:=x) (by omega));have e0:leS 4 33639248=[80,75,1,2]:=by decide +kernel
 rw[e0,←e,←ve];unfold ctO j6 ay;simp[List.replicate]
def rk{v:List UInt8}(h:(u.drop 6).take 26=(v.drop 4).take 26):wd u 28 2=wd v 26 2:=by
 have e1:((u.drop 6).take 26).drop 22=(u.drop 28).take 4:=by rw[a3c,a1G]
 have e2:((v.drop 4).take 26).drop 22=(v.drop 26).take 4:=by rw[a3c,a1G]
 have e3:(u.drop 28).take 4=(v.drop 26).take 4:=by rw[←e1,←e2,h]
 have e4:(u.drop 28).take 2=(v.drop 26).take 2:=by
  have:=congrArg (List.take 2) e3;rwa[a2O,a2O]at this
 unfold wd;rw[e4]
def ON(own:Nat)(h:hdB x=true):sU u x.data.toList own<->u.take (46+wd x.data.toList 26 2)=(ctO x own).data.toList:=by
 obtain⟨g,h2,j⟩:=kK.1 h;have d:30+wd x.data.toList 26 2<=x.data.toList.length:=by
  have:x.data.toList.length=x.size:=by simp
  omega
 have st:∀i k m,(u.drop i).take (k+m)=(u.drop i).take k++(u.drop (i+k)).take m:=fun i k m=>by rw[a2N,a1G]
 have eu:∀n,u.take (46+n)=u.take 6++((u.drop 6).take 26++((u.drop 32).take 14++(u.drop 46).take n)):=fun n=>by
  rw[←st 32 14 n,←st 6 26 _];have:=st 0 6 (26+(14+n));rw[a1D,a0F]at this;rw[←this]
  congr 1;omega
 rw[KE own h];have l1:(leS 4 33639248++leS 2 20).length=6:=by simp[aB]
 have l2:((x.data.toList.drop 4).take 26).length=26:=fg (by omega);have l3:(List.replicate 10 (0:UInt8)++leS 4 own).length=14:=by simp[aB]
 have l4:((x.data.toList.drop 30).take (wd x.data.toList 26 2)).length=wd x.data.toList 26 2:=fg d;constructor
 . rintro⟨c0,c1,c2,⟨s1,s2⟩,b,c⟩;have a:=rk s1;rw[a]at s2;rw[eu,b,s1,c,s2]
 .
  intro e;have f:=congrArg List.length e;have m1:=l1;have m3:=l3;simp only[a0i]at f m1 m3;rw[a0w,l2,l4]at f;have l:46+wd x.data.toList 26 2<=u.length:=by omega
  rw[eu]at e;obtain⟨b,e⟩:=a1W e (by rw[l1,a0w];omega);obtain⟨s1,e⟩:=a1W e (by rw[l2,a0w,a05];omega);obtain⟨c,s2⟩:=a1W e (by rw[l3,a0w,a05];omega);have a:=rk s1;exact⟨by omega,by omega,by rw[a];exact d,⟨s1,by rw[a];exact s2⟩,b,c⟩
theorem GC{s:ByteArray}{k:Nat}{r:List En×ByteArray×Nat}(a:zst s k=some r):∀{m:Nat} {q:List En×ByteArray×Nat},zst s m=some q->k<=m->∃x,q.2.1.data.toList=r.2.1.data.toList++x
 | 0,q,h,hkm=>by
  have:k=0:=by omega
  subst this;rw[a]at h;cases h;exact⟨[],by simp⟩
 | m+1,q,h,hkm=>by
  by_cases e:k=m+1
  . subst e;rw[a]at h;cases h;exact⟨[],by simp⟩
  .
   obtain⟨y,T,b,h2,rfl⟩:=gZ h;obtain⟨x,c⟩:=GC a b (by omega);exact⟨x++(ctO (sub s y.2.2) y.2.2).data.toList,by
    show(y.2.1++ctO (sub s y.2.2) y.2.2).data.toList=_;simp only[a1V,a1s];rw[c,a0I]⟩
def preB(s c:ByteArray)(A:Nat):Prop:=(s.data.toList.drop A).take c.size=c.data.toList
def Cf{A:Nat}{r:List En×ByteArray×Nat}(d:gT (sub s r.2.2)=some T)(a:preB s r.2.1 A) :
  sU (s.data.toList.drop (A+r.2.1.size)) (s.data.toList.drop r.2.2) r.2.2<->preB s (r.2.1++ctO (sub s r.2.2) r.2.2) A:=by
 have b:=(li d).1;have c:(ctO (sub s r.2.2) r.2.2).size=46+wd (sub s r.2.2).data.toList 26 2:=by
  have:(ctO (sub s r.2.2) r.2.2).size=46+(nmB (sub s r.2.2)).size:=im _ _ _ _ _ _ _;rw[this,ll (by have:=(kK.1 b).2.2;omega)]
 have:=ON (u:=s.data.toList.drop (A+r.2.1.size)) r.2.2 b;rw[gg]at this;rw[this];unfold preB;have st:(s.data.toList.drop A).take (r.2.1.size+(46+wd (s.data.toList.drop r.2.2) 26 2))=(s.data.toList.drop A).take r.2.1.size++(s.data.toList.drop (A+r.2.1.size)).take (46+wd (s.data.toList.drop r.2.2) 26 2):=by rw[a2N,a1G]
 rw[gg]at c;rw[a0D,c,st];unfold preB at a;simp only[a1V,a1s];constructor
 . intro e;rw[a,e]
 . intro e;rw[a]at e;exact a14 e
theorem qo{s:ByteArray}{m:Nat}(a:12<=s.size)(b:wd s.data.toList (s.size-12) 2=m)(c:m<=6):gj s=match zst s m with
  | some q=>if dO q.1=true/\sub s q.2.2=q.2.1++dz m q.2.1.size q.2.2 then some q.1 else none
  | none=>none:=by
 unfold gj
 (rw[a0c ⟨a,by omega⟩,b])<;>(rcases zst s m with _|q<;>rfl)
def Du(h:¬ (12<=s.size/\wd s.data.toList (s.size-12) 2<=6)):gj s=none:=a0d h
def JR{q r:List En×ByteArray×Nat}(a:12<=s.size)(f:wd s.data.toList (s.size-12) 2=m)(d:m<=6)(hq:zst s m=some q)(l:i<m)(j:zst s i=some r)(b:gT (sub s r.2.2)=some T)(h:preB s r.2.1 q.2.2)
  (g:¬ sU (s.data.toList.drop (q.2.2+r.2.1.size)) (s.data.toList.drop r.2.2) r.2.2):gj s=none:=by
 rw[qo a f d,hq];simp only;rw[a0d];rintro⟨_,e⟩;apply g;rw[Cf b h];obtain⟨x,k⟩:=GC (qp j b) hq (by omega);have c:s.data.toList.drop q.2.2=q.2.1.data.toList++(dz m q.2.1.size q.2.2).data.toList:=by
  rw[←gg,e];simp
 unfold preB;rw[c,k,a0I];simp only;rw[a1F (by simp),a0t (by simp)]
def NG{q:List En×ByteArray×Nat}(b:12<=s.size)(f:wd s.data.toList (s.size-12) 2=m)(e:m<=6)(hq:zst s m=some q)(g:dO q.1=true)(d:preB s q.2.1 q.2.2) :
  gj s=if sub s (q.2.2+q.2.1.size)=dz m q.2.1.size q.2.2 then some q.1 else none:=by
 rw[qo b f e,hq];simp only;have:(dO q.1=true/\sub s q.2.2=q.2.1++dz m q.2.1.size q.2.2)<->sub s (q.2.2+q.2.1.size)=dz m q.2.1.size q.2.2:=by
  have e1:s.data.toList.drop q.2.2=q.2.1.data.toList++s.data.toList.drop (q.2.2+q.2.1.size):=by
   conv=>lhs;rw[←a1K q.2.1.size (s.data.toList.drop q.2.2)]
   rw[a1G];unfold preB at d;rw[d]
  constructor
  . rintro⟨_,c⟩;apply dn;have e2:=congrArg (fun x:ByteArray=>x.data.toList) c;simp only[gg,a1V,a1s]at e2;rw[e1]at e2;rw[gg];exact a14 e2
  . intro c;refine⟨g,dn ?_⟩;rw[gg,e1];simp only[a1V,a1s];rw[←c,gg]
 by_cases a:sub s (q.2.2+q.2.1.size)=dz m q.2.1.size q.2.2
 . rw[a0c (this.2 a),a0c a]
 . rw[a0d (fun h=>a (this.1 h)),a0d a]
open Go.RowKit
def Ff{n t:ByteArray}{y mo d h mi c k:Int}(a:pN x = .tuple #[.agg #[n,y,mo,d,h,mi,c,t],k,.bool true]) :
  ∃T,gT x=some T/\enO x T=⟨n,y,mo,d,h,mi,c,t⟩/\k=((nZ x:Nat):Int):=by
 unfold pN at a;rcases b:gT x with _|T
 . rw[b]at a;simp at a
 .
  rw[b]at a;simp only[IL,Value.tuple.injEq,Array.mk.injEq,List.cons.injEq,Value.agg.injEq,Value.string.injEq,Value.int.injEq,a1A,a0N]at a;obtain⟨⟨e0,e1,e2,e3,e4,e5,e6,e7⟩,e8⟩:=a;refine⟨T,rfl,?_,?_⟩
  . unfold enO;rw[e0,e1,e2,e3,e4,e5,e6,e7]
  . rw[←e8];rfl
def MK(a:pN x = .tuple #[noE,.int .i64 0,.bool false]):gT x=none:=by
 unfold pN at a;rcases b:gT x with _|T
 . rfl
 . rw[b]at a;simp at a
def Ra(w:World)(base:Nat)(hb:base<=w.heap.size):i6 (w.alloc (.cells #[] 49)) base (.slice w.heap.size 0 0) []:=a0R w #[] 0 hb (by unfold maxLen;omega) rfl
def Iv(s:ByteArray)(m:Nat)(w:World)(hs:s.size<=1048576)(hm:m<=6) :
  Calls prog 17 #[s,m] w fun e w'=>(∃(v:Value) (p:Nat) (ok:Bool),e = .returned (.tuple #[v,p,.bool ok])/\(ok=true->∃q,zst s m=some q/\p=q.2.2/\i6 w' w.heap.size v q.1)/\(ok=false->zst s m=none))/\Below w.heap.size w w':=by
 have ad:(m:Int)<=6:=by omega
 have an:(s.size:Int)<=1048576:=by omega
 have HS:=af hs;have Hm:=af hm;have I:Hid (i6 (w.alloc (.cells #[] 49)) w.heap.size (.slice w.heap.size 0 0) []):=Ra _ _ (a0a _);have F:Hid (Below w.heap.size w (w.alloc (.cells #[] 49))):=bx;obtain⟨i0,hi,Y,Z,aa⟩:=a0p Tryz.infoEnt;clear hs hm;go_enter func17,ntmps17;go_wp2_with fail
 go_loopw [7,8,9,10,11,12] (fun v a i _ _ _ wr=>∃(k:Nat) (q:List En×ByteArray×Nat),k<=m/\i = .int .i64 k/\zst s k=some q/\a = .int .i64 (q.2.2:Nat)/\i6 wr w.heap.size v q.1/\Below w.heap.size w wr) (fun _ _ i _ _ _ _=>m-(intOf i).toNat)
 case atStart=>exact⟨0,([],⟨#[]⟩,0),a0f _,rfl,rfl,rfl,I,F⟩
 case round=>
  obtain⟨k,q,hk,rfl,N,rfl,hq,g⟩:=hrel;clear I F;by_cases ac:k<m
  .
   have r:=iJ N;have al:(q.2.2:Int)<=(s.size:Int):=by have:=r.2.1;omega
   have HL:=af r.1;have K:(sub s q.2.2).size<=1048576:=by rw[iX];have:=ae HS;omega
   have O:=af (fun W=>uF (sub s q.2.2) W K);have E:=af hq;have b:=af g;have HK:=af hk;have HZ:=af N;clear K r hq g hk N;go_wp2_with fail;refine(O wr).mono ?_;rintro e x1⟨⟨n,y,mo,d,h,mi,c,t,kk,ok,rfl,M⟩,u⟩;have D:=af (aj b u);have L:Hid (Below x1.heap.size x1 (x1.alloc (.cells #[n,y,mo,d,h,mi,c,t] 49))):=bx;cases ok
   .
    have P:=af (DC (QY HZ (MK M)) m (by omega));have B:=af (aj D L);clear M u O E b L;go_wp2
    go_ret3
    exact⟨⟨_,_,false,rfl,(fun h=>by cases h),fun _=>ae P⟩,B⟩
   .
    obtain⟨T,U,hE,rfl⟩:=Ff M;have C:=qp HZ U;have hf:=uT U;rw[iX]at hf;rw[hE]at C;have R:=af C;have ab:(q.2.2:Int)+((nZ (sub s q.2.2):Nat):Int)<=(s.size:Int):=by omega
    have V:=aj u L;have z:=cq.own HL (E.later V (a0a _));have f:=aj b V;have j:=f.size;have o:Hid (k+1<=maxLen/\(k+1)*80<=140737488355328):=by
     show _/\_;have:=ae Hm;unfold maxLen;omega
    obtain⟨W1,hW1⟩:∃x,x1.alloc (.cells #[n,y,mo,d,h,mi,c,t] 49)=x:=⟨_,rfl⟩;have S:=af (aP x1 #[n,y,mo,d,h,mi,c,t] 49);rw[hW1]at z f j S;have pA:=S.cells (n:=8) rfl;clear M U hE hf C u O E b L V D;go_wp2_with (at_builtin;refine a0u _ rfl _ _ 24 rfl w.heap.size 49 i0 (.agg ()) 8 80 underlying24 hi Y Z aa rfl (by decide) _ _ _ rfl (a0m z _) ⟨W1.heap.size,0,none⟩ 1 1 (kH ⟨n,y,mo,d,h,mi,c,t⟩) rfl rfl (lk W1 _ _) (jJ _) o.1 o.2 (av j _) ?_;intro v' x2 A l H;clear H);have G:=aI (v:=u7) l z (a0a _) j f;have J:i6 x2 w.heap.size v' (q.1++[⟨n,y,mo,d,h,mi,c,t⟩]):=cq.snoc HL A;have Q:=af J;have B:=af G;clear A l z J G pA f j S hW1;go_wp2;go_roundw
    case rel=>exact⟨k+1,_,by have:=ae HK;omega,by go_num,R,by go_num,Q,B⟩
    case measure=>simp[intOf];omega
  .
   have X:k=m:=by omega
   subst X;have E:=af hq;have b:=af g;clear hq g;go_wp2
   go_ret3
   exact⟨⟨_,_,true,rfl,fun _=>⟨q,N,rfl,E⟩,(fun h=>by cases h)⟩,b⟩
def PP(l:List UInt8)(i j k:Nat):wd (l.drop i) j k=wd l (i+j) k:=by unfold wd;rw[a1G]
def ext_eq{a b:Nat}{c d:Nat}(e:b=a+k)(h2:d=c+k):(s.extract a b).toList=(x.extract c d).toList<->(s.data.toList.drop a).take k=(x.data.toList.drop c).take k:=by
 rw[ea,ext_list,ext_list,e,h2,a1o,a1o]
def La{y:ByteArray}{a b:Nat}(c:b=a+k):(s.extract a b).toList=y.toList<->(s.data.toList.drop a).take k=y.data.toList:=by
 rw[ea,ext_list,c,a1o]
def xY{q:List En×ByteArray×Nat}(h:zst s k=some q):∀i,i<k->(q.1.getD i default).n.size<=1048576/\((q.1.getD i default).t.size:Int)<=9223372036854775807:=by
 intro i d;obtain⟨c,_,a,_⟩:=iJ h;have b:q.1.getD i default∈q.1:=by
  rw[List.getD,List.getElem?_eq_getElem (by omega:i<q.1.length)];exact a18 _
 obtain⟨f1,f2,_⟩:=cR (n:=(q.1.getD i default).n) (t:=(q.1.getD i default).t) (a _ b);exact⟨by omega,by omega⟩
def N9{p:Nat}(h:sU u (s.data.toList.drop p) p)(hd:hdB (sub s p)=true):46+wd u 28 2=(ctO (sub s p) p).size:=by
 have e:=rk h.2.2.2.1.1;have a:(ctO (sub s p) p).size=46+(nmB (sub s p)).size:=im _ _ _ _ _ _ _;rw[a,ll (by have:=(kK.1 hd).2.2;omega),gg,e]
def below_drewN{B:Nat}{a:World}(h:Below B a w)(n:Nat):Below B a (w.drewN n):=⟨h.os,h.tape,h.output,h.size,h.block⟩
def EE(s:ByteArray)(hd own:Nat)(w:World)(L:s.size<=1048576)(J:hd<=2000000)(h2:own<=2000000) :
  Calls prog 19 #[s,hd,own] w fun e w'=>(∃(k:Nat) (b:Bool),e = .returned (.tuple #[k,.bool b])/\(b=true<->sU (s.data.toList.drop hd) (s.data.toList.drop own) own)/\(b=true->k=46+wd (s.data.toList.drop hd) 28 2))/\Below w.heap.size w w':=by
 have D:=cC
 have ad:(s.size:Int)<=1048576:=by omega
 have aa:(hd:Int)<=2000000:=by omega
 have ab:(own:Int)<=2000000:=by omega
 have G:s.data.toList.length=s.size:=by simp
 have C:Hid (∀W,CD 15 #[s,.int .i64 ((hd:Int)+28),.int .i64 2] W (.int .i64 (dQ s (hd+28) 2))):=fun W=>by
  have:=dG s (hd+28) 2 W (by omega) (by decide) (by omega);rw[show((hd+28:Nat):Int)=(hd:Int)+28 by omega]at this;exact this
 have u:=PP s.data.toList hd 28 2;by_cases K:hd+30<=s.size
 .
  rw[gV (by omega)]at C;have v:=jg s.data.toList (hd+28);rw[u];have HP:Hid (sU (s.data.toList.drop hd) (s.data.toList.drop own) own<->(hd+(46+wd s.data.toList (hd+28) 2)<=s.size/\own+30+wd s.data.toList (hd+28) 2<=s.size)/\(((s.data.toList.drop (hd+6)).take 26=(s.data.toList.drop (own+4)).take 26/\(s.data.toList.drop (hd+46)).take (wd s.data.toList (hd+28) 2)=(s.data.toList.drop (own+30)).take (wd s.data.toList (hd+28) 2))/\((s.data.toList.drop hd).take 6=leS 4 33639248++leS 2 20/\(s.data.toList.drop (hd+32)).take 14=List.replicate 10 0++leS 4 own))):=by
   show _<->_;unfold sU;rw[u];simp only[a1G,a05,G];constructor
   . rintro⟨a,b,c,d,e⟩;exact⟨⟨by omega,by omega⟩,d,e⟩
   . rintro⟨⟨a,b⟩,d,e⟩;exact⟨by omega,by omega,by omega,d,e⟩
  clear u G;generalize wd s.data.toList (hd+28) 2=NM at *
  have ac:(NM:Int)<65536:=by omega
  by_cases B:hd+(46+NM)<=s.size/\own+30+NM<=s.size
  .
   have P:=af B;obtain⟨b1,b2⟩:=B;have N:(hd:Int)+(46+(NM:Int))<=(s.size:Int):=by omega
   have S:(own:Int)+30+(NM:Int)<=(s.size:Int):=by omega
   have d0:decide ((NM:Int)<0)=false:=a0l (by omega);have d1:decide ((s.size:Int)<(hd:Int)+(46+(NM:Int)))=false:=a0l (by omega);have d2:decide ((s.size:Int)<(own:Int)+30+(NM:Int))=false:=a0l (by omega);have Z:Hid (∀W,CD 40 #[.int .i64 33639248,.int .i64 4] W (.string (ay (leS 4 33639248)))):=fun W=>aM 33639248 4 W (by omega) (by omega);have CV:Hid (∀W,CD 40 #[.int .i64 20,.int .i64 2] W (.string (ay (leS 2 20)))):=fun W=>aM 20 2 W (by omega) (by omega);have Y:Hid (∀W,CD 40 #[.int .i64 0,.int .i64 10] W (.string (ay (leS 10 0)))):=fun W=>aM 0 10 W (by omega) (by omega);have CP:Hid (∀W,CD 40 #[own,.int .i64 4] W (.string (ay (leS 4 own)))):=fun W=>aM own 4 W (by omega) (by omega);have E1:Hid ((s.extract (hd+6) (hd+32)).toList=(s.extract (own+4) (own+30)).toList<->(s.data.toList.drop (hd+6)).take 26=(s.data.toList.drop (own+4)).take 26):=ext_eq rfl rfl;have E2:Hid ((s.extract (hd+46) (hd+(46+NM))).toList=(s.extract (own+30) (own+30+NM)).toList<->(s.data.toList.drop (hd+46)).take NM=(s.data.toList.drop (own+30)).take NM):=ext_eq (by omega) rfl;have E3:Hid ((s.extract hd (hd+6)).toList=(ay (leS 4 33639248)++ay (leS 2 20)).toList<->(s.data.toList.drop hd).take 6=leS 4 33639248++leS 2 20):=by
    have:=La (s:=s) (y:=ay (leS 4 33639248)++ay (leS 2 20)) (a:=hd) (b:=hd+6) (k:=6) rfl;rw[show(ay (leS 4 33639248)++ay (leS 2 20)).data.toList=leS 4 33639248++leS 2 20 by simp[ay]]at this;exact this
   have E4:Hid ((s.extract (hd+32) (hd+46)).toList=(ay (leS 10 0)++ay (leS 4 own)).toList<->(s.data.toList.drop (hd+32)).take 14=List.replicate 10 0++leS 4 own):=by
    have:=La (s:=s) (y:=ay (leS 10 0)++ay (leS 4 own)) (a:=hd+32) (b:=hd+46) (k:=14) rfl;have e0:leS 10 0=List.replicate 10 0:=by decide +kernel
    rw[show(ay (leS 10 0)++ay (leS 4 own)).data.toList=List.replicate 10 0++leS 4 own by rw[e0];simp[ay]]at this;exact this
   have z1:(ay (leS 4 33639248)).size<=10:=by rw[bu,aB];omega
   have z2:(ay (leS 2 20)).size<=10:=by rw[bu,aB];omega
   have z3:(ay (leS 10 0)).size<=10:=by rw[bu,aB];omega
   have z4:(ay (leS 4 own)).size<=10:=by rw[bu,aB];omega
   have m1:¬ 9223372036854775807<(ay (leS 4 33639248)).size+(ay (leS 2 20)).size:=by omega
   have m2:¬ 9223372036854775807<(ay (leS 10 0)).size+(ay (leS 4 own)).size:=by omega
   generalize ay (leS 4 33639248)=A1 at *
   generalize ay (leS 2 20)=A2 at *
   generalize ay (leS 10 0)=A3 at *
   generalize ay (leS 4 own)=A4 at *
   rw[←ae E1,←ae E2,←ae E3,←ae E4]at HP;obtain⟨X1,l⟩:∃x,s.extract (hd+6) (hd+32)=x:=⟨_,rfl⟩;obtain⟨Y1,n⟩:∃x,s.extract (own+4) (own+30)=x:=⟨_,rfl⟩;obtain⟨X2,m⟩:∃x,s.extract (hd+46) (hd+(46+NM))=x:=⟨_,rfl⟩;obtain⟨Y2,o⟩:∃x,s.extract (own+30) (own+30+NM)=x:=⟨_,rfl⟩;obtain⟨X3,r⟩:∃x,s.extract hd (hd+6)=x:=⟨_,rfl⟩;obtain⟨X4,t⟩:∃x,s.extract (hd+32) (hd+46)=x:=⟨_,rfl⟩;rw[l,n,m,o,r,t]at HP;obtain⟨B1,g⟩:∃b,(X1.toList == Y1.toList)=b:=⟨_,rfl⟩;obtain⟨B2,j⟩:∃b,(X2.toList == Y2.toList)=b:=⟨_,rfl⟩;obtain⟨B3,p⟩:∃b,(X3.toList == (A1++A2).toList)=b:=⟨_,rfl⟩;obtain⟨B4,q⟩:∃b,(X4.toList == (A3++A4).toList)=b:=⟨_,rfl⟩;have HR:Hid (((B1&&B2)&&(B3&&B4))=true<->sU (s.data.toList.drop hd) (s.data.toList.drop own) own):=by
    show _<->_;rw[ae HP,←g,←j,←p,←q];simp only[a0k,a3e];exact⟨fun h=>⟨P,h⟩,fun h=>h.2⟩
   have R:=af (a0b l (a0b n (a0b m (a0b o (a0b r t)))));have z:=af (a0b g (a0b j (a0b p q)));have Q:=af (a0b m1 m2);clear HP E1 E2 E3 E4 K J h2 L v b1 b2 z1 z2 z3 z4 P l m r t n o g j p q m1 m2;have O:=C;cases B1<;>cases B2<;>cases B3
   all_goals
    go_enter func19,ntmps19;go_wp2_with fail;refine(O _).mono ?_;rintro e x1⟨rfl,f⟩;have i:=af f;clear f C O;go_wp2_with fail;have w1:IntKind.i64.wrap ((hd:Int)+6)=(hd:Int)+6:=by rw[a0T];omega
    have t1:((hd:Int)+6).toNat=hd+6:=by omega
    have l1:0<=(hd:Int)+6:=by omega
    have g1:(hd:Int)+6<=(s.size:Int):=by omega
    have w2:IntKind.i64.wrap ((hd:Int)+32)=(hd:Int)+32:=by rw[a0T];omega
    have t2:((hd:Int)+32).toNat=hd+32:=by omega
    have l2:0<=(hd:Int)+32:=by omega
    have g2:(hd:Int)+32<=(s.size:Int):=by omega
    have w3:IntKind.i64.wrap ((own:Int)+4)=(own:Int)+4:=by rw[a0T];omega
    have t3:((own:Int)+4).toNat=own+4:=by omega
    have l3:0<=(own:Int)+4:=by omega
    have g3:(own:Int)+4<=(s.size:Int):=by omega
    have w4:IntKind.i64.wrap ((own:Int)+30)=(own:Int)+30:=by rw[a0T];omega
    have t4:((own:Int)+30).toNat=own+30:=by omega
    have l4:0<=(own:Int)+30:=by omega
    have g4:(own:Int)+30<=(s.size:Int):=by omega
    have w5:IntKind.i64.wrap ((hd:Int)+46)=(hd:Int)+46:=by rw[a0T];omega
    have t5:((hd:Int)+46).toNat=hd+46:=by omega
    have l5:0<=(hd:Int)+46:=by omega
    have g5:(hd:Int)+46<=(s.size:Int):=by omega
    have w6:IntKind.i64.wrap ((hd:Int)+(46+(NM:Int)))=(hd:Int)+(46+(NM:Int)):=by rw[a0T];omega
    have t6:((hd:Int)+(46+(NM:Int))).toNat=hd+(46+NM):=by omega
    have l6:0<=(hd:Int)+(46+(NM:Int)):=by omega
    have w7:IntKind.i64.wrap ((own:Int)+30+(NM:Int))=(own:Int)+30+(NM:Int):=by rw[a0T];omega
    have t7:((own:Int)+30+(NM:Int)).toNat=own+30+NM:=by omega
    have l7:0<=(own:Int)+30+(NM:Int):=by omega
    have w8:IntKind.i64.wrap ((hd:Int))=(hd:Int):=by rw[a0T];omega
    have t8:((hd:Int)).toNat=hd:=by omega
    have l8:0<=(hd:Int):=by omega
    have o1:(hd:Int)+6<=(hd:Int)+32:=by omega
    have o2:(own:Int)+4<=(own:Int)+30:=by omega
    have o3:(hd:Int)+46<=(hd:Int)+(46+(NM:Int)):=by omega
    have o4:(own:Int)+30<=(own:Int)+30+(NM:Int):=by omega
    have o5:(hd:Int)<=(hd:Int)+6:=by omega
    have o6:(hd:Int)+32<=(hd:Int)+46:=by omega
    obtain⟨l,n,m,o,r,t⟩:=ae R;obtain⟨g,j,p,q⟩:=ae z;obtain⟨m1,m2⟩:=ae Q
    go_quiet (fail)
    have H:Hid (Below w.heap.size w (x1.drewN nq)):=below_drewN i nq;clear w3 t3 l3 g3 w4 t4 l4 g4 w6 t6 l6 w7 t7 l7 o1 o2 o3 o4 l n m o g j d0 d1 d2 N S R z Q;generalize x1.drewN nq=x2 at *
    go_wp2_with fail;have T:=fun d os=>Calls.regrown_of (w:=x2) (d:=d) (os:=os) (Z _);have U:=fun d os=>Calls.regrown_of (w:=x2) (d:=d) (os:=os) (CV _);have V:=fun d os=>Calls.regrown_of (w:=x2) (d:=d) (os:=os) (Y _);have X:=fun d os=>Calls.regrown_of (w:=x2) (d:=d) (os:=os) (CP _);refine wp_region_quiet_below D (by kernel_rfl) ?_
    go_big_quiet_step (fail)
    go_big_quiet_step (fail)
    go_big_quiet_step (fail)
    go_big_quiet_step (fail)
    go_big_quiet_step (fail)
    go_big_quiet_step (exact T _ _)
    go_big_quiet_step (exact U _ _)
    go_big_quiet_step (fail)
    go_big_quiet_step (fail)
    go_big_quiet_step (fail)
    go_big_quiet_step (fail)
    go_big_quiet_step (fail)
    go_big_quiet_step (fail)
    go_big_quiet_step (fail)
    go_big_quiet_step (fail)
    go_big_quiet_step (fail)
    go_big_quiet_step (exact V _ _)
    go_big_quiet_step (fail)
    go_big_quiet_step (exact X _ _)
    go_big_quiet_step (fail)
    go_big_quiet_step (fail)
    go_big_quiet_step (fail)
    go_big_quiet_step (fail)
    refine wpQuiet_nil ?_;intro zw M;obtain⟨⟨dq,osq⟩,E⟩:=M;have I:=below_regrown x2 dq osq;rw[←E]at I;have T9:=af (aj H I);clear E I T U V X;go_wp2
    go_ret2
    exact⟨⟨46+NM,_,by rw[Int.natCast_add];rfl,HR,fun _=>rfl⟩,T9⟩
  .
   have A:Hid (¬ sU (s.data.toList.drop hd) (s.data.toList.drop own) own):=fun h=>B (HP.1 h).1;have F:Hid (false=true<->sU (s.data.toList.drop hd) (s.data.toList.drop own) own):=⟨(fun h=>by cases h),fun h=>absurd h (ae A)⟩;clear HP A;by_cases g:hd+(46+NM)<=s.size
   .
    have N:(hd:Int)+(46+(NM:Int))<=(s.size:Int):=by omega
    have S:(s.size:Int)<(own:Int)+30+(NM:Int):=by omega
    clear B g K J h2 L v;go_enter func19,ntmps19;go_wp2_with fail;refine(C _).mono ?_;rintro e x1⟨rfl,f⟩;have i:=af f;clear f C;go_wp2
    go_ret2
    exact⟨⟨0,false,rfl,F,fun h=>by cases h⟩,i⟩
   .
    have N:(s.size:Int)<(hd:Int)+(46+(NM:Int)):=by omega
    clear B g K J h2 L v;go_enter func19,ntmps19;go_wp2_with fail;refine(C _).mono ?_;rintro e x1⟨rfl,f⟩;have i:=af f;clear f C;go_wp2
    go_ret2
    exact⟨⟨0,false,rfl,F,fun h=>by cases h⟩,i⟩
 .
  rw[y7 (by omega)]at C;have A:Hid (¬ sU (s.data.toList.drop hd) (s.data.toList.drop own) own):=fun h=>by
   have:=h.1;rw[a05,G]at this;omega
  have F:Hid (false=true<->sU (s.data.toList.drop hd) (s.data.toList.drop own) own):=⟨(fun h=>by cases h),fun h=>absurd h (ae A)⟩;clear A u G;go_enter func19,ntmps19;go_wp2_with fail;refine(C _).mono ?_;rintro e x1⟨rfl,f⟩;have i:=af f;clear f C;go_wp2
  go_ret2
  exact⟨⟨0,false,rfl,F,fun h=>by cases h⟩,i⟩
def QK{A:Nat}(h:preB s c A)(b:A<=s.size):A+c.size<=s.size:=by
 have:=congrArg List.length h;rw[a0w,a05]at this;have a:s.data.toList.length=s.size:=by simp
 have h2:c.data.toList.length=c.size:=by simp
 omega
def yi{a b:ByteArray}{c:Bool}(h:(a.toList == b.toList)=c):c=true<->a=b:=by
 rw[←h,a3e,ea];exact⟨fun e=>dn e,fun e=>by rw[e]⟩
def vG(s:ByteArray)(w:World)(hs:s.size<=1048576) :
  Calls prog 6 #[s] w fun e w'=>(∃v,e = .returned (.tuple #[v,.bool (gj s).isSome])/\i6 w' w.heap.size v ((gj s).getD []))/\Below w.heap.size w w':=by
 have a3:=cC
 have b7:(s.size:Int)<=1048576:=by omega
 have u:Hid (gj s=none->∀W,Below w.heap.size w W->(∃v,Ending.returned (.tuple #[.slice W.heap.size 0 0,.bool false]) = .returned (.tuple #[v,.bool (gj s).isSome])/\i6 (W.alloc (.cells #[] 49)) w.heap.size v ((gj s).getD []))/\Below w.heap.size w (W.alloc (.cells #[] 49))):=fun h W hb=>by
  rw[h];exact⟨⟨_,rfl,Ra _ _ hb.size⟩,hb.alloc hb.size _⟩
 by_cases L:12<=s.size
 .
  have C:Hid (∀W,CD 15 #[s,.int .i64 ((s.size:Int)-12),.int .i64 2] W (.int .i64 ((wd s.data.toList (s.size-12) 2:Nat):Int))):=fun W=>by
   have:=dG s (s.size-12) 2 W (by omega) (by decide) (by omega);rw[show((s.size-12:Nat):Int)=(s.size:Int)-12 by omega,gV (by omega)]at this;exact this
  have S:=jg s.data.toList (s.size-12);have ba:∃NM,wd s.data.toList (s.size-12) 2=NM:=⟨_,rfl⟩;obtain⟨NM,U⟩:=ba;rw[U]at C S;have HW:=af U;have I:=af L;clear U;have bl:(NM:Int)<65536:=by omega
  by_cases h6:NM<=6
  .
   have bk:(NM:Int)<=6:=by omega
   have M:Hid (∀W,Calls prog 16 #[NM,.int .i64 0,.int .i64 6] W fun e w'=>e = .returned (.bool true)/\w'=W):=fun W=>by
    have:=aT (NM:Int) 0 6 W;rw[show inB (NM:Int) 0 6=true by rw[aH];omega]at this;exact this
   have C2:=af (fun W=>Iv s NM W hs h6);have H6:=af h6;have HS:=af hs;clear L hs S;go_enter func6,ntmps6;go_wp2_with fail;refine(C _).mono ?_;rintro e x1⟨rfl,j⟩;have m:=af j;clear j C;go_wp2_with fail;refine(M _).mono ?_;rintro e x2⟨rfl,F⟩;subst F;clear M;go_wp2_with fail;refine(C2 _).mono ?_;rintro e x3⟨⟨v,p,ok,rfl,G,ab⟩,V⟩;have J:=af (aj m V);cases ok
   .
    have D:=af (ae u (by rw[qo I HW H6,ab rfl]) x3 (ae J));clear G ab V C2;go_wp2
    go_ret2
    exact D
   .
    obtain⟨q,hq,rfl,a⟩:=G rfl;have f:=iJ hq;obtain⟨va,vc,rfl,b8,_⟩:=a.formN f.1;have xZ:=af (a.mono (base':=w.heap.size) (by have:=m.size;omega));have C3:=af (wu va vc q.1 NM f.1 x3 (ep f.1 a) (by omega) (xY hq));have HQ:=af hq;have b4:(q.2.2:Int)<=(s.size:Int):=by have:=f.2.1;omega
    have bs:q.2.1.size<=600:=by have:=f.2.2.2.2;omega
    clear G ab V C2 a f hq;cases H:dO q.1
    .
     have D:=af (fun W hb=>ae u (by rw[qo I HW H6,ae HQ];simp[H]) W hb);rw[H]at C3;go_wp2_with fail;refine C3.mono ?_;rintro e x4⟨rfl,z⟩;have K:=af (aj J z);clear z C3;go_wp2
     go_ret2
     exact D _ (ae K)
    .
     rw[H]at C3;have a1:=af H;clear H;go_wp2_with fail;refine C3.mono ?_;rintro e x4⟨rfl,z⟩;have K:=af (aj J z);have al:=af (xZ.later z (a0a _));clear z C3 xZ J;have Q:=af (fun hd own (W:World) (h1:hd<=2000000) (h2:own<=2000000)=>EE s hd own W HS h1 h2);have ac:=af (fun p W=>uF (sub s p) W (by rw[iX];have:=ae HS;omega));have HE:Hid (∀p,s.extract p s.size=sub s p):=fun _=>rfl;go_wp2_with fail
     go_loopw [8,9,10,11,12,13,14,15] (fun h o i _ _ _ _ _ wr=>∃(k:Nat) (r:List En×ByteArray×Nat),k<=NM/\i = .int .i64 k/\zst s k=some r/\h = .int .i64 ((q.2.2:Nat)+(r.2.1.size:Nat))/\o = .int .i64 (r.2.2:Nat)/\preB s r.2.1 q.2.2/\i6 wr w.heap.size (.slice va NM vc) q.1/\Below w.heap.size w wr) (fun _ _ i _ _ _ _ _ _=>NM-(intOf i).toNat)
     case atStart=>exact⟨0,([],⟨#[]⟩,0),a0f _,rfl,rfl,by show _=Value.int .i64 ((q.2.2:Nat)+((0:Nat):Int));simp,rfl,rfl,al,K⟩
     case round=>
      obtain⟨k,r,hk,rfl,hr,rfl,rfl,P,a,O⟩:=hrel;have E:=iJ hr;have b6:r.2.1.size<=600:=by have:=E.2.2.2.2;omega
      have b5:(r.2.1.size:Int)<=600:=by omega
      have b3:(r.2.2:Int)<=(s.size:Int):=by have:=E.2.1;omega
      have HR:=af hr;have g:=af P;have xZ:=af a;have A:=af O;have HK:=af hk;clear E hr P a O al K;by_cases bc:k<NM
      .
       obtain⟨y,hy,_⟩:=lw HQ (by omega:k+1<=NM);obtain⟨r',T,h1,hT,_⟩:=gZ hy;rw[ae HR]at h1;cases h1
       have HT:=af hT;have CH:=af (fun W=>ae Q (q.2.2+r.2.1.size) r.2.2 W (by omega) (by omega));rw[show((q.2.2+r.2.1.size:Nat):Int)=(q.2.2:Nat)+(r.2.1.size:Nat) by omega]at CH;clear hy hT Q;go_wp2_with fail;refine(CH _).mono ?_;rintro e x5⟨⟨kk,b,rfl,hb,aa⟩,Y⟩;have R:=af (aj A Y);have an:=af (xZ.later Y (a0a _));clear Y CH xZ A;cases b
       .
        have D:=af (ae u (JR I HW H6 HQ bc HR HT g (fun h=>by have:=hb.2 h;cases this)) x5 (ae R));clear hb aa;go_wp2
        go_ret2
        exact D
       .
        have hl:=hb.1 rfl;have e1:=aa rfl;rw[N9 hl (li HT).1]at e1;have a9:=af ((Cf HT g).1 hl);have a0:=af (qp HR HT);have b1:kk<=2000:=by
         have h7:=(iJ a0).2.2.2.2;simp only[a0D]at h7;omega
        have a7:=af e1;clear hb aa hl e1;go_wp2_with fail;refine(ac r.2.2 _).mono ?_;rintro e x6⟨⟨n,yy,mo,d,h,mi,c,t,kx,ok,rfl,hv⟩,Z⟩;have ad:=af (aj R Z);have ao:=af (an.later Z (a0a _));have hA:=(Below.refl x6.heap.size x6).alloc (a0a _) (.cells #[n,yy,mo,d,h,mi,c,t] 49);have a6:=af (aj ad hA);have a8:=af (ao.later hA (a0a _));cases ok
        . have:=MK hv;rw[ae HT]at this;cases this
        .
         obtain⟨T2,a2,_,rfl⟩:=Ff hv;have hf:=uT a2;rw[iX]at hf;have b0:(r.2.2:Int)+((nZ (sub s r.2.2):Nat):Int)<=(s.size:Int):=by omega
         clear hv a2 hf Z hA ad ao R an;go_wp2;go_roundw
         case rel=>exact⟨k+1,_,by omega,by go_num,a0,by simp only[a0D];rw[←ae a7];go_num,by go_num,a9,a8,a6⟩
         case measure=>simp[intOf];omega
      .
       have bb:k=NM:=by omega
       subst bb;have a4:=ae HR;rw[ae HQ]at a4;cases a4
       have b2:=QK g (by omega);have be:(q.2.2:Int)+(q.2.1.size:Int)<=(s.size:Int):=by omega
       have l:=af (NG I HW H6 HQ a1 g);have N:=af (fun W=>xd k q.2.1.size q.2.2 W (by omega) (by omega) (by omega));have q1:=fun d os=>Calls.regrown_of (w:=wr) (d:=d) (os:=os) (N _);have t1:((q.2.2:Int)+(q.2.1.size:Int)).toNat=q.2.2+q.2.1.size:=by omega
       have w1:IntKind.i64.wrap ((q.2.2:Int)+(q.2.1.size:Int)-(q.2.2:Int))=(q.2.1.size:Int):=by rw[a0T];omega
       have l1:0<=(q.2.2:Int)+(q.2.1.size:Int):=by omega
       rw[←ae HE]at l;generalize dz k q.2.1.size q.2.2=EN at *
       obtain⟨X,hX⟩:∃x,s.extract (q.2.2+q.2.1.size) s.size=x:=⟨_,rfl⟩;rw[hX]at l;obtain⟨B,hB⟩:∃b,(X.toList == EN.toList)=b:=⟨_,rfl⟩;have HB:=af hB;clear Q ac HE a1 g N;go_wp2_with fail;refine wp_region_quiet_below a3 (by kernel_rfl) ?_;cases B
       all_goals
        quiet_step (fail)
        quiet_step (fail)
        quiet_step (fail)
        quiet_step (fail)
        quiet_step (fail)
        quiet_step (fail)
        quiet_step (fail)
        quiet_step (fail)
        quiet_step (exact q1 _ _)
        quiet_step (fail)
        refine wpQuiet_nil ?_;intro zw bd;obtain⟨⟨dq,osq⟩,a5⟩:=bd;have HZ:=below_regrown wr dq osq;rw[←a5]at HZ;have T9:=af (aj A HZ);have O9:=af (xZ.later HZ (a0a _));clear a5 HZ q1
       .
        have D:=af (ae u (by rw[ae l,a0d (fun e=>by have:=(yi HB).2 e;cases this)]) zw (ae T9));go_wp2
        go_ret2
        exact D
       .
        have HY:Hid (gj s=some q.1):=by show _=_;rw[ae l,a0c ((yi HB).1 rfl)]
        go_wp2
        go_ret2
        exact⟨⟨_,by rw[ae HY];rfl,by rw[ae HY];exact O9⟩,T9⟩
  .
   have M:Hid (∀W,Calls prog 16 #[NM,.int .i64 0,.int .i64 6] W fun e w'=>e = .returned (.bool false)/\w'=W):=fun W=>by
    have:=aT (NM:Int) 0 6 W;rw[show inB (NM:Int) 0 6=false by rw[eG];omega]at this;exact this
   have D:=af (ae u (Du (by rw[ae HW];omega)));clear L hs S;go_enter func6,ntmps6;go_wp2_with fail;refine(C _).mono ?_;rintro e x1⟨rfl,j⟩;have m:=af j;clear j C;go_wp2_with fail;refine(M _).mono ?_;rintro e x2⟨rfl,F⟩;subst F;clear M;go_wp2
   go_ret2
   exact D _ (ae m)
 .
  have C:=af (fun W=>It s ((s.size:Int)-12) W (by omega));have M:Hid (∀W,Calls prog 16 #[.int .i64 (-1),.int .i64 0,.int .i64 6] W fun e w'=>e = .returned (.bool false)/\w'=W):=fun W=>by
   have:=aT (-1) 0 6 W;rw[show inB (-1) 0 6=false by decide]at this;exact this
  have D:=af (ae u (Du (fun h=>L h.1)));go_enter func6,ntmps6;go_wp2_with fail;refine(C _).mono ?_;rintro e x1⟨rfl,j⟩;have m:=af j;clear j C;go_wp2_with fail;refine(M _).mono ?_;rintro e x2⟨rfl,F⟩;subst F;clear M;go_wp2
  go_ret2
  exact D _ (ae m)
abbrev Q0:=cq (α:=Hq) 78 7 Ah
def uu{w':World}{o:Obj}{a c e1 e2 s1 s2 n1 n2:Nat}{v1 v2:Value}{x1 x2:List Value}(b:w.ownsRow a e1 s1 v1 n1 x1)(h2:w.ownsRow c e2 s2 v2 n2 x2)(d:e1≠e2)(e:(w.alloc o).grownBy w' v2.ownBlock):w'.ownsRow a e1 s1 v1 n1 x1:=
 a1C (a0m b o) e (pe (a0m b o) (a0m h2 o) d)
def PX:dO []=true:=by decide
def LW(h:hdB x=false):gT x=none:=by
 unfold gT;rw[a0d (by rw[h];decide)]
def zG{q:List En×ByteArray×Nat}(b:zst s k=some q)(c:(sub s q.2.2).data.toList.take 4=[80,75,3,4])(a:gT (sub s q.2.2)=none):gj s=none:=
 Dt b c (fun T h=>by rw[a]at h;cases h)
def Kj{q:List En×ByteArray×Nat}(b:zst s k=some q)(e:dO q.1=true)(c:(sub s q.2.2).data.toList.take 4=[80,75,3,4])(a:gT (sub s q.2.2)=some T)(d:bU q.1 (enO (sub s q.2.2) T)≠0):gj s=none:=
 Dt b c (fun T' h=>by
  rw[a]at h;cases h
  cases hb:dO (q.1++[enO (sub s q.2.2) T])
  . rfl
  . exact absurd ((nV e _).1 hb) d)
def ZrP(s:ByteArray)(w:World)(e:Ending)(w':World):Prop:=∃v c,e = .returned (.tuple #[v,gq c])/\(c=0->∃l,gj s=some l/\i6 w' w.heap.size v l)/\(c≠0->gj s=none)
def Dy{w':World}(h:gj s=none)(c:Int)(a:c≠0):ZrP s w (.returned (.tuple #[.slice none 0 0,.iface 75 (.agg #[c])])) w':=
 ⟨.slice none 0 0,c,by unfold gq;rw[a0d a],fun b=>absurd b a,fun _=>h⟩
def Dx(s:ByteArray)(m:Int)(w:World)(hs:s.size<=1048576)(hm:w.cell? ⟨2,0,none⟩=some (.int .i64 m))(hO:ef w) :
  Calls prog 13 #[s] w fun e w'=>ZrP s w e w'/\Below w.heap.size w w':=by
 have ch:=cC
 have eh:(s.size:Int)<=1048576:=by omega
 have HS:=af hs;have HM:=af hm;have d2:=af (World.block_lt_of_cell? _ _ hm);have CM:=af (fun W (hb:Below w.heap.size w W)=>(hb.cell (p:=⟨2,0,none⟩) d2).trans HM);have HO:=af (fun W (hb:Below w.heap.size w W)=>hO.later hb);obtain⟨i0,hi,d7,d8,b0⟩:=a0p Tryz.infoEnt;obtain⟨j0,hj,d4,d5,d6⟩:=a0p Tryz.infoHd;clear hs hm hO;go_enter func13,ntmps13;go_wp2_with fail
 go_loopw [4,5,6,7,8,9,10,11] (fun f h p _ _ _ _ _ wr=>∃(k:Nat) (q:List En×ByteArray×Nat),zst s k=some q/\dO q.1=true/\p = .int .i64 (q.2.2:Nat)/\i6 wr w.heap.size f q.1/\Q0 wr w.heap.size h (hqL s k)/\Below w.heap.size w wr) (fun _ _ p _ _ _ _ _ _=>s.size-(intOf p).toNat)
 case atStart=>exact⟨0,([],⟨#[]⟩,0),rfl,PX,rfl,cq.nil _ _,cq.nil _ _,Below.refl _ _⟩
 case round=>
  obtain⟨k,q,hz,ab,rfl,hf,l,U⟩:=hrel;have K:=iJ hz;have d1:k<=6:=by have:=(jz ab).2;omega
  have ed:(q.2.2:Int)<=(s.size:Int):=by have:=K.2.1;omega
  have CX:Hid (∀W,Calls prog 30 #[.string (sub s q.2.2),.string ⟨#[80,75,3,4]⟩] W fun e w'=>e = .returned (.bool (decide ((sub s q.2.2).data.toList.take 4=[80,75,3,4])))/\w'=W):=fun W=>by
   have h:=Tryz.strings_HasPrefix (sub s q.2.2) (⟨#[80,75,3,4]⟩:ByteArray) W;rw[←Md];exact h
  have HE:Hid (s.extract q.2.2 s.size=sub s q.2.2):=rfl;have I:=af hz;have ba:=af ab;have HF:=af hf;have HH:=af l;have P:=af U;have F:=af K
  have a7:(sub s q.2.2).size<=1048576:=by rw[iX];have:=ae HS;omega
  by_cases N:(sub s q.2.2).data.toList.take 4=[80,75,3,4]
  .
   have a1:=af N;rw[a0x N]at CX;have CH:=af (fun W=>ri (sub s q.2.2) W a7);have Q:=af a7;clear N hf l U K hz ab a7;go_wp2_with fail;refine(CX _).mono ?_;rintro e x0⟨rfl,bs⟩;subst bs;clear CX;go_wp2_with fail;refine(CH _).mono ?_;rintro e x1⟨hp,a3⟩;have ac:=af (aj P a3);have an:=af (HF.later a3 (a0a _));have a0:=af (HH.later a3 (a0a _));have R:Hid (∀j,Value.ownBlock u4=some j->j<x1.heap.size):=fun j hj=>(a0y an j hj).2;have S:Hid (∀j,Value.ownBlock u5=some j->j<x1.heap.size):=fun j hj=>(a0y a0 j hj).2;clear a3 CH HF HH P;rcases hp with⟨hd,rfl⟩|⟨hd,a,b,c,d,f,n,t,ho,rfl⟩
   .
    obtain⟨dl,d0,be⟩:=kK.1 hd;have co:=ll (s:=sub s q.2.2) (by omega);have ca:=zH (s:=sub s q.2.2) be;have l1:=jg (sub s q.2.2).data.toList 8;have l2:=eU (sub s q.2.2).data.toList 10;have l3:=eU (sub s q.2.2).data.toList 14;have l4:=eU (sub s q.2.2).data.toList 18;have l5:=eU (sub s q.2.2).data.toList 22;have l6:=jg (sub s q.2.2).data.toList 26;have c9:=ae Q;have E:=af (fun W (hb:Below w.heap.size w W)=>r9 (wd (sub s q.2.2).data.toList 8 2) (wd (sub s q.2.2).data.toList 10 4) (wd (sub s q.2.2).data.toList 14 4) (wd (sub s q.2.2).data.toList 18 4) (wd (sub s q.2.2).data.toList 22 4) (nmB (sub s q.2.2)) (bdB (sub s q.2.2)) m W (by omega) l1 l2 l3 l5 (by omega) (CM _ hb) (HO _ hb));have b1:=af (fun(hen:enB (wd (sub s q.2.2).data.toList 8 2) (wd (sub s q.2.2).data.toList 10 4) (wd (sub s q.2.2).data.toList 14 4) (wd (sub s q.2.2).data.toList 22 4) (nmB (sub s q.2.2)) (bdB (sub s q.2.2))=true) W=>rT (wd (sub s q.2.2).data.toList 8 2) (wd (sub s q.2.2).data.toList 10 4) (wd (sub s q.2.2).data.toList 14 4) (wd (sub s q.2.2).data.toList 18 4) (wd (sub s q.2.2).data.toList 22 4) (nmB (sub s q.2.2)) (bdB (sub s q.2.2)) W l1 l2 l3 l4 l5 (by omega) (by have:=KS hen;omega));have bc:(cM (wd (sub s q.2.2).data.toList 8 2) (wd (sub s q.2.2).data.toList 10 4) (wd (sub s q.2.2).data.toList 14 4) (wd (sub s q.2.2).data.toList 18 4) (wd (sub s q.2.2).data.toList 22 4) (nmB (sub s q.2.2))++bdB (sub s q.2.2)).size=nZ (sub s q.2.2):=by
     unfold cM nZ;rw[a0D,a0D,a0D,fp,co,ca];show 4+26+_+_=_;omega
    have b7:nZ (sub s q.2.2)<=(sub s q.2.2).size/\30<=nZ (sub s q.2.2):=⟨be,by unfold nZ;omega⟩;have HY:Hid (enB (wd (sub s q.2.2).data.toList 8 2) (wd (sub s q.2.2).data.toList 10 4) (wd (sub s q.2.2).data.toList 14 4) (wd (sub s q.2.2).data.toList 22 4) (nmB (sub s q.2.2)) (bdB (sub s q.2.2))=true->∃T,gT (sub s q.2.2)=some T/\enO (sub s q.2.2) T=⟨nmB (sub s q.2.2),zz (gOk (wd (sub s q.2.2).data.toList 10 4:Nat)) (gY (wd (sub s q.2.2).data.toList 10 4:Nat)),zz (gOk (wd (sub s q.2.2).data.toList 10 4:Nat)) (gM (wd (sub s q.2.2).data.toList 10 4:Nat)),zz (gOk (wd (sub s q.2.2).data.toList 10 4:Nat)) (gD (wd (sub s q.2.2).data.toList 10 4:Nat)),zz (gOk (wd (sub s q.2.2).data.toList 10 4:Nat)) (gH (wd (sub s q.2.2).data.toList 10 4:Nat)),zz (gOk (wd (sub s q.2.2).data.toList 10 4:Nat)) (gI (wd (sub s q.2.2).data.toList 10 4:Nat)),zz (gOk (wd (sub s q.2.2).data.toList 10 4:Nat)) (gS (wd (sub s q.2.2).data.toList 10 4:Nat)),uxT (wd (sub s q.2.2).data.toList 8 2) (bdB (sub s q.2.2))⟩):=fun h=>by
     have:=LU hd;rw[a0c h]at this;obtain⟨T,a,b,_⟩:=Ff this;exact⟨T,a,b⟩
    have HN:Hid (enB (wd (sub s q.2.2).data.toList 8 2) (wd (sub s q.2.2).data.toList 10 4) (wd (sub s q.2.2).data.toList 14 4) (wd (sub s q.2.2).data.toList 22 4) (nmB (sub s q.2.2)) (bdB (sub s q.2.2))=false->gT (sub s q.2.2)=none):=fun h=>by
     have:=LU hd;rw[a0d (by rw[h];decide)]at this;exact MK this
    have c8:Hid (ud s k=⟨wd (sub s q.2.2).data.toList 8 2,wd (sub s q.2.2).data.toList 10 4,wd (sub s q.2.2).data.toList 14 4,wd (sub s q.2.2).data.toList 18 4,wd (sub s q.2.2).data.toList 22 4,nmB (sub s q.2.2),q.2.2⟩):=yL I;have b8:(nmB (sub s q.2.2)).size<=1048576:=by omega
    have dv:(uxT (wd (sub s q.2.2).data.toList 8 2) (bdB (sub s q.2.2))).size<=1048576:=Dl (by omega);have cr:(sub s q.2.2).size=s.size-q.2.2:=iX _ _;unfold enE at E;generalize cM (wd (sub s q.2.2).data.toList 8 2) (wd (sub s q.2.2).data.toList 10 4) (wd (sub s q.2.2).data.toList 14 4) (wd (sub s q.2.2).data.toList 18 4) (wd (sub s q.2.2).data.toList 22 4) (nmB (sub s q.2.2))++bdB (sub s q.2.2)=PB at *
    generalize enB (wd (sub s q.2.2).data.toList 8 2) (wd (sub s q.2.2).data.toList 10 4) (wd (sub s q.2.2).data.toList 14 4) (wd (sub s q.2.2).data.toList 22 4) (nmB (sub s q.2.2)) (bdB (sub s q.2.2))=EB at *
    generalize uxT (wd (sub s q.2.2).data.toList 8 2) (bdB (sub s q.2.2))=UT at *
    generalize zz (gOk (wd (sub s q.2.2).data.toList 10 4:Nat)) (gY (wd (sub s q.2.2).data.toList 10 4:Nat))=yy at *
    generalize zz (gOk (wd (sub s q.2.2).data.toList 10 4:Nat)) (gM (wd (sub s q.2.2).data.toList 10 4:Nat))=mo at *
    generalize zz (gOk (wd (sub s q.2.2).data.toList 10 4:Nat)) (gD (wd (sub s q.2.2).data.toList 10 4:Nat))=dd at *
    generalize zz (gOk (wd (sub s q.2.2).data.toList 10 4:Nat)) (gH (wd (sub s q.2.2).data.toList 10 4:Nat))=l at *
    generalize zz (gOk (wd (sub s q.2.2).data.toList 10 4:Nat)) (gI (wd (sub s q.2.2).data.toList 10 4:Nat))=mi at *
    generalize zz (gOk (wd (sub s q.2.2).data.toList 10 4:Nat)) (gS (wd (sub s q.2.2).data.toList 10 4:Nat))=ss at *
    generalize bdB (sub s q.2.2)=BD at *
    generalize nmB (sub s q.2.2)=NM at *
    generalize wd (sub s q.2.2).data.toList 8 2=HW at *
    generalize wd (sub s q.2.2).data.toList 10 4=ST at *
    generalize wd (sub s q.2.2).data.toList 14 4=CR at *
    generalize wd (sub s q.2.2).data.toList 18 4=PK at *
    generalize wd (sub s q.2.2).data.toList 22 4=LN at *
    generalize wd (sub s q.2.2).data.toList 26 2=NL at *
    obtain⟨LO,hLO⟩:∃x,nZ (sub s q.2.2)=x:=⟨_,rfl⟩;rw[hLO]at bc b7;have eg:(q.2.2:Int)+(PB.size:Int)<=(s.size:Int):=by omega
    have eb:30<=(PB.size:Int):=by omega
    have c5:=af (hLO.trans bc.symm);clear hd dl d0 be co ca l1 l2 l3 l4 l5 l6 c9 bc b7 hLO cr;have G:=af ((Below.refl x1.heap.size x1).alloc (a0a _) (.cells #[HW,ST,CR,PK,LN,NM,BD] 59));have R2:=af (aP x1 #[HW,ST,CR,PK,LN,NM,BD] 59);go_wp2_with fail;refine(E _ (aj ac G)).mono ?_;rintro e x2⟨rfl,D⟩;have J:=aj G D;have L:=af (aj ac J);have b2:=af (an.later J (a0a _));have b4:=af (a0.later J (a0a _));have R3:=af (R2.later D R2.1);obtain⟨HB,hHB⟩:∃x,x1.heap.size=x:=⟨_,rfl⟩;rw[hHB]at R3 R S;rw[hHB];clear D J G R2 hHB E ac an a0;cases EB
    .
     have o:=af (zG I a1 (HN rfl));rw[show(if false=true then Value.tuple #[.agg #[NM,yy,mo,dd,l,mi,ss,UT],.bool true]else .tuple #[noE,.bool false]) = .tuple #[.agg (),.bool false]from rfl];have y:=af (aj L ((Below.refl x2.heap.size x2).alloc (a0a _) (.cells () 49)));go_wp2
     go_ret2
     exact⟨Dy o 1 (by decide),y⟩
    .
     rw[show(if true=true then Value.tuple #[.agg #[NM,yy,mo,dd,l,mi,ss,UT],.bool true]else .tuple #[noE,.bool false]) = .tuple #[.agg #[NM,yy,mo,dd,l,mi,ss,UT],.bool true]from rfl];have al:Hid (∃T,gT (sub s q.2.2)=some T/\enO (sub s q.2.2) T=⟨NM,yy,mo,dd,l,mi,ss,UT⟩):=ae HY rfl;have c7:Hid (∀W,_):=ae b1 rfl;have hA:=(Below.refl x2.heap.size x2).alloc (a0a _) (.cells #[NM,yy,mo,dd,l,mi,ss,UT] 49);have y:=af (aj L hA);have ao:=af (b2.later hA (a0a _));have b5:=af (b4.later hA (a0a _));have R4:=af (R3.later hA R3.1);have Q4:=af (aP x2 #[NM,yy,mo,dd,l,mi,ss,UT] 49);obtain⟨fa,fc,bk,_,_⟩:=ao.formN F.1;have ds:HB<x2.heap.size:=R3.1;have a9:=af (sN fa fc q.1 k F.1 ⟨NM,yy,mo,dd,l,mi,ss,UT⟩ m _ (ep F.1 (by have:=ae ao;rw[bk]at this;exact this)) (by omega) (fun i hi=>by have:=(xY I i hi).1;omega) b8 (by show(UT.size:Int)<=_;omega) (CM _ (ae y)));rw[←bk]at a9;clear hA HY HN b1 b2 b4 R3 bk L b8 dv;go_wp2_with fail;refine a9.mono ?_;rintro e x4⟨rfl,M⟩;have ad:=af (aj y M);have b3:=af (ao.later M (a0a _));have b6:=af (b5.later M (a0a _));have R5:=af (R4.later M R4.1);have Q5:=af (Q4.later M Q4.1);obtain⟨QB,hQBe⟩:∃x,x2.heap.size=x:=⟨_,rfl⟩;rw[hQBe]at Q5 ds;rw[hQBe];clear M y ao b5 R4 Q4 a9 hQBe;by_cases H:bU q.1 ⟨NM,yy,mo,dd,l,mi,ss,UT⟩=0
     .
      rw[show gq (bU q.1 ⟨NM,yy,mo,dd,l,mi,ss,UT⟩) = .nilIface by rw[H];rfl];have c6:Hid (∃T,zst s (k+1)=some (q.1++[⟨NM,yy,mo,dd,l,mi,ss,UT⟩],T,q.2.2+PB.size)/\dO (q.1++[⟨NM,yy,mo,dd,l,mi,ss,UT⟩])=true):=by
       obtain⟨T,hT,hE⟩:=ae al;have h2:=qp I hT;rw[hE,ae c5]at h2;exact⟨_,h2,(nV ba _).2 H⟩
      have A:Hid ((k+1<=maxLen/\(k+1)*80<=140737488355328)/\(k+1)*64<=140737488355328):=by
       show(_/\_)/\_;unfold maxLen;omega
      have a5:=cq.own F.1 b3;have cg:=cq.own (td s k) b6;have V:=ad.size;have pA:=Q5.cells (n:=8) rfl;clear H al a1 Q HE;go_wp2_with (first
       | (at_builtin;refine a0u _ rfl _ _ 24 rfl w.heap.size 49 i0 (.agg ()) 8 80 underlying24 hi d7 d8 b0 rfl (by decide) _ _ _ rfl (a0m a5 _) ⟨x4.heap.size,0,none⟩ 1 1 (kH ⟨NM,yy,mo,dd,l,mi,ss,UT⟩) rfl rfl (lk x4 _ _) (jJ _) A.1.1 A.1.2 (av V _) ?_;intro v5 x5 a8 z Z;clear Z;have R6:=af (Blk.grown (Blk.later R5 bx R5.1) z (fun e=>absurd (ae R _ e.symm) (a2x _)));have rA:=R6.cells (n:=7) rfl;have a6:=uu cg a5 (by decide) z;have bb:=aI (v:=u4) z a5 (a0a _) V ad;have Y:=bb.size)
       | (at_builtin;refine a0u _ rfl _ _ 68 rfl w.heap.size 78 j0 (.agg #[.int .i64 0,.int .i64 0,.int .i64 0,.int .i64 0,.int .i64 0,.string ⟨#[]⟩,.int .i64 0]) 7 64 underlying68 hj d4 d5 d6 rfl (by decide) _ _ _ rfl (a0m a6 _) ⟨x5.heap.size,0,none⟩ 1 1 (Ah ⟨HW,ST,CR,PK,LN,NM,q.2.2⟩) rfl rfl (lk x5 _ _) (KW _) A.1.1 A.2 (av Y _) ?_;intro v6 x6 aa r Z;clear Z;have R7:=af (Blk.grown (Blk.later R6 bx R6.1) r (fun e=>absurd (ae S _ e.symm) (a2x _)));have rA:=R7.cells (n:=7) rfl;have cc:=uu a8 a6 (by decide) r;have b9:=aI (v:=u5) r a6 (a0a _) Y bb))
      refine(c7 _).mono ?_;rintro e x7⟨rfl,a4⟩;have cp:i6 x6 w.heap.size v5 (q.1++[⟨NM,yy,mo,dd,l,mi,ss,UT⟩]):=cq.snoc F.1 cc;have bd:Q0 x6 w.heap.size v6 (hqL s k++[ud s k]):=cq.snoc (td s k) (by rw[ae c8];exact aa);rw[←Lu]at bd;have cv:=af (cp.later a4 (a0a _));have cy:=af (bd.later a4 (a0a _));have cu:=af (aj b9 a4);clear a8 aa z r cp bd a4 b9 bb V Y a5 cc cg a6 rA R5 R6 R7 Q5 pA b3 b6 ad;go_wp2;go_roundw
      case rel=>
       obtain⟨C,b0,D⟩:=ae c6;exact⟨k+1,_,b0,D,by go_num,cv,cy,cu⟩
      case measure=>simp[intOf];omega
     .
      rw[show gq (bU q.1 ⟨NM,yy,mo,dd,l,mi,ss,UT⟩) = .iface 75 (.agg #[.int .i64 (bU q.1 ⟨NM,yy,mo,dd,l,mi,ss,UT⟩)]) by unfold gq;rw[a0d H]];have o:Hid (gj s=none):=by
       obtain⟨T,hT,hE⟩:=ae al;exact Kj I ba a1 hT (by rw[hE];exact H)
      have HC:=af H;clear H al;generalize bU q.1 ⟨NM,yy,mo,dd,l,mi,ss,UT⟩=c at *
      go_wp2
      go_ret2
      exact⟨Dy o c HC,ad⟩
   .
    have o:=af (zG I a1 (LW hd));obtain⟨o1,o2,o3,o4,o5,o6,o7⟩:=ho;have E:=af (fun W (hb:Below w.heap.size w W)=>r9 a b c d f n t m W (by have:=ae Q;omega) o1 o2 o3 o5 (by have:=ae Q;omega) (CM _ hb) (HO _ hb));unfold enE at E;generalize enB a b c f n t=EB at *
    generalize uxT a t=UT at *
    generalize zz (gOk (b:Nat)) (gY (b:Nat))=yy at *
    generalize zz (gOk (b:Nat)) (gM (b:Nat))=mo at *
    generalize zz (gOk (b:Nat)) (gD (b:Nat))=dd at *
    generalize zz (gOk (b:Nat)) (gH (b:Nat))=l at *
    generalize zz (gOk (b:Nat)) (gI (b:Nat))=mi at *
    generalize zz (gOk (b:Nat)) (gS (b:Nat))=ss at *
    have G:=af (aj ac ((Below.refl x1.heap.size x1).alloc (a0a _) (.cells #[a,b,c,d,f,n,t] 59)));clear o1 o2 o3 o4 o5 o6 o7 an a0 R S hd Q F HE;go_wp2_with fail;refine(E _ (ae G)).mono ?_;rintro e x2⟨rfl,D⟩;have L:=af (aj G D);clear D G E;cases EB
    .
     rw[show(if false=true then Value.tuple #[.agg #[n,yy,mo,dd,l,mi,ss,UT],.bool true]else .tuple #[noE,.bool false]) = .tuple #[.agg (),.bool false]from rfl];have y:=af (aj L ((Below.refl x2.heap.size x2).alloc (a0a _) (.cells () 49)));go_wp2
     go_ret2
     exact⟨Dy o 1 (by decide),y⟩
    .
     rw[show(if true=true then Value.tuple #[.agg #[n,yy,mo,dd,l,mi,ss,UT],.bool true]else .tuple #[noE,.bool false]) = .tuple #[.agg #[n,yy,mo,dd,l,mi,ss,UT],.bool true]from rfl];have y:=af (aj L ((Below.refl x2.heap.size x2).alloc (a0a _) (.cells #[n,yy,mo,dd,l,mi,ss,UT] 49)));go_wp2
     go_ret2
     exact⟨Dy o 1 (by decide),y⟩
  .
   rw[a0l N]at CX;have a2:=af (JS hz ab N);obtain⟨ha,hc,bl,_,_⟩:=l.formN (td s k);have HW:Hid (vT wr ha k fun i=>Ah (ud s i)):=by
    rw[bl]at l;intro h0;obtain⟨g,e,hg,hc⟩:=vo KV ⟨0,0,0,0,0,⟨#[]⟩,0⟩ (td s k) l h0;exact⟨g,e,hg,fun i hi j u hu=>hc i hi j u (by show(Ah ((hqL s k).getD i _))[j]?=_;rw[OE s k i _ hi];exact hu)⟩
   have O:Hid (∀W,Below wr.heap.size wr W->CD 35 #[.slice ha k hc,.int .i64 (q.2.2:Nat)] W (.string (q.2.1++dz k q.2.1.size q.2.2))):=fun W hb=>by
    have:=Dr ha hc k q.2.2 (ud s) W (HW.later hb) d1 (OD HS I) (by omega);rw[Bs I]at this;exact this
   rw[←bl]at O;rw[←ae HE]at CX a2;have q1:=fun d os=>Calls.regrown_of (w:=wr) (d:=d) (os:=os) (O _ (below_regrown wr d os));have z1:((q.2.2:Nat):Int).toNat=q.2.2:=a0n _;generalize q.2.1++dz k q.2.1.size q.2.2=EN at *
   obtain⟨X,hX⟩:∃x,s.extract q.2.2 s.size=x:=⟨_,rfl⟩;rw[hX]at CX a2;obtain⟨B,hB⟩:∃b,(X.toList == EN.toList)=b:=⟨_,rfl⟩;have HB:=af hB;clear hf l U K hz ab a7 N HH HW O bl I ba F HE;go_wp2_with fail;refine(CX _).mono ?_;rintro e x0⟨rfl,bs⟩;subst bs;clear CX;go_wp2_with fail;refine wp_region_quiet_below ch (by kernel_rfl) ?_;cases B
   all_goals
    quiet_step (fail)
    quiet_step (fail)
    quiet_step (fail)
    quiet_step (fail)
    quiet_step (fail)
    quiet_step (exact q1 _ _)
    quiet_step (fail)
    refine wpQuiet_nil ?_;intro zw d3;obtain⟨⟨dq,osq⟩,cs⟩:=d3;have I:=below_regrown x0 dq osq;rw[←cs]at I;have T9:=af (aj P I);have O9:=af (HF.later I (a0a _));clear cs I q1
   .
    have HN:Hid (gj s=none):=by show _=_;rw[ae a2,a0d (fun e=>by have:=(yi HB).2 e;cases this)]
    go_wp2
    go_ret2
    exact⟨Dy HN 1 (by decide),T9⟩
   .
    have HY:Hid (gj s=some q.1):=by show _=_;rw[ae a2,a0c ((yi HB).1 rfl)]
    go_wp2
    go_ret2
    exact⟨⟨_,0,rfl,fun _=>⟨_,HY,O9⟩,fun h=>absurd rfl h⟩,T9⟩
def tu.later{W:World}(a:tu w)(hb:Below w.heap.size w W):tu W:=(hb.cell (p:=⟨0,0,none⟩) (World.block_lt_of_cell? _ _ a)).trans a
def mM(s:ByteArray)(m:Int)(w:World)(y:s.size<=1048576)(x:w.cell? ⟨2,0,none⟩=some (.int .i64 m))(t:tu w)(r:ef w) :
  Calls prog 5 #[s] w fun e w'=>(∃v,e = .returned (.tuple #[v,.bool (gj s).isSome])/\i6 w' w.heap.size v ((gj s).getD []))/\Below w.heap.size w w':=by
 have C:=af (Dx s m w y x r);have o:=af t;clear x t r y;go_enter func5,ntmps5;go_wp2_with fail;refine C.mono ?_;rintro e x1⟨⟨v,c,rfl,p,q⟩,f⟩;have d:=af f;have j:=af (sM c x1 (o.later f));have k:=af p;have n:=af q;clear p q f C o;generalize gq c=FV at *
 go_wp2_with fail;refine j.mono ?_;rintro e x2⟨rfl,a⟩;have g:=af (aj d a);by_cases i:c=0
 .
  obtain⟨l,u,b⟩:=ae k i;have h:=af u;have z:=af (b.later a (a0a _));subst i;clear u b a j k n d;go_wp2
  go_ret2
  exact⟨⟨_,by rw[ae h];rfl,by rw[ae h];exact z⟩,g⟩
 .
  have h:=af (ae n i);have hd:decide (c=0)=false:=a0l i;clear a j k n d;go_wp2
  go_ret2
  exact⟨⟨_,by rw[ae h];rfl,by rw[ae h];exact cq.nil _ _⟩,g⟩
def goes(e f:En):Prop:=cw e.n.data.toList f.n.data.toList=false
def Qc(l:List En)(x:ByteArray):lx l x=false<->∀e∈l,cw e.n.data.toList x.data.toList=false:=by
 unfold lx;rw[List.any_eq_false];simp
def KZ{l:List En}(h:dO l=true)(a:k<l.length):jb (l.getD k default)=true:=(jz h).1 k a
def PT{l:List En}(h:gj s=some l):dO l=true:=by
 obtain⟨_,q,_,rfl,a,_⟩:=rJ h;exact a
def xX{l:List En}(h:dO l=true):∀i,i<l.length->(l.getD i default).n.size<=1048576/\((l.getD i default).t.size:Int)<=9223372036854775807:=by
 intro i a;obtain⟨f1,f2,_⟩:=cR (n:=(l.getD i default).n) (t:=(l.getD i default).t) (KZ h a);exact⟨by omega,by omega⟩
def PU{l:List En}{n:Nat}(h:dO l=true)(a:l.length=n):jy l=(aG l).1++(aG l).2++dz n (aG l).2.size (aG l).1.size:=by unfold jy;rw[a0c h,a]
def qG(l:List En):∀u∈l.flatMap kH,u.oneCell'=true:=fun u a=>by
 obtain⟨e,_,h⟩:=List.mem_flatMap.1 a;exact jJ e u h
def vj(w:World)(base d:Nat)(hb:base<=w.heap.size)(hd:d<256):bn (w.alloc (.cells #[.int .u8 (d:Int)] 5)) base (.slice w.heap.size 1 1) [UInt8.ofNat d]:=by
 have h:(w.alloc (.cells #[.int .u8 (d:Int)] 5)).ownsRow base 5 1 (.slice w.heap.size 1 1) 1 [.int .u8 (d:Int)]:=a0R w #[.int .u8 (d:Int)] 1 hb (by unfold maxLen;omega) rfl;have e:((UInt8.ofNat d).toNat:Int)=(d:Int):=by rw[a2I];omega
 show World.ownsRow _ _ _ _ _ _ (de [UInt8.ofNat d]);rw[show de [UInt8.ofNat d]=[.int .u8 ((UInt8.ofNat d).toNat:Int)]from rfl,e];exact h
def OT{e:En}(k:jb e=true)(r:ByteArray):gT (loE e++r)=some e.t/\enO (loE e++r) e.t=e/\(∀p,ctO (loE e++r) p=heE e p)/\nZ (loE e++r)=(loE e).size:=by
 have c:g9 e.n e.y e.mo e.d e.h e.mi e.s e.t=true:=k;obtain⟨f1,f2,f3⟩:=cR c;obtain⟨g1,g2,g3,g4⟩:=nc f3;have e2:(((stN e.y e.mo e.d e.h e.mi e.s).toNat:Nat):Int)=stN e.y e.mo e.d e.h e.mi e.s:=by rw[←g4];simp[stI,f3]
 have l:=(sf (n:=e.n) (t:=e.t) g3 (by omega) (by omega)).1;obtain⟨m,f,a,g,i,j,o,b,q⟩:=Bu (n:=e.n) (t:=e.t) g3 (by omega) (by omega) r;obtain⟨s0,s1,s2,s3,s4,s5⟩:=Pz f3;have el:loE e=cG e.n e.t (stN e.y e.mo e.d e.h e.mi e.s).toNat:=rfl;rw[el];refine⟨?_,?_,fun p=>?_,?_⟩
 . unfold gT;rw[a0c m,f,q,Nv e.t f2];simp only;rw[a0c];unfold Oo Eb;rw[g,j,a,b,e2,s0,s1,s2,s3,s4,s5,c];simp
 . unfold enO;rw[b,a,e2,s0,s1,s2,s3,s4,s5]
 . unfold ctO heE eN;rw[f,a,g,i,j,b]
 . unfold nZ;rw[o,i,l]
def Gt(a b:ByteArray):sub (a++b) a.size=b:=dn (by
 rw[gg];simp only[a1V,a1s];exact List.drop_left' (by simp))
theorem xV(l:List En)(k:Nat):∀j,k<=j->j<=l.length->∃x,(aG (l.take j)).1=(aG (l.take k)).1++x
 | 0,h,_=>by
  have:k=0:=by omega
  subst this;exact⟨⟨#[]⟩,dn (by simp)⟩
 | j+1,h,hj=>by
  by_cases e:k=j+1
  . subst e;exact⟨⟨#[]⟩,dn (by simp)⟩
  . obtain⟨x,a⟩:=xV l k j (by omega) (by omega);refine⟨x++loE (l.getD j default),?_⟩;rw[gE l j (by omega)];show(aG (l.take j)).1++loE _=_;rw[a,a2l]
def NJ{l:List En}(h:dO l=true)(b:k<l.length):∃r,jy l=(aG (l.take k)).1++(loE (l.getD k default)++r):=by
 obtain⟨x,a⟩:=xV l (k+1) l.length (by omega) (a0a _);rw[a2i,gE l k b]at a;have a:(aG l).1=(aG (l.take k)).1++loE (l.getD k default)++x:=a;refine⟨x++((aG l).2++dz l.length (aG l).2.size (aG l).1.size),?_⟩;unfold jy;rw[a0c h,a2l];generalize (aG l).2++dz l.length (aG l).2.size (aG l).1.size=T;rw[a];simp only[a2l]
theorem Dz{l:List En}(h:dO l=true):∀k,k<=l.length->zst (jy l) k=some (l.take k,(aG (l.take k)).2,(aG (l.take k)).1.size)
 | 0,_=>rfl
 | k+1,hk=>by
  have ih:=Dz h k (by omega);obtain⟨r,f⟩:=NJ h (by omega:k<l.length);have a:sub (jy l) (aG (l.take k)).1.size=loE (l.getD k default)++r:=by rw[f,Gt]
  obtain⟨b,c,d,e⟩:=OT ((jz h).1 k (by omega)) r;have:=qp (T:=(l.getD k default).t) ih (by show gT (sub _ _)=_;rw[a];exact b);rw[this];simp only[a,c,d,e];rw[gE l k (by omega),oZ l default k (by omega)];simp only[PV,a0D]
def NI{l:List En}(h:dO l=true):gj (jy l)=some l:=by
 have a:=Dz h l.length (a0a _);rw[a2i]at a;refine Dv a h ?_;show sub (jy l) (aG l).1.size=(aG l).2++dz l.length (aG l).2.size (aG l).1.size;unfold jy;rw[a0c h,a2l,Gt]
def NH{l:List En}(h:dO l=true):(jy l).size=(aG l).1.size+(aG l).2.size+22:=by
 unfold jy;rw[a0c h,a0D,a0D,ny]
def vS(l:List En):(jy l).size<=4000:=by
 by_cases h:dO l=true
 . rw[NH h];obtain⟨a,h2⟩:=jz h;have:=lv l a l.length (a0a _);rw[a2i]at this;omega
 . unfold jy;rw[a0d h];exact a0f _
