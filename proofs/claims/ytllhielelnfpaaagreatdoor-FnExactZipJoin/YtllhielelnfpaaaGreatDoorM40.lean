/- Of what the proof is made: 12 texts, one behind the other. -/
import Derived.Test.YtllhielelnfpaaaGreatDoorM38
import Derived.Test.YtllhielelnfpaaaGreatDoorM39
set_option maxRecDepth 100000
set_option linter.unusedSimpArgs false
set_option linter.unusedVariables false
set_option maxHeartbeats 12800000
namespace Go.Proofs.YtllhielelnfpaaaGreatDoor
open Go.Proofs.Tryz
open Corb
variable {T c s x:ByteArray}{b i k m:Nat}{u:List UInt8}{w w':World}
def sub(s:ByteArray)(p:Nat):ByteArray:=s.extract p s.size
theorem gm(s:ByteArray)(p:Nat):(sub s p).data.toList=s.data.toList.drop p:=by
 rw[sub,ext_list];exact a0x (by simp)
theorem iz(s:ByteArray)(p:Nat):(sub s p).size=s.size-p:=by
 rw[sub,a2P];omega
def oY(s:ByteArray):Nat:=30+wd s.data.toList 26 2+wd s.data.toList 18 4
def enO(s T:ByteArray):En:=⟨nmB s,gY (wd s.data.toList 10 4:Nat),gM (wd s.data.toList 10 4:Nat),gD (wd s.data.toList 10 4:Nat),gH (wd s.data.toList 10 4:Nat),gI (wd s.data.toList 10 4:Nat),gS (wd s.data.toList 10 4:Nat),T⟩
def ctO(s:ByteArray)(p:Nat):ByteArray:=jC (wd s.data.toList 8 2) (wd s.data.toList 10 4) (wd s.data.toList 14 4) (wd s.data.toList 18 4) (wd s.data.toList 22 4) (nmB s) p
theorem ko(h:iy s=some T):hdB s=true/\jf (enO s T)=true:=by
 unfold iy at h
 split at h
 .
  rename_i h0;refine⟨h0,?_⟩
  split at h
  .
   split at h
   .
    rename_i h2;cases h
    simp only[M8,a0o]at h2;exact h2.2.2
   . cases h
  . cases h
 . cases h
def zst(s:ByteArray):Nat->Option (List En×ByteArray×Nat)
 | 0=>some ([],⟨#[]⟩,0)
 | i+1=>(zst s i).bind fun q=>(iy (sub s q.2.2)).map fun T=>(q.1++[enO (sub s q.2.2) T],q.2.1++ctO (sub s q.2.2) q.2.2,q.2.2+oY (sub s q.2.2))
theorem sy{q:List En×ByteArray×Nat}(h:zst s i=some q)(a:iy (sub s q.2.2)=some T) :
  zst s (i+1)=some (q.1++[enO (sub s q.2.2) T],q.2.1++ctO (sub s q.2.2) q.2.2,q.2.2+oY (sub s q.2.2)):=by
 rw[zst,h,a0f,a,a3M]
theorem NA{q:List En×ByteArray×Nat}(h:zst s i=some q)(a:iy (sub s q.2.2)=none):zst s (i+1)=none:=by
 rw[zst,h,a0f,a,Option.map_none]
theorem Bz{s:ByteArray}{i:Nat}(h:zst s i=none):∀m,i<=m->zst s m=none
 | 0,hm=>by
  have:i=0:=by omega
  rw[<-this];exact h
 | m+1,hm=>by
  by_cases e:i=m+1
  . rw[<-e];exact h
  . rw[zst,Bz h m (by omega)];rfl
theorem gq{q:List En×ByteArray×Nat}(h:zst s (i+1)=some q):∃r T,zst s i=some r/\iy (sub s r.2.2)=some T/\q=(r.1++[enO (sub s r.2.2) T],r.2.1++ctO (sub s r.2.2) r.2.2,r.2.2+oY (sub s r.2.2)):=by
 rw[zst]at h;rcases b:zst s i with _|r
 . rw[b]at h;cases h
 .
  rw[b,a0f]at h;rcases a:iy (sub s r.2.2)with _|T
  . rw[a]at h;cases h
  .
   rw[a,a3M]at h;cases h
   exact⟨r,T,rfl,a,rfl⟩
theorem tV(h:iy s=some T):oY s<=s.size:=(kV.1 (ko h).1).2.2
theorem hH{s:ByteArray} : ∀{i:Nat} {q:List En×ByteArray×Nat},zst s i=some q->q.1.length=i/\q.2.2<=s.size/\(∀e∈q.1,jf e=true)/\(q.2.1=⟨#[]⟩∨q.2.1.data.toList.take 4=[80,75,1,2])/\q.2.1.size<=100*i
 | 0,q,h=>by cases h;exact⟨rfl,a0g _,(fun e a=>by cases a),.inl rfl,a0g _⟩
 | i+1,q,h=>by
  obtain⟨r,T,c,h2,rfl⟩:=gq h;obtain⟨a1,a2,a3,a4,a5⟩:=hH c;have f:=tV h2;rw[iz]at f;have b:=(ko h2).2;have g:=(dn (n:=(enO (sub s r.2.2) T).n) (t:=(enO (sub s r.2.2) T).t) b).1;have d:(ctO (sub s r.2.2) r.2.2).size=46+(nmB (sub s r.2.2)).size:=gE _ _ _ _ _ _ _;have j:(nmB (sub s r.2.2)).size<=43:=g;refine⟨by simp[a1],?_,?_,?_,?_⟩
  . show r.2.2+oY (sub s r.2.2)<=s.size;omega
  .
   intro e a;rcases a0U.1 a with a|a
   . exact a3 e a
   . rw[a05.1 a];exact b
  .
   refine .inr ?_;show(r.2.1++ctO (sub s r.2.2) r.2.2).data.toList.take 4=_;have e0:(ctO (sub s r.2.2) r.2.2).data.toList.take 4=[80,75,1,2]:=by simp[ctO,jC]
   rcases a4 with e|e
   . rw[e];simpa using e0
   .
    have:4<=r.2.1.data.toList.length:=by
     have:=congrArg List.length e;rw[a0v]at this;simp at this ⊢;omega
    simp only[a2b,a1H];rw[a1X this];exact e
  . show(r.2.1++ctO (sub s r.2.2) r.2.2).size<=_;rw[a0R,d];omega
theorem kK{s:ByteArray}{k:Nat} : ∀{m:Nat} {q:List En×ByteArray×Nat},zst s m=some q->k<=m->∃r,zst s k=some r/\r.1=q.1.take k
 | 0,q,h,hk=>by
  have:k=0:=by omega
  subst this;exact⟨q,h,by cases h;rfl⟩
 | m+1,q,h,hk=>by
  by_cases e:k=m+1
  . subst e;exact⟨q,h,by rw[a0x (by rw[(hH h).1];exact a0a _)]⟩
  . obtain⟨r,T,a,h2,rfl⟩:=gq h;obtain⟨d,b,c⟩:=kK a (by omega:k<=m);refine⟨d,b,?_⟩;rw[c];show _=(r.1++_).take k;rw[a1X (by rw[(hH a).1];omega)]
theorem rq(h:iy s=some T):s.data.toList.take 4=[80,75,3,4]:=by
 obtain⟨a,h2,_⟩:=kV.1 (ko h).1;simp only[nR,a0o,a0y]at h2;have b:30<=s.data.toList.length:=by simpa using a
 have:=(rK (l:=s.data.toList) (i:=0) (k:=4) (by omega) (by decide)).1 h2.1;rw[a2l]at this;rw[this];decide +kernel
theorem vy(k z p:Nat):(dB k z p).data.toList=[80,75,5,6]++(leS 2 0++(leS 2 0++(leS 2 k++(leS 2 k++(leS 4 z++(leS 4 p++leS 2 0)))))):=by
 simp[dB,aw]
theorem El(k z p:Nat)(a:c=⟨#[]⟩∨c.data.toList.take 4=[80,75,1,2]):(c++dB k z p).data.toList.take 4≠[80,75,3,4]:=by
 simp only[a2b,a1H];rcases a with e|e
 . rw[e,vy];simp
 .
  have:4<=c.data.toList.length:=by
   have:=congrArg List.length e;rw[a0v]at this;simp at this ⊢;omega
  rw[a1X this,e];decide
theorem IL{z p q:Nat}(h:sub s p=c++dB k z q)(e:k<65536):22<=s.size/\wd s.data.toList (s.size-12) 2=k:=by
 have d:s.size-p=c.size+22:=by rw[<-iz,h,a0R,pQ]
 refine⟨by omega,?_⟩;have h2:s.data.toList=(s.data.toList.take p++(c.data.toList++([80,75,5,6]++(leS 2 0++(leS 2 0++leS 2 k)))))++(leS 2 k++(leS 4 z++(leS 4 q++leS 2 0))):=by
  have:s.data.toList.drop p=(c++dB k z q).data.toList:=by rw[<-gm,h]
  conv=>lhs;rw[<-a1G p s.data.toList,this]
  simp only[a2b,a1H,vy,a0L]
 have a:(s.data.toList.take p++(c.data.toList++([80,75,5,6]++(leS 2 0++(leS 2 0++leS 2 k))))).length=s.size-12:=by
  simp only[a0k,a0v,aF];have e1:s.data.toList.length=s.size:=by simp
  have e2:c.data.toList.length=c.size:=by simp
  rw[e1,e2];simp;omega
 rw[h2];have:=Nx (b:=leS 2 k++(leS 4 z++(leS 4 q++leS 2 0))) (i:=0) 2 a;rw[a1v]at this;rw[this];exact Mz _ (by omega)
def dE(s:ByteArray):Option (List En):=
 if 12<=s.size/\wd s.data.toList (s.size-12) 2<=6 then
  (match zst s (wd s.data.toList (s.size-12) 2)with
  | some q=>if dm q.1=true/\sub s q.2.2=q.2.1++dB (wd s.data.toList (s.size-12) 2) q.2.1.size q.2.2 then some q.1 else none
  | none=>none)
 else none
theorem qO{l:List En}(h:dE s=some l):∃m q,zst s m=some q/\l=q.1/\dm q.1=true/\sub s q.2.2=q.2.1++dB m q.2.1.size q.2.2:=by
 unfold dE at h
 split at h
 .
  split at h
  .
   rename_i q hq
   split at h
   .
    rename_i h2;cases h
    exact⟨_,q,hq,rfl,h2.1,h2.2⟩
   . cases h
  . cases h
 . cases h
theorem KX{q:List En×ByteArray×Nat}(h:zst s m=some q)(b:dm q.1=true)(a:sub s q.2.2=q.2.1++dB m q.2.1.size q.2.2):dE s=some q.1:=by
 have c:=(ii b).2;have d:=(hH h).1;obtain⟨e1,e2⟩:=IL a (by omega);unfold dE;rw[a0e ⟨by omega,by omega⟩,e2,h];simp only;rw[a0e ⟨b,a⟩]
theorem wv{q r:List En×ByteArray×Nat}(d:zst s k=some q)(b:zst s m=some r)(c:sub s r.2.2=r.2.1++dB m r.2.1.size r.2.2):k<=m:=by
 rcases a1n m k with h|h
 .
  exfalso;obtain⟨x,e,_⟩:=kK d (by omega:m+1<=k);obtain⟨y,T,a,h2,_⟩:=gq e;rw[b]at a;cases a
  have:=rq h2;rw[c]at this;exact El _ _ _ (hH b).2.2.2.1 this
 . exact h
theorem He{q:List En×ByteArray×Nat}(b:zst s k=some q)(i:dm q.1=true)(f:(sub s q.2.2).data.toList.take 4≠[80,75,3,4]) :
  dE s=if sub s q.2.2=q.2.1++dB k q.2.1.size q.2.2 then some q.1 else none:=by
 split
 . rename_i he;exact KX b i he
 .
  rename_i he;rcases h:dE s with _|l
  . rfl
  .
   exfalso;obtain⟨m,r,a,h2,j,c⟩:=qO h;have d:=wv b a c;by_cases e:k=m
   .
    subst e;rw[b]at a;cases a
    exact he c
   .
    obtain⟨x,g,_⟩:=kK a (by omega:k+1<=m);obtain⟨y,T,y1,y2,_⟩:=gq g;rw[b]at y1;cases y1
    exact f (rq y2)
theorem Bs{q:List En×ByteArray×Nat}(c:zst s k=some q)(o:(sub s q.2.2).data.toList.take 4=[80,75,3,4])(p:∀T,iy (sub s q.2.2)=some T->dm (q.1++[enO (sub s q.2.2) T])=false):dE s=none:=by
 rcases h:dE s with _|l
 . rfl
 .
  exfalso;obtain⟨m,r,b,h2,f,g⟩:=qO h;have u:=wv c b g;by_cases e:k=m
  .
   subst e;rw[c]at b;cases b
   rw[g]at o;exact El _ _ _ (hH c).2.2.2.1 o
  .
   obtain⟨x,v,d⟩:=kK b (by omega:k+1<=m);obtain⟨y,T,y1,y2,y3⟩:=gq v;rw[c]at y1;cases y1
   have j:=p T y2;have n:dm (r.1.take (k+1))=true:=by
    rw[qP]at f ⊢;intro i t;have a:i<k+1/\i<r.1.length:=by rw[a0v]at t;omega
    have:=f i a.2;unfold iM at this ⊢;rw[nh r.1 (k+1) i a.1,a3c,a1g (by omega)];exact this
   rw[<-d,y3]at n;rw[n]at j;cases j
def hqO(x:ByteArray)(p:Nat):Hq:=⟨wd x.data.toList 8 2,wd x.data.toList 10 4,wd x.data.toList 14 4,wd x.data.toList 18 4,wd x.data.toList 22 4,nmB x,p⟩
def s9(s:ByteArray)(k:Nat):Hq:=match zst s k with
 | some q=>hqO (sub s q.2.2) q.2.2
 | none=>hqO ⟨#[]⟩ 0
def hqL(s:ByteArray)(n:Nat):List Hq:=(List.range n).map (s9 s)
theorem sd(s:ByteArray)(n:Nat):(hqL s n).length=n:=by simp[hqL]
theorem I8(s:ByteArray)(n:Nat):hqL s (n+1)=hqL s n++[s9 s n]:=by simp[hqL,a3D]
theorem LC(s:ByteArray)(n i:Nat)(d:Hq)(h:i<n):(hqL s n).getD i d=s9 s i:=by simp[hqL,List.getD,h]
theorem xj{q:List En×ByteArray×Nat}(h:zst s k=some q):s9 s k=hqO (sub s q.2.2) q.2.2:=by
 unfold s9;rw[h]
theorem zG{s:ByteArray} : ∀{k:Nat} {q:List En×ByteArray×Nat},zst s k=some q->eK (s9 s) k=q.2.1
 | 0,q,h=>by cases h;rfl
 | k+1,q,h=>by
  obtain⟨r,T,a,h2,rfl⟩:=gq h;rw[eK,zG a,xj a];rfl
theorem LB(j:s.size<=1048576){q:List En×ByteArray×Nat}(h:zst s k=some q):∀i,i<k->okQ (s9 s i):=by
 intro i f;obtain⟨x,e,_⟩:=kK h (by omega:i+1<=k);obtain⟨r,T,a,h2,_⟩:=gq e;rw[xj a];have b:=(ko h2).2;have c:=(dn (n:=(enO (sub s r.2.2) T).n) (t:=(enO (sub s r.2.2) T).t) b).1;have d:(nmB (sub s r.2.2)).size<=43:=c;have g:=(hH a).2.1;exact⟨iJ _ _,ez _ _,ez _ _,ez _ _,ez _ _,by show(nmB (sub s r.2.2)).size<=54;omega,by show r.2.2<4294967296;omega⟩
theorem E5(l:List En)(e:En)(i:Nat)(a:i<l.length):iM (l++[e]) i=iM l i:=by
 unfold iM;rw[a1X (by omega)]
 congr 1
 simp only[List.getD];rw[List.getElem?_append_left a]
theorem vr(l:List En)(e:En):iM (l++[e]) l.length=bj l e:=by
 unfold iM;rw[a1X (a0a _),a0x (a0a _)]
 congr 1
 simp[List.getD]
theorem kH{l:List En}(h:dm l=true)(e:En):dm (l++[e])=true<->bj l e=0:=by
 rw[qP]at h ⊢;constructor
 . intro k;have:=k l.length (by simp);rw[vr]at this;exact this
 .
  intro k i b;by_cases a:i<l.length
  . rw[E5 l e i a];exact h i a
  .
   have:i=l.length:=by simp at b;omega
   rw[this,vr];exact k
theorem JC(s:ByteArray):Lib.hasPrefix s.data.toList [80,75,3,4]=decide (s.data.toList.take 4=[80,75,3,4]):=by
 rw[a2g,a0y];unfold Lib.hasPrefix;rw[List.isPrefixOf_iff_prefix,List.prefix_iff_eq_take];exact eq_comm
theorem GN{v:List UInt8}{n:Nat}(h:30<=v.length)(a:nR v=true)(d:n=wd v 26 2):(ec (wd v 8 2) (wd v 10 4) (wd v 14 4) (wd v 18 4) (wd v 22 4) n).data.toList=(v.drop 4).take 26:=by
 have st:∀i k m,(v.drop i).take (k+m)=(v.drop i).take k++(v.drop (i+k)).take m:=fun i k m=>by rw[a3b,a1O]
 simp only[nR,a0o,a0y]at a;obtain⟨_,b,h2,c⟩:=a;have e1:=(rK (l:=v) (i:=4) (k:=2) (by omega) (by decide)).1 b;have e2:=(rK (l:=v) (i:=6) (k:=2) (by omega) (by decide)).1 h2;have e3:=(rK (l:=v) (i:=28) (k:=2) (by omega) (by decide)).1 c;have e:(ec (wd v 8 2) (wd v 10 4) (wd v 14 4) (wd v 18 4) (wd v 22 4) n).data.toList=leS 2 20++(leS 2 0++(leS 2 (wd v 8 2)++(leS 4 (wd v 10 4)++(leS 4 (wd v 14 4)++(leS 4 (wd v 18 4)++(leS 4 (wd v 22 4)++(leS 2 n++leS 2 0))))))):=by
  unfold ec aw;simp
 rw[e,d,<-e1,<-e2,gZ (i:=8) (k:=2) (by omega),gZ (i:=10) (k:=4) (by omega),gZ (i:=14) (k:=4) (by omega),gZ (i:=18) (k:=4) (by omega),gZ (i:=22) (k:=4) (by omega),gZ (i:=26) (k:=2) (by omega)]
 conv=>lhs;rhs;rhs;rhs;rhs;rhs;rhs;rhs;rhs;rw[e2,<-e3]
 rw[<-st 26 2 2,<-st 22 4 _,<-st 18 4 _,<-st 14 4 _,<-st 10 4 _,<-st 8 2 _,<-st 6 2 _,<-st 4 2 _]
def rS(u v:List UInt8)(own:Nat):Prop:=30<=u.length/\46+wd u 28 2<=u.length/\30+wd u 28 2<=v.length/\((u.drop 6).take 26=(v.drop 4).take 26/\(u.drop 46).take (wd u 28 2)=(v.drop 30).take (wd u 28 2))/\(u.take 6=leS 4 33639248++leS 2 20/\(u.drop 32).take 14=List.replicate 10 0++leS 4 own)
theorem Iw(own:Nat)(h:hdB x=true):(ctO x own).data.toList=(leS 4 33639248++leS 2 20)++((x.data.toList.drop 4).take 26++((List.replicate 10 0++leS 4 own)++(x.data.toList.drop 30).take (wd x.data.toList 26 2))):=by
 obtain⟨a,h2,c⟩:=kV.1 h;have b:30<=x.data.toList.length:=by simpa using a
 have e:=GN b h2 (kp (s:=x) (by omega));have e0:leS 4 33639248=[80,75,1,2]:=by decide +kernel
 rw[e0,<-e,<-zV];unfold ctO jC aw;simp[List.replicate]
theorem qt{v:List UInt8}(h:(u.drop 6).take 26=(v.drop 4).take 26):wd u 28 2=wd v 26 2:=by
 have e1:((u.drop 6).take 26).drop 22=(u.drop 28).take 4:=by rw[a3J,a1O]
 have e2:((v.drop 4).take 26).drop 22=(v.drop 26).take 4:=by rw[a3J,a1O]
 have e3:(u.drop 28).take 4=(v.drop 26).take 4:=by rw[<-e1,<-e2,h]
 have e4:(u.drop 28).take 2=(v.drop 26).take 2:=by
  have:=congrArg (List.take 2) e3;rwa[a3c,a3c]at this
 unfold wd;rw[e4]
theorem LL(own:Nat)(h:hdB x=true):rS u x.data.toList own<->u.take (46+wd x.data.toList 26 2)=(ctO x own).data.toList:=by
 obtain⟨g,h2,j⟩:=kV.1 h;have d:30+wd x.data.toList 26 2<=x.data.toList.length:=by
  have:x.data.toList.length=x.size:=by simp
  omega
 have st:∀i k m,(u.drop i).take (k+m)=(u.drop i).take k++(u.drop (i+k)).take m:=fun i k m=>by rw[a3b,a1O]
 have eu:∀n,u.take (46+n)=u.take 6++((u.drop 6).take 26++((u.drop 32).take 14++(u.drop 46).take n)):=fun n=>by
  rw[<-st 32 14 n,<-st 6 26 _];have:=st 0 6 (26+(14+n));rw[a2l,a0G]at this;rw[<-this]
  congr 1;omega
 rw[Iw own h];have l1:(leS 4 33639248++leS 2 20).length=6:=by simp[aF]
 have l2:((x.data.toList.drop 4).take 26).length=26:=eR (by omega);have l3:(List.replicate 10 (0:UInt8)++leS 4 own).length=14:=by simp[aF]
 have l4:((x.data.toList.drop 30).take (wd x.data.toList 26 2)).length=wd x.data.toList 26 2:=eR d;constructor
 . rintro⟨c0,c1,c2,⟨s1,s2⟩,b,c⟩;have a:=qt s1;rw[a]at s2;rw[eu,b,s1,c,s2]
 .
  intro e;have f:=congrArg List.length e;have m1:=l1;have m3:=l3;simp only[a0k]at f m1 m3;rw[a0v,l2,l4]at f;have l:46+wd x.data.toList 26 2<=u.length:=by omega
  rw[eu]at e;obtain⟨b,e⟩:=a1Y e (by rw[l1,a0v];omega);obtain⟨s1,e⟩:=a1Y e (by rw[l2,a0v,a1b];omega);obtain⟨c,s2⟩:=a1Y e (by rw[l3,a0v,a1b];omega);have a:=qt s1;exact⟨by omega,by omega,by rw[a];exact d,⟨s1,by rw[a];exact s2⟩,b,c⟩
theorem EJ{s:ByteArray}{k:Nat}{r:List En×ByteArray×Nat}(a:zst s k=some r):∀{m:Nat} {q:List En×ByteArray×Nat},zst s m=some q->k<=m->∃x,q.2.1.data.toList=r.2.1.data.toList++x
 | 0,q,h,hkm=>by
  have:k=0:=by omega
  subst this;rw[a]at h;cases h;exact⟨[],by simp⟩
 | m+1,q,h,hkm=>by
  by_cases e:k=m+1
  . subst e;rw[a]at h;cases h;exact⟨[],by simp⟩
  .
   obtain⟨y,T,b,h2,rfl⟩:=gq h;obtain⟨x,c⟩:=EJ a b (by omega);exact⟨x++(ctO (sub s y.2.2) y.2.2).data.toList,by
    show(y.2.1++ctO (sub s y.2.2) y.2.2).data.toList=_;simp only[a2b,a1H];rw[c,a0L]⟩
def preB(s c:ByteArray)(A:Nat):Prop:=(s.data.toList.drop A).take c.size=c.data.toList
theorem Ap{A:Nat}{r:List En×ByteArray×Nat}(d:iy (sub s r.2.2)=some T)(a:preB s r.2.1 A) :
  rS (s.data.toList.drop (A+r.2.1.size)) (s.data.toList.drop r.2.2) r.2.2<->preB s (r.2.1++ctO (sub s r.2.2) r.2.2) A:=by
 have b:=(ko d).1;have c:(ctO (sub s r.2.2) r.2.2).size=46+wd (sub s r.2.2).data.toList 26 2:=by
  have:(ctO (sub s r.2.2) r.2.2).size=46+(nmB (sub s r.2.2)).size:=gE _ _ _ _ _ _ _;rw[this,kp (by have:=(kV.1 b).2.2;omega)]
 have:=LL (u:=s.data.toList.drop (A+r.2.1.size)) r.2.2 b;rw[gm]at this;rw[this];unfold preB;have st:(s.data.toList.drop A).take (r.2.1.size+(46+wd (s.data.toList.drop r.2.2) 26 2))=(s.data.toList.drop A).take r.2.1.size++(s.data.toList.drop (A+r.2.1.size)).take (46+wd (s.data.toList.drop r.2.2) 26 2):=by rw[a3b,a1O]
 rw[gm]at c;rw[a0R,c,st];unfold preB at a;simp only[a2b,a1H];constructor
 . intro e;rw[a,e]
 . intro e;rw[a]at e;exact a2c e
theorem pE{s:ByteArray}{m:Nat}(a:12<=s.size)(b:wd s.data.toList (s.size-12) 2=m)(c:m<=6):dE s=match zst s m with
  | some q=>if dm q.1=true/\sub s q.2.2=q.2.1++dB m q.2.1.size q.2.2 then some q.1 else none
  | none=>none:=by
 unfold dE
 (rw[a0e ⟨a,by omega⟩,b])<;>(rcases zst s m with _|q<;>rfl)
theorem Bt(h:¬ (12<=s.size/\wd s.data.toList (s.size-12) 2<=6)):dE s=none:=a0d h
theorem Ha{q r:List En×ByteArray×Nat}(a:12<=s.size)(f:wd s.data.toList (s.size-12) 2=m)(d:m<=6)(hq:zst s m=some q)(l:i<m)(j:zst s i=some r)(b:iy (sub s r.2.2)=some T)(h:preB s r.2.1 q.2.2)
  (g:¬ rS (s.data.toList.drop (q.2.2+r.2.1.size)) (s.data.toList.drop r.2.2) r.2.2):dE s=none:=by
 rw[pE a f d,hq];simp only;rw[a0d];rintro⟨_,e⟩;apply g;rw[Ap b h];obtain⟨x,k⟩:=EJ (sy j b) hq (by omega);have c:s.data.toList.drop q.2.2=q.2.1.data.toList++(dB m q.2.1.size q.2.2).data.toList:=by
  rw[<-gm,e];simp
 unfold preB;rw[c,k,a0L];simp only;rw[a1X (by simp),a0x (by simp)]
theorem KW{q:List En×ByteArray×Nat}(c:12<=s.size)(g:wd s.data.toList (s.size-12) 2=m)(f:m<=6)(hq:zst s m=some q)(i:dm q.1=true)(e:preB s q.2.1 q.2.2) :
  dE s=if sub s (q.2.2+q.2.1.size)=dB m q.2.1.size q.2.2 then some q.1 else none:=by
 rw[pE c g f,hq];simp only;have:(dm q.1=true/\sub s q.2.2=q.2.1++dB m q.2.1.size q.2.2)<->sub s (q.2.2+q.2.1.size)=dB m q.2.1.size q.2.2:=by
  have e1:s.data.toList.drop q.2.2=q.2.1.data.toList++s.data.toList.drop (q.2.2+q.2.1.size):=by
   conv=>lhs;rw[<-a1G q.2.1.size (s.data.toList.drop q.2.2)]
   rw[a1O];unfold preB at e;rw[e]
  constructor
  . rintro⟨_,d⟩;apply kO;have e2:=congrArg (fun x:ByteArray=>x.data.toList) d;simp only[gm,a2b,a1H]at e2;rw[e1]at e2;rw[gm];exact a2c e2
  . intro d;refine⟨i,kO ?_⟩;rw[gm,e1];simp only[a2b,a1H];rw[<-d,gm]
 by_cases b:sub s (q.2.2+q.2.1.size)=dB m q.2.1.size q.2.2
 . rw[a0e (this.2 b),a0e b]
 . rw[a0d (fun h=>b (this.1 h)),a0d b]
open Go.RowKit
theorem Dl{n t:ByteArray}{y mo d h mi c k:Int}(a:oZ x = .tuple #[.agg #[.string n,.int .i64 y,.int .i64 mo,.int .i64 d,.int .i64 h,.int .i64 mi,.int .i64 c,.string t],.int .i64 k,.bool true]) :
  ∃T,iy x=some T/\enO x T=⟨n,y,mo,d,h,mi,c,t⟩/\k=((oY x:Nat):Int):=by
 unfold oZ at a;rcases b:iy x with _|T
 . rw[b]at a;simp at a
 .
  rw[b]at a;simp only[F4,Value.tuple.injEq,Array.mk.injEq,List.cons.injEq,Value.agg.injEq,Value.string.injEq,Value.int.injEq,true_and,a0P]at a;obtain⟨⟨e0,e1,e2,e3,e4,e5,e6,e7⟩,e8⟩:=a;refine⟨T,rfl,?_,?_⟩
  . unfold enO;rw[e0,e1,e2,e3,e4,e5,e6,e7]
  . rw[<-e8];rfl
theorem Kd(a:oZ x = .tuple #[noE,.int .i64 0,.bool false]):iy x=none:=by
 unfold oZ at a;rcases b:iy x with _|T
 . rfl
 . rw[b]at a;simp at a
theorem NK(w:World)(base:Nat)(hb:base<=w.heap.size):gz (w.alloc (.cells #[] 31)) base (.slice (some ⟨w.heap.size,0,none⟩) 0 0) []:=a0Y w #[] 0 hb (by unfold maxLen;omega) rfl
theorem FK(s:ByteArray)(m:Nat)(w:World)(hs:s.size<=1048576)(hm:m<=6) :
  Calls prog 38 #[.string s,.int .i64 (m:Nat)] w fun e w'=>(∃(v:Value) (p:Nat) (ok:Bool),e = .returned (.tuple #[v,.int .i64 (p:Nat),.bool ok])/\(ok=true->∃q,zst s m=some q/\p=q.2.2/\gz w' w.heap.size v q.1)/\(ok=false->zst s m=none))/\Below w.heap.size w w':=by
 have al:(m:Int)<=6:=by omega
 have a0:(s.size:Int)<=1048576:=by omega
 have HS:=ae hs;have Hm:=ae hm;have I:Hid (gz (w.alloc (.cells #[] 31)) w.heap.size (.slice (some ⟨w.heap.size,0,none⟩) 0 0) []):=NK _ _ (a0a _);have F:Hid (Below w.heap.size w (w.alloc (.cells #[] 31))):=(a0c _ _).alloc (a0a _) _;obtain⟨i0,hi,Y,Z,aa⟩:=a0p Tryz.infoEnt;clear hs hm;go_enter func38,ntmps38;go_wp2_with fail
 go_loopw [7,8,9,10,11,12] (fun v a i _ _ _ wr=>∃(k:Nat) (q:List En×ByteArray×Nat),k<=m/\i = .int .i64 k/\zst s k=some q/\a = .int .i64 (q.2.2:Nat)/\gz wr w.heap.size v q.1/\Below w.heap.size w wr) (fun _ _ i _ _ _ _=>m-(intOf i).toNat)
 case atStart=>exact⟨0,([],⟨#[]⟩,0),a0g _,rfl,rfl,rfl,ab I,ab F⟩
 case round=>
  obtain⟨k,q,hk,rfl,N,rfl,hq,g⟩:=hrel;clear I F;by_cases ad:k<m
  .
   have r:=hH N;have an:(q.2.2:Int)<=s.size:=by have:=r.2.1;omega
   have HL:=ae r.1;have K:(sub s q.2.2).size<=1048576:=by rw[iz];have:=ab HS;omega
   have O:=ae (fun W=>tJ (sub s q.2.2) W K);have E:=ae hq;have b:=ae g;have HK:=ae hk;have HZ:=ae N;clear K r hq g hk N;go_wp2_with fail;refine(ab O wr).mono ?_;rintro e x1 ⟨⟨n,y,mo,d,h,mi,c,t,kk,ok,rfl,M⟩,u⟩;have D:=ae (ai (ab b) u);have L:Hid (Below x1.heap.size x1 (x1.alloc (.cells #[.string n,.int .i64 y,.int .i64 mo,.int .i64 d,.int .i64 h,.int .i64 mi,.int .i64 c,.string t] 31))):=(a0c _ _).alloc (a0a _) _;cases ok
   .
    have P:=ae (Bz (NA (ab HZ) (Kd M)) m (by omega));have B:=ae (ai (ab D) (ab L));clear M u O E b L;go_wp2
    go_ret3
    exact⟨⟨_,_,false,rfl,(fun h=>by cases h),fun _=>ab P⟩,ab B⟩
   .
    obtain⟨T,U,hE,rfl⟩:=Dl M;have C:=sy (ab HZ) U;have hf:=tV U;rw[iz]at hf;rw[hE]at C;have R:=ae C;have ac:(q.2.2:Int)+((oY (sub s q.2.2):Nat):Int)<=(s.size:Int):=by omega
    have V:=ai u (ab L);have z:=cf.own (ab HL) ((ab E).later V (a0a _));have f:=ai (ab b) V;have j:=f.size;have o:Hid (k+1<=maxLen/\(k+1)*80<=140737488355328):=by
     show _/\_;have:=ab Hm;unfold maxLen;omega
    obtain⟨W1,hW1⟩:∃x,x1.alloc (.cells #[.string n,.int .i64 y,.int .i64 mo,.int .i64 d,.int .i64 h,.int .i64 mi,.int .i64 c,.string t] 31)=x:=⟨_,rfl⟩;have S:=ae (aL x1 #[.string n,.int .i64 y,.int .i64 mo,.int .i64 d,.int .i64 h,.int .i64 mi,.int .i64 c,.string t] 31);rw[hW1]at z f j S;have pA:=(ab S).cells (n:=8) rfl;clear M U hE hf C u O E b L V D;go_wp2_with (at_builtin;refine a0r _ rfl _ _ 38 rfl w.heap.size 31 i0 (.agg #[.string ⟨#[]⟩,.int .i64 0,.int .i64 0,.int .i64 0,.int .i64 0,.int .i64 0,.int .i64 0,.string ⟨#[]⟩]) 8 80 a10 hi Y Z aa rfl (by decide) _ _ _ rfl (a0j z _) ⟨W1.heap.size,0,none⟩ 1 1 (kg ⟨n,y,mo,d,h,mi,c,t⟩) rfl rfl (i6 W1 _ _) (je _) (ab o).1 (ab o).2 (ao j _) ?_;intro v' x2 A l H;clear H);have G:=aC (v:=u7) l z (a0a _) j f;have J:gz x2 w.heap.size v' (q.1++[⟨n,y,mo,d,h,mi,c,t⟩]):=cf.snoc (ab HL) A;have Q:=ae J;have B:=ae G;clear A l z J G pA f j S hW1;go_wp2;go_roundw
    case rel=>exact⟨k+1,_,by have:=ab HK;omega,by go_num,ab R,by go_num,ab Q,ab B⟩
    case measure=>simp[intOf];omega
  .
   have X:k=m:=by omega
   subst X;have E:=ae hq;have b:=ae g;clear hq g;go_wp2
   go_ret3
   exact⟨⟨_,_,true,rfl,fun _=>⟨q,N,rfl,ab E⟩,(fun h=>by cases h)⟩,ab b⟩
theorem My(l:List UInt8)(i j k:Nat):wd (l.drop i) j k=wd l (i+j) k:=by unfold wd;rw[a1O]
theorem ext_eq{a:Nat}{c d:Nat}(e:b=a+k)(h2:d=c+k):(s.extract a b).toList=(x.extract c d).toList<->(s.data.toList.drop a).take k=(x.data.toList.drop c).take k:=by
 rw[dY,ext_list,ext_list,e,h2,a19,a19]
theorem IP{y:ByteArray}{a:Nat}(c:b=a+k):(s.extract a b).toList=y.toList<->(s.data.toList.drop a).take k=y.data.toList:=by
 rw[dY,ext_list,c,a19]
theorem ww{q:List En×ByteArray×Nat}(h:zst s k=some q):∀i,i<k->(q.1.getD i default).n.size<=1048576/\((q.1.getD i default).t.size:Int)<=9223372036854775807:=by
 intro i d;obtain⟨c,_,a,_⟩:=hH h;have b:q.1.getD i default∈q.1:=by
  rw[List.getD,List.getElem?_eq_getElem (by omega:i<q.1.length)];exact a2f _
 obtain⟨f1,f2,_⟩:=dn (n:=(q.1.getD i default).n) (t:=(q.1.getD i default).t) (a _ b);exact⟨by omega,by omega⟩
theorem Li{p:Nat}(h:rS u (s.data.toList.drop p) p)(hd:hdB (sub s p)=true):46+wd u 28 2=(ctO (sub s p) p).size:=by
 have e:=qt h.2.2.2.1.1;have a:(ctO (sub s p) p).size=46+(nmB (sub s p)).size:=gE _ _ _ _ _ _ _;rw[a,kp (by have:=(kV.1 hd).2.2;omega),gm,e]
theorem below_drewN{B:Nat}{a:World}(h:Below B a w)(n:Nat):Below B a (w.drewN n):=⟨h.os,h.tape,h.output,h.size,h.block⟩
theorem Cp(s:ByteArray)(hd own:Nat)(w:World)(L:s.size<=1048576)(J:hd<=2000000)(h2:own<=2000000) :
  Calls prog 40 #[.string s,.int .i64 (hd:Nat),.int .i64 (own:Nat)] w fun e w'=>(∃(k:Nat) (b:Bool),e = .returned (.tuple #[.int .i64 (k:Nat),.bool b])/\(b=true<->rS (s.data.toList.drop hd) (s.data.toList.drop own) own)/\(b=true->k=46+wd (s.data.toList.drop hd) 28 2))/\Below w.heap.size w w':=by
 have D:prog.follows .mixedOrders=true:=by kernel_rfl
 have al:(s.size:Int)<=1048576:=by omega
 have aa:(hd:Int)<=2000000:=by omega
 have ac:(own:Int)<=2000000:=by omega
 have G:s.data.toList.length=s.size:=by simp
 have C:Hid (∀W,Ds 36 #[.string s,.int .i64 ((hd:Int)+28),.int .i64 2] W (.int .i64 (dF s (hd+28) 2))):=fun W=>by
  have:=dr s (hd+28) 2 W (by omega) (by decide) (by omega);rw[show((hd+28:Nat):Int)=(hd:Int)+28 by omega]at this;exact this
 have u:=My s.data.toList hd 28 2;by_cases K:hd+30<=s.size
 .
  rw[gh (by omega)]at C;have v:=iJ s.data.toList (hd+28);rw[u];have HP:Hid (rS (s.data.toList.drop hd) (s.data.toList.drop own) own<->(hd+(46+wd s.data.toList (hd+28) 2)<=s.size/\own+30+wd s.data.toList (hd+28) 2<=s.size)/\(((s.data.toList.drop (hd+6)).take 26=(s.data.toList.drop (own+4)).take 26/\(s.data.toList.drop (hd+46)).take (wd s.data.toList (hd+28) 2)=(s.data.toList.drop (own+30)).take (wd s.data.toList (hd+28) 2))/\((s.data.toList.drop hd).take 6=leS 4 33639248++leS 2 20/\(s.data.toList.drop (hd+32)).take 14=List.replicate 10 0++leS 4 own))):=by
   show _<->_;unfold rS;rw[u];simp only[a1O,a1b,G];constructor
   . rintro⟨a,b,c,d,e⟩;exact⟨⟨by omega,by omega⟩,d,e⟩
   . rintro⟨⟨a,b⟩,d,e⟩;exact⟨by omega,by omega,by omega,d,e⟩
  clear u G;generalize wd s.data.toList (hd+28) 2=NM at *
  have ad:(NM:Int)<65536:=by omega
  by_cases B:hd+(46+NM)<=s.size/\own+30+NM<=s.size
  .
   have P:=ae B;obtain⟨b1,b2⟩:=B;have N:(hd:Int)+(46+(NM:Int))<=(s.size:Int):=by omega
   have S:(own:Int)+30+NM<=s.size:=by omega
   have d0:decide ((NM:Int)<0)=false:=a0h (by omega);have d1:decide ((s.size:Int)<hd+(46+(NM:Int)))=false:=a0h (by omega);have d2:decide ((s.size:Int)<own+30+NM)=false:=a0h (by omega);have Z:Hid (∀W,Ds 62 #[.int .i64 33639248,.int .i64 4] W (.string (aw (leS 4 33639248)))):=fun W=>aM 33639248 4 W (by omega) (by omega);have CV:Hid (∀W,Ds 62 #[.int .i64 20,.int .i64 2] W (.string (aw (leS 2 20)))):=fun W=>aM 20 2 W (by omega) (by omega);have Y:Hid (∀W,Ds 62 #[.int .i64 0,.int .i64 10] W (.string (aw (leS 10 0)))):=fun W=>aM 0 10 W (by omega) (by omega);have CP:Hid (∀W,Ds 62 #[.int .i64 (own:Nat),.int .i64 4] W (.string (aw (leS 4 own)))):=fun W=>aM own 4 W (by omega) (by omega);have E1:Hid ((s.extract (hd+6) (hd+32)).toList=(s.extract (own+4) (own+30)).toList<->(s.data.toList.drop (hd+6)).take 26=(s.data.toList.drop (own+4)).take 26):=ext_eq rfl rfl;have E2:Hid ((s.extract (hd+46) (hd+(46+NM))).toList=(s.extract (own+30) (own+30+NM)).toList<->(s.data.toList.drop (hd+46)).take NM=(s.data.toList.drop (own+30)).take NM):=ext_eq (by omega) rfl;have E3:Hid ((s.extract hd (hd+6)).toList=(aw (leS 4 33639248)++aw (leS 2 20)).toList<->(s.data.toList.drop hd).take 6=leS 4 33639248++leS 2 20):=by
    have:=IP (s:=s) (y:=aw (leS 4 33639248)++aw (leS 2 20)) (a:=hd) (b:=hd+6) (k:=6) rfl;rw[show(aw (leS 4 33639248)++aw (leS 2 20)).data.toList=leS 4 33639248++leS 2 20 by simp[aw]]at this;exact this
   have E4:Hid ((s.extract (hd+32) (hd+46)).toList=(aw (leS 10 0)++aw (leS 4 own)).toList<->(s.data.toList.drop (hd+32)).take 14=List.replicate 10 0++leS 4 own):=by
    have:=IP (s:=s) (y:=aw (leS 10 0)++aw (leS 4 own)) (a:=hd+32) (b:=hd+46) (k:=14) rfl;have e0:leS 10 0=List.replicate 10 0:=by decide +kernel
    rw[show(aw (leS 10 0)++aw (leS 4 own)).data.toList=List.replicate 10 0++leS 4 own by rw[e0];simp[aw]]at this;exact this
   have z1:(aw (leS 4 33639248)).size<=10:=by rw[bo,aF];omega
   have z2:(aw (leS 2 20)).size<=10:=by rw[bo,aF];omega
   have z3:(aw (leS 10 0)).size<=10:=by rw[bo,aF];omega
   have z4:(aw (leS 4 own)).size<=10:=by rw[bo,aF];omega
   have m1:¬ 9223372036854775807<(aw (leS 4 33639248)).size+(aw (leS 2 20)).size:=by omega
   have m2:¬ 9223372036854775807<(aw (leS 10 0)).size+(aw (leS 4 own)).size:=by omega
   generalize aw (leS 4 33639248)=A1 at *
   generalize aw (leS 2 20)=A2 at *
   generalize aw (leS 10 0)=A3 at *
   generalize aw (leS 4 own)=A4 at *
   rw[<-ab E1,<-ab E2,<-ab E3,<-ab E4]at HP;obtain⟨X1,l⟩:∃x,s.extract (hd+6) (hd+32)=x:=⟨_,rfl⟩;obtain⟨Y1,n⟩:∃x,s.extract (own+4) (own+30)=x:=⟨_,rfl⟩;obtain⟨X2,m⟩:∃x,s.extract (hd+46) (hd+(46+NM))=x:=⟨_,rfl⟩;obtain⟨Y2,o⟩:∃x,s.extract (own+30) (own+30+NM)=x:=⟨_,rfl⟩;obtain⟨X3,r⟩:∃x,s.extract hd (hd+6)=x:=⟨_,rfl⟩;obtain⟨X4,t⟩:∃x,s.extract (hd+32) (hd+46)=x:=⟨_,rfl⟩;rw[l,n,m,o,r,t]at HP;obtain⟨B1,g⟩:∃b,(X1.toList == Y1.toList)=b:=⟨_,rfl⟩;obtain⟨B2,j⟩:∃b,(X2.toList == Y2.toList)=b:=⟨_,rfl⟩;obtain⟨B3,p⟩:∃b,(X3.toList == (A1++A2).toList)=b:=⟨_,rfl⟩;obtain⟨B4,q⟩:∃b,(X4.toList == (A3++A4).toList)=b:=⟨_,rfl⟩;have HR:Hid (((B1&&B2)&&(B3&&B4))=true<->rS (s.data.toList.drop hd) (s.data.toList.drop own) own):=by
    show _<->_;rw[ab HP,<-g,<-j,<-p,<-q];simp only[a0o,a3L];exact⟨fun h=>⟨ab P,h⟩,fun h=>h.2⟩
   have R:=ae (a0b l (a0b n (a0b m (a0b o (a0b r t)))));have z:=ae (a0b g (a0b j (a0b p q)));have Q:=ae (a0b m1 m2);clear HP E1 E2 E3 E4 K J h2 L v b1 b2 z1 z2 z3 z4 P l m r t n o g j p q m1 m2;have O:=C;cases B1<;>cases B2<;>cases B3
   all_goals
    go_enter func40,a3S;go_wp2_with fail;refine(ab O _).mono ?_;rintro e x1 ⟨rfl,f⟩;have i:=ae f;clear f C O;go_wp2_with fail;have w1:IntKind.i64.wrap ((hd:Int)+6)=(hd:Int)+6:=by rw[a0X];omega
    have t1:((hd:Int)+6).toNat=hd+6:=by omega
    have l1:0<=(hd:Int)+6:=by omega
    have g1:(hd:Int)+6<=s.size:=by omega
    have w2:IntKind.i64.wrap ((hd:Int)+32)=(hd:Int)+32:=by rw[a0X];omega
    have t2:((hd:Int)+32).toNat=hd+32:=by omega
    have l2:0<=(hd:Int)+32:=by omega
    have g2:(hd:Int)+32<=s.size:=by omega
    have w3:IntKind.i64.wrap ((own:Int)+4)=(own:Int)+4:=by rw[a0X];omega
    have t3:((own:Int)+4).toNat=own+4:=by omega
    have l3:0<=(own:Int)+4:=by omega
    have g3:(own:Int)+4<=s.size:=by omega
    have w4:IntKind.i64.wrap ((own:Int)+30)=(own:Int)+30:=by rw[a0X];omega
    have t4:((own:Int)+30).toNat=own+30:=by omega
    have l4:0<=(own:Int)+30:=by omega
    have g4:(own:Int)+30<=s.size:=by omega
    have w5:IntKind.i64.wrap ((hd:Int)+46)=(hd:Int)+46:=by rw[a0X];omega
    have t5:((hd:Int)+46).toNat=hd+46:=by omega
    have l5:0<=(hd:Int)+46:=by omega
    have g5:(hd:Int)+46<=s.size:=by omega
    have w6:IntKind.i64.wrap ((hd:Int)+(46+(NM:Int)))=(hd:Int)+(46+(NM:Int)):=by rw[a0X];omega
    have t6:((hd:Int)+(46+(NM:Int))).toNat=hd+(46+NM):=by omega
    have l6:0<=(hd:Int)+(46+(NM:Int)):=by omega
    have w7:IntKind.i64.wrap ((own:Int)+30+NM)=(own:Int)+30+NM:=by rw[a0X];omega
    have t7:((own:Int)+30+NM).toNat=own+30+NM:=by omega
    have l7:0<=(own:Int)+30+NM:=by omega
    have w8:IntKind.i64.wrap ((hd:Int))=(hd:Int):=by rw[a0X];omega
    have t8:((hd:Int)).toNat=hd:=by omega
    have l8:0<=(hd:Int):=by omega
    have o1:(hd:Int)+6<=hd+32:=by omega
    have o2:(own:Int)+4<=own+30:=by omega
    have o3:(hd:Int)+46<=hd+(46+(NM:Int)):=by omega
    have o4:(own:Int)+30<=own+30+NM:=by omega
    have o5:(hd:Int)<=hd+6:=by omega
    have o6:(hd:Int)+32<=hd+46:=by omega
    obtain⟨l,n,m,o,r,t⟩:=ab R;obtain⟨g,j,p,q⟩:=ab z;obtain⟨m1,m2⟩:=ab Q
    go_quiet (fail)
    have H:Hid (Below w.heap.size w (x1.drewN nq)):=below_drewN (ab i) nq;clear w3 t3 l3 g3 w4 t4 l4 g4 w6 t6 l6 w7 t7 l7 o1 o2 o3 o4 l n m o g j d0 d1 d2 N S R z Q;generalize x1.drewN nq=x2 at *
    go_wp2_with fail;have T:=fun d os=>Calls.regrown_of (w:=x2) (d:=d) (os:=os) (ab Z _);have U:=fun d os=>Calls.regrown_of (w:=x2) (d:=d) (os:=os) (ab CV _);have V:=fun d os=>Calls.regrown_of (w:=x2) (d:=d) (os:=os) (ab Y _);have X:=fun d os=>Calls.regrown_of (w:=x2) (d:=d) (os:=os) (ab CP _);refine wp_region_quiet_below D (by kernel_rfl) ?_
    go_big_quiet_step (fail)
    go_big_quiet_step (fail)
    go_big_quiet_step (fail)
    go_big_quiet_step (fail)
    go_big_quiet_step (fail)
    go_big_quiet_step (exact T _ _)
    go_big_quiet_step (exact U _ _)
    go_big_quiet_step (fail)
    go_big_quiet_step (fail)
    go_big_quiet_step (fail)
    go_big_quiet_step (fail)
    go_big_quiet_step (fail)
    go_big_quiet_step (fail)
    go_big_quiet_step (fail)
    go_big_quiet_step (fail)
    go_big_quiet_step (fail)
    go_big_quiet_step (exact V _ _)
    go_big_quiet_step (fail)
    go_big_quiet_step (exact X _ _)
    go_big_quiet_step (fail)
    go_big_quiet_step (fail)
    go_big_quiet_step (fail)
    go_big_quiet_step (fail)
    refine a1D ?_;intro zw M;obtain⟨⟨dq,osq⟩,E⟩:=M;have I:=below_regrown x2 dq osq;rw[<-E]at I;have T9:=ae (ai (ab H) I);clear E I T U V X;go_wp2
    go_ret2
    exact⟨⟨46+NM,_,by rw[Int.natCast_add];rfl,ab HR,fun _=>rfl⟩,ab T9⟩
  .
   have A:Hid (¬ rS (s.data.toList.drop hd) (s.data.toList.drop own) own):=fun h=>B ((ab HP).1 h).1;have F:Hid (false=true<->rS (s.data.toList.drop hd) (s.data.toList.drop own) own):=⟨(fun h=>by cases h),fun h=>absurd h (ab A)⟩;clear HP A;by_cases g:hd+(46+NM)<=s.size
   .
    have N:(hd:Int)+(46+(NM:Int))<=(s.size:Int):=by omega
    have S:(s.size:Int)<own+30+NM:=by omega
    clear B g K J h2 L v;go_enter func40,a3S;go_wp2_with fail;refine(ab C _).mono ?_;rintro e x1 ⟨rfl,f⟩;have i:=ae f;clear f C;go_wp2
    go_ret2
    exact⟨⟨0,false,rfl,ab F,fun h=>by cases h⟩,ab i⟩
   .
    have N:(s.size:Int)<hd+(46+(NM:Int)):=by omega
    clear B g K J h2 L v;go_enter func40,a3S;go_wp2_with fail;refine(ab C _).mono ?_;rintro e x1 ⟨rfl,f⟩;have i:=ae f;clear f C;go_wp2
    go_ret2
    exact⟨⟨0,false,rfl,ab F,fun h=>by cases h⟩,ab i⟩
 .
  rw[xD (by omega)]at C;have A:Hid (¬ rS (s.data.toList.drop hd) (s.data.toList.drop own) own):=fun h=>by
   have:=h.1;rw[a1b,G]at this;omega
  have F:Hid (false=true<->rS (s.data.toList.drop hd) (s.data.toList.drop own) own):=⟨(fun h=>by cases h),fun h=>absurd h (ab A)⟩;clear A u G;go_enter func40,a3S;go_wp2_with fail;refine(ab C _).mono ?_;rintro e x1 ⟨rfl,f⟩;have i:=ae f;clear f C;go_wp2
  go_ret2
  exact⟨⟨0,false,rfl,ab F,fun h=>by cases h⟩,ab i⟩
theorem Nm{A:Nat}(h:preB s c A)(b:A<=s.size):A+c.size<=s.size:=by
 have:=congrArg List.length h;rw[a0v,a1b]at this;have a:s.data.toList.length=s.size:=by simp
 have h2:c.data.toList.length=c.size:=by simp
 omega
theorem wG{a b:ByteArray}{c:Bool}(h:(a.toList == b.toList)=c):c=true<->a=b:=by
 rw[<-h,a3L,dY];exact⟨fun e=>kO e,fun e=>by rw[e]⟩
theorem mu(s:ByteArray)(w:World)(hs:s.size<=1048576) :
  Calls prog 20 #[.string s] w fun e w'=>(∃v,e = .returned (.tuple #[v,.bool (dE s).isSome])/\gz w' w.heap.size v ((dE s).getD []))/\Below w.heap.size w w':=by
 have a5:prog.follows .mixedOrders=true:=by kernel_rfl
 have b9:(s.size:Int)<=1048576:=by omega
 have u:Hid (dE s=none->∀W,Below w.heap.size w W->(∃v,Ending.returned (.tuple #[.slice (some ⟨W.heap.size,0,none⟩) 0 0,.bool false]) = .returned (.tuple #[v,.bool (dE s).isSome])/\gz (W.alloc (.cells #[] 31)) w.heap.size v ((dE s).getD []))/\Below w.heap.size w (W.alloc (.cells #[] 31))):=fun h W hb=>by
  rw[h];exact⟨⟨_,rfl,NK _ _ hb.size⟩,hb.alloc hb.size _⟩
 by_cases L:12<=s.size
 .
  have C:Hid (∀W,Ds 36 #[.string s,.int .i64 ((s.size:Int)-12),.int .i64 2] W (.int .i64 ((wd s.data.toList (s.size-12) 2:Nat):Int))):=fun W=>by
   have:=dr s (s.size-12) 2 W (by omega) (by decide) (by omega);rw[show((s.size-12:Nat):Int)=(s.size:Int)-12 by omega,gh (by omega)]at this;exact this
  have S:=iJ s.data.toList (s.size-12);have bc:∃NM,wd s.data.toList (s.size-12) 2=NM:=⟨_,rfl⟩;obtain⟨NM,U⟩:=bc;rw[U]at C S;have HW:=ae U;have I:=ae L;clear U;have b0:(NM:Int)<65536:=by omega
  by_cases h6:NM<=6
  .
   have bs:(NM:Int)<=6:=by omega
   have M:Hid (∀W,Calls prog 37 #[.int .i64 (NM:Nat),.int .i64 0,.int .i64 6] W fun e w'=>e = .returned (.bool true)/\w'=W):=fun W=>by
    have:=aG (NM:Int) 0 6 W;rw[show inB (NM:Int) 0 6=true by rw[aB];omega]at this;exact this
   have C2:=ae (fun W=>FK s NM W hs h6);have H6:=ae h6;have HS:=ae hs;clear L hs S;go_enter func20,ntmps20;go_wp2_with fail;refine(ab C _).mono ?_;rintro e x1 ⟨rfl,j⟩;have m:=ae j;clear j C;go_wp2_with fail;refine(ab M _).mono ?_;rintro e x2 ⟨rfl,F⟩;subst F;clear M;go_wp2_with fail;refine(ab C2 _).mono ?_;rintro e x3 ⟨⟨v,p,ok,rfl,G,ac⟩,V⟩;have J:=ae (ai (ab m) V);cases ok
   .
    have D:=ae (ab u (by rw[pE (ab I) (ab HW) (ab H6),ac rfl]) x3 (ab J));clear G ac V C2;go_wp2
    go_ret2
    exact ab D
   .
    obtain⟨q,hq,rfl,a⟩:=G rfl;have f:=hH hq;obtain⟨va,vc,rfl,ca,_⟩:=a.formN f.1;have wy:=ae (a.mono (base':=w.heap.size) (by have:=(ab m).size;omega));have C3:=ae (vh va vc q.1 NM f.1 x3 (io f.1 a) (by omega) (ww hq));have HQ:=ae hq;have b6:(q.2.2:Int)<=s.size:=by have:=f.2.1;omega
    have b1:q.2.1.size<=600:=by have:=f.2.2.2.2;omega
    clear G ac V C2 a f hq;cases H:dm q.1
    .
     have D:=ae (fun W hb=>ab u (by rw[pE (ab I) (ab HW) (ab H6),ab HQ];simp[H]) W hb);rw[H]at C3;go_wp2_with fail;refine(ab C3).mono ?_;rintro e x4 ⟨rfl,z⟩;have K:=ae (ai (ab J) z);clear z C3;go_wp2
     go_ret2
     exact ab D _ (ab K)
    .
     rw[H]at C3;have a3:=ae H;clear H;go_wp2_with fail;refine(ab C3).mono ?_;rintro e x4 ⟨rfl,z⟩;have K:=ae (ai (ab J) z);have an:=ae ((ab wy).later z (a0a _));clear z C3 wy J;have Q:=ae (fun hd own (W:World) (h1:hd<=2000000) (h2:own<=2000000)=>Cp s hd own W (ab HS) h1 h2);have ad:=ae (fun p W=>tJ (sub s p) W (by rw[iz];have:=ab HS;omega));have HE:Hid (∀p,s.extract p s.size=sub s p):=fun _=>rfl;go_wp2_with fail
     go_loopw [8,9,10,11,12,13,14,15] (fun h o i _ _ _ _ _ wr=>∃(k:Nat) (r:List En×ByteArray×Nat),k<=NM/\i = .int .i64 k/\zst s k=some r/\h = .int .i64 ((q.2.2:Nat)+(r.2.1.size:Nat))/\o = .int .i64 (r.2.2:Nat)/\preB s r.2.1 q.2.2/\gz wr w.heap.size (.slice va NM vc) q.1/\Below w.heap.size w wr) (fun _ _ i _ _ _ _ _ _=>NM-(intOf i).toNat)
     case atStart=>exact⟨0,([],⟨#[]⟩,0),a0g _,rfl,rfl,by show _=Value.int .i64 ((q.2.2:Nat)+((0:Nat):Int));simp,rfl,rfl,ab an,ab K⟩
     case round=>
      obtain⟨k,r,hk,rfl,hr,rfl,rfl,P,a,O⟩:=hrel;have E:=hH hr;have b8:r.2.1.size<=600:=by have:=E.2.2.2.2;omega
      have b7:(r.2.1.size:Int)<=600:=by omega
      have b5:(r.2.2:Int)<=s.size:=by have:=E.2.1;omega
      have HR:=ae hr;have g:=ae P;have wy:=ae a;have A:=ae O;have HK:=ae hk;clear E hr P a O an K;by_cases be:k<NM
      .
       obtain⟨y,hy,_⟩:=kK (ab HQ) (by omega:k+1<=NM);obtain⟨r',T,h1,hT,_⟩:=gq hy;rw[ab HR]at h1;cases h1
       have HT:=ae hT;have CH:=ae (fun W=>ab Q (q.2.2+r.2.1.size) r.2.2 W (by omega) (by omega));rw[show((q.2.2+r.2.1.size:Nat):Int)=(q.2.2:Nat)+(r.2.1.size:Nat) by omega]at CH;clear hy hT Q;go_wp2_with fail;refine(ab CH _).mono ?_;rintro e x5 ⟨⟨kk,b,rfl,hb,aa⟩,Y⟩;have R:=ae (ai (ab A) Y);have a0:=ae ((ab wy).later Y (a0a _));clear Y CH wy A;cases b
       .
        have D:=ae (ab u (Ha (ab I) (ab HW) (ab H6) (ab HQ) be (ab HR) (ab HT) (ab g) (fun h=>by have:=hb.2 h;cases this)) x5 (ab R));clear hb aa;go_wp2
        go_ret2
        exact ab D
       .
        have hl:=hb.1 rfl;have e1:=aa rfl;rw[Li hl (ko (ab HT)).1]at e1;have bb:=ae ((Ap (ab HT) (ab g)).1 hl);have a2:=ae (sy (ab HR) (ab HT));have b3:kk<=2000:=by
         have h7:=(hH (ab a2)).2.2.2.2;simp only[a0R]at h7;omega
        have a9:=ae e1;clear hb aa hl e1;go_wp2_with fail;refine(ab ad r.2.2 _).mono ?_;rintro e x6 ⟨⟨n,yy,mo,d,h,mi,c,t,kx,ok,rfl,hv⟩,Z⟩;have al:=ae (ai (ab R) Z);have a1:=ae ((ab a0).later Z (a0a _));have hA:=(a0c x6.heap.size x6).alloc (a0a _) (.cells #[.string n,.int .i64 yy,.int .i64 mo,.int .i64 d,.int .i64 h,.int .i64 mi,.int .i64 c,.string t] 31);have a8:=ae (ai (ab al) hA);have ba:=ae ((ab a1).later hA (a0a _));cases ok
        . have:=Kd hv;rw[ab HT]at this;cases this
        .
         obtain⟨T2,a4,_,rfl⟩:=Dl hv;have hf:=tV a4;rw[iz]at hf;have b2:(r.2.2:Int)+((oY (sub s r.2.2):Nat):Int)<=(s.size:Int):=by omega
         clear hv a4 hf Z hA al a1 R a0;go_wp2;go_roundw
         case rel=>exact⟨k+1,_,by omega,by go_num,ab a2,by simp only[a0R];rw[<-ab a9];go_num,by go_num,ab bb,ab ba,ab a8⟩
         case measure=>simp[intOf];omega
      .
       have bd:k=NM:=by omega
       subst bd;have a6:=ab HR;rw[ab HQ]at a6;cases a6
       have b4:=Nm (ab g) (by omega);have bl:(q.2.2:Int)+q.2.1.size<=s.size:=by omega
       have l:=ae (KW (ab I) (ab HW) (ab H6) (ab HQ) (ab a3) (ab g));have N:=ae (fun W=>vN k q.2.1.size q.2.2 W (by omega) (by omega) (by omega));have q1:=fun d os=>Calls.regrown_of (w:=wr) (d:=d) (os:=os) (ab N _);have t1:((q.2.2:Int)+q.2.1.size).toNat=q.2.2+q.2.1.size:=by omega
       have w1:IntKind.i64.wrap ((q.2.2:Int)+q.2.1.size-q.2.2)=(q.2.1.size:Int):=by rw[a0X];omega
       have l1:0<=(q.2.2:Int)+q.2.1.size:=by omega
       rw[<-ab HE]at l;generalize dB k q.2.1.size q.2.2=EN at *
       obtain⟨X,hX⟩:∃x,s.extract (q.2.2+q.2.1.size) s.size=x:=⟨_,rfl⟩;rw[hX]at l;obtain⟨B,hB⟩:∃b,(X.toList == EN.toList)=b:=⟨_,rfl⟩;have HB:=ae hB;clear Q ad HE a3 g N;go_wp2_with fail;refine wp_region_quiet_below a5 (by kernel_rfl) ?_;cases B
       all_goals
        quiet_step (fail)
        quiet_step (fail)
        quiet_step (fail)
        quiet_step (fail)
        quiet_step (fail)
        quiet_step (fail)
        quiet_step (fail)
        quiet_step (fail)
        quiet_step (exact q1 _ _)
        quiet_step (fail)
        refine a1D ?_;intro zw bk;obtain⟨⟨dq,osq⟩,a7⟩:=bk;have HZ:=below_regrown wr dq osq;rw[<-a7]at HZ;have T9:=ae (ai (ab A) HZ);have O9:=ae ((ab wy).later HZ (a0a _));clear a7 HZ q1
       .
        have D:=ae (ab u (by rw[ab l,a0d (fun e=>by have:=(wG (ab HB)).2 e;cases this)]) zw (ab T9));go_wp2
        go_ret2
        exact ab D
       .
        have HY:Hid (dE s=some q.1):=by show _=_;rw[ab l,a0e ((wG (ab HB)).1 rfl)]
        go_wp2
        go_ret2
        exact⟨⟨_,by rw[ab HY];rfl,by rw[ab HY];exact ab O9⟩,ab T9⟩
  .
   have M:Hid (∀W,Calls prog 37 #[.int .i64 (NM:Nat),.int .i64 0,.int .i64 6] W fun e w'=>e = .returned (.bool false)/\w'=W):=fun W=>by
    have:=aG (NM:Int) 0 6 W;rw[show inB (NM:Int) 0 6=false by rw[dK];omega]at this;exact this
   have D:=ae (ab u (Bt (by rw[ab HW];omega)));clear L hs S;go_enter func20,ntmps20;go_wp2_with fail;refine(ab C _).mono ?_;rintro e x1 ⟨rfl,j⟩;have m:=ae j;clear j C;go_wp2_with fail;refine(ab M _).mono ?_;rintro e x2 ⟨rfl,F⟩;subst F;clear M;go_wp2
   go_ret2
   exact ab D _ (ab m)
 .
  have C:=ae (fun W=>FI s ((s.size:Int)-12) W (by omega));have M:Hid (∀W,Calls prog 37 #[.int .i64 (-1),.int .i64 0,.int .i64 6] W fun e w'=>e = .returned (.bool false)/\w'=W):=fun W=>by
   have:=aG (-1) 0 6 W;rw[show inB (-1) 0 6=false by decide]at this;exact this
  have D:=ae (ab u (Bt (fun h=>L h.1)));go_enter func20,ntmps20;go_wp2_with fail;refine(ab C _).mono ?_;rintro e x1 ⟨rfl,j⟩;have m:=ae j;clear j C;go_wp2_with fail;refine(ab M _).mono ?_;rintro e x2 ⟨rfl,F⟩;subst F;clear M;go_wp2
  go_ret2
  exact ab D _ (ab m)
abbrev ND:=cf (α:=Hq) 114 7 yS
theorem tu{o:Obj}{a c e1 e2 s1 s2 n1 n2:Nat}{v1 v2:Value}{x1 x2:List Value}(b:w.ownsRow a e1 s1 v1 n1 x1)(h2:w.ownsRow c e2 s2 v2 n2 x2)(d:e1≠e2)(e:(w.alloc o).grownBy w' v2.ownBlock):w'.ownsRow a e1 s1 v1 n1 x1:=
 a1J (a0j b o) e (oA (a0j b o) (a0j h2 o) d)
theorem ME:dm []=true:=by decide
theorem Jr(h:hdB x=false):iy x=none:=by
 unfold iy;rw[a0d (by rw[h];decide)]
theorem ym{q:List En×ByteArray×Nat}(b:zst s k=some q)(c:(sub s q.2.2).data.toList.take 4=[80,75,3,4])(a:iy (sub s q.2.2)=none):dE s=none:=
 Bs b c (fun T h=>by rw[a]at h;cases h)
theorem Ij{q:List En×ByteArray×Nat}(b:zst s k=some q)(e:dm q.1=true)(c:(sub s q.2.2).data.toList.take 4=[80,75,3,4])(a:iy (sub s q.2.2)=some T)(d:bj q.1 (enO (sub s q.2.2) T)≠0):dE s=none:=
 Bs b c (fun T' h=>by
  rw[a]at h;cases h
  cases hb:dm (q.1++[enO (sub s q.2.2) T])
  . rfl
  . exact absurd ((kH e _).1 hb) d)
def ZrP(s:ByteArray)(w:World)(e:Ending)(w':World):Prop:=∃v c,e = .returned (.tuple #[v,dC c])/\(c=0->∃l,dE s=some l/\gz w' w.heap.size v l)/\(c≠0->dE s=none)
theorem Bw(h:dE s=none)(c:Int)(a:c≠0):ZrP s w (.returned (.tuple #[.slice none 0 0,.iface 81 (.agg #[.int .i64 c])])) w':=
 ⟨.slice none 0 0,c,by unfold dC;rw[a0d a],fun b=>absurd b a,fun _=>h⟩
theorem Bv(s:ByteArray)(m:Int)(w:World)(hs:s.size<=1048576)(hm:w.cell? ⟨2,0,none⟩=some (.int .i64 m))(hO:dI w) :
  Calls prog 61 #[.string s] w fun e w'=>ZrP s w e w'/\Below w.heap.size w w':=by
 have cp:prog.follows .mixedOrders=true:=by kernel_rfl
 have ek:(s.size:Int)<=1048576:=by omega
 have HS:=ae hs;have HM:=ae hm;have d4:=ae (World.block_lt_of_cell? _ _ hm);have CM:=ae (fun W (hb:Below w.heap.size w W)=>(hb.cell (p:=⟨2,0,none⟩) (ab d4)).trans (ab HM));have HO:=ae (fun W (hb:Below w.heap.size w W)=>hO.later hb);obtain⟨i0,hi,ed,eg,b2⟩:=a0p Tryz.infoEnt;obtain⟨j0,hj,d6,d7,d8⟩:=a0p Tryz.infoHd;clear hs hm hO;go_enter func61,ntmps61;go_wp2_with fail
 go_loopw [4,5,6,7,8,9,10,11] (fun f h p _ _ _ _ _ wr=>∃(k:Nat) (q:List En×ByteArray×Nat),zst s k=some q/\dm q.1=true/\p = .int .i64 (q.2.2:Nat)/\gz wr w.heap.size f q.1/\ND wr w.heap.size h (hqL s k)/\Below w.heap.size w wr) (fun _ _ p _ _ _ _ _ _=>s.size-(intOf p).toNat)
 case atStart=>exact⟨0,([],⟨#[]⟩,0),rfl,ME,rfl,cf.nil _ _,cf.nil _ _,a0c _ _⟩
 case round=>
  obtain⟨k,q,hz,ac,rfl,hf,l,U⟩:=hrel;have K:=hH hz;have d3:k<=6:=by have:=(ii ac).2;omega
  have ei:(q.2.2:Int)<=s.size:=by have:=K.2.1;omega
  have CX:Hid (∀W,Calls prog 84 #[.string (sub s q.2.2),.string ⟨#[80,75,3,4]⟩] W fun e w'=>e = .returned (.bool (decide ((sub s q.2.2).data.toList.take 4=[80,75,3,4])))/\w'=W):=fun W=>by
   have h:=Tryz.strings_HasPrefix (sub s q.2.2) (⟨#[80,75,3,4]⟩:ByteArray) W;rw[<-JC];exact h
  have HE:Hid (s.extract q.2.2 s.size=sub s q.2.2):=rfl;have I:=ae hz;have bc:=ae ac;have HF:=ae hf;have HH:=ae l;have P:=ae U;have F:=ae K
  have a9:(sub s q.2.2).size<=1048576:=by rw[iz];have:=ab HS;omega
  by_cases N:(sub s q.2.2).data.toList.take 4=[80,75,3,4]
  .
   have a3:=ae N;rw[a0u N]at CX;have CH:=ae (fun W=>qs (sub s q.2.2) W a9);have Q:=ae a9;clear N hf l U K hz ac a9;go_wp2_with fail;refine(ab CX _).mono ?_;rintro e x0 ⟨rfl,b1⟩;subst b1;clear CX;go_wp2_with fail;refine(ab CH _).mono ?_;rintro e x1 ⟨hp,a5⟩;have ad:=ae (ai (ab P) a5);have a0:=ae ((ab HF).later a5 (a0a _));have a2:=ae ((ab HH).later a5 (a0a _));have R:Hid (∀j,Value.ownBlock u4=some j->j<x1.heap.size):=fun j hj=>(a0w (ab a0) j hj).2;have S:Hid (∀j,Value.ownBlock u5=some j->j<x1.heap.size):=fun j hj=>(a0w (ab a2) j hj).2;clear a5 CH HF HH P;rcases hp with⟨hd,rfl⟩|⟨hd,a,b,c,d,f,n,t,ho,rfl⟩
   .
    obtain⟨dv,d2,bl⟩:=kV.1 hd;have cr:=kp (s:=sub s q.2.2) (by omega);have cg:=yo (s:=sub s q.2.2) bl;have l1:=iJ (sub s q.2.2).data.toList 8;have l2:=ez (sub s q.2.2).data.toList 10;have l3:=ez (sub s q.2.2).data.toList 14;have l4:=ez (sub s q.2.2).data.toList 18;have l5:=ez (sub s q.2.2).data.toList 22;have l6:=iJ (sub s q.2.2).data.toList 26;have ds:=ab Q;have E:=ae (fun W (hb:Below w.heap.size w W)=>rl (wd (sub s q.2.2).data.toList 8 2) (wd (sub s q.2.2).data.toList 10 4) (wd (sub s q.2.2).data.toList 14 4) (wd (sub s q.2.2).data.toList 18 4) (wd (sub s q.2.2).data.toList 22 4) (nmB (sub s q.2.2)) (bdB (sub s q.2.2)) m W (by omega) l1 l2 l3 l5 (by omega) (ab CM _ hb) (ab HO _ hb));have b3:=ae (fun(hen:enB (wd (sub s q.2.2).data.toList 8 2) (wd (sub s q.2.2).data.toList 10 4) (wd (sub s q.2.2).data.toList 14 4) (wd (sub s q.2.2).data.toList 22 4) (nmB (sub s q.2.2)) (bdB (sub s q.2.2))=true) W=>qY (wd (sub s q.2.2).data.toList 8 2) (wd (sub s q.2.2).data.toList 10 4) (wd (sub s q.2.2).data.toList 14 4) (wd (sub s q.2.2).data.toList 18 4) (wd (sub s q.2.2).data.toList 22 4) (nmB (sub s q.2.2)) (bdB (sub s q.2.2)) W l1 l2 l3 l4 l5 (by omega) (by have:=IG hen;omega));have be:(eJ (wd (sub s q.2.2).data.toList 8 2) (wd (sub s q.2.2).data.toList 10 4) (wd (sub s q.2.2).data.toList 14 4) (wd (sub s q.2.2).data.toList 18 4) (wd (sub s q.2.2).data.toList 22 4) (nmB (sub s q.2.2))++bdB (sub s q.2.2)).size=oY (sub s q.2.2):=by
     unfold eJ oY;rw[a0R,a0R,a0R,fK,cr,cg];show 4+26+_+_=_;omega
    have b9:oY (sub s q.2.2)<=(sub s q.2.2).size/\30<=oY (sub s q.2.2):=⟨bl,by unfold oY;omega⟩;have HY:Hid (enB (wd (sub s q.2.2).data.toList 8 2) (wd (sub s q.2.2).data.toList 10 4) (wd (sub s q.2.2).data.toList 14 4) (wd (sub s q.2.2).data.toList 22 4) (nmB (sub s q.2.2)) (bdB (sub s q.2.2))=true->∃T,iy (sub s q.2.2)=some T/\enO (sub s q.2.2) T=⟨nmB (sub s q.2.2),zz (gOk (wd (sub s q.2.2).data.toList 10 4:Nat)) (gY (wd (sub s q.2.2).data.toList 10 4:Nat)),zz (gOk (wd (sub s q.2.2).data.toList 10 4:Nat)) (gM (wd (sub s q.2.2).data.toList 10 4:Nat)),zz (gOk (wd (sub s q.2.2).data.toList 10 4:Nat)) (gD (wd (sub s q.2.2).data.toList 10 4:Nat)),zz (gOk (wd (sub s q.2.2).data.toList 10 4:Nat)) (gH (wd (sub s q.2.2).data.toList 10 4:Nat)),zz (gOk (wd (sub s q.2.2).data.toList 10 4:Nat)) (gI (wd (sub s q.2.2).data.toList 10 4:Nat)),zz (gOk (wd (sub s q.2.2).data.toList 10 4:Nat)) (gS (wd (sub s q.2.2).data.toList 10 4:Nat)),uxT (wd (sub s q.2.2).data.toList 8 2) (bdB (sub s q.2.2))⟩):=fun h=>by
     have:=Jp hd;rw[a0e h]at this;obtain⟨T,a,b,_⟩:=Dl this;exact⟨T,a,b⟩
    have HN:Hid (enB (wd (sub s q.2.2).data.toList 8 2) (wd (sub s q.2.2).data.toList 10 4) (wd (sub s q.2.2).data.toList 14 4) (wd (sub s q.2.2).data.toList 22 4) (nmB (sub s q.2.2)) (bdB (sub s q.2.2))=false->iy (sub s q.2.2)=none):=fun h=>by
     have:=Jp hd;rw[a0d (by rw[h];decide)]at this;exact Kd this
    have dl:Hid (s9 s k=⟨wd (sub s q.2.2).data.toList 8 2,wd (sub s q.2.2).data.toList 10 4,wd (sub s q.2.2).data.toList 14 4,wd (sub s q.2.2).data.toList 18 4,wd (sub s q.2.2).data.toList 22 4,nmB (sub s q.2.2),q.2.2⟩):=xj (ab I);have ca:(nmB (sub s q.2.2)).size<=1048576:=by omega
    have d1:(uxT (wd (sub s q.2.2).data.toList 8 2) (bdB (sub s q.2.2))).size<=1048576:=Bh (by omega);have cu:(sub s q.2.2).size=s.size-q.2.2:=iz _ _;unfold enE at E;generalize eJ (wd (sub s q.2.2).data.toList 8 2) (wd (sub s q.2.2).data.toList 10 4) (wd (sub s q.2.2).data.toList 14 4) (wd (sub s q.2.2).data.toList 18 4) (wd (sub s q.2.2).data.toList 22 4) (nmB (sub s q.2.2))++bdB (sub s q.2.2)=PB at *
    generalize enB (wd (sub s q.2.2).data.toList 8 2) (wd (sub s q.2.2).data.toList 10 4) (wd (sub s q.2.2).data.toList 14 4) (wd (sub s q.2.2).data.toList 22 4) (nmB (sub s q.2.2)) (bdB (sub s q.2.2))=EB at *
    generalize uxT (wd (sub s q.2.2).data.toList 8 2) (bdB (sub s q.2.2))=UT at *
    generalize zz (gOk (wd (sub s q.2.2).data.toList 10 4:Nat)) (gY (wd (sub s q.2.2).data.toList 10 4:Nat))=yy at *
    generalize zz (gOk (wd (sub s q.2.2).data.toList 10 4:Nat)) (gM (wd (sub s q.2.2).data.toList 10 4:Nat))=mo at *
    generalize zz (gOk (wd (sub s q.2.2).data.toList 10 4:Nat)) (gD (wd (sub s q.2.2).data.toList 10 4:Nat))=dd at *
    generalize zz (gOk (wd (sub s q.2.2).data.toList 10 4:Nat)) (gH (wd (sub s q.2.2).data.toList 10 4:Nat))=l at *
    generalize zz (gOk (wd (sub s q.2.2).data.toList 10 4:Nat)) (gI (wd (sub s q.2.2).data.toList 10 4:Nat))=mi at *
    generalize zz (gOk (wd (sub s q.2.2).data.toList 10 4:Nat)) (gS (wd (sub s q.2.2).data.toList 10 4:Nat))=ss at *
    generalize bdB (sub s q.2.2)=BD at *
    generalize nmB (sub s q.2.2)=NM at *
    generalize wd (sub s q.2.2).data.toList 8 2=HW at *
    generalize wd (sub s q.2.2).data.toList 10 4=ST at *
    generalize wd (sub s q.2.2).data.toList 14 4=CR at *
    generalize wd (sub s q.2.2).data.toList 18 4=PK at *
    generalize wd (sub s q.2.2).data.toList 22 4=LN at *
    generalize wd (sub s q.2.2).data.toList 26 2=NL at *
    obtain⟨LO,hLO⟩:∃x,oY (sub s q.2.2)=x:=⟨_,rfl⟩;rw[hLO]at be b9;have ej:(q.2.2:Int)+PB.size<=s.size:=by omega
    have eh:30<=(PB.size:Int):=by omega
    have c7:=ae (hLO.trans be.symm);clear hd dv d2 bl cr cg l1 l2 l3 l4 l5 l6 ds be b9 hLO cu;have G:=ae ((a0c x1.heap.size x1).alloc (a0a _) (.cells #[.int .i64 (HW:Nat),.int .i64 (ST:Nat),.int .i64 (CR:Nat),.int .i64 (PK:Nat),.int .i64 (LN:Nat),.string NM,.string BD] 101));have R2:=ae (aL x1 #[.int .i64 (HW:Nat),.int .i64 (ST:Nat),.int .i64 (CR:Nat),.int .i64 (PK:Nat),.int .i64 (LN:Nat),.string NM,.string BD] 101);go_wp2_with fail;refine(ab E _ (ai (ab ad) (ab G))).mono ?_;rintro e x2 ⟨rfl,D⟩;have J:=ai (ab G) D;have L:=ae (ai (ab ad) J);have b4:=ae ((ab a0).later J (a0a _));have b6:=ae ((ab a2).later J (a0a _));have R3:=ae ((ab R2).later D (ab R2).1);obtain⟨HB,hHB⟩:∃x,x1.heap.size=x:=⟨_,rfl⟩;rw[hHB]at R3 R S;rw[hHB];clear D J G R2 hHB E ad a0 a2;cases EB
    .
     have o:=ae (ym (ab I) (ab a3) (ab HN rfl));rw[show(if false=true then Value.tuple #[.agg #[.string NM,.int .i64 yy,.int .i64 mo,.int .i64 dd,.int .i64 l,.int .i64 mi,.int .i64 ss,.string UT],.bool true]else .tuple #[noE,.bool false]) = .tuple #[.agg #[.string ⟨#[]⟩,.int .i64 0,.int .i64 0,.int .i64 0,.int .i64 0,.int .i64 0,.int .i64 0,.string ⟨#[]⟩],.bool false]from rfl];have y:=ae (ai (ab L) ((a0c x2.heap.size x2).alloc (a0a _) (.cells #[.string ⟨#[]⟩,.int .i64 0,.int .i64 0,.int .i64 0,.int .i64 0,.int .i64 0,.int .i64 0,.string ⟨#[]⟩] 31)));go_wp2
     go_ret2
     exact⟨Bw (ab o) 1 (by decide),ab y⟩
    .
     rw[show(if true=true then Value.tuple #[.agg #[.string NM,.int .i64 yy,.int .i64 mo,.int .i64 dd,.int .i64 l,.int .i64 mi,.int .i64 ss,.string UT],.bool true]else .tuple #[noE,.bool false]) = .tuple #[.agg #[.string NM,.int .i64 yy,.int .i64 mo,.int .i64 dd,.int .i64 l,.int .i64 mi,.int .i64 ss,.string UT],.bool true]from rfl];have an:Hid (∃T,iy (sub s q.2.2)=some T/\enO (sub s q.2.2) T=⟨NM,yy,mo,dd,l,mi,ss,UT⟩):=ab HY rfl;have c9:Hid (∀W,_):=ab b3 rfl;have hA:=(a0c x2.heap.size x2).alloc (a0a _) (.cells #[.string NM,.int .i64 yy,.int .i64 mo,.int .i64 dd,.int .i64 l,.int .i64 mi,.int .i64 ss,.string UT] 31);have y:=ae (ai (ab L) hA);have a1:=ae ((ab b4).later hA (a0a _));have b7:=ae ((ab b6).later hA (a0a _));have R4:=ae ((ab R3).later hA (ab R3).1);have Q4:=ae (aL x2 #[.string NM,.int .i64 yy,.int .i64 mo,.int .i64 dd,.int .i64 l,.int .i64 mi,.int .i64 ss,.string UT] 31);obtain⟨fa,fc,bs,_,_⟩:=(ab a1).formN (ab F).1;have d0:HB<x2.heap.size:=(ab R3).1;have bb:=ae (mC fa fc q.1 k (ab F).1 ⟨NM,yy,mo,dd,l,mi,ss,UT⟩ m _ (io (ab F).1 (by have:=ab a1;rw[bs]at this;exact this)) (by omega) (fun i hi=>by have:=(ww (ab I) i hi).1;omega) ca (by show(UT.size:Int)<=_;omega) (ab CM _ (ab y)));rw[<-bs]at bb;clear hA HY HN b3 b4 b6 R3 bs L ca d1;go_wp2_with fail;refine(ab bb).mono ?_;rintro e x4 ⟨rfl,M⟩;have al:=ae (ai (ab y) M);have b5:=ae ((ab a1).later M (a0a _));have b8:=ae ((ab b7).later M (a0a _));have R5:=ae ((ab R4).later M (ab R4).1);have Q5:=ae ((ab Q4).later M (ab Q4).1);obtain⟨QB,hQBe⟩:∃x,x2.heap.size=x:=⟨_,rfl⟩;rw[hQBe]at Q5 d0;rw[hQBe];clear M y a1 b7 R4 Q4 bb hQBe;by_cases H:bj q.1 ⟨NM,yy,mo,dd,l,mi,ss,UT⟩=0
     .
      rw[show dC (bj q.1 ⟨NM,yy,mo,dd,l,mi,ss,UT⟩) = .nilIface by rw[H];rfl];have c8:Hid (∃T,zst s (k+1)=some (q.1++[⟨NM,yy,mo,dd,l,mi,ss,UT⟩],T,q.2.2+PB.size)/\dm (q.1++[⟨NM,yy,mo,dd,l,mi,ss,UT⟩])=true):=by
       obtain⟨T,hT,hE⟩:=ab an;have h2:=sy (ab I) hT;rw[hE,ab c7]at h2;exact⟨_,h2,(kH (ab bc) _).2 H⟩
      have A:Hid ((k+1<=maxLen/\(k+1)*80<=140737488355328)/\(k+1)*64<=140737488355328):=by
       show(_/\_)/\_;unfold maxLen;omega
      have a7:=cf.own (ab F).1 (ab b5);have co:=cf.own (sd s k) (ab b8);have V:=(ab al).size;have pA:=(ab Q5).cells (n:=8) rfl;clear H an a3 Q HE;go_wp2_with (first
       | (at_builtin;refine a0r _ rfl _ _ 38 rfl w.heap.size 31 i0 (.agg #[.string ⟨#[]⟩,.int .i64 0,.int .i64 0,.int .i64 0,.int .i64 0,.int .i64 0,.int .i64 0,.string ⟨#[]⟩]) 8 80 a10 hi ed eg b2 rfl (by decide) _ _ _ rfl (a0j a7 _) ⟨x4.heap.size,0,none⟩ 1 1 (kg ⟨NM,yy,mo,dd,l,mi,ss,UT⟩) rfl rfl (i6 x4 _ _) (je _) (ab A).1.1 (ab A).1.2 (ao V _) ?_;intro v5 x5 ba z Z;clear Z;have R6:=ae (Blk.grown (Blk.later (ab R5) ((a0c _ _).alloc (a0a _) _) (ab R5).1) z (fun e=>absurd (ab R _ e.symm) (a3I _)));have rA:=(ab R6).cells (n:=7) rfl;have a8:=tu co a7 (by decide) z;have bd:=aC (v:=u4) z a7 (a0a _) V (ab al);have Y:=bd.size)
       | (at_builtin;refine a0r _ rfl _ _ 108 rfl w.heap.size 114 j0 (.agg #[.int .i64 0,.int .i64 0,.int .i64 0,.int .i64 0,.int .i64 0,.string ⟨#[]⟩,.int .i64 0]) 7 64 underlying108 hj d6 d7 d8 rfl (by decide) _ _ _ rfl (a0j a8 _) ⟨x5.heap.size,0,none⟩ 1 1 (yS ⟨HW,ST,CR,PK,LN,NM,q.2.2⟩) rfl rfl (i6 x5 _ _) (IJ _) (ab A).1.1 (ab A).2 (ao Y _) ?_;intro v6 x6 aa r Z;clear Z;have R7:=ae (Blk.grown (Blk.later (ab R6) ((a0c _ _).alloc (a0a _) _) (ab R6).1) r (fun e=>absurd (ab S _ e.symm) (a3I _)));have rA:=(ab R7).cells (n:=7) rfl;have ch:=tu ba a8 (by decide) r;have cc:=aC (v:=u5) r a8 (a0a _) Y bd))
      refine(ab c9 _).mono ?_;rintro e x7 ⟨rfl,a6⟩;have cs:gz x6 w.heap.size v5 (q.1++[⟨NM,yy,mo,dd,l,mi,ss,UT⟩]):=cf.snoc (ab F).1 ch;have bk:ND x6 w.heap.size v6 (hqL s k++[s9 s k]):=cf.snoc (sd s k) (by rw[ab dl];exact aa);rw[<-I8]at bk;have c5:=ae (cs.later a6 (a0a _));have c6:=ae (bk.later a6 (a0a _));have cy:=ae (ai cc a6);clear ba aa z r cs bk a6 cc bd V Y a7 ch co a8 rA R5 R6 R7 Q5 pA b5 b8 al;go_wp2;go_roundw
      case rel=>
       obtain⟨C,b2,D⟩:=ab c8;exact⟨k+1,_,b2,D,by go_num,ab c5,ab c6,ab cy⟩
      case measure=>simp[intOf];omega
     .
      rw[show dC (bj q.1 ⟨NM,yy,mo,dd,l,mi,ss,UT⟩) = .iface 81 (.agg #[.int .i64 (bj q.1 ⟨NM,yy,mo,dd,l,mi,ss,UT⟩)]) by unfold dC;rw[a0d H]];have o:Hid (dE s=none):=by
       obtain⟨T,hT,hE⟩:=ab an;exact Ij (ab I) (ab bc) (ab a3) hT (by rw[hE];exact H)
      have HC:=ae H;clear H an;generalize bj q.1 ⟨NM,yy,mo,dd,l,mi,ss,UT⟩=c at *
      go_wp2
      go_ret2
      exact⟨Bw (ab o) c (ab HC),ab al⟩
   .
    have o:=ae (ym (ab I) (ab a3) (Jr hd));obtain⟨o1,o2,o3,o4,o5,o6,o7⟩:=ho;have E:=ae (fun W (hb:Below w.heap.size w W)=>rl a b c d f n t m W (by have:=ab Q;omega) o1 o2 o3 o5 (by have:=ab Q;omega) (ab CM _ hb) (ab HO _ hb));unfold enE at E;generalize enB a b c f n t=EB at *
    generalize uxT a t=UT at *
    generalize zz (gOk (b:Nat)) (gY (b:Nat))=yy at *
    generalize zz (gOk (b:Nat)) (gM (b:Nat))=mo at *
    generalize zz (gOk (b:Nat)) (gD (b:Nat))=dd at *
    generalize zz (gOk (b:Nat)) (gH (b:Nat))=l at *
    generalize zz (gOk (b:Nat)) (gI (b:Nat))=mi at *
    generalize zz (gOk (b:Nat)) (gS (b:Nat))=ss at *
    have G:=ae (ai (ab ad) ((a0c x1.heap.size x1).alloc (a0a _) (.cells #[.int .i64 (a:Nat),.int .i64 (b:Nat),.int .i64 (c:Nat),.int .i64 (d:Nat),.int .i64 (f:Nat),.string n,.string t] 101)));clear o1 o2 o3 o4 o5 o6 o7 a0 a2 R S hd Q F HE;go_wp2_with fail;refine(ab E _ (ab G)).mono ?_;rintro e x2 ⟨rfl,D⟩;have L:=ae (ai (ab G) D);clear D G E;cases EB
    .
     rw[show(if false=true then Value.tuple #[.agg #[.string n,.int .i64 yy,.int .i64 mo,.int .i64 dd,.int .i64 l,.int .i64 mi,.int .i64 ss,.string UT],.bool true]else .tuple #[noE,.bool false]) = .tuple #[.agg #[.string ⟨#[]⟩,.int .i64 0,.int .i64 0,.int .i64 0,.int .i64 0,.int .i64 0,.int .i64 0,.string ⟨#[]⟩],.bool false]from rfl];have y:=ae (ai (ab L) ((a0c x2.heap.size x2).alloc (a0a _) (.cells #[.string ⟨#[]⟩,.int .i64 0,.int .i64 0,.int .i64 0,.int .i64 0,.int .i64 0,.int .i64 0,.string ⟨#[]⟩] 31)));go_wp2
     go_ret2
     exact⟨Bw (ab o) 1 (by decide),ab y⟩
    .
     rw[show(if true=true then Value.tuple #[.agg #[.string n,.int .i64 yy,.int .i64 mo,.int .i64 dd,.int .i64 l,.int .i64 mi,.int .i64 ss,.string UT],.bool true]else .tuple #[noE,.bool false]) = .tuple #[.agg #[.string n,.int .i64 yy,.int .i64 mo,.int .i64 dd,.int .i64 l,.int .i64 mi,.int .i64 ss,.string UT],.bool true]from rfl];have y:=ae (ai (ab L) ((a0c x2.heap.size x2).alloc (a0a _) (.cells #[.string n,.int .i64 yy,.int .i64 mo,.int .i64 dd,.int .i64 l,.int .i64 mi,.int .i64 ss,.string UT] 31)));go_wp2
     go_ret2
     exact⟨Bw (ab o) 1 (by decide),ab y⟩
  .
   rw[a0h N]at CX;have a4:=ae (He hz ac N);obtain⟨ha,hc,b0,_,_⟩:=l.formN (sd s k);have HW:Hid (uL wr ha k fun i=>yS (s9 s i)):=by
    rw[b0]at l;intro h0;obtain⟨g,e,hg,hc⟩:=ul II ⟨0,0,0,0,0,⟨#[]⟩,0⟩ (sd s k) l h0;exact⟨g,e,hg,fun i hi j u hu=>hc i hi j u (by show(yS ((hqL s k).getD i _))[j]?=_;rw[LC s k i _ hi];exact hu)⟩
   have O:Hid (∀W,Below wr.heap.size wr W->Ds 88 #[.slice ha k hc,.int .i64 (q.2.2:Nat)] W (.string (q.2.1++dB k q.2.1.size q.2.2))):=fun W hb=>by
    have:=Br ha hc k q.2.2 (s9 s) W ((ab HW).later hb) d3 (LB (ab HS) (ab I)) (by omega);rw[zG (ab I)]at this;exact this
   rw[<-b0]at O;rw[<-ab HE]at CX a4;have q1:=fun d os=>Calls.regrown_of (w:=wr) (d:=d) (os:=os) (ab O _ (below_regrown wr d os));have z1:((q.2.2:Nat):Int).toNat=q.2.2:=a0t _;generalize q.2.1++dB k q.2.1.size q.2.2=EN at *
   obtain⟨X,hX⟩:∃x,s.extract q.2.2 s.size=x:=⟨_,rfl⟩;rw[hX]at CX a4;obtain⟨B,hB⟩:∃b,(X.toList == EN.toList)=b:=⟨_,rfl⟩;have HB:=ae hB;clear hf l U K hz ac a9 N HH HW O b0 I bc F HE;go_wp2_with fail;refine(ab CX _).mono ?_;rintro e x0 ⟨rfl,b1⟩;subst b1;clear CX;go_wp2_with fail;refine wp_region_quiet_below cp (by kernel_rfl) ?_;cases B
   all_goals
    quiet_step (fail)
    quiet_step (fail)
    quiet_step (fail)
    quiet_step (fail)
    quiet_step (fail)
    quiet_step (exact q1 _ _)
    quiet_step (fail)
    refine a1D ?_;intro zw d5;obtain⟨⟨dq,osq⟩,cv⟩:=d5;have I:=below_regrown x0 dq osq;rw[<-cv]at I;have T9:=ae (ai (ab P) I);have O9:=ae ((ab HF).later I (a0a _));clear cv I q1
   .
    have HN:Hid (dE s=none):=by show _=_;rw[ab a4,a0d (fun e=>by have:=(wG (ab HB)).2 e;cases this)]
    go_wp2
    go_ret2
    exact⟨Bw (ab HN) 1 (by decide),ab T9⟩
   .
    have HY:Hid (dE s=some q.1):=by show _=_;rw[ab a4,a0e ((wG (ab HB)).1 rfl)]
    go_wp2
    go_ret2
    exact⟨⟨_,0,rfl,fun _=>⟨_,ab HY,ab O9⟩,fun h=>absurd rfl h⟩,ab T9⟩
theorem oB.later{W:World}(a:oB w)(hb:Below w.heap.size w W):oB W:=(hb.cell (p:=⟨0,0,none⟩) (World.block_lt_of_cell? _ _ a)).trans a
theorem lX(s:ByteArray)(m:Int)(w:World)(y:s.size<=1048576)(x:w.cell? ⟨2,0,none⟩=some (.int .i64 m))(t:oB w)(r:dI w) :
  Calls prog 35 #[.string s] w fun e w'=>(∃v,e = .returned (.tuple #[v,.bool (dE s).isSome])/\gz w' w.heap.size v ((dE s).getD []))/\Below w.heap.size w w':=by
 have C:=ae (Bv s m w y x r);have o:=ae t;clear x t r y;go_enter func35,ntmps35;go_wp2_with fail;refine(ab C).mono ?_;rintro e x1 ⟨⟨v,c,rfl,p,q⟩,f⟩;have d:=ae f;have j:=ae (mB c x1 ((ab o).later f));have k:=ae p;have n:=ae q;clear p q f C o;generalize dC c=FV at *
 go_wp2_with fail;refine(ab j).mono ?_;rintro e x2 ⟨rfl,a⟩;have g:=ae (ai (ab d) a);by_cases i:c=0
 .
  obtain⟨l,u,b⟩:=ab k i;have h:=ae u;have z:=ae (b.later a (a0a _));subst i;clear u b a j k n d;go_wp2
  go_ret2
  exact⟨⟨_,by rw[ab h];rfl,by rw[ab h];exact ab z⟩,ab g⟩
 .
  have h:=ae (ab n i);have hd:decide (c=0)=false:=a0h i;clear a j k n d;go_wp2
  go_ret2
  exact⟨⟨_,by rw[ab h];rfl,by rw[ab h];exact cf.nil _ _⟩,ab g⟩
def goes(e f:En):Prop:=cw e.n.data.toList f.n.data.toList=false
def iD:List En->List En->Int×List En
 | [],l=>(0,l)
 | e :: r,l=>if bj l e=0 then iD r (l++[e])else(bj l e,[])
theorem MO{r l:List En}(h:dm l=true)(a:(iD r l).1=0):dm (iD r l).2=true:=by
 induction r generalizing l with
 | nil=>exact h
 | cons e r ih=>
  unfold iD at a ⊢
  split at a
  . rename_i hc;rw[a0e hc];exact ih ((kH h e).2 hc) a
  . rename_i hc;exact absurd a hc
theorem IM{l:List En}(h:dm l=true)(a:k<l.length):jf (l.getD k default)=true:=(ii h).1 k a
def edR(s:ByteArray)(d:List En->Int×List En):Value:=match dE s with
 | none=>.tuple #[.string ⟨#[]⟩,.int .i64 1]
 | some l=>if (d l).1=0 then .tuple #[.string (xX (d l).2),.int .i64 0]else .tuple #[.string s,.int .i64 (d l).1]
theorem D5(h:dE s=none)(d:List En->Int×List En):edR s d = .tuple #[.string ⟨#[]⟩,.int .i64 1]:=by unfold edR;rw[h]
theorem IE{l r:List En}{d:List En->Int×List En}(h:dE s=some l)(a:d l=(0,r)):edR s d = .tuple #[.string (xX r),.int .i64 0]:=by unfold edR;rw[h];simp[a]
theorem MG{l r:List En}{d:List En->Int×List En}{c:Int}(h:dE s=some l)(a:d l=(c,r))(b:c≠0):edR s d = .tuple #[.string s,.int .i64 c]:=by unfold edR;rw[h];simp[a,b]
theorem D4(s:ByteArray)(d:List En->Int×List En):∃t c,edR s d = .tuple #[.string t,.int .i64 c]:=by
 unfold edR
 split
 . exact⟨_,_,rfl⟩
 . split<;>exact⟨_,_,rfl⟩
theorem pF{l:List En}(h:dE s=some l):dm l=true:=by
 obtain⟨_,q,_,rfl,a,_⟩:=qO h;exact a
theorem kJ{l:List En}(h:dm l=true):∀i,i<l.length->(l.getD i default).n.size<=1048576/\((l.getD i default).t.size:Int)<=9223372036854775807:=by
 intro i a;obtain⟨f1,f2,_⟩:=dn (n:=(l.getD i default).n) (t:=(l.getD i default).t) (IM h a);exact⟨by omega,by omega⟩
theorem MD{l:List En}{n:Nat}(h:dm l=true)(a:l.length=n):xX l=(aJ l).1++(aJ l).2++dB n (aJ l).2.size (aJ l).1.size:=by unfold xX;rw[a0e h,a]
theorem pP(l:List En):∀u∈l.flatMap kg,u.oneCell'=true:=fun u a=>by
 obtain⟨e,_,h⟩:=List.mem_flatMap.1 a;exact je e u h
def Hg(b:Nat)(w:World)(d:Int×List En)(e:Ending)(w':World):Prop:=(∃v,e = .returned (.tuple #[v,dC d.1])/\(∃a n c,v = .slice a n c)/\(d.1=0->gz w' b v d.2))/\Below b w w'
theorem Ln{d:Int×List En}{c:Int}(h:d.1=c)(a:c≠0)(hb:Below b w w'):Hg b w d (.returned (.tuple #[.slice none 0 0,.iface 81 (.agg #[.int .i64 c])])) w':=by
 subst h;exact⟨⟨_,by unfold dC;rw[a0d a],⟨_,_,_,rfl⟩,fun e=>absurd e a⟩,hb⟩
end Go.Proofs.YtllhielelnfpaaaGreatDoor
