/- Plain mathematics: pieces that stand in a number are read back: symbols, tokens, bytes. -/
import Derived.Test.YtggknepmhjfohaaGreatDoorM16
import Derived.Test.YtggknepmhjfohaaGreatDoorM20
import Derived.Test.YtggknepmhjfohaaGreatDoorM11
import Derived.Test.YtggknepmhjfohaaGreatDoorM30
import Derived.Test.YtggknepmhjfohaaGreatDoorM22
set_option linter.unusedSimpArgs false
set_option linter.unusedVariables false
namespace Go.Proofs.YtggknepmhjfohaaGreatDoor
open Go.RowKit Corb
variable {V p sz y:Nat}{l:List (Int×Int)}
def Std(V:Nat):Nat->List (Int×Int)->Prop
 | _,[]=>True
 | p,x :: l=>V/2 ^ p%2 ^ x.2.toNat=x.1.toNat/\Std V (p+x.2.toNat) l
def bN(l:List (Int×Int)):Nat:=fE (bitsOf l)
theorem jA:bN []=0:=rfl
theorem eK(x:Int×Int)(l:List (Int×Int)):bN (x :: l)=x.2.toNat+bN l:=by unfold bN bitsOf;rw[a0B,kh]
theorem dw(a b:List (Int×Int)):bN (a++b)=bN a+bN b:=by unfold bN bitsOf;rw[a0I,qL]
theorem nG{a b:List (Int×Int)} : ∀{p:Nat},Std V p (a++b)<->Std V p a/\Std V (p+bN a) b:=by
 induction a with
 | nil=>intro p;simp[Std,jA]
 | cons x a ih=>
  intro p;rw[a1o];simp only[Std];rw[ih,eK,and_assoc,a1T]
theorem I2: ∀(l:List (Int×Int)) (p:Nat),dJ V p (bitsOf l)=numsOf l->Std V p l:=by
 intro l;induction l with
 | nil=>intro p _;trivial
 | cons x l ih=>
  intro p h;unfold bitsOf numsOf at h;rw[a0B,a0B]at h;simp only[dJ,List.cons.injEq]at h;refine⟨?_,ih _ h.2⟩;rw[←h.1,a0p]
theorem KN(W:Nat)(h:aX l=true):Std ((aW l).1+W*2 ^ (aW l).2) 0 l:=I2 l 0 (Fj l W h)
theorem pQ{x:Int×Int}(h:Std V p (x :: l))(a:p+x.2.toNat<=sz):rdN V sz p x.2.toNat=some (x.1.toNat,p+x.2.toNat):=by
 rw[cH a,h.1]
theorem nX{B:List Int}(a:au B=true){k:Nat}(e:0<B.getD k 0)(h:Std V p (pcM B k :: l))(f:p+(B.getD k 0).toNat<=sz):dec B V sz p=some ((k:Int),p+(B.getD k 0).toNat):=by
 have d:k<B.length:=by
  rcases a1F k B.length with c|c
  . exact c
  . simp[List.getD,c]at e
 have hb:=lH (fN a) d;obtain⟨n,hn⟩:∃n:Nat,B.getD k 0=(n:Int)+1:=⟨(B.getD k 0).toNat-1,by omega⟩;have b:=h.1;unfold pcM at b;simp only at b;rw[zg B 15 k d,a0d (by omega),a0p,a0p,hn,show((n:Int)+1).toNat=n+1 by omega]at b;rw[hn,show((n:Int)+1).toNat=n+1 by omega]at f ⊢;have:=Gf a d hn b (by omega);rw[this]
 congr 1
theorem Kg:(List.range 61).all (fun y=>decide (y<3) || (decide (fnd 3 4 y 27<28)&&decide ((stF 3 4 (fnd 3 4 y 27)).1<=y)))=true:=by decide +kernel
theorem Jy:(List.range 251).all (fun y=>decide (y<1) || (decide (fnd 1 2 y 29<30)&&decide ((stF 1 2 (fnd 1 2 y 29)).1<=y)))=true:=by decide +kernel
theorem G9(a:3<=y)(b:y<=60):fnd 3 4 y 27<28/\(stF 3 4 (fnd 3 4 y 27)).1<=y:=by
 have:=a1m.1 Kg y (List.mem_range.2 (by omega));simp only[a1h,a0l,a0u]at this;omega
theorem F2(a:1<=y)(b:y<=250):fnd 1 2 y 29<30/\(stF 1 2 (fnd 1 2 y 29)).1<=y:=by
 have:=a1m.1 Jy y (List.mem_range.2 (by omega));simp only[a1h,a0l,a0u]at this;omega
theorem IM{least group many k:Nat}(b:k<many)(d:(stF least group k).1<=y)(h:Std V p (((y:Int)-((stF least group k).1:Int),((stF least group k).2:Nat)) :: l))(c:p+(stF least group k).2<=sz):scG V sz least group many k p=some (y,p+(stF least group k).2):=by
 unfold scG;rw[a0d b];have a:=pQ (sz:=sz) h (by simpa using c);simp only[a0p]at a;rw[a];simp only[a0f]
 congr 2
 omega
def AZ(L D:List Int)(t:Tk):Prop:=if isB t then 0<L.getD t.1.toNat 0 else 0<L.getD (257+fnd 3 4 t.2.1.toNat 27) 0/\0<D.getD (fnd 1 2 t.2.2.toNat 29) 0
theorem lu(B:List Int)(k:Nat):(pcM B k).2.toNat=(B.getD k 0).toNat:=rfl
theorem Kr{L D:List Int}(okL:au L=true)(okD:au D=true){t:Tk}(f:okT t=true)(a:AZ L D t)(h:Std V p (ct L D t++l))(b:p+bN (ct L D t)<=sz) :
  ∃i q,dec L V sz p=some (i,q)/\i≠256/\oneG V sz D i q=some (t,p+bN (ct L D t)):=by
 obtain⟨y,lo,c⟩:=t;unfold AZ at a;unfold ct at h b ⊢;by_cases d:isB (y,lo,c)=true
 .
  rw[a0d d]at h b a ⊢;have hb:0<=y/\y<=255/\lo=0/\c=0:=by unfold isB inB at d;simp only[a0l,a0u]at d;omega
  rw[eK,jA,a1q,lu]at b ⊢;refine⟨_,_,nX okL a h b,?_,?_⟩
  . simp only;omega
  . unfold oneG;rw[a0d (by simp only;omega)];simp only[a0i,a0R,a0V];omega
 .
  rw[a0e d]at h b a ⊢;have e:isK (y,lo,c)=true:=by unfold okT at f;simpa[d]using f
  have hb:y=0/\3<=lo/\lo<=60/\1<=c/\c<=250:=by unfold isK inB at e;simp only[a0l,a0u]at e;omega
  obtain⟨rfl,g,m,n,o⟩:=hb;obtain⟨x,rfl⟩:=a0n (show 0<=lo by omega);obtain⟨z,rfl⟩:=a0n (show 0<=c by omega);simp only[a0p]at h b a ⊢;obtain⟨f1,f2⟩:=G9 (y:=x) (by omega) (by omega);obtain⟨g1,g2⟩:=F2 (y:=z) (by omega) (by omega);generalize fnd 3 4 x 27=k at *
  generalize fnd 1 2 z 29=j at *
  simp only[eK,jA,a1q,lu,a0p]at b ⊢;have s1:=h;have s2:=h.2;have s3:=s2.2;have s4:=s3.2;simp only[lu,a0p]at s2 s3 s4;refine⟨_,_,nX okL a.1 s1 (by omega),by omega,?_⟩;unfold oneG;rw[a0e (by omega),show((257+k:Nat):Int).toNat-257=k by omega];unfold ft;rw[IM f1 f2 s2 (by omega)];simp only[a0f];rw[nX okD a.2 s3 (by omega)];simp only[a0f,a0p];rw[IM g1 g2 s4 (by omega)];simp only[a0f,a0i,a0R,a1P];omega
def og(R:List UInt8):List Tk->Option (List UInt8)
 | []=>some R
 | t :: T=>(dR R t).bind fun x=>og x T
theorem DF{L D:List Int}(okL:au L=true)(okD:au D=true)(n:0<L.getD 256 0) : ∀(T:List Tk) (p:Nat) (R b:List UInt8),(∀t∈T,okT t=true/\AZ L D t)->Std V p (T.flatMap (ct L D)++(pcM L 256 :: l))->p+bN (T.flatMap (ct L D))+(L.getD 256 0).toNat<=sz->og R T=some b->gm V sz L D p R=some (b,p+bN (T.flatMap (ct L D))+(L.getD 256 0).toNat):=by
 intro T;induction T with
 | nil=>
  intro p R b _ h c a;simp only[og,a0i]at a;subst a;simp only[a2k,a1b,jA,a1q]at h c ⊢;exact tT (nX okL n h c)
 | cons t T ih=>
  intro p R b e h c a;simp only[a06,a0M,dw]at h c ⊢;obtain⟨m,h2⟩:=e t (by simp);obtain⟨i,q,g,j,k⟩:=Kr (sz:=sz) okL okD m h2 h (by omega);rw[qj g j,k];simp only[a0f];simp only[og]at a;rcases f:dR R t with _|x
  . rw[f]at a;cases a
  . rw[f]at a;simp only[a0f]at a ⊢;rw[ih (p+bN (ct L D t)) x b (fun t' d=>e t' (by simp[d])) (nG.1 h).2 (by omega) a,a1T p]
theorem FD{L:List UInt8}(d:L.length<=300):∀(n p:Nat),L.length-p<=n->p<=L.length->og (L.take p) (bg L p)=some L:=by
 intro n;induction n with
 | zero=>
  intro p b h2;have e:p=L.length:=by omega
  subst e;rw[ea (Nat.lt_irrefl _)];simp only[og,a3H]
 | succ n ih=>
  intro p b h2;by_cases a:p<L.length
  . rw[gO a];simp only[og];rw[DL a d];have f:=gi L p;have c:=oM a;exact ih _ (by omega) c
  .
   have e:p=L.length:=by omega
   subst e;rw[ea (Nat.lt_irrefl _)];simp only[og,a3H]
theorem tV{L:List UInt8}(a:L.length<=300):og [] (bg L 0)=some L:=FD a L.length 0 (by omega) (a0g _)
end Go.Proofs.YtggknepmhjfohaaGreatDoor
