/- Of what the proof is made: 6 texts, one behind the other. -/
import Derived.Test.YtbacpebljannfaaGreatDoorM15
import Derived.Test.YtbacpebljannfaaGreatDoorM19
import Derived.Test.YtbacpebljannfaaGreatDoorM10
import Derived.Test.YtbacpebljannfaaGreatDoorM28
import Derived.Test.YtbacpebljannfaaGreatDoorM21
import Derived.Test.YtbacpebljannfaaGreatDoorMp1
import Derived.Test.YtbacpebljannfaaGreatDoorM3
import Derived.Test.YtbacpebljannfaaGreatDoorM4
import Derived.BigQuiet
import Derived.Test.YtbacpebljannfaaGreatDoorM7
import Derived.Test.YtbacpebljannfaaGreatDoorWk1
set_option linter.unusedSimpArgs false
set_option maxHeartbeats 6400000
namespace Go.Proofs.YtbacpebljannfaaGreatDoor
open Go.RowKit Corb
def Std(V:Nat):Nat->List (Int×Int)->Prop
 | _,[]=>True
 | p,x :: l=>V/2 ^ p%2 ^ x.2.toNat=x.1.toNat/\Std V (p+x.2.toNat) l
def bN(l:List (Int×Int)):Nat:=fy (bitsOf l)
theorem jg:bN []=0:=rfl
theorem eN(x:Int×Int)(l:List (Int×Int)):bN (x :: l)=x.2.toNat+bN l:=by unfold bN bitsOf;rw[a0C,jX]
theorem dy(a b:List (Int×Int)):bN (a++b)=bN a+bN b:=by unfold bN bitsOf;rw[a0K,pZ]
theorem nt{V:Nat}{a b:List (Int×Int)} : ∀{p:Nat},Std V p (a++b)<->Std V p a/\Std V (p+bN a) b:=by
 induction a with
 | nil=>intro p;simp[Std,jg]
 | cons x a ih=>
  intro p;rw[a1n];simp only[Std];rw[ih,eN,and_assoc,a1N]
theorem Gs{V:Nat} : ∀(l:List (Int×Int)) (p:Nat),dM V p (bitsOf l)=numsOf l->Std V p l:=by
 intro l;induction l with
 | nil=>intro p _;trivial
 | cons x l ih=>
  intro p h;unfold bitsOf numsOf at h;rw[a0C,a0C]at h;simp only[dM,List.cons.injEq]at h;refine⟨?_,ih _ h.2⟩;rw[←h.1,a0p]
theorem IY{l:List (Int×Int)}(W:Nat)(h:bj l=true):Std ((bi l).1+W*2 ^ (bi l).2) 0 l:=Gs l 0 (DD l W h)
theorem pt{V sz p:Nat}{x:Int×Int}{l:List (Int×Int)}(h:Std V p (x :: l))(hs:p+x.2.toNat<=sz):rdN V sz p x.2.toNat=some (x.1.toNat,p+x.2.toNat):=by
 rw[ms hs,h.1]
theorem nO{B:List Int}(hok:aw B=true){V sz p k:Nat}{l:List (Int×Int)}(h0:0<B.getD k 0)(h:Std V p (pcM B k :: l))(hs:p+(B.getD k 0).toNat<=sz):dec B V sz p=some ((k:Int),p+(B.getD k 0).toNat):=by
 have hk:k<B.length:=by
  rcases a1O k B.length with h'|h'
  · exact h'
  · simp[List.getD,h']at h0
 have hb:=ly (fL hok) hk;obtain⟨n,hn⟩:∃n:Nat,B.getD k 0=(n:Int)+1:=⟨(B.getD k 0).toNat-1,by omega⟩;have h1:=h.1;unfold pcM at h1;simp only at h1;rw[xL B 15 k hk,a0d (by omega),a0p,a0p,hn,show((n:Int)+1).toNat=n+1 by omega]at h1;rw[hn,show((n:Int)+1).toNat=n+1 by omega]at hs ⊢;have:=Es hok hk hn h1 (by omega);rw[this]
 congr 1
theorem Is:(List.range 61).all (fun y=>decide (y<3) || (decide (fnd 3 4 y 27<28)&&decide ((stF 3 4 (fnd 3 4 y 27)).1<=y)))=true:=by decide +kernel
theorem GY:(List.range 251).all (fun y=>decide (y<1) || (decide (fnd 1 2 y 29<30)&&decide ((stF 1 2 (fnd 1 2 y 29)).1<=y)))=true:=by decide +kernel
theorem Fq{y:Nat}(h0:3<=y)(h1:y<=60):fnd 3 4 y 27<28/\(stF 3 4 (fnd 3 4 y 27)).1<=y:=by
 have:=a1j.1 Is y (List.mem_range.2 (by omega));simp only[a1f,a0n,a0z]at this;omega
theorem Ej{y:Nat}(h0:1<=y)(h1:y<=250):fnd 1 2 y 29<30/\(stF 1 2 (fnd 1 2 y 29)).1<=y:=by
 have:=a1j.1 GY y (List.mem_range.2 (by omega));simp only[a1f,a0n,a0z]at this;omega
theorem Ge{V sz p least group many k y:Nat}{l:List (Int×Int)}(hk:k<many)(hy:(stF least group k).1<=y)(h:Std V p (((y:Int)-((stF least group k).1:Int),((stF least group k).2:Nat)) :: l))(hs:p+(stF least group k).2<=sz):scG V sz least group many k p=some (y,p+(stF least group k).2):=by
 unfold scG;rw[a0d hk];have h1:=pt (sz:=sz) h (by simpa using hs);simp only[a0p]at h1;rw[h1];simp only[a0f]
 congr 2
 omega
def zo(L D:List Int)(t:Tk):Prop:=if isB t then 0<L.getD t.1.toNat 0 else 0<L.getD (257+fnd 3 4 t.2.1.toNat 27) 0/\0<D.getD (fnd 1 2 t.2.2.toNat 29) 0
theorem kZ(B:List Int)(k:Nat):(pcM B k).2.toNat=(B.getD k 0).toNat:=rfl
theorem IA{L D:List Int}(okL:aw L=true)(okD:aw D=true){V sz p:Nat}{t:Tk}{l:List (Int×Int)}(ht:okT t=true)(hh:zo L D t)(h:Std V p (cz L D t++l))(hs:p+bN (cz L D t)<=sz) :
  ∃i q,dec L V sz p=some (i,q)/\i≠256/\oneG V sz D i q=some (t,p+bN (cz L D t)):=by
 obtain⟨y,lo,ba⟩:=t;unfold zo at hh;unfold cz at h hs ⊢;by_cases hB:isB (y,lo,ba)=true
 ·
  rw[a0d hB]at h hs hh ⊢;have hb:0<=y/\y<=255/\lo=0/\ba=0:=by unfold isB inB at hB;simp only[a0n,a0z]at hB;omega
  rw[eN,jg,a1p,kZ]at hs ⊢;refine⟨_,_,nO okL hh h hs,?_,?_⟩
  · simp only;omega
  · unfold oneG;rw[a0d (by simp only;omega)];simp only[a0j,a0Y,a0Q];omega
 ·
  rw[a0e hB]at h hs hh ⊢;have hK:isK (y,lo,ba)=true:=by unfold okT at ht;simpa[hB]using ht
  have hb:y=0/\3<=lo/\lo<=60/\1<=ba/\ba<=250:=by unfold isK inB at hK;simp only[a0n,a0z]at hK;omega
  obtain⟨rfl,b1,b2,b3,b4⟩:=hb;obtain⟨x,rfl⟩:=a0r (show 0<=lo by omega);obtain⟨z,rfl⟩:=a0r (show 0<=ba by omega);simp only[a0p]at h hs hh ⊢;obtain⟨f1,f2⟩:=Fq (y:=x) (by omega) (by omega);obtain⟨g1,g2⟩:=Ej (y:=z) (by omega) (by omega);generalize fnd 3 4 x 27=k at *
  generalize fnd 1 2 z 29=j at *
  simp only[eN,jg,a1p,kZ,a0p]at hs ⊢;have s1:=h;have s2:=h.2;have s3:=s2.2;have s4:=s3.2;simp only[kZ,a0p]at s2 s3 s4;refine⟨_,_,nO okL hh.1 s1 (by omega),by omega,?_⟩;unfold oneG;rw[a0e (by omega),show((257+k:Nat):Int).toNat-257=k by omega];unfold lc;rw[Ge f1 f2 s2 (by omega)];simp only[a0f];rw[nO okD hh.2 s3 (by omega)];simp only[a0f,a0p];rw[Ge g1 g2 s4 (by omega)];simp only[a0f,a0j,a0Y,a1W];omega
def nT(R:List UInt8):List Tk->Option (List UInt8)
 | []=>some R
 | t :: T=>(er R t).bind fun x=>nT x T
theorem BE{L D:List Int}(okL:aw L=true)(okD:aw D=true){V sz:Nat}(hE:0<L.getD 256 0){l:List (Int×Int)} : ∀(T:List Tk) (p:Nat) (R R':List UInt8),(∀t∈T,okT t=true/\zo L D t)->Std V p (T.flatMap (cz L D)++(pcM L 256 :: l))->p+bN (T.flatMap (cz L D))+(L.getD 256 0).toNat<=sz->nT R T=some R'->kF V sz L D p R=some (R',p+bN (T.flatMap (cz L D))+(L.getD 256 0).toNat):=by
 intro T;induction T with
 | nil=>
  intro p R R' _ h hs hf;simp only[nT,a0j]at hf;subst hf;simp only[a2h,a09,jg,a1p]at h hs ⊢;exact yz (nO okL hE h hs)
 | cons t T ih=>
  intro p R R' hT h hs hf;simp only[a03,a0S,dy]at h hs ⊢;obtain⟨h1,h2⟩:=hT t (by simp);obtain⟨i,q,d1,d2,d3⟩:=IA (sz:=sz) okL okD h1 h2 h (by omega);rw[uu d1 d2,d3];simp only[a0f];simp only[nT]at hf;rcases ha:er R t with _|x
  · rw[ha]at hf;cases hf
  · rw[ha]at hf;simp only[a0f]at hf ⊢;rw[ih (p+bN (cz L D t)) x R' (fun t' ht'=>hT t' (by simp[ht'])) (nt.1 h).2 (by omega) hf,a1N p]
theorem DX{L:List UInt8}(hl:L.length<=300):∀(n p:Nat),L.length-p<=n->p<=L.length->nT (L.take p) (bm L p)=some L:=by
 intro n;induction n with
 | zero=>
  intro p h1 h2;have e:p=L.length:=by omega
  subst e;rw[ee (Nat.lt_irrefl _)];simp only[nT,a3z]
 | succ n ih=>
  intro p h1 h2;by_cases hp:p<L.length
  · rw[fH hp];simp only[nT];rw[BJ hp hl];have h3:=fX L p;have h4:=mw hp;exact ih _ (by omega) h4
  ·
   have e:p=L.length:=by omega
   subst e;rw[ee (Nat.lt_irrefl _)];simp only[nT,a3z]
theorem sL{L:List UInt8}(hl:L.length<=300):nT [] (bm L 0)=some L:=DX hl L.length 0 (by omega) (a0l _)
def dN(a b:ByteArray):ByteArray:=if b.size<a.size then b else a
theorem eK{a b:ByteArray}(h:b.size<a.size):dN a b=b:=a0d h
theorem fO{a b:ByteArray}(h:¬ b.size<a.size):dN a b=a:=a0e h
def byO(s:ByteArray):ByteArray:=⟨(kA s).toArray⟩
def bZ(s:ByteArray):ByteArray:=dN (dN (byS s) (byF s)) (byO s)
def io(s:ByteArray):Nat->ByteArray
 | 1=>byS s
 | 2=>dN (byS s) (byF s)
 | _=>bZ s
theorem vR(s:ByteArray)(h:¬ s.size<=300):byO s=⟨#[]⟩:=by unfold byO kA;rw[a0e h]
theorem wz(s:ByteArray)(h:¬ s.size<=300):bZ s=⟨#[]⟩:=by
 unfold bZ;rw[vS s h,vQ s h,vR s h];rfl
theorem uo(l:List (Int×Int)):(cH l).length=((bi l).2+7)/8:=by unfold cH;exact aT _ _
theorem sC{l:List UInt8}(h:l.length<=100000):((⟨l.toArray⟩:ByteArray).size:Int)<=100000:=by
 have:(⟨l.toArray⟩:ByteArray).size=l.length:=by simp[ByteArray.size]
 omega
theorem AF{l:List (Int×Int)}(h:lOk l=true):(bi l).2<=64000:=by
 unfold lOk at h;simp only[a0n,a0z]at h;have h1:=dA (0,0) l (fun x hx=>by
  have h2:=h.1;unfold bj at h2;exact(aV.1 (a1j.1 h2 x hx)).1.2)
 have h3:bh (0,0) l=bi l:=rfl;rw[h3]at h1;omega
theorem j7{B:Nat}{a w:World}(h:Below B a w){r:Nat}(hB:B<=w.heap.size)(hr:B<=r)(o:Obj):Below B a (w.putObj r o):=h.grown (grownBy_putObj' w r o) hB (fun j hj=>by cases hj;exact hr)
theorem qP(s:ByteArray):((byS s).size:Int)<=100000/\((byF s).size:Int)<=100000/\((byO s).size:Int)<=100000:=by
 by_cases hs:s.size<=300
 ·
  have hT:=g9 s hs;have hk:=ep s;refine⟨sC ?_,sC ?_,sC ?_⟩
  ·
   unfold fj
   split
   · rw[a0m,aT,fE];omega
   · simp
  · unfold ki;rw[a0d hs];show(cH (gm s)).length<=_;rw[uo];have h1:=AF (nS s hs);omega
  · unfold kA;rw[a0d hs];show(cH (ij _)).length<=_;rw[uo];have h1:=AF (qE _ hT hk);omega
 · rw[vS s hs,vQ s hs,vR s hs];exact⟨by decide,by decide,by decide⟩
set_option maxRecDepth 100000 in
theorem oX(s:ByteArray)(w:World)(hs:s.size<=1048576)(hO:ef w) :
  Calls Tryz.prog 42 #[.string s] w fun e w'=>e = .returned (.string (bZ s))/\Below w.heap.size w w':=by
 have hmm:=@run_makeMap Tryz.prog;have hu:=Tryz.underlying99;have hk:=a1U;obtain⟨b,hb⟩:∃b,w.heap.size=b:=⟨_,rfl⟩;have m0:=Bf w;obtain⟨w1,r1,m1,e1⟩:=mn hu hk _ _ _ 0 (.func (.func 75) #[] #[]) m0 (by simp);obtain⟨w2,r2,m2,e2⟩:=mn hu hk _ _ _ 1 (.func (.func 76) #[] #[]) m1 (by simp);obtain⟨w3,r3,m3,e3⟩:=mn hu hk _ _ _ 2 (.func (.func 77) #[] #[]) m2 (by simp);have z1:w1.heap.size=w.heap.size+1:=by rw[e1];simp[World.putObj]
 have z2:w2.heap.size=w.heap.size+1:=by rw[e2];simpa[World.putObj]using z1
 have hB1:Below w.heap.size w w1:=by rw[e1];exact j7 ((a0c _ w).alloc (a0a _) _) (by simp) (a0a _) _
 have hB2:Below w.heap.size w w2:=by rw[e2];exact j7 hB1 (by omega) (a0a _) _
 have hB3:Below w.heap.size w w3:=by rw[e3];exact j7 hB2 (by omega) (a0a _) _
 simp only[a09,a1n]at m3;have HG:=af (fun W k v (h:jf W w.heap.size [(0,.func (.func 75) #[] #[]),(1,.func (.func 76) #[] #[]),(2,.func (.func 77) #[] #[])]) hm=>Be hu hk W w.heap.size _ k v false h hm (by decide));have g0:=ae HG w3 0 (.func (.func 75) #[] #[]) m3 (by simp);have HM:=af m3;have HB3:=af hB3;have HO:=af hO;have HS:=af hs;have HSm:=af (qP s);clear e1 e2 e3 z1 z2 hB1 hB2 hB3 m0 m1 m2 m3 hu hk hs hO hb b;go_enter Tryz.func42,Tryz.ntmps42;go_wp2_with fail;refine(pa s w3 (ae HS)).mono ?_;rintro e x1 ⟨rfl,b1⟩;have hM1:=(ae HM).later b1;have hB1:=am (ae HB3) b1;have eS:(⟨(fj s.data.toList).toArray⟩:ByteArray)=io s 1:=rfl;rw[eS];clear b1 HM HB3 r1 r2 r3 g0 hmm eS;go_wp2_with fail
 go_loopw [4,5,6] (fun v i _ wr=>∃k:Nat,1<=k/\k<=3/\i = .int .i64 k/\v = .string (io s k)/\jf wr w.heap.size [(0,.func (.func 75) #[] #[]),(1,.func (.func 76) #[] #[]),(2,.func (.func 77) #[] #[])]/\Below w.heap.size w wr) (fun _ i _ _=>3-(intOf i).toNat)
 case atStart=>exact⟨1,by omega,by omega,rfl,rfl,hM1,hB1⟩
 case round=>
  obtain⟨k,hk1,hk3,rfl,rfl,hM,hbel⟩:=hrel;clear hM1 hB1;rcases (show k=1∨k=2∨k=3 by omega)with hk|hk|hk
  ·
   have hkI:(k:Int)=1:=by omega
   have hle:(k:Int)<=2:=by omega
   have g1:(Instr.lookup 99 (.map (some w.heap.size)) (.int .i64 (k:Int)) false).run Tryz.prog wr = .ok (.func (.func 76) #[] #[]) wr:=by rw[hkI];exact ae HG wr 1 (.func (.func 76) #[] #[]) hM (by simp)
   have HC:=af (oV s wr (ae HS));have eF:(⟨(ki s).toArray⟩:ByteArray)=byF s:=rfl;rw[eF]at HC;have hb1:io s k=byS s:=by rw[hk];rfl
   have hb2:Hid (io s (k+1)=dN (byS s) (byF s)):=by show _=_;rw[hk];rfl
   obtain⟨q1,q2,q3⟩:=ae HSm;rw[hb1];have Hk:=af hk;have HMB:=af (a0b hM hbel);clear hM hbel hk hk1 hk3 hb1 eF hkI;generalize byF s=F at *
   generalize byS s=A at *
   go_wp2_with fail;refine(ae HC).mono ?_;rintro e x2 ⟨rfl,b2⟩;have HY:=af (a0b ((ae HMB).1.later b2) (am (ae HMB).2 b2));clear b2 HMB HC;by_cases hlt:F.size<A.size
   ·
    have hltI:(F.size:Int)<(A.size:Int):=by omega
    have HE:=af (eK hlt);go_wp2;go_roundw
    case rel=>exact⟨k+1,by omega,by have:=ae Hk;omega,by go_num,by rw[ae hb2,ae HE],(ae HY).1,(ae HY).2⟩
    case measure=>have:=ae Hk;simp[intOf];omega
   ·
    have hltI:¬ (F.size:Int)<(A.size:Int):=by omega
    have HE:=af (fO hlt);go_wp2;go_roundw
    case rel=>exact⟨k+1,by omega,by have:=ae Hk;omega,by go_num,by rw[ae hb2,ae HE],(ae HY).1,(ae HY).2⟩
    case measure=>have:=ae Hk;simp[intOf];omega
  ·
   have hkI:(k:Int)=2:=by omega
   have hle:(k:Int)<=2:=by omega
   have g1:(Instr.lookup 99 (.map (some w.heap.size)) (.int .i64 (k:Int)) false).run Tryz.prog wr = .ok (.func (.func 77) #[] #[]) wr:=by rw[hkI];exact ae HG wr 2 (.func (.func 77) #[] #[]) hM (by simp)
   have HC:=af (rm s wr (ae HS) ((ae HO).later hbel));have eF:(⟨(kA s).toArray⟩:ByteArray)=byO s:=rfl;rw[eF]at HC;have hb1:io s k=dN (byS s) (byF s):=by rw[hk];rfl
   have hb2:Hid (io s (k+1)=dN (dN (byS s) (byF s)) (byO s)):=by show _=_;rw[hk];rfl
   obtain⟨q1,q2,q3⟩:=ae HSm;have q4:((dN (byS s) (byF s)).size:Int)<=100000:=by unfold dN;split<;>omega
   rw[hb1];have Hk:=af hk;have HMB:=af (a0b hM hbel);clear hM hbel hk hk1 hk3 hb1 eF q1 q2 hkI;generalize byO s=F at *
   generalize dN (byS s) (byF s)=A at *
   go_wp2_with fail;refine(ae HC).mono ?_;rintro e x2 ⟨rfl,b2⟩;have HY:=af (a0b ((ae HMB).1.later b2) (am (ae HMB).2 b2));clear b2 HMB HC;by_cases hlt:F.size<A.size
   ·
    have hltI:(F.size:Int)<(A.size:Int):=by omega
    have HE:=af (eK hlt);go_wp2;go_roundw
    case rel=>exact⟨k+1,by omega,by have:=ae Hk;omega,by go_num,by rw[ae hb2,ae HE],(ae HY).1,(ae HY).2⟩
    case measure=>have:=ae Hk;simp[intOf];omega
   ·
    have hltI:¬ (F.size:Int)<(A.size:Int):=by omega
    have HE:=af (fO hlt);go_wp2;go_roundw
    case rel=>exact⟨k+1,by omega,by have:=ae Hk;omega,by go_num,by rw[ae hb2,ae HE],(ae HY).1,(ae HY).2⟩
    case measure=>have:=ae Hk;simp[intOf];omega
  ·
   have hle:¬ (k:Int)<=2:=by omega
   have hb1:Hid (io s k=bZ s):=by show _=_;rw[hk];rfl
   have HB:=af hbel;clear hM hbel hk hk1 hk3;generalize io s k=A at *
   go_wp2;go_ret;exact⟨by rw[←ae hb1];rfl,ae HB⟩
set_option maxRecDepth 100000 in
theorem sZ(s:ByteArray)(w:World)(hs:s.size<=300) :
  Calls Tryz.prog 73 #[.string s] w fun e w'=>e = .returned (.string (bZ s))/\Below w.heap.size w w':=by
 have hI:¬ (300:Int)<(s.size:Int):=by omega
 have hsI:(s.size:Int)<=300:=by omega
 have HS1:=af (fun W=>wY s W hs);have HS2:=af (fun W=>wW s W hs);have HS3:=af (fun W=>CI s W hs);have e1:(⟨(leS 5 (fY s.size)++s.data.toList).toArray⟩:ByteArray)=io s 1:=by
  show _=byS s;unfold byS fj;rw[a0d (by rw[fE];exact hs),fE]
 have e2:(⟨(dL s).toArray⟩:ByteArray)=byF s:=by unfold byF ki;rw[a0d hs]
 have e3:(⟨(kV s).toArray⟩:ByteArray)=byO s:=by unfold byO kA;rw[a0d hs]
 rw[e1]at HS1;rw[e2]at HS2;rw[e3]at HS3;have HSm:=af (qP s);clear hs e1 e2 e3;go_enter Tryz.func73,Tryz.ntmps73;go_wp2_with fail;refine(ae HS1 _).mono ?_;rintro e x1 ⟨rfl,b1⟩;have B1:=af b1;clear b1;go_wp2_with fail;refine(ae HS2 _).mono ?_;rintro e x2 ⟨rfl,b2⟩;have B2:=af (am (ae B1) b2);clear b2 B1;go_wp2_with fail;refine(ae HS3 _).mono ?_;rintro e x3 ⟨rfl,b3⟩;have hB3:=am (ae B2) b3;have hB4:Below w.heap.size w (x3.alloc (.cells #[.string (byF s),.string (byO s)] 9)):=hB3.alloc hB3.size _;have c0:(x3.alloc (.cells #[.string (byF s),.string (byO s)] 9)).cell? ⟨x3.heap.size,0,none⟩=some (.string (byF s)):=by simp
 have c1:(x3.alloc (.cells #[.string (byF s),.string (byO s)] 9)).cell? ⟨x3.heap.size,1,none⟩=some (.string (byO s)):=by simp
 have HB4:=af hB4;clear b3 hB3 hB4 B2 HS1 HS2 HS3;go_wp2_with fail;generalize x3.alloc (.cells #[.string (byF s),.string (byO s)] 9)=x4 at *
 generalize x3.heap.size=g at *
 go_loopw [3,5] (fun v i wr=>∃k:Nat,k<=2/\i = .int .i64 k/\v = .string (io s (k+1))/\wr=x4) (fun _ i _=>2-(intOf i).toNat)
 case atStart=>exact⟨0,by omega,rfl,rfl,rfl⟩
 case round=>
  obtain⟨k,hk2,rfl,rfl,hwr⟩:=hrel;rw[hwr];clear hwr;obtain⟨q1,q2,q3⟩:=ae HSm;rcases (show k=0∨k=1∨k=2 by omega)with hk|hk|hk
  ·
   have hkI:(k:Int)<2:=by omega
   have c:x4.cell? ⟨g,k,none⟩=some (.string (byF s)):=by rw[hk];exact c0
   have hb1:io s (k+1)=byS s:=by rw[hk];rfl
   have hb2:Hid (io s (k+1+1)=dN (byS s) (byF s)):=by show _=_;rw[hk];rfl
   rw[hb1];have Hk:=af hk;clear hk hb1 c0 c1 hk2;generalize byF s=F at *
   generalize byS s=A at *
   by_cases hlt:F.size<A.size
   ·
    have hltI:(F.size:Int)<(A.size:Int):=by omega
    have HE:=af (eK hlt);go_wp2;go_roundw
    case rel=>exact⟨k+1,by have:=ae Hk;omega,by go_num,by rw[ae hb2,ae HE],by first|rfl|trivial⟩
    case measure=>have:=ae Hk;simp[intOf];omega
   ·
    have hltI:¬ (F.size:Int)<(A.size:Int):=by omega
    have HE:=af (fO hlt);go_wp2;go_roundw
    case rel=>exact⟨k+1,by have:=ae Hk;omega,by go_num,by rw[ae hb2,ae HE],by first|rfl|trivial⟩
    case measure=>have:=ae Hk;simp[intOf];omega
  ·
   have hkI:(k:Int)<2:=by omega
   have c:x4.cell? ⟨g,k,none⟩=some (.string (byO s)):=by rw[hk];exact c1
   have hb1:io s (k+1)=dN (byS s) (byF s):=by rw[hk];rfl
   have hb2:Hid (io s (k+1+1)=dN (dN (byS s) (byF s)) (byO s)):=by show _=_;rw[hk];rfl
   have q4:((dN (byS s) (byF s)).size:Int)<=100000:=by unfold dN;split<;>omega
   rw[hb1];have Hk:=af hk;clear hk hb1 c0 c1 hk2 q1 q2;generalize byO s=F at *
   generalize dN (byS s) (byF s)=A at *
   by_cases hlt:F.size<A.size
   ·
    have hltI:(F.size:Int)<(A.size:Int):=by omega
    have HE:=af (eK hlt);go_wp2;go_roundw
    case rel=>exact⟨k+1,by have:=ae Hk;omega,by go_num,by rw[ae hb2,ae HE],by first|rfl|trivial⟩
    case measure=>have:=ae Hk;simp[intOf];omega
   ·
    have hltI:¬ (F.size:Int)<(A.size:Int):=by omega
    have HE:=af (fO hlt);go_wp2;go_roundw
    case rel=>exact⟨k+1,by have:=ae Hk;omega,by go_num,by rw[ae hb2,ae HE],by first|rfl|trivial⟩
    case measure=>have:=ae Hk;simp[intOf];omega
  ·
   have hkI:¬ (k:Int)<2:=by omega
   have hb1:Hid (io s (k+1)=bZ s):=by show _=_;rw[hk];rfl
   clear hk c0 c1 hk2;generalize io s (k+1)=A at *
   go_wp2;go_ret;exact⟨by rw[←ae hb1];rfl,ae HB4⟩
theorem py(s:ByteArray)(w:World)(hs:s.size<=1048576) :
  Calls Tryz.prog 73 #[.string s] w fun e w'=>e = .returned (.string (bZ s))/\Below w.heap.size w w':=by
 have hsI:(s.size:Int)<=1048576:=by omega
 by_cases h:s.size<=300
 · exact sZ s w h
 ·
  have hI:(300:Int)<(s.size:Int):=by omega
  have HF:=af (wz s h);clear h;go_enter Tryz.func73,Tryz.ntmps73;go_wp2;go_ret;exact⟨by rw[ae HF];rfl,a0c _ _⟩
set_option maxRecDepth 100000
def eu(s:ByteArray):Nat:=if (bZ s).size<s.size then 8 else 0
def bv(s:ByteArray):ByteArray:=if (bZ s).size<s.size then bZ s else s
theorem iy(s:ByteArray):((bZ s).size:Int)<=100000:=by
 obtain⟨h1,h2,h3⟩:=qP s;have key:∀a b:ByteArray,(a.size:Int)<=100000->(b.size:Int)<=100000->((dN a b).size:Int)<=100000:=fun a b ha hb=>by
  by_cases h:b.size<a.size
  · rw[eK h];exact hb
  · rw[fO h];exact ha
 unfold bZ;exact key _ _ (key _ _ h1 h2) h3
theorem tM(s:ByteArray)(w:World)(hs:s.size<=1048576) :
  Calls Tryz.prog 39 #[.string s] w fun e w'=>e = .returned (.tuple #[.int .i64 (eu s:Nat),.string (bv s)])/\Below w.heap.size w w':=by
 have HC:=af (py s w hs);have hz:=iy s;have hsI:(s.size:Int)<=1048576:=by omega
 unfold eu bv;generalize bZ s=x at *
 clear hs;by_cases h:x.size<s.size
 ·
  have hI:(x.size:Int)<(s.size:Int):=by omega
  rw[a0d h,a0d h];clear h;go_enter Tryz.func39,Tryz.ntmps39;go_wp2_with fail;refine(ae HC).mono ?_;rintro e w1 ⟨rfl,hb1⟩;have HB:=af hb1;clear hb1 HC;go_wp2
  go_ret2
  exact⟨rfl,ae HB⟩
 ·
  have hI:¬ (x.size:Int)<(s.size:Int):=by omega
  rw[a0e h,a0e h];clear h;go_enter Tryz.func39,Tryz.ntmps39;go_wp2_with fail;refine(ae HC).mono ?_;rintro e w1 ⟨rfl,hb1⟩;have HB:=af hb1;clear hb1 HC;go_wp2
  go_ret2
  exact⟨rfl,ae HB⟩
def oH(W:World)(g:Nat)(n:ByteArray)(y mo d h mi s:Int)(t:ByteArray):Prop:=W.cell? ⟨g,0,none⟩=some (.string n)/\W.cell? ⟨g,1,none⟩=some (.int .i64 y)/\W.cell? ⟨g,2,none⟩=some (.int .i64 mo)/\W.cell? ⟨g,3,none⟩=some (.int .i64 d)/\W.cell? ⟨g,4,none⟩=some (.int .i64 h)/\W.cell? ⟨g,5,none⟩=some (.int .i64 mi)/\W.cell? ⟨g,6,none⟩=some (.int .i64 s)/\W.cell? ⟨g,7,none⟩=some (.string t)
def mD(w:World)(n:ByteArray)(y mo d h mi s:Int)(t:ByteArray)(W:World):Prop:=Below w.heap.size w W/\w.heap.size<W.heap.size/\oH W w.heap.size n y mo d h mi s t
theorem mD.later{w W W':World}{n t:ByteArray}{y mo d h mi s:Int}(k:mD w n y mo d h mi s t W)(hb:Below W.heap.size W W'):mD w n y mo d h mi s t W':=by
 have hc:∀j,W'.cell? ⟨w.heap.size,j,none⟩=W.cell? ⟨w.heap.size,j,none⟩:=fun j=>hb.cell (p:=⟨w.heap.size,j,none⟩) k.2.1;obtain⟨b1,b2,e0,e1,e2,e3,e4,e5,e6,e7⟩:=k;exact⟨b1.trans (hb.mono (a0x b2)),a0g b2 hb.size,(hc 0).trans e0,(hc 1).trans e1,(hc 2).trans e2,(hc 3).trans e3,(hc 4).trans e4,(hc 5).trans e5,(hc 6).trans e6,(hc 7).trans e7⟩
theorem GD(how st crc pk lg n:Nat):jd how st crc pk lg n=cb (leS 2 20)++cb (leS 2 0)++cb (leS 2 how)++cb (leS 4 st)++cb (leS 4 crc)++cb (leS 4 pk)++cb (leS 4 lg)++cb (leS 2 n)++cb (leS 2 0):=by
 have hx:∀a b:ByteArray,a.data.toList=b.data.toList->a=b:=fun a b h=>by
  cases a;cases b
  simp only[ByteArray.mk.injEq];exact Array.toList_inj.1 h
 apply hx;unfold jd cb;simp
theorem vf(n t:ByteArray)(y mo d h mi s:Int)(N:Nat)(w:World)(k:(0<=y/\y<=100000)/\(0<=mo/\mo<=100)/\(0<=d/\d<=100)/\(0<=h/\h<=100)/\(0<=mi/\mi<=100) /\ -100<=s/\s<=100)
  (hN:(((((y-1980)*16+mo)*32+d)*32+h)*64+mi)*32+Int.tdiv s 2=(N:Int)) (hN2:N<4294967296) (hn:n.size<65536) (ht:t.size<=1048576) :
  Calls Tryz.prog 41 #[.agg #[.string n,.int .i64 y,.int .i64 mo,.int .i64 d,.int .i64 h,.int .i64 mi,.int .i64 s,.string t]] w fun e w'=>e = .returned (.string (jd (eu t) N (aM 0 t.data.toList) (bv t).size t.size n.size))/\Below w.heap.size w w':=by
 have hmix:Tryz.prog.follows .mixedOrders=true:=by kernel_rfl
 have hcr:aM 0 t.data.toList<4294967296:=gh _ _ (by omega);have hfz:=iy t;have hbz:(bv t).size<=1048576:=by unfold bv;split<;>omega
 have hwz:eu t<=8:=by unfold eu;split<;>omega
 have C20:Hid (∀W,Calls Tryz.prog 40 #[.int .i64 ((20:Nat):Int),.int .i64 2] W fun e w'=>e = .returned (.string (cb (leS 2 (20))))/\Below W.heap.size W w'):=fun W=>dB (20) 2 W (by omega) (by omega);have C0:Hid (∀W,Calls Tryz.prog 40 #[.int .i64 ((0:Nat):Int),.int .i64 2] W fun e w'=>e = .returned (.string (cb (leS 2 (0))))/\Below W.heap.size W w'):=fun W=>dB (0) 2 W (by omega) (by omega);have CH:Hid (∀W,Calls Tryz.prog 40 #[.int .i64 ((eu t:Nat):Int),.int .i64 2] W fun e w'=>e = .returned (.string (cb (leS 2 (eu t))))/\Below W.heap.size W w'):=fun W=>dB (eu t) 2 W (by omega) (by omega);have CN:Hid (∀W,Calls Tryz.prog 40 #[.int .i64 ((N:Nat):Int),.int .i64 4] W fun e w'=>e = .returned (.string (cb (leS 4 (N))))/\Below W.heap.size W w'):=fun W=>dB (N) 4 W (by omega) (by omega);have CK:Hid (∀W,Calls Tryz.prog 40 #[.int .i64 ((aM 0 t.data.toList:Nat):Int),.int .i64 4] W fun e w'=>e = .returned (.string (cb (leS 4 (aM 0 t.data.toList))))/\Below W.heap.size W w'):=fun W=>dB (aM 0 t.data.toList) 4 W (by omega) (by omega);have CB:Hid (∀W,Calls Tryz.prog 40 #[.int .i64 (((bv t).size:Nat):Int),.int .i64 4] W fun e w'=>e = .returned (.string (cb (leS 4 ((bv t).size))))/\Below W.heap.size W w'):=fun W=>dB ((bv t).size) 4 W (by omega) (by omega);have CT:Hid (∀W,Calls Tryz.prog 40 #[.int .i64 ((t.size:Nat):Int),.int .i64 4] W fun e w'=>e = .returned (.string (cb (leS 4 (t.size))))/\Below W.heap.size W w'):=fun W=>dB (t.size) 4 W (by omega) (by omega);have CM:Hid (∀W,Calls Tryz.prog 40 #[.int .i64 ((n.size:Nat):Int),.int .i64 2] W fun e w'=>e = .returned (.string (cb (leS 2 (n.size))))/\Below W.heap.size W w'):=fun W=>dB (n.size) 2 W (by omega) (by omega);have CP:Hid (∀W,Calls Tryz.prog 74 #[.agg #[.int .i64 y,.int .i64 mo,.int .i64 d,.int .i64 h,.int .i64 mi,.int .i64 s]] W fun e w'=>e = .returned (.int .i64 ((N:Nat):Int))/\Below W.heap.size W w'):=fun W=>by
  have:=CJ y mo d h mi s W k;rw[hN]at this;exact this
 have CC:Hid (∀W,Calls Tryz.prog 55 #[.string t] W fun e w'=>e = .returned (.int .i64 ((aM 0 t.data.toList:Nat):Int))/\Below W.heap.size W w'):=fun W=>(ye t W (by unfold maxLen;omega)).mono fun e w' ⟨h1,h2⟩=>⟨h1,by rw[h2];exact a0c _ _⟩;have CHow:=af (fun W=>tM t W ht);have HE:=af (GD (eu t) N (aM 0 t.data.toList) (bv t).size t.size n.size);have zz:∀many V,many<=4->((cb (leS many V)).size:Int)<=4:=fun many V hm=>by rw[pB,aT];omega
 have z1:=zz 2 20 (by omega);have z2:=zz 2 0 (by omega);have z3:=zz 2 (eu t) (by omega);have z4:=zz 4 N (by omega);have z5:=zz 4 (aM 0 t.data.toList) (by omega);have z6:=zz 4 (bv t).size (by omega);have z7:=zz 4 t.size (by omega);have z8:=zz 2 n.size (by omega);generalize cb (leS 2 20)=A20 at *
 generalize cb (leS 2 0)=A0 at *
 generalize cb (leS 2 (eu t))=AH at *
 generalize cb (leS 4 N)=AN at *
 generalize cb (leS 4 (aM 0 t.data.toList))=AK at *
 generalize cb (leS 4 (bv t).size)=AB at *
 generalize cb (leS 4 t.size)=AT at *
 generalize cb (leS 2 n.size)=AM at *
 generalize jd (eu t) N (aM 0 t.data.toList) (bv t).size t.size n.size=RES at *
 generalize eu t=hw at *
 generalize bv t=bd at *
 generalize aM 0 t.data.toList=cr at *
 have htI:(t.size:Int)<=1048576:=by omega
 have hnI:(n.size:Int)<65536:=by omega
 have hbI:(bd.size:Int)<=1048576:=by omega
 have T0':Hid (mD w n y mo d h mi s t (w.alloc (.cells #[.string n,.int .i64 y,.int .i64 mo,.int .i64 d,.int .i64 h,.int .i64 mi,.int .i64 s,.string t] 30))):=⟨(a0c _ _).alloc (a0a _) _,by simp,by simp,by simp,by simp,by simp,by simp,by simp,by simp,by simp⟩;have hlt0:w.heap.size<(w.alloc (.cells #[.string n,.int .i64 y,.int .i64 mo,.int .i64 d,.int .i64 h,.int .i64 mi,.int .i64 s,.string t] 30)).heap.size:=(ae T0').2.1;clear k hN hN2 hn ht hcr hfz hbz hwz zz hlt0;go_enter Tryz.func41,Tryz.ntmps41;go_wp2_with fail;obtain⟨W1,hW1⟩:∃x,w.alloc (.cells #[.string n,.int .i64 y,.int .i64 mo,.int .i64 d,.int .i64 h,.int .i64 mi,.int .i64 s,.string t] 30)=x:=⟨_,rfl⟩;rw[hW1]at T0';rw[hW1];have T1:=T0';clear T0' hW1;refine(ae CHow W1).mono ?_;rintro e W2 ⟨rfl,Bd⟩;have T2:=af ((ae T1).later Bd);clear Bd T1 CHow;go_wp2_with fail;refine wp_region_held_drew (S:=fun W=>oH W w.heap.size n y mo d h mi s t) hmix (ae T2).2.2 (fun hS=>?_);refine ah 3 (.int .i64 (hw:Nat)) rfl (by kernel_rfl) (fun _ _ _ h=>h) rfl (fun W hSw=>by obtain⟨s0,s1,s2,s3,s4,s5,s6,s7⟩:=hSw;go_simp) hS ?_;refine ah 6 (.pointer (some ⟨w.heap.size,1,none⟩)) rfl (by kernel_rfl) (fun _ _ _ h=>h) rfl (fun W hSw=>by obtain⟨s0,s1,s2,s3,s4,s5,s6,s7⟩:=hSw;go_simp) hS ?_;refine ah 7 (.agg #[.int .i64 y,.int .i64 mo,.int .i64 d,.int .i64 h,.int .i64 mi,.int .i64 s]) rfl (by kernel_rfl) (fun _ _ _ h=>h) rfl (fun W hSw=>by obtain⟨s0,s1,s2,s3,s4,s5,s6,s7⟩:=hSw;go_simp) hS ?_;have T3:Hid (mD w n y mo d h mi s t W2.drew):=⟨(ae T2).1.drew,(ae T2).2.1,(ae T2).2.2⟩;generalize W2.drew=W3 at *
 refine ai 0 (by kernel_rfl) rfl fun K hK=>?_;go_simp;go_at_call 40;refine(ae C20 W3).mono ?_;rintro e W4 ⟨rfl,Bd⟩;have T4:=af ((ae T3).later Bd);refine Shut.out hK _ _ (ae T4).2.2 (fun hS=>?_);clear hK K Bd;refine ai 1 (by kernel_rfl) rfl fun K hK=>?_;go_simp;go_at_call 40;refine(ae C0 W4).mono ?_;rintro e W5 ⟨rfl,Bd⟩;have T5:=af ((ae T4).later Bd);refine Shut.out hK _ _ (ae T5).2.2 (fun hS=>?_);clear hK K Bd;refine ah 2 (.string (A20++A0)) rfl (by kernel_rfl) (fun _ _ _ h=>h) rfl (fun W hSw=>by obtain⟨s0,s1,s2,s3,s4,s5,s6,s7⟩:=hSw;go_simp<;>omega) hS ?_;refine ai 4 (by kernel_rfl) rfl fun K hK=>?_;go_simp;go_at_call 40;refine(ae CH W5).mono ?_;rintro e W6 ⟨rfl,Bd⟩;have T6:=af ((ae T5).later Bd);refine Shut.out hK _ _ (ae T6).2.2 (fun hS=>?_);clear hK K Bd;refine ah 5 (.string (A20++A0++AH)) rfl (by kernel_rfl) (fun _ _ _ h=>h) rfl (fun W hSw=>by obtain⟨s0,s1,s2,s3,s4,s5,s6,s7⟩:=hSw;go_simp<;>omega) hS ?_;refine ai 8 (by kernel_rfl) rfl fun K hK=>?_;go_simp;go_at_call 74;refine(ae CP W6).mono ?_;rintro e W7 ⟨rfl,Bd⟩;have T7:=af ((ae T6).later Bd);refine Shut.out hK _ _ (ae T7).2.2 (fun hS=>?_);clear hK K Bd;refine ai 9 (by kernel_rfl) rfl fun K hK=>?_;go_simp;go_at_call 40;refine(ae CN W7).mono ?_;rintro e W8 ⟨rfl,Bd⟩;have T8:=af ((ae T7).later Bd);refine Shut.out hK _ _ (ae T8).2.2 (fun hS=>?_);clear hK K Bd;refine ah 10 (.string (A20++A0++AH++AN)) rfl (by kernel_rfl) (fun _ _ _ h=>h) rfl (fun W hSw=>by obtain⟨s0,s1,s2,s3,s4,s5,s6,s7⟩:=hSw;go_simp<;>omega) hS ?_;refine ai 11 (by kernel_rfl) rfl fun K hK=>?_;go_simp;refine Shut.out hK _ _ (ae T8).2.2 (fun hS=>?_);clear hK K;refine wpAnyH_done (by kernel_rfl) ?_ _;clear hS;obtain⟨B1,hB1⟩:∃x,A20++A0++AH++AN=x:=⟨_,rfl⟩;have zB1:(B1.size:Int)<=1000:=by rw[←hB1];simp only[a0U];omega
 rw[hB1];go_wp2_with fail;refine wp_region_held_drew (S:=fun W=>oH W w.heap.size n y mo d h mi s t) hmix (ae T8).2.2 (fun hS=>?_);refine ah 0 (.string B1) rfl (by kernel_rfl) (fun _ _ _ h=>h) rfl (fun W hSw=>by obtain⟨s0,s1,s2,s3,s4,s5,s6,s7⟩:=hSw;go_simp) hS ?_;refine ah 1 (.pointer (some ⟨w.heap.size,7,none⟩)) rfl (by kernel_rfl) (fun _ _ _ h=>h) rfl (fun W hSw=>by obtain⟨s0,s1,s2,s3,s4,s5,s6,s7⟩:=hSw;go_simp) hS ?_;refine ah 2 (.string t) rfl (by kernel_rfl) (fun _ _ _ h=>h) rfl (fun W hSw=>by obtain⟨s0,s1,s2,s3,s4,s5,s6,s7⟩:=hSw;go_simp) hS ?_;refine ah 6 (.string bd) rfl (by kernel_rfl) (fun _ _ _ h=>h) rfl (fun W hSw=>by obtain⟨s0,s1,s2,s3,s4,s5,s6,s7⟩:=hSw;go_simp) hS ?_;refine ah 7 (.int .i64 (bd.size:Nat)) rfl (by kernel_rfl) (fun _ _ _ h=>h) rfl (fun W hSw=>by obtain⟨s0,s1,s2,s3,s4,s5,s6,s7⟩:=hSw;go_simp) hS ?_;refine ah 10 (.pointer (some ⟨w.heap.size,7,none⟩)) rfl (by kernel_rfl) (fun _ _ _ h=>h) rfl (fun W hSw=>by obtain⟨s0,s1,s2,s3,s4,s5,s6,s7⟩:=hSw;go_simp) hS ?_;refine ah 11 (.string t) rfl (by kernel_rfl) (fun _ _ _ h=>h) rfl (fun W hSw=>by obtain⟨s0,s1,s2,s3,s4,s5,s6,s7⟩:=hSw;go_simp) hS ?_;refine ah 12 (.int .i64 (t.size:Nat)) rfl (by kernel_rfl) (fun _ _ _ h=>h) rfl (fun W hSw=>by obtain⟨s0,s1,s2,s3,s4,s5,s6,s7⟩:=hSw;go_simp) hS ?_;have T9:Hid (mD w n y mo d h mi s t W8.drew):=⟨(ae T8).1.drew,(ae T8).2.1,(ae T8).2.2⟩;generalize W8.drew=W9 at *
 refine ai 3 (by kernel_rfl) rfl fun K hK=>?_;go_simp;go_at_call 55;refine(ae CC W9).mono ?_;rintro e W10 ⟨rfl,Bd⟩;have T10:=af ((ae T9).later Bd);refine Shut.out hK _ _ (ae T10).2.2 (fun hS=>?_);clear hK K Bd;refine ai 4 (by kernel_rfl) rfl fun K hK=>?_;go_simp;go_at_call 40;refine(ae CK W10).mono ?_;rintro e W11 ⟨rfl,Bd⟩;have T11:=af ((ae T10).later Bd);refine Shut.out hK _ _ (ae T11).2.2 (fun hS=>?_);clear hK K Bd;refine ah 5 (.string (B1++AK)) rfl (by kernel_rfl) (fun _ _ _ h=>h) rfl (fun W hSw=>by obtain⟨s0,s1,s2,s3,s4,s5,s6,s7⟩:=hSw;go_simp<;>omega) hS ?_;refine ai 8 (by kernel_rfl) rfl fun K hK=>?_;go_simp;go_at_call 40;refine(ae CB W11).mono ?_;rintro e W12 ⟨rfl,Bd⟩;have T12:=af ((ae T11).later Bd);refine Shut.out hK _ _ (ae T12).2.2 (fun hS=>?_);clear hK K Bd;refine ah 9 (.string (B1++AK++AB)) rfl (by kernel_rfl) (fun _ _ _ h=>h) rfl (fun W hSw=>by obtain⟨s0,s1,s2,s3,s4,s5,s6,s7⟩:=hSw;go_simp<;>omega) hS ?_;refine ai 13 (by kernel_rfl) rfl fun K hK=>?_;go_simp;go_at_call 40;refine(ae CT W12).mono ?_;rintro e W13 ⟨rfl,Bd⟩;have T13:=af ((ae T12).later Bd);refine Shut.out hK _ _ (ae T13).2.2 (fun hS=>?_);clear hK K Bd;refine ah 14 (.string (B1++AK++AB++AT)) rfl (by kernel_rfl) (fun _ _ _ h=>h) rfl (fun W hSw=>by obtain⟨s0,s1,s2,s3,s4,s5,s6,s7⟩:=hSw;go_simp<;>omega) hS ?_;refine ai 15 (by kernel_rfl) rfl fun K hK=>?_;go_simp;refine Shut.out hK _ _ (ae T13).2.2 (fun hS=>?_);clear hK K;refine wpAnyH_done (by kernel_rfl) ?_ _;clear hS;obtain⟨B2,hB2⟩:∃x,B1++AK++AB++AT=x:=⟨_,rfl⟩;have zB2:(B2.size:Int)<=2000:=by rw[←hB2];simp only[a0U];omega
 rw[hB2];obtain⟨c0,c1,c2,c3,c4,c5,c6,c7⟩:=(ae T13).2.2;have hlt:=(ae T13).2.1;go_wp2_with fail;refine(ae CM W13).mono ?_;rintro e X1 ⟨rfl,Bd⟩;have TX:=af ((ae T13).later Bd);clear Bd;go_wp2_with fail;refine(ae C0 X1).mono ?_;rintro e X2 ⟨rfl,Bd⟩;have TY:=af ((ae TX).later Bd);clear Bd;go_wp2;go_ret;exact⟨by rw[ae HE,←hB2,←hB1];rfl,(ae TY).1⟩
def bB(n t:ByteArray)(N:Nat):ByteArray:=cM (eu t) N (aM 0 t.data.toList) (bv t).size t.size n++bv t
theorem Iv:cb (leS 4 67324752)=(⟨#[80,75,3,4]⟩:ByteArray):=by decide +kernel
theorem wZ(n t:ByteArray)(y mo d h mi s:Int)(N:Nat)(w:World)(k:(0<=y/\y<=100000)/\(0<=mo/\mo<=100)/\(0<=d/\d<=100)/\(0<=h/\h<=100)/\(0<=mi/\mi<=100) /\ -100<=s/\s<=100)
  (hN:(((((y-1980)*16+mo)*32+d)*32+h)*64+mi)*32+Int.tdiv s 2=(N:Int)) (hN2:N<4294967296) (hn:n.size<65536) (ht:t.size<=1048576) :
  Calls Tryz.prog 22 #[.agg #[.string n,.int .i64 y,.int .i64 mo,.int .i64 d,.int .i64 h,.int .i64 mi,.int .i64 s,.string t]] w fun e w'=>e = .returned (.string (bB n t N))/\Below w.heap.size w w':=by
 have hmix:Tryz.prog.follows .mixedOrders=true:=by kernel_rfl
 have CF:=af (fun W=>vf n t y mo d h mi s N W k hN hN2 hn ht);have CHow:=af (fun W=>tM t W ht);have CM:Hid (∀W,Calls Tryz.prog 40 #[.int .i64 67324752,.int .i64 4] W fun e w'=>e = .returned (.string (cb (leS 4 67324752)))/\Below W.heap.size W w'):=fun W=>dB 67324752 4 W (by omega) (by omega);have hfz:=iy t;have hbz:(bv t).size<=1048576:=by unfold bv;split<;>omega
 have hbI:((bv t).size:Int)<=1048576:=by omega
 have hnI:(n.size:Int)<65536:=by omega
 have HE:Hid (cb (leS 4 67324752)++jd (eu t) N (aM 0 t.data.toList) (bv t).size t.size n.size++n++bv t=bB n t N):=by unfold bB cM;rw[Iv];exact rfl
 have z1:((cb (leS 4 67324752)).size:Int)<=4:=by rw[pB,aT];omega
 have z2:((jd (eu t) N (aM 0 t.data.toList) (bv t).size t.size n.size).size:Int)<=26:=by rw[iQ];omega
 generalize cb (leS 4 67324752)=A4 at *
 generalize jd (eu t) N (aM 0 t.data.toList) (bv t).size t.size n.size=FL at *
 generalize bB n t N=RES at *
 generalize eu t=hw at *
 generalize bv t=bd at *
 have T0':Hid (mD w n y mo d h mi s t (w.alloc (.cells #[.string n,.int .i64 y,.int .i64 mo,.int .i64 d,.int .i64 h,.int .i64 mi,.int .i64 s,.string t] 30))):=⟨(a0c _ _).alloc (a0a _) _,by simp,by simp,by simp,by simp,by simp,by simp,by simp,by simp,by simp⟩;clear k hN hN2 hn ht hfz hbz;go_enter Tryz.func22,Tryz.ntmps22;go_wp2_with fail;obtain⟨W1,hW1⟩:∃x,w.alloc (.cells #[.string n,.int .i64 y,.int .i64 mo,.int .i64 d,.int .i64 h,.int .i64 mi,.int .i64 s,.string t] 30)=x:=⟨_,rfl⟩;rw[hW1]at T0';rw[hW1];have T1:=T0';clear T0' hW1;refine(ae CHow W1).mono ?_;rintro e W2 ⟨rfl,Bd⟩;have T2:=af ((ae T1).later Bd);clear Bd T1 CHow;go_wp2_with fail;refine wp_region_held_drew (S:=fun W=>oH W w.heap.size n y mo d h mi s t) hmix (ae T2).2.2 (fun hS=>?_);refine ah 1 (.agg #[.string n,.int .i64 y,.int .i64 mo,.int .i64 d,.int .i64 h,.int .i64 mi,.int .i64 s,.string t]) rfl (by kernel_rfl) (fun _ _ _ h=>h) rfl (fun W hSw=>by obtain⟨s0,s1,s2,s3,s4,s5,s6,s7⟩:=hSw;go_simp) hS ?_;refine ah 4 (.pointer (some ⟨w.heap.size,0,none⟩)) rfl (by kernel_rfl) (fun _ _ _ h=>h) rfl (fun W hSw=>by obtain⟨s0,s1,s2,s3,s4,s5,s6,s7⟩:=hSw;go_simp) hS ?_;refine ah 5 (.string n) rfl (by kernel_rfl) (fun _ _ _ h=>h) rfl (fun W hSw=>by obtain⟨s0,s1,s2,s3,s4,s5,s6,s7⟩:=hSw;go_simp) hS ?_;refine ah 7 (.string bd) rfl (by kernel_rfl) (fun _ _ _ h=>h) rfl (fun W hSw=>by obtain⟨s0,s1,s2,s3,s4,s5,s6,s7⟩:=hSw;go_simp) hS ?_;have T3:Hid (mD w n y mo d h mi s t W2.drew):=⟨(ae T2).1.drew,(ae T2).2.1,(ae T2).2.2⟩;generalize W2.drew=W3 at *
 refine ai 0 (by kernel_rfl) rfl fun K hK=>?_;go_simp;go_at_call 40;refine(ae CM W3).mono ?_;rintro e W4 ⟨rfl,Bd⟩;have T4:=af ((ae T3).later Bd);refine Shut.out hK _ _ (ae T4).2.2 (fun hS=>?_);clear hK K Bd;refine ai 2 (by kernel_rfl) rfl fun K hK=>?_;go_simp;go_at_call 41;refine(ae CF W4).mono ?_;rintro e W5 ⟨rfl,Bd⟩;have T5:=af ((ae T4).later Bd);refine Shut.out hK _ _ (ae T5).2.2 (fun hS=>?_);clear hK K Bd;refine ah 3 (.string (A4++FL)) rfl (by kernel_rfl) (fun _ _ _ h=>h) rfl (fun W hSw=>by obtain⟨s0,s1,s2,s3,s4,s5,s6,s7⟩:=hSw;go_simp<;>omega) hS ?_;refine ah 6 (.string (A4++FL++n)) rfl (by kernel_rfl) (fun _ _ _ h=>h) rfl (fun W hSw=>by obtain⟨s0,s1,s2,s3,s4,s5,s6,s7⟩:=hSw;go_simp<;>omega) hS ?_;refine ah 8 (.string (A4++FL++n++bd)) rfl (by kernel_rfl) (fun _ _ _ h=>h) rfl (fun W hSw=>by obtain⟨s0,s1,s2,s3,s4,s5,s6,s7⟩:=hSw;go_simp<;>omega) hS ?_;refine ai 9 (by kernel_rfl) rfl fun K hK=>?_;go_simp;refine Shut.out hK _ _ (ae T5).2.2 (fun hS=>?_);clear hK K;refine wpAnyH_done (by kernel_rfl) ?_ _;clear hS;generalize hAA:A4++FL++n++bd=AA;go_wp2;go_ret;exact⟨by rw[←ae HE,←hAA];rfl,(ae T5).1⟩
def sJ(a b c:ByteArray):Nat->ByteArray
 | 0=>a | 1=>b|_=>c
theorem vD(w:World)(a b c:ByteArray)(t:TypeId):∀i,i<3->(w.alloc (.cells #[.string a,.string b,.string c] t)).cell? ⟨w.heap.size,0+i,none⟩=some (.string (sJ a b c i)):=by
 intro i hi
 match i,hi with
 | 0,_=>simp[sJ]
 | 1,_=>simp[sJ]
 | 2,_=>simp[sJ]
theorem yx{a b c:ByteArray}{n:Nat}(ha:a.size<=n)(hb:b.size<=n)(hc:c.size<=n)(i:Nat):(sJ a b c i).size<=n:=by
 match i with
 | 0=>exact ha
 | 1=>exact hb
 | _+2=>exact hc
theorem wR(B b m:Nat)(s:ByteArray)(w:World)(h:Rd w B b m)(hm:m<=80000)(hs:s.size<=9000) :
  Calls Tryz.prog 37 #[.pointer (some ⟨b,0,none⟩),.string s] w fun e w'=>(∃t:ByteArray,e = .returned (.string t)/\t.size<=9100)/\Rd w' B b (m+10)/\Below b w w':=by
 have hmix:Tryz.prog.follows .mixedOrders=true:=by kernel_rfl
 have hsI:(s.size:Int)<=9000:=by omega
 go_enter Tryz.func37,Tryz.ntmps37;by_cases hE:s.toList.isEmpty=true
 · go_wp2;go_ret;exact⟨⟨_,rfl,by omega⟩,h.mono (by omega),a0c _ _⟩
 ·
  have hE':s.toList.isEmpty=false:=by simpa using hE
  have hpos:0<s.size:=by
   rcases a2Y s.size with h0|h0
   · have e:s=ByteArray.empty:=ByteArray.size_eq_zero_iff.1 h0;subst e;exact absurd (by unfold ByteArray.toList ByteArray.toList.loop;rfl) hE
   · exact h0
  have hp':(0:Int)<(s.size:Int):=by omega
  clear hE;go_wp2_with fail;refine(bU B b m _ _ h (by omega) (by omega) (by omega)).mono ?_;rintro e w1 ⟨k',rfl,k0',k1',hrd1,hon1⟩;obtain⟨k,rfl⟩:=a0r k0';have hkl:k<s.size:=by omega
  go_wp2_with fail;refine(bU B b (m+1) _ _ hrd1 (by omega) (by omega) (by omega)).mono ?_;rintro e w2 ⟨r,rfl,r0,r1,hrd2,hon2⟩;have HX:Hid (Rd w2 B b (m+2)/\Below b w w2):=⟨hrd2,hon1.1.trans hon2.1⟩;have hlt2:=hrd2.lt;clear hrd1 hon1 hrd2 hon2 h;have hc:r=0∨r=1∨r=2∨r=3∨r=4:=by omega
  have k0:(0:Int)<=(k:Int):=by omega
  have k1:(k:Int)<(s.size:Int):=by omega
  have k2:(k:Int)<=(s.size:Int):=by omega
  have k3:(k:Int)+1<=(s.size:Int):=by omega
  have k5:(0:Int)<=(k:Int)+1:=by omega
  rcases hc with rfl|rfl|rfl|rfl|rfl
  ·
   go_wp2_with fail;refine wp_region_held_drew (S:=fun _=>True) hmix trivial (fun hS=>?_);refine ah 0 (.string s) rfl (by kernel_rfl) (fun _ _ _ h=>h) rfl (fun W hSw=>by go_simp) hS ?_;refine ah 1 (.int .i64 (k:Nat)) rfl (by kernel_rfl) (fun _ _ _ h=>h) rfl (fun W hSw=>by go_simp) hS ?_;refine ah 2 (.string (s.extract 0 k)) rfl (by kernel_rfl) (fun _ _ _ h=>h) rfl (fun W hSw=>by go_simp) hS ?_;refine ah 3 (.pointer (some ⟨b,0,none⟩)) rfl (by kernel_rfl) (fun _ _ _ h=>h) rfl (fun W hSw=>by go_simp) hS ?_;refine ah 9 (.string s) rfl (by kernel_rfl) (fun _ _ _ h=>h) rfl (fun W hSw=>by go_simp) hS ?_;refine ah 10 (.int .i64 (k:Nat)) rfl (by kernel_rfl) (fun _ _ _ h=>h) rfl (fun W hSw=>by go_simp) hS ?_;refine ah 11 (.int .i64 ((k:Int)+1)) rfl (by kernel_rfl) (fun _ _ _ h=>h) rfl (fun W hSw=>by go_simp;exact cY _ (by omega) (by omega)) hS ?_;refine ah 12 (.string (s.extract (k+1) s.size)) rfl (by kernel_rfl) (fun _ _ _ h=>h) rfl (fun W hSw=>by go_simp) hS ?_;refine ai 4 (by kernel_rfl) rfl fun K hK=>?_;go_simp;go_at_call 45;refine(bU B b (m+2) _ _ (show Rd w2.drew B b (m+2)from(ae HX).1) (by omega) (by omega) (by omega)).mono ?_;rintro e w3 ⟨q,rfl,q0,q1,hrd3,hon3⟩;refine Shut.out hK _ _ trivial (fun hS=>?_);clear hK K;obtain⟨y,rfl⟩:=a0r q0;have hy:y<256:=by omega
   have hu:IntKind.u8.wrap (y:Int)=(y:Int):=BG (by omega) (by omega);have HX3:Hid (Rd w3 B b (m+3)/\Below b w w3):=⟨hrd3,(ae HX).2.drew.trans hon3.1⟩;have hlt3:=hrd3.lt;clear hrd3 hon3;refine ah 5 (.int .u8 (y:Int)) rfl (by kernel_rfl) (fun _ _ _ h=>h) rfl (fun W hSw=>by go_simp) hS ?_;refine ai 6 (by kernel_rfl) rfl fun K hK=>?_;go_simp;refine Shut.out hK _ _ trivial (fun _=>?_);clear hK K hS;have hqb:=yX w3 y hy;have HE:Hid (Rd (w3.alloc (.cells #[.int .u8 (y:Int)] 5)) B b (m+10)/\Below b w (w3.alloc (.cells #[.int .u8 (y:Int)] 5))):=⟨((ae HX3).1.alloc _).mono (by omega),(ae HX3).2.alloc (a0x hlt3) _⟩;obtain⟨w4,hw4⟩:∃x,w3.alloc (.cells #[.int .u8 (y:Int)] 5)=x:=⟨_,rfl⟩;rw[hw4]at HE hqb;refine mO (S':=fun W=>W=w4) (fun _ _=>trivial) _ _ _ _ ?_;have hS:w3.alloc (.cells #[.int .u8 (y:Int)] 5)=w4:=hw4;generalize UInt8.ofNat y=yy at *
   refine ah 7 (.string ⟨[yy].toArray⟩) rfl (by kernel_rfl) (fun _ _ _ h=>h) rfl (fun W hSw=>by subst hSw;go_simp) hS ?_;refine ah 8 (.string (s.extract 0 k++(⟨[yy].toArray⟩:ByteArray))) rfl (by kernel_rfl) (fun _ _ _ h=>h) rfl (fun W hSw=>by subst hSw;go_simp<;>omega) hS ?_;refine ah 13 (.string (s.extract 0 k++(⟨[yy].toArray⟩:ByteArray)++s.extract (k+1) s.size)) rfl (by kernel_rfl) (fun _ _ _ h=>h) rfl (fun W hSw=>by subst hSw;go_simp<;>omega) hS ?_;refine ai 14 (by kernel_rfl) rfl fun K hK=>?_;go_simp;refine Shut.out hK _ _ rfl (fun _=>?_);clear hK K;refine wpAnyH_done (by kernel_rfl) ?_ _;clear hqb hS hw4;have hZ:(s.extract 0 k++(⟨[yy].toArray⟩:ByteArray)++s.extract (k+1) s.size).size<=9100:=by
    have e1:(⟨[yy].toArray⟩:ByteArray).size=1:=rfl;rw[qQ,qQ,a18,a18,e1];omega
   generalize s.extract 0 k++(⟨[yy].toArray⟩:ByteArray)++s.extract (k+1) s.size=Zz at *
   go_wp2;go_ret;exact⟨⟨_,rfl,hZ⟩,(ae HE).1,(ae HE).2⟩
  ·
   have hZ:(s.extract 0 k).size<=9100:=by rw[a18];omega
   go_wp2;go_ret;exact⟨⟨_,rfl,hZ⟩,(ae HX).1.mono (by omega),(ae HX).2⟩
  ·
   go_wp2_with fail;refine(of_le B b (m+2) w2.heap.size 0 3 3 100 _ _ ((ae HX).1.alloc _) (by omega) (by omega) (by omega) (a0M hlt2) (vD w2 _ _ _ _) (yx (by decide) (by decide) (by decide))).mono ?_;rintro e w3 ⟨t0,hsz,rfl,hrd3,hon3⟩;have HE:Hid (Rd w3 B b (m+10)/\Below b w w3):=⟨hrd3.mono (by omega),((ae HX).2.alloc (a0x hlt2) _).trans hon3.1⟩;have hZ:(s++t0).size<=9100:=by rw[qQ];omega
   have htI:(t0.size:Int)<=100:=by omega
   clear hrd3 hon3;go_wp2;go_ret;exact⟨⟨_,rfl,hZ⟩,(ae HE).1,(ae HE).2⟩
  · go_wp2;go_ret;exact⟨⟨_,rfl,by omega⟩,(ae HX).1.mono (by omega),(ae HX).2⟩
  · go_wp2;go_ret;exact⟨⟨_,rfl,by omega⟩,(ae HX).1.mono (by omega),(ae HX).2⟩
end Go.Proofs.YtbacpebljannfaaGreatDoor
