/- Of what the proof is made: 5 texts, one behind the other. -/
import Derived.Test.YtfhdadkcophoaaaGreatDoorM16
import Derived.Test.YtfhdadkcophoaaaGreatDoorM20
import Derived.Test.YtfhdadkcophoaaaGreatDoorM12
import Derived.Test.YtfhdadkcophoaaaGreatDoorM34
import Derived.Test.YtfhdadkcophoaaaGreatDoorM22
import Derived.Test.YtfhdadkcophoaaaGreatDoorM5
import Derived.Test.YtfhdadkcophoaaaGreatDoorM3
import Derived.Test.YtfhdadkcophoaaaGreatDoorM6
set_option linter.unusedSimpArgs false
set_option linter.unusedVariables false
set_option maxHeartbeats 6400000
namespace Go.Proofs.YtfhdadkcophoaaaGreatDoor
open Go.RowKit Corb
def Std(V:Nat):Nat->List (Int×Int)->Prop
 | _,[]=>True
 | p,x :: l=>V/2 ^ p%2 ^ x.2.toNat=x.1.toNat/\Std V (p+x.2.toNat) l
def bN(l:List (Int×Int)):Nat:=d9 (bitsOf l)
theorem iI:bN []=0:=rfl
theorem dL(x:Int×Int)(l:List (Int×Int)):bN (x :: l)=x.2.toNat+bN l:=by unfold bN bitsOf;rw[a0p,jh]
theorem cM(a b:List (Int×Int)):bN (a++b)=bN a+bN b:=by unfold bN bitsOf;rw[a0K,pa]
theorem mu{V:Nat}{a b:List (Int×Int)} : ∀{p:Nat},Std V p (a++b)<->Std V p a/\Std V (p+bN a) b:=by
 induction a with
 | nil=>intro p;simp[Std,iI]
 | cons x a ih=>
  intro p;rw[a08];simp only[Std];rw[ih,dL,and_assoc,a1I]
theorem Ix{V:Nat} : ∀(l:List (Int×Int)) (p:Nat),df V p (bitsOf l)=numsOf l->Std V p l:=by
 intro l;induction l with
 | nil=>intro p _;trivial
 | cons x l ih=>
  intro p h;unfold bitsOf numsOf at h;rw[a0p,a0p]at h;simp only[df,List.cons.injEq]at h;refine⟨?_,ih _ h.2⟩;rw[←h.1,a0q]
theorem KM{l:List (Int×Int)}(W:Nat)(h:aN l=true):Std ((aT l).1+W*2 ^ (aT l).2) 0 l:=Ix l 0 (D5 l W h)
theorem oz{V sz p:Nat}{x:Int×Int}{l:List (Int×Int)}(h:Std V p (x :: l))(hs:p+x.2.toNat<=sz):rdN V sz p x.2.toNat=some (x.1.toNat,p+x.2.toNat):=by
 rw[lz hs,h.1]
theorem mM{B:List Int}(hok:am B=true){V sz p k:Nat}{l:List (Int×Int)}(h0:0<B.getD k 0)(h:Std V p (pcM B k :: l))(hs:p+(B.getD k 0).toNat<=sz):dec B V sz p=some ((k:Int),p+(B.getD k 0).toNat):=by
 have hk:k<B.length:=by
  rcases a1e k B.length with h'|h'
  · exact h'
  · simp[List.getD,h']at h0
 have hb:=kp (eD hok) hk;obtain⟨n,hn⟩:∃n:Nat,B.getD k 0=(n:Int)+1:=⟨(B.getD k 0).toNat-1,by omega⟩;have h1:=h.1;unfold pcM at h1;simp only at h1;rw[xB B 15 k hk,a0d (by omega),a0q,a0q,hn,show((n:Int)+1).toNat=n+1 by omega]at h1;rw[hn,show((n:Int)+1).toNat=n+1 by omega]at hs ⊢;have:=Fv hok hk hn h1 (by omega);rw[this]
 congr 1
theorem Kc:(List.range 61).all (fun y=>decide (y<3) || (decide (fnd 3 4 y 27<28)&&decide ((stF 3 4 (fnd 3 4 y 27)).1<=y)))=true:=by decide +kernel
theorem Jl:(List.range 251).all (fun y=>decide (y<1) || (decide (fnd 1 2 y 29<30)&&decide ((stF 1 2 (fnd 1 2 y 29)).1<=y)))=true:=by decide +kernel
theorem Gy{y:Nat}(h0:3<=y)(h1:y<=60):fnd 3 4 y 27<28/\(stF 3 4 (fnd 3 4 y 27)).1<=y:=by
 have:=a0Y.1 Kc y (List.mem_range.2 (by omega));simp only[a1c,a0j,a0o]at this;omega
theorem E9{y:Nat}(h0:1<=y)(h1:y<=250):fnd 1 2 y 29<30/\(stF 1 2 (fnd 1 2 y 29)).1<=y:=by
 have:=a0Y.1 Jl y (List.mem_range.2 (by omega));simp only[a1c,a0j,a0o]at this;omega
theorem Ij{V sz p least group many k y:Nat}{l:List (Int×Int)}(hk:k<many)(hy:(stF least group k).1<=y)(h:Std V p (((y:Int)-((stF least group k).1:Int),((stF least group k).2:Nat)) :: l))(hs:p+(stF least group k).2<=sz):scG V sz least group many k p=some (y,p+(stF least group k).2):=by
 unfold scG;rw[a0d hk];have h1:=oz (sz:=sz) h (by simpa using hs);simp only[a0q]at h1;rw[h1];simp only[a0f]
 congr 2
 omega
def zo(L D:List Int)(t:Tk):Prop:=if isB t then 0<L.getD t.1.toNat 0 else 0<L.getD (257+fnd 3 4 t.2.1.toNat 27) 0/\0<D.getD (fnd 1 2 t.2.2.toNat 29) 0
theorem jW(B:List Int)(k:Nat):(pcM B k).2.toNat=(B.getD k 0).toNat:=rfl
theorem Km{L D:List Int}(okL:am L=true)(okD:am D=true){V sz p:Nat}{t:Tk}{l:List (Int×Int)}(ht:okT t=true)(hh:zo L D t)(h:Std V p (gh L D t++l))(hs:p+bN (gh L D t)<=sz) :
  ∃i q,dec L V sz p=some (i,q)/\i≠256/\oneG V sz D i q=some (t,p+bN (gh L D t)):=by
 obtain⟨y,lo,ba⟩:=t;unfold zo at hh;unfold gh at h hs ⊢;by_cases hB:isB (y,lo,ba)=true
 ·
  rw[a0d hB]at h hs hh ⊢;have hb:0<=y/\y<=255/\lo=0/\ba=0:=by unfold isB inB at hB;simp only[a0j,a0o]at hB;omega
  rw[dL,iI,a0X,jW]at hs ⊢;refine⟨_,_,mM okL hh h hs,?_,?_⟩
  · simp only;omega
  · unfold oneG;rw[a0d (by simp only;omega)];simp only[a0k,a0P,a0M];omega
 ·
  rw[a0e hB]at h hs hh ⊢;have hK:isK (y,lo,ba)=true:=by unfold okT at ht;simpa[hB]using ht
  have hb:y=0/\3<=lo/\lo<=60/\1<=ba/\ba<=250:=by unfold isK inB at hK;simp only[a0j,a0o]at hK;omega
  obtain⟨rfl,b1,b2,b3,b4⟩:=hb;obtain⟨x,rfl⟩:=a0s (show 0<=lo by omega);obtain⟨z,rfl⟩:=a0s (show 0<=ba by omega);simp only[a0q]at h hs hh ⊢;obtain⟨f1,f2⟩:=Gy (y:=x) (by omega) (by omega);obtain⟨g1,g2⟩:=E9 (y:=z) (by omega) (by omega);generalize fnd 3 4 x 27=k at *
  generalize fnd 1 2 z 29=j at *
  simp only[dL,iI,a0X,jW,a0q]at hs ⊢;have s1:=h;have s2:=h.2;have s3:=s2.2;have s4:=s3.2;simp only[jW,a0q]at s2 s3 s4;refine⟨_,_,mM okL hh.1 s1 (by omega),by omega,?_⟩;unfold oneG;rw[a0e (by omega),show((257+k:Nat):Int).toNat-257=k by omega];unfold jX;rw[Ij f1 f2 s2 (by omega)];simp only[a0f];rw[mM okD hh.2 s3 (by omega)];simp only[a0f,a0q];rw[Ij g1 g2 s4 (by omega)];simp only[a0f,a0k,a0P,a1D];omega
def mS(R:List UInt8):List Tk->Option (List UInt8)
 | []=>some R
 | t :: T=>(dA R t).bind fun x=>mS x T
theorem BJ{L D:List Int}(okL:am L=true)(okD:am D=true){V sz:Nat}(hE:0<L.getD 256 0){l:List (Int×Int)} : ∀(T:List Tk) (p:Nat) (R R':List UInt8),(∀t∈T,okT t=true/\zo L D t)->Std V p (T.flatMap (gh L D)++(pcM L 256 :: l))->p+bN (T.flatMap (gh L D))+(L.getD 256 0).toNat<=sz->mS R T=some R'->jE V sz L D p R=some (R',p+bN (T.flatMap (gh L D))+(L.getD 256 0).toNat):=by
 intro T;induction T with
 | nil=>
  intro p R R' _ h hs hf;simp only[mS,a0k]at hf;subst hf;simp only[a2B,a0R,iI,a0X]at h hs ⊢;exact ye (mM okL hE h hs)
 | cons t T ih=>
  intro p R R' hT h hs hf;simp only[a0V,a0O,cM]at h hs ⊢;obtain⟨h1,h2⟩:=hT t (by simp);obtain⟨i,q,d1,d2,d3⟩:=Km (sz:=sz) okL okD h1 h2 h (by omega);rw[tK d1 d2,d3];simp only[a0f];simp only[mS]at hf;rcases ha:dA R t with _|x
  · rw[ha]at hf;cases hf
  · rw[ha]at hf;simp only[a0f]at hf ⊢;rw[ih (p+bN (gh L D t)) x R' (fun t' ht'=>hT t' (by simp[ht'])) (mu.1 h).2 (by omega) hf,a1I p]
theorem Ep{L:List UInt8}(hl:L.length<=300):∀(n p:Nat),L.length-p<=n->p<=L.length->mS (L.take p) (bi L p)=some L:=by
 intro n;induction n with
 | zero=>
  intro p h1 h2;have e:p=L.length:=by omega
  subst e;rw[dP (a2A _)];simp only[mS,a2b]
 | succ n ih=>
  intro p h1 h2;by_cases hp:p<L.length
  · rw[ik hp];simp only[mS];rw[BP hp hl];have h3:=fq L p;have h4:=pL hp;exact ih _ (by omega) h4
  ·
   have e:p=L.length:=by omega
   subst e;rw[dP (a2A _)];simp only[mS,a2b]
theorem rO{L:List UInt8}(hl:L.length<=300):mS [] (bi L 0)=some L:=Ep hl L.length 0 (by omega) (a0h _)
def ic(a b:ByteArray):ByteArray:=if b.size<a.size then b else a
theorem fJ{a b:ByteArray}(h:b.size<a.size):ic a b=b:=a0d h
theorem gQ{a b:ByteArray}(h:¬ b.size<a.size):ic a b=a:=a0e h
def byO(s:ByteArray):ByteArray:=⟨(kF s).toArray⟩
def bZ(s:ByteArray):ByteArray:=ic (ic (byS s) (byF s)) (byO s)
def oD(s:ByteArray):Nat->ByteArray
 | 1=>byS s
 | 2=>ic (byS s) (byF s)
 | _=>bZ s
theorem Fo(s:ByteArray)(h:¬ s.size<=300):byO s=⟨#[]⟩:=by unfold byO kF;rw[a0e h]
theorem tI(l:List (Int×Int)):(bV l).length=((aT l).2+7)/8:=by unfold bV;exact aC _ _
theorem rG{l:List UInt8}(h:l.length<=100000):((⟨l.toArray⟩:ByteArray).size:Int)<=100000:=by
 have:(⟨l.toArray⟩:ByteArray).size=l.length:=by simp[ByteArray.size]
 omega
theorem Av{l:List (Int×Int)}(h:lOk l=true):(aT l).2<=64000:=by
 unfold lOk at h;simp only[a0j,a0o]at h;have h1:=DL (0,0) l (fun x hx=>by
  have h2:=h.1;unfold aN at h2;exact(aV.1 (a0Y.1 h2 x hx)).1.2)
 have h3:LS (0,0) l=aT l:=rfl;rw[h3]at h1;omega
theorem jm{B:Nat}{a w:World}(h:Below B a w){r:Nat}(hB:B<=w.heap.size)(hr:B<=r)(o:Obj):Below B a (w.putObj r o):=h.grown (grownBy_putObj' w r o) hB (fun j hj=>by cases hj;exact hr)
theorem vD(s:ByteArray):((byS s).size:Int)<=100000/\((byF s).size:Int)<=100000/\((byO s).size:Int)<=100000:=by
 by_cases hs:s.size<=300
 ·
  have hT:=kQ s hs;have hk:=fW s;refine⟨rG ?_,rG ?_,rG ?_⟩
  ·
   unfold er
   split
   · rw[a0i,aC,lC];omega
   · simp
  · unfold kh;rw[a0d hs];show(bV (gX s)).length<=_;rw[tI];have h1:=Av (mR s hs);omega
  · unfold kF;rw[a0d hs];show(bV (jR _)).length<=_;rw[tI];have h1:=Av (pI _ hT hk);omega
 · rw[Fp s hs,Fl s hs,Fo s hs];exact⟨by decide,by decide,by decide⟩
set_option maxRecDepth 100000 in
theorem od(s:ByteArray)(w:World)(hs:s.size<=1048576)(hO:bY w) :
  Calls Tryz.prog 53 #[.string s] w fun e w'=>e = .returned (.string (bZ s))/\Below w.heap.size w w':=by
 have hmm:=@run_makeMap Tryz.prog;have hu:=Tryz.underlying111;have hk:=a1P;obtain⟨b,hb⟩:∃b,w.heap.size=b:=⟨_,rfl⟩;have m0:=Bo w;obtain⟨w1,r1,m1,e1⟩:=lu hu hk _ _ _ 0 (.func (.func 85) #[] #[]) m0 (by simp);obtain⟨w2,r2,m2,e2⟩:=lu hu hk _ _ _ 1 (.func (.func 86) #[] #[]) m1 (by simp);obtain⟨w3,r3,m3,e3⟩:=lu hu hk _ _ _ 2 (.func (.func 87) #[] #[]) m2 (by simp);have z1:w1.heap.size=w.heap.size+1:=by rw[e1];simp[World.putObj]
 have z2:w2.heap.size=w.heap.size+1:=by rw[e2];simpa[World.putObj]using z1
 have hB1:Below w.heap.size w w1:=by rw[e1];exact jm ((a0b _ w).alloc (a0a _) _) (by simp) (a0a _) _
 have hB2:Below w.heap.size w w2:=by rw[e2];exact jm hB1 (by omega) (a0a _) _
 have hB3:Below w.heap.size w w3:=by rw[e3];exact jm hB2 (by omega) (a0a _) _
 simp only[a0R,a08]at m3;have HG:=af (fun W k v (h:iH W w.heap.size [(0,.func (.func 85) #[] #[]),(1,.func (.func 86) #[] #[]),(2,.func (.func 87) #[] #[])]) hm=>Bl hu hk W w.heap.size _ k v false h hm (by decide));have g0:=ae HG w3 0 (.func (.func 85) #[] #[]) m3 (by simp);have HM:=af m3;have HB3:=af hB3;have HO:=af hO;have HS:=af hs;have HSm:=af (vD s);clear e1 e2 e3 z1 z2 hB1 hB2 hB3 m0 m1 m2 m3 hu hk hs hO hb b;go_enter Tryz.func53,Tryz.ntmps53;go_wp2_with fail;refine(oh s w3 (ae HS)).mono ?_;rintro e x1 ⟨rfl,b1⟩;have hM1:=(ae HM).later b1;have hB1:=ag (ae HB3) b1;have eS:(⟨(er s.data.toList).toArray⟩:ByteArray)=oD s 1:=rfl;rw[eS];clear b1 HM HB3 r1 r2 r3 g0 hmm eS;go_wp2_with fail
 go_loopw [4,5,6] (fun v i _ wr=>∃k:Nat,1<=k/\k<=3/\i = .int .i64 k/\v = .string (oD s k)/\iH wr w.heap.size [(0,.func (.func 85) #[] #[]),(1,.func (.func 86) #[] #[]),(2,.func (.func 87) #[] #[])]/\Below w.heap.size w wr) (fun _ i _ _=>3-(intOf i).toNat)
 case atStart=>exact⟨1,by omega,by omega,rfl,rfl,hM1,hB1⟩
 case round=>
  obtain⟨k,hk1,hk3,rfl,rfl,hM,hbel⟩:=hrel;clear hM1 hB1;rcases (show k=1∨k=2∨k=3 by omega)with hk|hk|hk
  ·
   have hkI:(k:Int)=1:=by omega
   have hle:(k:Int)<=2:=by omega
   have g1:(Instr.lookup 111 (.map (some w.heap.size)) (.int .i64 (k:Int)) false).run Tryz.prog wr = .ok (.func (.func 86) #[] #[]) wr:=by rw[hkI];exact ae HG wr 1 (.func (.func 86) #[] #[]) hM (by simp)
   have HC:=af (oa s wr (ae HS));have eF:(⟨(kh s).toArray⟩:ByteArray)=byF s:=rfl;rw[eF]at HC;have hb1:oD s k=byS s:=by rw[hk];rfl
   have hb2:Hid (oD s (k+1)=ic (byS s) (byF s)):=by show _=_;rw[hk];rfl
   obtain⟨q1,q2,q3⟩:=ae HSm;rw[hb1];have Hk:=af hk;have HMB:=af (a0c hM hbel);clear hM hbel hk hk1 hk3 hb1 eF hkI;generalize byF s=F at *
   generalize byS s=A at *
   go_wp2_with fail;refine(ae HC).mono ?_;rintro e x2 ⟨rfl,b2⟩;have HY:=af (a0c ((ae HMB).1.later b2) (ag (ae HMB).2 b2));clear b2 HMB HC;by_cases hlt:F.size<A.size
   ·
    have hltI:(F.size:Int)<(A.size:Int):=by omega
    have HE:=af (fJ hlt);go_wp2;go_roundw
    case rel=>exact⟨k+1,by omega,by have:=ae Hk;omega,by go_num,by rw[ae hb2,ae HE],(ae HY).1,(ae HY).2⟩
    case measure=>have:=ae Hk;simp[intOf];omega
   ·
    have HE:=af (gQ hlt);go_wp2;go_roundw
    case rel=>exact⟨k+1,by omega,by have:=ae Hk;omega,by go_num,by rw[ae hb2,ae HE],(ae HY).1,(ae HY).2⟩
    case measure=>have:=ae Hk;simp[intOf];omega
  ·
   have hkI:(k:Int)=2:=by omega
   have hle:(k:Int)<=2:=by omega
   have g1:(Instr.lookup 111 (.map (some w.heap.size)) (.int .i64 (k:Int)) false).run Tryz.prog wr = .ok (.func (.func 87) #[] #[]) wr:=by rw[hkI];exact ae HG wr 2 (.func (.func 87) #[] #[]) hM (by simp)
   have HC:=af (qD s wr (ae HS) ((ae HO).later hbel));have eF:(⟨(kF s).toArray⟩:ByteArray)=byO s:=rfl;rw[eF]at HC;have hb1:oD s k=ic (byS s) (byF s):=by rw[hk];rfl
   have hb2:Hid (oD s (k+1)=ic (ic (byS s) (byF s)) (byO s)):=by show _=_;rw[hk];rfl
   obtain⟨q1,q2,q3⟩:=ae HSm;rw[hb1];have Hk:=af hk;have HMB:=af (a0c hM hbel);clear hM hbel hk hk1 hk3 hb1 eF q1 q2 hkI;generalize byO s=F at *
   generalize ic (byS s) (byF s)=A at *
   go_wp2_with fail;refine(ae HC).mono ?_;rintro e x2 ⟨rfl,b2⟩;have HY:=af (a0c ((ae HMB).1.later b2) (ag (ae HMB).2 b2));clear b2 HMB HC;by_cases hlt:F.size<A.size
   ·
    have hltI:(F.size:Int)<(A.size:Int):=by omega
    have HE:=af (fJ hlt);go_wp2;go_roundw
    case rel=>exact⟨k+1,by omega,by have:=ae Hk;omega,by go_num,by rw[ae hb2,ae HE],(ae HY).1,(ae HY).2⟩
    case measure=>have:=ae Hk;simp[intOf];omega
   ·
    have HE:=af (gQ hlt);go_wp2;go_roundw
    case rel=>exact⟨k+1,by omega,by have:=ae Hk;omega,by go_num,by rw[ae hb2,ae HE],(ae HY).1,(ae HY).2⟩
    case measure=>have:=ae Hk;simp[intOf];omega
  ·
   have hle:¬ (k:Int)<=2:=by omega
   have hb1:Hid (oD s k=bZ s):=by show _=_;rw[hk];rfl
   have HB:=af hbel;clear hM hbel hk hk1 hk3;generalize oD s k=A at *
   go_wp2;go_ret;exact⟨by rw[←ae hb1];rfl,ae HB⟩
set_option maxRecDepth 100000
def fi(s:ByteArray):Nat:=if (bZ s).size<s.size then 8 else 0
def bm(s:ByteArray):ByteArray:=if (bZ s).size<s.size then bZ s else s
theorem jr(s:ByteArray):((bZ s).size:Int)<=100000:=by
 obtain⟨h1,h2,h3⟩:=vD s;have key:∀a b:ByteArray,(a.size:Int)<=100000->(b.size:Int)<=100000->((ic a b).size:Int)<=100000:=fun a b ha hb=>by
  by_cases h:b.size<a.size
  · rw[fJ h];exact hb
  · rw[gQ h];exact ha
 unfold bZ;exact key _ _ (key _ _ h1 h2) h3
def yI(W:World)(g:Nat)(n:ByteArray)(y mo d h mi s:Int)(t:ByteArray):Prop:=W.cell? ⟨g,0,none⟩=some (.string n)/\W.cell? ⟨g,1,none⟩=some (.int .i64 y)/\W.cell? ⟨g,2,none⟩=some (.int .i64 mo)/\W.cell? ⟨g,3,none⟩=some (.int .i64 d)/\W.cell? ⟨g,4,none⟩=some (.int .i64 h)/\W.cell? ⟨g,5,none⟩=some (.int .i64 mi)/\W.cell? ⟨g,6,none⟩=some (.int .i64 s)/\W.cell? ⟨g,7,none⟩=some (.string t)
def pT(w:World)(n:ByteArray)(y mo d h mi s:Int)(t:ByteArray)(W:World):Prop:=Below w.heap.size w W/\w.heap.size<W.heap.size/\yI W w.heap.size n y mo d h mi s t
theorem pT.later{w W W':World}{n t:ByteArray}{y mo d h mi s:Int}(k:pT w n y mo d h mi s t W)(hb:Below W.heap.size W W'):pT w n y mo d h mi s t W':=by
 have hc:∀j,W'.cell? ⟨w.heap.size,j,none⟩=W.cell? ⟨w.heap.size,j,none⟩:=fun j=>hb.cell (p:=⟨w.heap.size,j,none⟩) k.2.1;obtain⟨b1,b2,e0,e1,e2,e3,e4,e5,e6,e7⟩:=k;exact⟨b1.trans (hb.mono (a0u b2)),a0g b2 hb.size,(hc 0).trans e0,(hc 1).trans e1,(hc 2).trans e2,(hc 3).trans e3,(hc 4).trans e4,(hc 5).trans e5,(hc 6).trans e6,(hc 7).trans e7⟩
def cK(n t:ByteArray)(N:Nat):ByteArray:=bQ (fi t) N (aR 0 t.data.toList) (bm t).size t.size n++bm t
end Go.Proofs.YtfhdadkcophoaaaGreatDoor
