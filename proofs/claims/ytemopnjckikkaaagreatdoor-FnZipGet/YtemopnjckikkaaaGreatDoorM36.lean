/- Texts. -/
import Derived.Test.YtemopnjckikkaaaGreatDoorM35
set_option linter.all false
set_option maxRecDepth 100000
set_option maxHeartbeats 6400000
namespace Go.Proofs.YtemopnjckikkaaaGreatDoor
open Go.Proofs.Tryz
open Go.RowKit Corb
variable {V p sz y:Nat}{a b:ByteArray}{l:List (Int×Int)}
def Std(V:Nat):Nat->List (Int×Int)->Prop
 | _,[]=>True
 | p,x :: l=>V/2 ^ p%2 ^ x.2.toNat=x.1.toNat/\Std V (p+x.2.toNat) l
def bN(l:List (Int×Int)):Nat:=gh (bitsOf l)
def kC:bN []=0:=rfl
def ft(x:Int×Int)(l:List (Int×Int)):bN (x :: l)=x.2.toNat+bN l:=by unfold bN bitsOf;rw[a0B,lu]
def dE(a b:List (Int×Int)):bN (a++b)=bN a+bN b:=by unfold bN bitsOf;rw[a0H,sB]
def oW{a b:List (Int×Int)} : ∀{p:Nat},Std V p (a++b)<->Std V p a/\Std V (p+bN a) b:=by
 induction a with
 | nil=>intro p;simp[Std,kC]
 | cons x a ih=>
  intro p;rw[a1g];simp only[Std];rw[ih,ft,and_assoc,a1U]
def M9: ∀(l:List (Int×Int)) (p:Nat),dW V p (bitsOf l)=numsOf l->Std V p l:=by
 intro l;induction l with
 | nil=>intro p _;trivial
 | cons x l ih=>
  intro p h;unfold bitsOf numsOf at h;rw[a0B,a0B]at h;simp only[dW,List.cons.injEq]at h;refine⟨?_,ih _ h.2⟩;rw[←h.1,a0n]
def PD(W:Nat)(h:aY l=true):Std ((aU l).1+W*2 ^ (aU l).2) 0 l:=M9 l 0 (Jf l W h)
def rq{x:Int×Int}(h:Std V p (x :: l))(a:p+x.2.toNat<=sz):rdN V sz p x.2.toNat=some (x.1.toNat,p+x.2.toNat):=by
 rw[cS a,h.1]
def pw{B:List Int}(a:ar B=true){k:Nat}(e:0<B.getD k 0)(h:Std V p (pcM B k :: l))(f:p+(B.getD k 0).toNat<=sz):dec B V sz p=some ((k:Int),p+(B.getD k 0).toNat):=by
 have d:k<B.length:=by
  rcases a1i k B.length with c|c
  . exact c
  . simp[List.getD,c]at e
 have hb:=mN (gw a) d;obtain⟨n,hn⟩:∃n:Nat,B.getD k 0=(n:Int)+1:=⟨(B.getD k 0).toNat-1,by omega⟩;have b:=h.1;unfold pcM at b;simp only at b;rw[BS B 15 k d,a0c (by omega),a0n,a0n,hn,show((n:Int)+1).toNat=n+1 by omega]at b;rw[hn,show((n:Int)+1).toNat=n+1 by omega]at f ⊢;have:=KH a d hn b (by omega);rw[this]
 congr 1
def OU:(List.range 61).all (fun y=>decide (y<3) || (decide (fnd 3 4 y 27<28)&&decide ((stF 3 4 (fnd 3 4 y 27)).1<=y)))=true:=by decide +kernel
def NX:(List.range 251).all (fun y=>decide (y<1) || (decide (fnd 1 2 y 29<30)&&decide ((stF 1 2 (fnd 1 2 y 29)).1<=y)))=true:=by decide +kernel
def L2(a:3<=y)(b:y<=60):fnd 3 4 y 27<28/\(stF 3 4 (fnd 3 4 y 27)).1<=y:=by
 have:=a08.1 OU y (List.mem_range.2 (by omega));simp only[a1e,a0k,a0s]at this;omega
def Ki(a:1<=y)(b:y<=250):fnd 1 2 y 29<30/\(stF 1 2 (fnd 1 2 y 29)).1<=y:=by
 have:=a08.1 NX y (List.mem_range.2 (by omega));simp only[a1e,a0k,a0s]at this;omega
def MX{least group many k:Nat}(b:k<many)(d:(stF least group k).1<=y)(h:Std V p (((y:Int)-((stF least group k).1:Int),((stF least group k).2:Nat)) :: l))(c:p+(stF least group k).2<=sz):scG V sz least group many k p=some (y,p+(stF least group k).2):=by
 unfold scG;rw[a0c b];have a:=rq (sz:=sz) h (by simpa using c);simp only[a0n]at a;rw[a];simp only[a0e]
 congr 2
 omega
def El(L D:List Int)(t:Tk):Prop:=if isB t then 0<L.getD t.1.toNat 0 else 0<L.getD (257+fnd 3 4 t.2.1.toNat 27) 0/\0<D.getD (fnd 1 2 t.2.2.toNat 29) 0
def ms(B:List Int)(k:Nat):(pcM B k).2.toNat=(B.getD k 0).toNat:=rfl
def Pf{L D:List Int}(okL:ar L=true)(okD:ar D=true){t:Tk}(f:okT t=true)(a:El L D t)(h:Std V p (cH L D t++l))(b:p+bN (cH L D t)<=sz) :
  ∃i q,dec L V sz p=some (i,q)/\i≠256/\oneG V sz D i q=some (t,p+bN (cH L D t)):=by
 obtain⟨y,lo,c⟩:=t;unfold El at a;unfold cH at h b ⊢;by_cases d:isB (y,lo,c)=true
 .
  rw[a0c d]at h b a ⊢;have hb:0<=y/\y<=255/\lo=0/\c=0:=by unfold isB inB at d;simp only[a0k,a0s]at d;omega
  rw[ft,kC,a09,ms]at b ⊢;refine⟨_,_,pw okL a h b,?_,?_⟩
  . simp only;omega
  . unfold oneG;rw[a0c (by simp only;omega)];simp only[a0j,a0O,a0N];omega
 .
  rw[a0d d]at h b a ⊢;have e:isK (y,lo,c)=true:=by unfold okT at f;simpa[d]using f
  have hb:y=0/\3<=lo/\lo<=60/\1<=c/\c<=250:=by unfold isK inB at e;simp only[a0k,a0s]at e;omega
  obtain⟨rfl,g,m,n,o⟩:=hb;obtain⟨x,rfl⟩:=a0o (show 0<=lo by omega);obtain⟨z,rfl⟩:=a0o (show 0<=c by omega);simp only[a0n]at h b a ⊢;obtain⟨f1,f2⟩:=L2 (y:=x) (by omega) (by omega);obtain⟨g1,g2⟩:=Ki (y:=z) (by omega) (by omega);generalize fnd 3 4 x 27=k at *
  generalize fnd 1 2 z 29=j at *
  simp only[ft,kC,a09,ms,a0n]at b ⊢;have s1:=h;have s2:=h.2;have s3:=s2.2;have s4:=s3.2;simp only[ms,a0n]at s2 s3 s4;refine⟨_,_,pw okL a.1 s1 (by omega),by omega,?_⟩;unfold oneG;rw[a0d (by omega),show((257+k:Nat):Int).toNat-257=k by omega];unfold fU;rw[MX f1 f2 s2 (by omega)];simp only[a0e];rw[pw okD a.2 s3 (by omega)];simp only[a0e,a0n];rw[MX g1 g2 s4 (by omega)];simp only[a0e,a0j,a0O,a1A];omega
def pD(R:List UInt8):List Tk->Option (List UInt8)
 | []=>some R
 | t :: T=>(fs R t).bind fun x=>pD x T
def Gx{L D:List Int}(okL:ar L=true)(okD:ar D=true)(n:0<L.getD 256 0) : ∀(T:List Tk) (p:Nat) (R b:List UInt8),(∀t∈T,okT t=true/\El L D t)->Std V p (T.flatMap (cH L D)++(pcM L 256 :: l))->p+bN (T.flatMap (cH L D))+(L.getD 256 0).toNat<=sz->pD R T=some b->hH V sz L D p R=some (b,p+bN (T.flatMap (cH L D))+(L.getD 256 0).toNat):=by
 intro T;induction T with
 | nil=>
  intro p R b _ h c a;simp only[pD,a0j]at a;subst a;simp only[a13,a04,kC,a09]at h c ⊢;exact vN (pw okL n h c)
 | cons t T ih=>
  intro p R b e h c a;simp only[a0W,a0I,dE]at h c ⊢;obtain⟨m,h2⟩:=e t (by simp);obtain⟨i,q,g,j,k⟩:=Pf (sz:=sz) okL okD m h2 h (by omega);rw[rF g j,k];simp only[a0e];simp only[pD]at a;rcases f:fs R t with _|x
  . rw[f]at a;cases a
  . rw[f]at a;simp only[a0e]at a ⊢;rw[ih (p+bN (cH L D t)) x b (fun t' d=>e t' (by simp[d])) (oW.1 h).2 (by omega) a,a1U p]
def Jy{L:List UInt8}(d:L.length<=300):∀(n p:Nat),L.length-p<=n->p<=L.length->pD (L.take p) (bj L p)=some L:=by
 intro n;induction n with
 | zero=>
  intro p b h2;have e:p=L.length:=by omega
  subst e;rw[eJ (a2x _)];simp only[pD,a2i]
 | succ n ih=>
  intro p b h2;by_cases a:p<L.length
  . rw[iF a];simp only[pD];rw[GD a d];have f:=gW L p;have c:=qd a;exact ih _ (by omega) c
  .
   have e:p=L.length:=by omega
   subst e;rw[eJ (a2x _)];simp only[pD,a2i]
def vP{L:List UInt8}(a:L.length<=300):pD [] (bj L 0)=some L:=Jy a L.length 0 (by omega) (a0f _)
def fR(a b:ByteArray):ByteArray:=if b.size<a.size then b else a
def fo(h:b.size<a.size):fR a b=b:=a0c h
def gz(h:¬ b.size<a.size):fR a b=a:=a0d h
def byO(s:ByteArray):ByteArray:=⟨(lP s).toArray⟩
def bZ(s:ByteArray):ByteArray:=fR (fR (byS s) (byF s)) (byO s)
def jj(s:ByteArray):Nat->ByteArray
 | 1=>byS s
 | 2=>fR (byS s) (byF s)
 | _=>bZ s
def zL(s:ByteArray)(h:¬ s.size<=300):byO s=⟨#[]⟩:=by unfold byO lP;rw[a0d h]
def Aq(s:ByteArray)(h:¬ s.size<=300):bZ s=⟨#[]⟩:=by
 unfold bZ;rw[zM s h,zK s h,zL s h];rfl
def xK(l:List (Int×Int)):(ct l).length=((aU l).2+7)/8:=by unfold ct;exact aB _ _
def vE{l:List UInt8}(h:l.length<=100000):((⟨l.toArray⟩:ByteArray).size:Int)<=100000:=by
 have:(⟨l.toArray⟩:ByteArray).size=l.length:=by simp[ByteArray.size]
 omega
def FK(h:lOk l=true):(aU l).2<=64000:=by
 unfold lOk at h;simp only[a0k,a0s]at h;have a:=dU (0,0) l (fun x c=>by
  have h2:=h.1;unfold aY at h2;exact(aS.1 (a08.1 h2 x c)).1.2)
 have b:bf (0,0) l=aU l:=rfl;rw[b]at a;omega
def ly{B:Nat}{a w:World}(h:Below B a w){r:Nat}(b:B<=w.heap.size)(d:B<=r)(o:Obj):Below B a (w.putObj r o):=h.grown (grownBy_putObj' w r o) b (fun j c=>by cases c;exact d)
def tJ(s:ByteArray):((byS s).size:Int)<=100000/\((byF s).size:Int)<=100000/\((byO s).size:Int)<=100000:=by
 by_cases a:s.size<=300
 .
  have c:=iY s a;have d:=eT s;refine⟨vE ?_,vE ?_,vE ?_⟩
  .
   unfold fS
   split
   . rw[a0i,aB,jw];omega
   . simp
  . unfold lE;rw[a0c a];show(ct (io s)).length<=_;rw[xK];have b:=FK (pC s a);omega
  . unfold lP;rw[a0c a];show(ct (je _)).length<=_;rw[xK];have b:=FK (tk _ c d);omega
 . rw[zM s a,zK s a,zL s a];exact⟨by decide,by decide,by decide⟩
def qS(s:ByteArray)(w:World)(O:s.size<=1048576)(N:ef w) :
  CD 44 #[s] w (.string (bZ s)):=by
 have L:=@run_makeMap prog;have H:=underlying128;have c:=underlying3;obtain⟨b,hb⟩:∃b,w.heap.size=b:=⟨_,rfl⟩;have m0:=Gb w;obtain⟨w1,V,m1,e1⟩:=nM H c _ _ _ 0 (.func (.func 76) #[] #[]) m0 (by simp);obtain⟨w2,X,m2,e2⟩:=nM H c _ _ _ 1 (.func (.func 77) #[] #[]) m1 (by simp);obtain⟨w3,Y,m3,e3⟩:=nM H c _ _ _ 2 (.func (.func 78) #[] #[]) m2 (by simp);have z1:w1.heap.size=w.heap.size+1:=by rw[e1];simp[World.putObj]
 have z2:w2.heap.size=w.heap.size+1:=by rw[e2];simpa[World.putObj]using z1
 have g:Below w.heap.size w w1:=by rw[e1];exact ly ((Below.refl _ w).alloc (a0a _) _) (by simp) (a0a _) _
 have B:Below w.heap.size w w2:=by rw[e2];exact ly g (by omega) (a0a _) _
 have C:Below w.heap.size w w3:=by rw[e3];exact ly B (by omega) (a0a _) _
 simp only[a04,a1g]at m3;have I:=af (fun W k v (h:kA W w.heap.size [(0,.func (.func 76) #[] #[]),(1,.func (.func 77) #[] #[]),(2,.func (.func 78) #[] #[])]) T=>Ga H c W w.heap.size _ k v false h T (by decide));have g0:=ae I w3 0 (.func (.func 76) #[] #[]) m3 (by simp);have M:=af m3;have y:=af C;have S:=af N;have J:=af O;have z:=af (tJ s);clear e1 e2 e3 z1 z2 g B C m0 m1 m2 m3 H c O N hb b;go_enter func44,ntmps44;go_wp2_with fail;refine(qV s w3 J).mono ?_;rintro e x1⟨rfl,K⟩;have D:=M.later K;have g:=aj y K;have eS:(⟨(fS s.data.toList).toArray⟩:ByteArray)=jj s 1:=rfl;rw[eS];clear K M y V X Y g0 L eS;go_wp2_with fail
 go_loopw [4,5,6] (fun v i _ wr=>∃k:Nat,1<=k/\k<=3/\i = .int .i64 k/\v = .string (jj s k)/\kA wr w.heap.size [(0,.func (.func 76) #[] #[]),(1,.func (.func 77) #[] #[]),(2,.func (.func 78) #[] #[])]/\Below w.heap.size w wr) (fun _ i _ _=>3-(intOf i).toNat)
 case atStart=>exact⟨1,by omega,by omega,rfl,rfl,D,g⟩
 case round=>
  obtain⟨k,u,x,rfl,rfl,t,a⟩:=hrel;clear D g;rcases (show k=1∨k=2∨k=3 by omega)with c|c|c
  .
   have l:(k:Int)=1:=by omega
   have E:(k:Int)<=2:=by omega
   have g1:(Instr.lookup 128 (.map (some w.heap.size)) (.int .i64 (k:Int)) false).run prog wr = .ok (.func (.func 77) #[] #[]) wr:=by rw[l];exact I wr 1 (.func (.func 77) #[] #[]) t (by simp)
   have p:=af (qQ s wr J);have eF:(⟨(lE s).toArray⟩:ByteArray)=byF s:=rfl;rw[eF]at p;have f:jj s k=byS s:=by rw[c];rfl
   have j:Hid (jj s (k+1)=fR (byS s) (byF s)):=by show _=_;rw[c];rfl
   obtain⟨P,Q,U⟩:=ae z;rw[f];have o:=af c;have d:=af (a0b t a);clear t a c u x f eF l;generalize byF s=F at *
   generalize byS s=A at *
   go_wp2_with fail;refine p.mono ?_;rintro e x2⟨rfl,r⟩;have n:=af (a0b (d.1.later r) (aj d.2 r));clear r d p;by_cases m:F.size<A.size
   .
    have G:(F.size:Int)<(A.size:Int):=by omega
    have q:=af (fo m);go_wp2;go_roundw
    case rel=>exact⟨k+1,by omega,by have:=ae o;omega,by go_num,by rw[ae j,ae q],n.1,n.2⟩
    case measure=>have:=ae o;simp[intOf];omega
   .
    have q:=af (gz m);go_wp2;go_roundw
    case rel=>exact⟨k+1,by omega,by have:=ae o;omega,by go_num,by rw[ae j,ae q],n.1,n.2⟩
    case measure=>have:=ae o;simp[intOf];omega
  .
   have l:(k:Int)=2:=by omega
   have E:(k:Int)<=2:=by omega
   have g1:(Instr.lookup 128 (.map (some w.heap.size)) (.int .i64 (k:Int)) false).run prog wr = .ok (.func (.func 78) #[] #[]) wr:=by rw[l];exact I wr 2 (.func (.func 78) #[] #[]) t (by simp)
   have p:=af (uk s wr J (S.later a));have eF:(⟨(lP s).toArray⟩:ByteArray)=byO s:=rfl;rw[eF]at p;have f:jj s k=fR (byS s) (byF s):=by rw[c];rfl
   have j:Hid (jj s (k+1)=fR (fR (byS s) (byF s)) (byO s)):=by show _=_;rw[c];rfl
   obtain⟨P,Q,U⟩:=ae z;rw[f];have o:=af c;have d:=af (a0b t a);clear t a c u x f eF P Q l;generalize byO s=F at *
   generalize fR (byS s) (byF s)=A at *
   go_wp2_with fail;refine p.mono ?_;rintro e x2⟨rfl,r⟩;have n:=af (a0b (d.1.later r) (aj d.2 r));clear r d p;by_cases m:F.size<A.size
   .
    have G:(F.size:Int)<(A.size:Int):=by omega
    have q:=af (fo m);go_wp2;go_roundw
    case rel=>exact⟨k+1,by omega,by have:=ae o;omega,by go_num,by rw[ae j,ae q],n.1,n.2⟩
    case measure=>have:=ae o;simp[intOf];omega
   .
    have q:=af (gz m);go_wp2;go_roundw
    case rel=>exact⟨k+1,by omega,by have:=ae o;omega,by go_num,by rw[ae j,ae q],n.1,n.2⟩
    case measure=>have:=ae o;simp[intOf];omega
  .
   have E:¬ (k:Int)<=2:=by omega
   have f:Hid (jj s k=bZ s):=by show _=_;rw[c];rfl
   have R:=af a;clear t a c u x;generalize jj s k=A at *
   go_wp2;go_ret;exact⟨by rw[←ae f];rfl,R⟩
def wt(s:ByteArray)(w:World)(r:s.size<=300) :
  CD 123 #[s] w (.string (bZ s)):=by
 have J:¬ (300:Int)<(s.size:Int):=by omega
 have m:=af (fun W=>Bb s W r);have n:=af (fun W=>A9 s W r);have o:=af (fun W=>Ir s W r);have e1:(⟨(leS 5 (ia s.size)++s.data.toList).toArray⟩:ByteArray)=jj s 1:=by
  show _=byS s;unfold byS fS;rw[a0c (by rw[jw];exact r),jw]
 have e2:(⟨(dT s).toArray⟩:ByteArray)=byF s:=by unfold byF lE;rw[a0c r]
 have e3:(⟨(mj s).toArray⟩:ByteArray)=byO s:=by unfold byO lP;rw[a0c r]
 rw[e1]at m;rw[e2]at n;rw[e3]at o;have z:=af (tJ s);clear r e1 e2 e3;go_enter func123,ntmps123;go_wp2_with fail;refine(m _).mono ?_;rintro e x1⟨rfl,D⟩;have B:=af D;clear D;go_wp2_with fail;refine(n _).mono ?_;rintro e x2⟨rfl,E⟩;have C:=af (aj B E);clear E B;go_wp2_with fail;refine(o _).mono ?_;rintro e x3⟨rfl,G⟩;have p:=aj C G;have t:Below w.heap.size w (x3.alloc (.cells #[.string (byF s),.string (byO s)] 9)):=p.alloc p.size _;have c0:(x3.alloc (.cells #[.string (byF s),.string (byO s)] 9)).cell? ⟨x3.heap.size,0,none⟩=some (.string (byF s)):=by simp
 have c1:(x3.alloc (.cells #[.string (byF s),.string (byO s)] 9)).cell? ⟨x3.heap.size,1,none⟩=some (.string (byO s)):=by simp
 have y:=af t;clear G p t C m n o;go_wp2_with fail;generalize x3.alloc (.cells #[.string (byF s),.string (byO s)] 9)=x4 at *
 generalize x3.heap.size=g at *
 go_loopw [3,5] (fun v i wr=>∃k:Nat,k<=2/\i = .int .i64 k/\v = .string (jj s (k+1))/\wr=x4) (fun _ i _=>2-(intOf i).toNat)
 case atStart=>exact⟨0,by omega,rfl,rfl,rfl⟩
 case round=>
  obtain⟨k,q,rfl,rfl,x⟩:=hrel;rw[x];clear x;obtain⟨H,I,K⟩:=ae z;rcases (show k=0∨k=1∨k=2 by omega)with b|b|b
  .
   have u:(k:Int)<2:=by omega
   have c:x4.cell? ⟨g,k,none⟩=some (.string (byF s)):=by rw[b];exact c0
   have a:jj s (k+1)=byS s:=by rw[b];rfl
   have d:Hid (jj s (k+1+1)=fR (byS s) (byF s)):=by show _=_;rw[b];rfl
   rw[a];have j:=af b;clear b a c0 c1 q;generalize byF s=F at *
   generalize byS s=A at *
   by_cases f:F.size<A.size
   .
    have h:(F.size:Int)<(A.size:Int):=by omega
    have l:=af (fo f);go_wp2;go_roundw
    case rel=>exact⟨k+1,by have:=ae j;omega,by go_num,by rw[ae d,ae l],by first|rfl|trivial⟩
    case measure=>have:=ae j;simp[intOf];omega
   .
    have h:¬ (F.size:Int)<(A.size:Int):=by omega
    have l:=af (gz f);go_wp2;go_roundw
    case rel=>exact⟨k+1,by have:=ae j;omega,by go_num,by rw[ae d,ae l],by first|rfl|trivial⟩
    case measure=>have:=ae j;simp[intOf];omega
  .
   have u:(k:Int)<2:=by omega
   have c:x4.cell? ⟨g,k,none⟩=some (.string (byO s)):=by rw[b];exact c1
   have a:jj s (k+1)=fR (byS s) (byF s):=by rw[b];rfl
   have d:Hid (jj s (k+1+1)=fR (fR (byS s) (byF s)) (byO s)):=by show _=_;rw[b];rfl
   rw[a];have j:=af b;clear b a c0 c1 q H I;generalize byO s=F at *
   generalize fR (byS s) (byF s)=A at *
   by_cases f:F.size<A.size
   .
    have h:(F.size:Int)<(A.size:Int):=by omega
    have l:=af (fo f);go_wp2;go_roundw
    case rel=>exact⟨k+1,by have:=ae j;omega,by go_num,by rw[ae d,ae l],by first|rfl|trivial⟩
    case measure=>have:=ae j;simp[intOf];omega
   .
    have h:¬ (F.size:Int)<(A.size:Int):=by omega
    have l:=af (gz f);go_wp2;go_roundw
    case rel=>exact⟨k+1,by have:=ae j;omega,by go_num,by rw[ae d,ae l],by first|rfl|trivial⟩
    case measure=>have:=ae j;simp[intOf];omega
  .
   have u:¬ (k:Int)<2:=by omega
   have a:Hid (jj s (k+1)=bZ s):=by show _=_;rw[b];rfl
   clear b c0 c1 q;generalize jj s (k+1)=A at *
   go_wp2;go_ret;exact⟨by rw[←ae a];rfl,y⟩
def rx(s:ByteArray)(w:World)(c:s.size<=1048576) :
  CD 123 #[s] w (.string (bZ s)):=by
 by_cases h:s.size<=300
 . exact wt s w h
 .
  have b:(300:Int)<(s.size:Int):=by omega
  have a:=af (Aq s h);clear h;go_enter func123,ntmps123;go_wp2;go_ret;exact⟨by rw[ae a];rfl,Below.refl _ _⟩
def cN(s:ByteArray):Nat:=if (bZ s).size<s.size then 8 else 0
def aL(s:ByteArray):ByteArray:=if (bZ s).size<s.size then bZ s else s
def gO(s:ByteArray):((bZ s).size:Int)<=100000:=by
 obtain⟨c,h2,d⟩:=tJ s;have key:∀a b:ByteArray,(a.size:Int)<=100000->(b.size:Int)<=100000->((fR a b).size:Int)<=100000:=fun a b e hb=>by
  by_cases h:b.size<a.size
  . rw[fo h];exact hb
  . rw[gz h];exact e
 unfold bZ;exact key _ _ (key _ _ c h2) d
def wZ(s:ByteArray)(w:World)(d:s.size<=1048576) :
  CD 82 #[s] w (.tuple #[.int .i64 (cN s:Nat),.string (aL s)]):=by
 have b:=af (rx s w d);unfold cN aL;generalize bZ s=x at *
 clear d;by_cases h:x.size<s.size
 .
  have f:(x.size:Int)<(s.size:Int):=by omega
  rw[a0c h,a0c h];clear h;go_enter func82,ntmps82;go_wp2_with fail;refine b.mono ?_;rintro e w1⟨rfl,a⟩;have c:=af a;clear a b;go_wp2
  go_ret2
  exact⟨rfl,c⟩
 .
  have f:¬ (x.size:Int)<(s.size:Int):=by omega
  rw[a0d h,a0d h];clear h;go_enter func82,ntmps82;go_wp2_with fail;refine b.mono ?_;rintro e w1⟨rfl,a⟩;have c:=af a;clear a b;go_wp2
  go_ret2
  exact⟨rfl,c⟩
def qt(W:World)(g:Nat)(n:ByteArray)(y mo d h mi s:Int)(t:ByteArray):Prop:=W.cell? ⟨g,0,none⟩=some (.string n)/\W.cell? ⟨g,1,none⟩=some (.int .i64 y)/\W.cell? ⟨g,2,none⟩=some (.int .i64 mo)/\W.cell? ⟨g,3,none⟩=some (.int .i64 d)/\W.cell? ⟨g,4,none⟩=some (.int .i64 h)/\W.cell? ⟨g,5,none⟩=some (.int .i64 mi)/\W.cell? ⟨g,6,none⟩=some (.int .i64 s)/\W.cell? ⟨g,7,none⟩=some (.string t)
def mn(w:World)(n:ByteArray)(y mo d h mi s:Int)(t:ByteArray)(W:World):Prop:=Below w.heap.size w W/\w.heap.size<W.heap.size/\qt W w.heap.size n y mo d h mi s t
def mn.later{w W W':World}{n t:ByteArray}{y mo d h mi s:Int}(k:mn w n y mo d h mi s t W)(hb:Below W.heap.size W W'):mn w n y mo d h mi s t W':=by
 have a:∀j,W'.cell? ⟨w.heap.size,j,none⟩=W.cell? ⟨w.heap.size,j,none⟩:=fun j=>hb.cell (p:=⟨w.heap.size,j,none⟩) k.2.1;obtain⟨c,b,e0,e1,e2,e3,e4,e5,e6,e7⟩:=k;exact⟨c.trans (hb.mono (a0r b)),a0h b hb.size,(a 0).trans e0,(a 1).trans e1,(a 2).trans e2,(a 3).trans e3,(a 4).trans e4,(a 5).trans e5,(a 6).trans e6,(a 7).trans e7⟩
def Nm(how st crc pk lg n:Nat):ez how st crc pk lg n=ay (leS 2 20)++ay (leS 2 0)++ay (leS 2 how)++ay (leS 4 st)++ay (leS 4 crc)++ay (leS 4 pk)++ay (leS 4 lg)++ay (leS 2 n)++ay (leS 2 0):=by
 have c:∀a b:ByteArray,a.data.toList=b.data.toList->a=b:=fun a b h=>by
  cases a;cases b
  simp only[ByteArray.mk.injEq];exact Array.toList_inj.1 h
 apply c;unfold ez ay;simp
def pI(n t:ByteArray)(y mo d h mi s:Int)(N:Nat)(w:World)(k:(0<=y/\y<=100000)/\(0<=mo/\mo<=100)/\(0<=d/\d<=100)/\(0<=h/\h<=100)/\(0<=mi/\mi<=100) /\ -100<=s/\s<=100)
  (u:(((((y-1980)*16+mo)*32+d)*32+h)*64+mi)*32+Int.tdiv s 2=(N:Int)) (l:N<4294967296) (I:n.size<65536) (v:t.size<=1048576) :
  CD 81 #[.agg #[n,y,mo,d,h,mi,s,t]] w (.string (ez (cN t) N (aE 0 t.data.toList) (aL t).size t.size n.size)):=by
 have i:=cC
 have o:aE 0 t.data.toList<4294967296:=gp _ _ (by omega);have p:=gO t;have m:(aL t).size<=1048576:=by unfold aL;split<;>omega
 have q:cN t<=8:=by unfold cN;split<;>omega
 have j:Hid (∀W,CD 40 #[.int .i64 ((20:Nat):Int),.int .i64 2] W (.string (ay (leS 2 (20))))):=fun W=>aM (20) 2 W (by omega) (by omega);have r:Hid (∀W,CD 40 #[.int .i64 ((0:Nat):Int),.int .i64 2] W (.string (ay (leS 2 (0))))):=fun W=>aM (0) 2 W (by omega) (by omega);have B:Hid (∀W,CD 40 #[.int .i64 ((cN t:Nat):Int),.int .i64 2] W (.string (ay (leS 2 (cN t))))):=fun W=>aM (cN t) 2 W (by omega) (by omega);have E:Hid (∀W,CD 40 #[.int .i64 ((N:Nat):Int),.int .i64 4] W (.string (ay (leS 4 (N))))):=fun W=>aM (N) 4 W (by omega) (by omega);have C:Hid (∀W,CD 40 #[.int .i64 ((aE 0 t.data.toList:Nat):Int),.int .i64 4] W (.string (ay (leS 4 (aE 0 t.data.toList))))):=fun W=>aM (aE 0 t.data.toList) 4 W (by omega) (by omega);have z:Hid (∀W,CD 40 #[.int .i64 (((aL t).size:Nat):Int),.int .i64 4] W (.string (ay (leS 4 ((aL t).size))))):=fun W=>aM ((aL t).size) 4 W (by omega) (by omega);have CT:Hid (∀W,CD 40 #[.int .i64 ((t.size:Nat):Int),.int .i64 4] W (.string (ay (leS 4 (t.size))))):=fun W=>aM (t.size) 4 W (by omega) (by omega);have D:Hid (∀W,CD 40 #[.int .i64 ((n.size:Nat):Int),.int .i64 2] W (.string (ay (leS 2 (n.size))))):=fun W=>aM (n.size) 2 W (by omega) (by omega);have F:Hid (∀W,CD 122 #[.agg #[y,mo,d,h,mi,s]] W (.int .i64 ((N:Nat):Int))):=fun W=>by
  have:=Iu y mo d h mi s W k;rw[u]at this;exact this
 have A:Hid (∀W,CD 43 #[t] W (.int .i64 ((aE 0 t.data.toList:Nat):Int))):=fun W=>(sx t W (by unfold maxLen;omega)).mono fun e w' ⟨H,h2⟩=>⟨H,by rw[h2];exact Below.refl _ _⟩;have g:=af (fun W=>wZ t W v);have G:=af (Nm (cN t) N (aE 0 t.data.toList) (aL t).size t.size n.size);have zz:∀many V,many<=4->((ay (leS many V)).size:Int)<=4:=fun many V O=>by rw[bu,aB];omega
 have z1:=zz 2 20 (by omega);have z2:=zz 2 0 (by omega);have z3:=zz 2 (cN t) (by omega);have z4:=zz 4 N (by omega);have z5:=zz 4 (aE 0 t.data.toList) (by omega);have z6:=zz 4 (aL t).size (by omega);have z7:=zz 4 t.size (by omega);have z8:=zz 2 n.size (by omega);generalize ay (leS 2 20)=A20 at *
 generalize ay (leS 2 0)=A0 at *
 generalize ay (leS 2 (cN t))=AH at *
 generalize ay (leS 4 N)=AN at *
 generalize ay (leS 4 (aE 0 t.data.toList))=AK at *
 generalize ay (leS 4 (aL t).size)=AB at *
 generalize ay (leS 4 t.size)=AT at *
 generalize ay (leS 2 n.size)=AM at *
 generalize ez (cN t) N (aE 0 t.data.toList) (aL t).size t.size n.size=RES at *
 generalize cN t=hw at *
 generalize aL t=bd at *
 generalize aE 0 t.data.toList=cr at *
 have T0':Hid (mn w n y mo d h mi s t (w.alloc (.cells #[n,y,mo,d,h,mi,s,t] 49))):=⟨bx,by simp,by simp,by simp,by simp,by simp,by simp,by simp,by simp,by simp⟩;clear k u l I v o p m q zz;go_enter func81,ntmps81;go_wp2_with fail;obtain⟨W1,hW1⟩:∃x,w.alloc (.cells #[n,y,mo,d,h,mi,s,t] 49)=x:=⟨_,rfl⟩;rw[hW1]at T0';rw[hW1];have T1:=T0';clear T0' hW1;refine(g W1).mono ?_;rintro e W2⟨rfl,b⟩;have T2:=af (T1.later b);clear b T1 g;go_wp2_with fail;refine wp_region_held_drew (S:=fun W=>qt W w.heap.size n y mo d h mi s t) i T2.2.2 (fun f=>?_);refine ag 3 (.int .i64 (hw:Nat)) rfl (fun W a=>by obtain⟨s0,s1,s2,s3,s4,s5,s6,s7⟩:=a;go_simp) f ?_;refine ag 6 (.pointer (some ⟨w.heap.size,1,none⟩)) rfl (fun W a=>by obtain⟨s0,s1,s2,s3,s4,s5,s6,s7⟩:=a;go_simp) f ?_;refine ag 7 (.agg #[y,mo,d,h,mi,s]) rfl (fun W a=>by obtain⟨s0,s1,s2,s3,s4,s5,s6,s7⟩:=a;go_simp) f ?_;have T3:Hid (mn w n y mo d h mi s t W2.drew):=⟨T2.1.drew,T2.2.1,T2.2.2⟩;generalize W2.drew=W3 at *
 refine ah 0 fun K c=>?_;go_simp;go_at_call 40;refine(j W3).mono ?_;rintro e W4⟨rfl,b⟩;have T4:=af (T3.later b);refine Shut.out c _ _ T4.2.2 (fun f=>?_);clear c K b;refine ah 1 fun K c=>?_;go_simp;go_at_call 40;refine(r W4).mono ?_;rintro e W5⟨rfl,b⟩;have T5:=af (T4.later b);refine Shut.out c _ _ T5.2.2 (fun f=>?_);clear c K b;refine ag 2 (.string (A20++A0)) rfl (fun W a=>by obtain⟨s0,s1,s2,s3,s4,s5,s6,s7⟩:=a;go_simp<;>omega) f ?_;refine ah 4 fun K c=>?_;go_simp;go_at_call 40;refine(B W5).mono ?_;rintro e W6⟨rfl,b⟩;have T6:=af (T5.later b);refine Shut.out c _ _ T6.2.2 (fun f=>?_);clear c K b;refine ag 5 (.string (A20++A0++AH)) rfl (fun W a=>by obtain⟨s0,s1,s2,s3,s4,s5,s6,s7⟩:=a;go_simp<;>omega) f ?_;refine ah 8 fun K c=>?_;go_simp;go_at_call 122;refine(F W6).mono ?_;rintro e W7⟨rfl,b⟩;have T7:=af (T6.later b);refine Shut.out c _ _ T7.2.2 (fun f=>?_);clear c K b;refine ah 9 fun K c=>?_;go_simp;go_at_call 40;refine(E W7).mono ?_;rintro e W8⟨rfl,b⟩;have T8:=af (T7.later b);refine Shut.out c _ _ T8.2.2 (fun f=>?_);clear c K b;refine ag 10 (.string (A20++A0++AH++AN)) rfl (fun W a=>by obtain⟨s0,s1,s2,s3,s4,s5,s6,s7⟩:=a;go_simp<;>omega) f ?_;refine ah 11 fun K c=>?_;go_simp;refine Shut.out c _ _ T8.2.2 (fun f=>?_);clear c K;refine wpAnyH_done (by kernel_rfl) ?_ _;clear f;obtain⟨B1,hB1⟩:∃x,A20++A0++AH++AN=x:=⟨_,rfl⟩;have zB1:(B1.size:Int)<=1000:=by rw[←hB1];simp only[a0D];omega
 rw[hB1];go_wp2_with fail;refine wp_region_held_drew (S:=fun W=>qt W w.heap.size n y mo d h mi s t) i T8.2.2 (fun f=>?_);refine ag 0 (.string B1) rfl (fun W a=>by obtain⟨s0,s1,s2,s3,s4,s5,s6,s7⟩:=a;go_simp) f ?_;refine ag 1 (.pointer (some ⟨w.heap.size,7,none⟩)) rfl (fun W a=>by obtain⟨s0,s1,s2,s3,s4,s5,s6,s7⟩:=a;go_simp) f ?_;refine ag 2 (.string t) rfl (fun W a=>by obtain⟨s0,s1,s2,s3,s4,s5,s6,s7⟩:=a;go_simp) f ?_;refine ag 6 (.string bd) rfl (fun W a=>by obtain⟨s0,s1,s2,s3,s4,s5,s6,s7⟩:=a;go_simp) f ?_;refine ag 7 (.int .i64 (bd.size:Nat)) rfl (fun W a=>by obtain⟨s0,s1,s2,s3,s4,s5,s6,s7⟩:=a;go_simp) f ?_;refine ag 10 (.pointer (some ⟨w.heap.size,7,none⟩)) rfl (fun W a=>by obtain⟨s0,s1,s2,s3,s4,s5,s6,s7⟩:=a;go_simp) f ?_;refine ag 11 (.string t) rfl (fun W a=>by obtain⟨s0,s1,s2,s3,s4,s5,s6,s7⟩:=a;go_simp) f ?_;refine ag 12 (.int .i64 (t.size:Nat)) rfl (fun W a=>by obtain⟨s0,s1,s2,s3,s4,s5,s6,s7⟩:=a;go_simp) f ?_;have T9:Hid (mn w n y mo d h mi s t W8.drew):=⟨T8.1.drew,T8.2.1,T8.2.2⟩;generalize W8.drew=W9 at *
 refine ah 3 fun K c=>?_;go_simp;go_at_call 43;refine(A W9).mono ?_;rintro e W10⟨rfl,b⟩;have T10:=af (T9.later b);refine Shut.out c _ _ T10.2.2 (fun f=>?_);clear c K b;refine ah 4 fun K c=>?_;go_simp;go_at_call 40;refine(C W10).mono ?_;rintro e W11⟨rfl,b⟩;have T11:=af (T10.later b);refine Shut.out c _ _ T11.2.2 (fun f=>?_);clear c K b;refine ag 5 (.string (B1++AK)) rfl (fun W a=>by obtain⟨s0,s1,s2,s3,s4,s5,s6,s7⟩:=a;go_simp<;>omega) f ?_;refine ah 8 fun K c=>?_;go_simp;go_at_call 40;refine(z W11).mono ?_;rintro e W12⟨rfl,b⟩;have T12:=af (T11.later b);refine Shut.out c _ _ T12.2.2 (fun f=>?_);clear c K b;refine ag 9 (.string (B1++AK++AB)) rfl (fun W a=>by obtain⟨s0,s1,s2,s3,s4,s5,s6,s7⟩:=a;go_simp<;>omega) f ?_;refine ah 13 fun K c=>?_;go_simp;go_at_call 40;refine(CT W12).mono ?_;rintro e W13⟨rfl,b⟩;have T13:=af (T12.later b);refine Shut.out c _ _ T13.2.2 (fun f=>?_);clear c K b;refine ag 14 (.string (B1++AK++AB++AT)) rfl (fun W a=>by obtain⟨s0,s1,s2,s3,s4,s5,s6,s7⟩:=a;go_simp<;>omega) f ?_;refine ah 15 fun K c=>?_;go_simp;refine Shut.out c _ _ T13.2.2 (fun f=>?_);clear c K;refine wpAnyH_done (by kernel_rfl) ?_ _;clear f;obtain⟨B2,hB2⟩:∃x,B1++AK++AB++AT=x:=⟨_,rfl⟩;have zB2:(B2.size:Int)<=2000:=by rw[←hB2];simp only[a0D];omega
 rw[hB2];obtain⟨c0,c1,c2,c3,c4,J,L,M⟩:=T13.2.2;go_wp2_with fail;refine(D W13).mono ?_;rintro e X1⟨rfl,b⟩;have TX:=af (T13.later b);clear b;go_wp2_with fail;refine(r X1).mono ?_;rintro e X2⟨rfl,b⟩;have TY:=af (TX.later b);clear b;go_wp2;go_ret;exact⟨by rw[ae G,←hB2,←hB1];rfl,TY.1⟩
def cG(n t:ByteArray)(N:Nat):ByteArray:=cM (cN t) N (aE 0 t.data.toList) (aL t).size t.size n++aL t
def OZ:ay (leS 4 67324752)=(⟨#[80,75,3,4]⟩:ByteArray):=by decide +kernel
def Bc(n t:ByteArray)(y mo d h mi s:Int)(N:Nat)(w:World)(k:(0<=y/\y<=100000)/\(0<=mo/\mo<=100)/\(0<=d/\d<=100)/\(0<=h/\h<=100)/\(0<=mi/\mi<=100) /\ -100<=s/\s<=100)
  (q:(((((y-1980)*16+mo)*32+d)*32+h)*64+mi)*32+Int.tdiv s 2=(N:Int)) (i:N<4294967296) (r:n.size<65536) (p:t.size<=1048576) :
  CD 48 #[.agg #[n,y,mo,d,h,mi,s,t]] w (.string (cG n t N)):=by
 have j:=cC
 have u:=af (fun W=>pI n t y mo d h mi s N W k q i r p);have f:=af (fun W=>wZ t W p);have v:Hid (∀W,CD 40 #[.int .i64 67324752,.int .i64 4] W (.string (ay (leS 4 67324752)))):=fun W=>aM 67324752 4 W (by omega) (by omega);have o:=gO t;have m:(aL t).size<=1048576:=by unfold aL;split<;>omega
 have A:((aL t).size:Int)<=1048576:=by omega
 have B:(n.size:Int)<65536:=by omega
 have z:Hid (ay (leS 4 67324752)++ez (cN t) N (aE 0 t.data.toList) (aL t).size t.size n.size++n++aL t=cG n t N):=by unfold cG cM;rw[OZ];exact rfl
 have z1:((ay (leS 4 67324752)).size:Int)<=4:=by rw[bu,aB];omega
 have z2:((ez (cN t) N (aE 0 t.data.toList) (aL t).size t.size n.size).size:Int)<=26:=by rw[fp];omega
 generalize ay (leS 4 67324752)=A4 at *
 generalize ez (cN t) N (aE 0 t.data.toList) (aL t).size t.size n.size=FL at *
 generalize cG n t N=RES at *
 generalize cN t=hw at *
 generalize aL t=bd at *
 have T0':Hid (mn w n y mo d h mi s t (w.alloc (.cells #[n,y,mo,d,h,mi,s,t] 49))):=⟨bx,by simp,by simp,by simp,by simp,by simp,by simp,by simp,by simp,by simp⟩;clear k q i r p o m;go_enter func48,ntmps48;go_wp2_with fail;obtain⟨W1,hW1⟩:∃x,w.alloc (.cells #[n,y,mo,d,h,mi,s,t] 49)=x:=⟨_,rfl⟩;rw[hW1]at T0';rw[hW1];have T1:=T0';clear T0' hW1;refine(f W1).mono ?_;rintro e W2⟨rfl,c⟩;have T2:=af (T1.later c);clear c T1 f;go_wp2_with fail;refine wp_region_held_drew (S:=fun W=>qt W w.heap.size n y mo d h mi s t) j T2.2.2 (fun b=>?_);refine ag 1 (.agg #[n,y,mo,d,h,mi,s,t]) rfl (fun W a=>by obtain⟨s0,s1,s2,s3,s4,s5,s6,s7⟩:=a;go_simp) b ?_;refine ag 4 (.pointer w.heap.size) rfl (fun W a=>by obtain⟨s0,s1,s2,s3,s4,s5,s6,s7⟩:=a;go_simp) b ?_;refine ag 5 (.string n) rfl (fun W a=>by obtain⟨s0,s1,s2,s3,s4,s5,s6,s7⟩:=a;go_simp) b ?_;refine ag 7 (.string bd) rfl (fun W a=>by obtain⟨s0,s1,s2,s3,s4,s5,s6,s7⟩:=a;go_simp) b ?_;have T3:Hid (mn w n y mo d h mi s t W2.drew):=⟨T2.1.drew,T2.2.1,T2.2.2⟩;generalize W2.drew=W3 at *
 refine ah 0 fun K g=>?_;go_simp;go_at_call 40;refine(v W3).mono ?_;rintro e W4⟨rfl,c⟩;have T4:=af (T3.later c);refine Shut.out g _ _ T4.2.2 (fun b=>?_);clear g K c;refine ah 2 fun K g=>?_;go_simp;go_at_call 81;refine(u W4).mono ?_;rintro e W5⟨rfl,c⟩;have T5:=af (T4.later c);refine Shut.out g _ _ T5.2.2 (fun b=>?_);clear g K c;refine ag 3 (.string (A4++FL)) rfl (fun W a=>by obtain⟨s0,s1,s2,s3,s4,s5,s6,s7⟩:=a;go_simp<;>omega) b ?_;refine ag 6 (.string (A4++FL++n)) rfl (fun W a=>by obtain⟨s0,s1,s2,s3,s4,s5,s6,s7⟩:=a;go_simp<;>omega) b ?_;refine ag 8 (.string (A4++FL++n++bd)) rfl (fun W a=>by obtain⟨s0,s1,s2,s3,s4,s5,s6,s7⟩:=a;go_simp<;>omega) b ?_;refine ah 9 fun K g=>?_;go_simp;refine Shut.out g _ _ T5.2.2 (fun b=>?_);clear g K;refine wpAnyH_done (by kernel_rfl) ?_ _;clear b;generalize l:A4++FL++n++bd=AA;go_wp2;go_ret;exact⟨by rw[←ae z,←l];rfl,T5.1⟩
def vM(a b c:ByteArray):Nat->ByteArray
 | 0=>a | 1=>b|_=>c
def zm(w:World)(a b c:ByteArray)(t:TypeId):∀i,i<3->(w.alloc (.cells #[a,b,c] t)).cell? ⟨w.heap.size,0+i,none⟩=some (.string (vM a b c i)):=by
 intro i d
 match i,d with
 | 0,_=>simp[vM]
 | 1,_=>simp[vM]
 | 2,_=>simp[vM]
def CJ{c:ByteArray}{n:Nat}(d:a.size<=n)(hb:b.size<=n)(e:c.size<=n)(i:Nat):(vM a b c i).size<=n:=by
 match i with
 | 0=>exact d
 | 1=>exact hb
 | _+2=>exact e
def yP(B b m:Nat)(s:ByteArray)(w:World)(h:Rd w B b m)(V:m<=80000)(X:s.size<=9000) :
  Calls prog 11 #[.pointer b,s] w fun e w'=>(∃t:ByteArray,e = .returned (.string t)/\t.size<=9100/\qs s t)/\Rd w' B b (m+10)/\Below b w w':=by
 have E:=cC
 have O:(s.size:Int)<=9000:=by omega
 go_enter func11,ntmps11;by_cases H:s.toList.isEmpty=true
 . go_wp2;go_ret;exact⟨⟨_,rfl,by omega,qy s⟩,h.mono (by omega),Below.refl _ _⟩
 .
  have L:s.toList.isEmpty=false:=by simpa using H
  have J:0<s.size:=by
   rcases a12 s.size with G|G
   . have e:s=ByteArray.empty:=ByteArray.size_eq_zero_iff.1 G;subst e;exact absurd (by unfold ByteArray.toList ByteArray.toList.loop;rfl) H
   . exact G
  have N:(0:Int)<(s.size:Int):=by omega
  clear H;go_wp2_with fail;refine(cB B b m _ _ h (by omega) (by omega) (by omega)).mono ?_;rintro e w1⟨Z,rfl,I,T,p,n⟩;obtain⟨k,rfl⟩:=a0o I;have C:k<s.size:=by omega
  go_wp2_with fail;refine(cB B b (m+1) _ _ p (by omega) (by omega) (by omega)).mono ?_;rintro e w2⟨r,rfl,r0,r1,g,o⟩;have i:Hid (Rd w2 B b (m+2)/\Below b w w2):=⟨g,n.1.trans o.1⟩;have l:=g.lt;clear p n g o h;have M:r=0∨r=1∨r=2∨r=3∨r=4:=by omega
  have k0:(0:Int)<=(k:Int):=by omega
  have k1:(k:Int)<(s.size:Int):=by omega
  have k2:(k:Int)<=(s.size:Int):=by omega
  have k3:(k:Int)+1<=(s.size:Int):=by omega
  have k5:(0:Int)<=(k:Int)+1:=by omega
  rcases M with rfl|rfl|rfl|rfl|rfl
  .
   go_wp2_with fail;refine wp_region_held_drew (S:=fun _=>True) E trivial (fun f=>?_);refine ag 0 (.string s) rfl (fun W a=>by go_simp) f ?_;refine ag 1 (.int .i64 (k:Nat)) rfl (fun W a=>by go_simp) f ?_;refine ag 2 (.string (s.extract 0 k)) rfl (fun W a=>by go_simp) f ?_;refine ag 3 (.pointer b) rfl (fun W a=>by go_simp) f ?_;refine ag 9 (.string s) rfl (fun W a=>by go_simp) f ?_;refine ag 10 (.int .i64 (k:Nat)) rfl (fun W a=>by go_simp) f ?_;refine ag 11 (.int .i64 ((k:Int)+1)) rfl (fun W a=>by go_simp;exact bK _ (by omega) (by omega)) f ?_;refine ag 12 (.string (s.extract (k+1) s.size)) rfl (fun W a=>by go_simp) f ?_;refine ah 4 fun K j=>?_;go_simp;go_at_call 26;refine(cB B b (m+2) _ _ (show Rd w2.drew B b (m+2)from i.1) (by omega) (by omega) (by omega)).mono ?_;rintro e w3⟨q,rfl,U,q1,c,d⟩;refine Shut.out j _ _ trivial (fun f=>?_);clear j K;obtain⟨y,rfl⟩:=a0o U;have R:y<256:=by omega
   have Y:IntKind.u8.wrap (y:Int)=(y:Int):=xS (by omega) (by omega);have z:Hid (Rd w3 B b (m+3)/\Below b w w3):=⟨c,i.2.drew.trans d.1⟩;have D:=c.lt;clear c d;refine ag 5 (.int .u8 (y:Int)) rfl (fun W a=>by go_simp) f ?_;refine ah 6 fun K j=>?_;go_simp;refine Shut.out j _ _ trivial (fun _=>?_);clear j K f;have F:=DV w3 y R;have v:Hid (Rd (w3.alloc (.cells #[.int .u8 (y:Int)] 5)) B b (m+10)/\Below b w (w3.alloc (.cells #[.int .u8 (y:Int)] 5))):=⟨(z.1.alloc _).mono (by omega),z.2.alloc (a0r D) _⟩;obtain⟨w4,hw4⟩:∃x,w3.alloc (.cells #[.int .u8 (y:Int)] 5)=x:=⟨_,rfl⟩;rw[hw4]at v F;refine eK (S':=fun W=>W=w4) (fun _ _=>trivial) _ _ _ _ ?_;have f:w3.alloc (.cells #[.int .u8 (y:Int)] 5)=w4:=hw4;generalize UInt8.ofNat y=yy at *
   refine ag 7 (.string ⟨[yy].toArray⟩) rfl (fun W a=>by subst a;go_simp) f ?_;refine ag 8 (.string (s.extract 0 k++(⟨[yy].toArray⟩:ByteArray))) rfl (fun W a=>by subst a;go_simp<;>omega) f ?_;refine ag 13 (.string (s.extract 0 k++(⟨[yy].toArray⟩:ByteArray)++s.extract (k+1) s.size)) rfl (fun W a=>by subst a;go_simp<;>omega) f ?_;refine ah 14 fun K j=>?_;go_simp;refine Shut.out j _ _ rfl (fun _=>?_);clear j K;refine wpAnyH_done (by kernel_rfl) ?_ _;clear F f hw4;have A:(s.extract 0 k++(⟨[yy].toArray⟩:ByteArray)++s.extract (k+1) s.size).size<=9100:=by
    have e1:(⟨[yy].toArray⟩:ByteArray).size=1:=rfl;rw[tL,tL,a1Y,a1Y,e1];omega
   have u:=af (Kr s k C yy);generalize s.extract 0 k++(⟨[yy].toArray⟩:ByteArray)++s.extract (k+1) s.size=Zz at *
   go_wp2;go_ret;exact⟨⟨_,rfl,A,u⟩,v.1,v.2⟩
  .
   have u:=af (Kq s k C);have A:(s.extract 0 k).size<=9100:=by rw[a1Y];omega
   go_wp2;go_ret;exact⟨⟨_,rfl,A,u⟩,i.1.mono (by omega),i.2⟩
  .
   go_wp2_with fail;refine(of_le B b (m+2) w2.heap.size 0 3 3 100 _ _ (i.1.alloc _) (by omega) (by omega) (by omega) (a1O l) (zm w2 _ _ _ _) (CJ (by decide) (by decide) (by decide))).mono ?_;rintro e w3⟨t0,P,rfl,c,d⟩;have v:Hid (Rd w3 B b (m+10)/\Below b w w3):=⟨c.mono (by omega),(i.2.alloc (a0r l) _).trans d.1⟩;have A:(s++t0).size<=9100:=by rw[tL];omega
   have Q:(t0.size:Int)<=100:=by omega
   clear c d;go_wp2;go_ret;exact⟨⟨_,rfl,A,Kp s t0⟩,v.1,v.2⟩
  . go_wp2;go_ret;exact⟨⟨_,rfl,by omega,qy s⟩,i.1.mono (by omega),i.2⟩
  . go_wp2;go_ret;exact⟨⟨_,rfl,by omega,qy s⟩,i.1.mono (by omega),i.2⟩
