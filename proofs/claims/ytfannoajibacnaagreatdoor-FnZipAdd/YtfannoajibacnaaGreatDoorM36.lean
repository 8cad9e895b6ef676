/- Texts. -/
import Derived.Test.YtfannoajibacnaaGreatDoorM35
set_option linter.all false
set_option maxRecDepth 100000
set_option maxHeartbeats 6400000
namespace Go.Proofs.YtfannoajibacnaaGreatDoor
open Go.Proofs.Tryz
open Go.RowKit Corb
variable {V p sz y:Nat}{a b:ByteArray}{l:List (Int×Int)}
def Std(V:Nat):Nat->List (Int×Int)->Prop
 | _,[]=>True
 | p,x :: l=>V/2 ^ p%2 ^ x.2.toNat=x.1.toNat/\Std V (p+x.2.toNat) l
def bN(l:List (Int×Int)):Nat:=g9 (bitsOf l)
def lE:bN []=0:=rfl
def fY(x:Int×Int)(l:List (Int×Int)):bN (x :: l)=x.2.toNat+bN l:=by unfold bN bitsOf;rw[a0D,mw]
def dY(a b:List (Int×Int)):bN (a++b)=bN a+bN b:=by unfold bN bitsOf;rw[a0K,uw]
def qx{a b:List (Int×Int)} : ∀{p:Nat},Std V p (a++b)<->Std V p a/\Std V (p+bN a) b:=by
 induction a with
 | nil=>intro p;simp[Std,lE]
 | cons x a ih=>
  intro p;rw[a1q];simp only[Std];rw[ih,fY,and_assoc,a2a]
def Qm: ∀(l:List (Int×Int)) (p:Nat),eQ V p (bitsOf l)=numsOf l->Std V p l:=by
 intro l;induction l with
 | nil=>intro p _;trivial
 | cons x l ih=>
  intro p h;unfold bitsOf numsOf at h;rw[a0D,a0D]at h;simp only[eQ,List.cons.injEq]at h;refine⟨?_,ih _ h.2⟩;rw[←h.1,a0n]
def SU(W:Nat)(h:aZ l=true):Std ((aV l).1+W*2 ^ (aV l).2) 0 l:=Qm l 0 (L4 l W h)
def ts{x:Int×Int}(h:Std V p (x :: l))(a:p+x.2.toNat<=sz):rdN V sz p x.2.toNat=some (x.1.toNat,p+x.2.toNat):=by
 rw[dn a,h.1]
def qV{B:List Int}(a:ap B=true){k:Nat}(e:0<B.getD k 0)(h:Std V p (pcM B k :: l))(f:p+(B.getD k 0).toNat<=sz):dec B V sz p=some ((k:Int),p+(B.getD k 0).toNat):=by
 have d:k<B.length:=by
  rcases a1o k B.length with c|c
  . exact c
  . simp[List.getD,c]at e
 have hb:=nX (io a) d;obtain⟨n,hn⟩:∃n:Nat,B.getD k 0=(n:Int)+1:=⟨(B.getD k 0).toNat-1,by omega⟩;have b:=h.1;unfold pcM at b;simp only at b;rw[EK B 15 k d,a0d (by omega),a0n,a0n,hn,show((n:Int)+1).toNat=n+1 by omega]at b;rw[hn,show((n:Int)+1).toNat=n+1 by omega]at f ⊢;have:=NA a d hn b (by omega);rw[this]
 congr 1
def Sm:(List.range 61).all (fun y=>decide (y<3) || (decide (fnd 3 4 y 27<28)&&decide ((stF 3 4 (fnd 3 4 y 27)).1<=y)))=true:=by decide +kernel
def Rc:(List.range 251).all (fun y=>decide (y<1) || (decide (fnd 1 2 y 29<30)&&decide ((stF 1 2 (fnd 1 2 y 29)).1<=y)))=true:=by decide +kernel
def OV(a:3<=y)(b:y<=60):fnd 3 4 y 27<28/\(stF 3 4 (fnd 3 4 y 27)).1<=y:=by
 have:=a1c.1 Sm y (List.mem_range.2 (by omega));simp only[a1m,a0k,a0v]at this;omega
def Na(a:1<=y)(b:y<=250):fnd 1 2 y 29<30/\(stF 1 2 (fnd 1 2 y 29)).1<=y:=by
 have:=a1c.1 Rc y (List.mem_range.2 (by omega));simp only[a1m,a0k,a0v]at this;omega
def Qd{least group many k:Nat}(b:k<many)(d:(stF least group k).1<=y)(h:Std V p (((y:Int)-((stF least group k).1:Int),((stF least group k).2:Nat)) :: l))(c:p+(stF least group k).2<=sz):scG V sz least group many k p=some (y,p+(stF least group k).2):=by
 unfold scG;rw[a0d b];have a:=ts (sz:=sz) h (by simpa using c);simp only[a0n]at a;rw[a];simp only[a0f]
 congr 2
 omega
def GL(L D:List Int)(t:Tk):Prop:=if isB t then 0<L.getD t.1.toNat 0 else 0<L.getD (257+fnd 3 4 t.2.1.toNat 27) 0/\0<D.getD (fnd 1 2 t.2.2.toNat 29) 0
def nz(B:List Int)(k:Nat):(pcM B k).2.toNat=(B.getD k 0).toNat:=rfl
def Sw{L D:List Int}(okL:ap L=true)(okD:ap D=true){t:Tk}(f:okT t=true)(a:GL L D t)(h:Std V p (db L D t++l))(b:p+bN (db L D t)<=sz) :
  ∃i q,dec L V sz p=some (i,q)/\i≠256/\oneG V sz D i q=some (t,p+bN (db L D t)):=by
 obtain⟨y,lo,c⟩:=t;unfold GL at a;unfold db at h b ⊢;by_cases d:isB (y,lo,c)=true
 .
  rw[a0d d]at h b a ⊢;have hb:0<=y/\y<=255/\lo=0/\c=0:=by unfold isB inB at d;simp only[a0k,a0v]at d;omega
  rw[fY,lE,a1d,nz]at b ⊢;refine⟨_,_,qV okL a h b,?_,?_⟩
  . simp only;omega
  . unfold oneG;rw[a0d (by simp only;omega)];simp only[a0l,a0R,a0Q];omega
 .
  rw[a0e d]at h b a ⊢;have e:isK (y,lo,c)=true:=by unfold okT at f;simpa[d]using f
  have hb:y=0/\3<=lo/\lo<=60/\1<=c/\c<=250:=by unfold isK inB at e;simp only[a0k,a0v]at e;omega
  obtain⟨rfl,g,m,n,o⟩:=hb;obtain⟨x,rfl⟩:=a0r (show 0<=lo by omega);obtain⟨z,rfl⟩:=a0r (show 0<=c by omega);simp only[a0n]at h b a ⊢;obtain⟨f1,f2⟩:=OV (y:=x) (by omega) (by omega);obtain⟨g1,g2⟩:=Na (y:=z) (by omega) (by omega);generalize fnd 3 4 x 27=k at *
  generalize fnd 1 2 z 29=j at *
  simp only[fY,lE,a1d,nz,a0n]at b ⊢;have s1:=h;have s2:=h.2;have s3:=s2.2;have s4:=s3.2;simp only[nz,a0n]at s2 s3 s4;refine⟨_,_,qV okL a.1 s1 (by omega),by omega,?_⟩;unfold oneG;rw[a0e (by omega),show((257+k:Nat):Int).toNat-257=k by omega];unfold gK;rw[Qd f1 f2 s2 (by omega)];simp only[a0f];rw[qV okD a.2 s3 (by omega)];simp only[a0f,a0n];rw[Qd g1 g2 s4 (by omega)];simp only[a0f,a0l,a0R,a1U];omega
def rh(R:List UInt8):List Tk->Option (List UInt8)
 | []=>some R
 | t :: T=>(fX R t).bind fun x=>rh x T
def JK{L D:List Int}(okL:ap L=true)(okD:ap D=true)(n:0<L.getD 256 0) : ∀(T:List Tk) (p:Nat) (R b:List UInt8),(∀t∈T,okT t=true/\GL L D t)->Std V p (T.flatMap (db L D)++(pcM L 256 :: l))->p+bN (T.flatMap (db L D))+(L.getD 256 0).toNat<=sz->rh R T=some b->iP V sz L D p R=some (b,p+bN (T.flatMap (db L D))+(L.getD 256 0).toNat):=by
 intro T;induction T with
 | nil=>
  intro p R b _ h c a;simp only[rh,a0l]at a;subst a;simp only[a2o,a1a,lE,a1d]at h c ⊢;exact yb (qV okL n h c)
 | cons t T ih=>
  intro p R b e h c a;simp only[a0W,a0I,dY]at h c ⊢;obtain⟨m,h2⟩:=e t (by simp);obtain⟨i,q,g,j,k⟩:=Sw (sz:=sz) okL okD m h2 h (by omega);rw[tL g j,k];simp only[a0f];simp only[rh]at a;rcases f:fX R t with _|x
  . rw[f]at a;cases a
  . rw[f]at a;simp only[a0f]at a ⊢;rw[ih (p+bN (db L D t)) x b (fun t' d=>e t' (by simp[d])) (qx.1 h).2 (by omega) a,a2a p]
def Mr{L:List UInt8}(d:L.length<=300):∀(n p:Nat),L.length-p<=n->p<=L.length->rh (L.take p) (bq L p)=some L:=by
 intro n;induction n with
 | zero=>
  intro p b h2;have e:p=L.length:=by omega
  subst e;rw[fu (a2W _)];simp only[rh,a2y]
 | succ n ih=>
  intro p b h2;by_cases a:p<L.length
  . rw[jp a];simp only[rh];rw[JU a d];have f:=iM L p;have c:=rR a;exact ih _ (by omega) c
  .
   have e:p=L.length:=by omega
   subst e;rw[fu (a2W _)];simp only[rh,a2y]
def ye{L:List UInt8}(a:L.length<=300):rh [] (bq L 0)=some L:=Mr a L.length 0 (by omega) (a0g _)
def gG(a b:ByteArray):ByteArray:=if b.size<a.size then b else a
def fU(h:b.size<a.size):gG a b=b:=a0d h
def iq(h:¬ b.size<a.size):gG a b=a:=a0e h
def byO(s:ByteArray):ByteArray:=⟨(mV s).toArray⟩
def cw(s:ByteArray):ByteArray:=gG (gG (byS s) (byF s)) (byO s)
def jV(s:ByteArray):Nat->ByteArray
 | 1=>byS s
 | 2=>gG (byS s) (byF s)
 | _=>cw s
def Cv(s:ByteArray)(h:¬ s.size<=300):byO s=⟨#[]⟩:=by unfold byO mV;rw[a0e h]
def Dz(s:ByteArray)(h:¬ s.size<=300):cw s=⟨#[]⟩:=by
 unfold cw;rw[Cw s h,Cu s h,Cv s h];rfl
def zU(l:List (Int×Int)):(cS l).length=((aV l).2+7)/8:=by unfold cS;exact aB _ _
def xS{l:List UInt8}(h:l.length<=100000):((⟨l.toArray⟩:ByteArray).size:Int)<=100000:=by
 have:(⟨l.toArray⟩:ByteArray).size=l.length:=by simp[ByteArray.size]
 omega
def IZ(h:lOk l=true):(aV l).2<=64000:=by
 unfold lOk at h;simp only[a0k,a0v]at h;have a:=eK (0,0) l (fun x c=>by
  have h2:=h.1;unfold aZ at h2;exact(aT.1 (a1c.1 h2 x c)).1.2)
 have b:bh (0,0) l=aV l:=rfl;rw[b]at a;omega
def mz{B:Nat}{a w:World}(h:Below B a w){r:Nat}(b:B<=w.heap.size)(d:B<=r)(o:Obj):Below B a (w.putObj r o):=h.grown (grownBy_putObj' w r o) b (fun j c=>by cases c;exact d)
def vK(s:ByteArray):((byS s).size:Int)<=100000/\((byF s).size:Int)<=100000/\((byO s).size:Int)<=100000:=by
 by_cases a:s.size<=300
 .
  have c:=jJ s a;have d:=fE s;refine⟨xS ?_,xS ?_,xS ?_⟩
  .
   unfold gJ
   split
   . rw[a0i,aB,kv];omega
   . simp
  . unfold mJ;rw[a0d a];show(cS (iZ s)).length<=_;rw[zU];have b:=IZ (rf s a);omega
  . unfold mV;rw[a0d a];show(cS (jS _)).length<=_;rw[zU];have b:=IZ (vq _ c d);omega
 . rw[Cw s a,Cu s a,Cv s a];exact⟨by decide,by decide,by decide⟩
def sS(s:ByteArray)(w:World)(O:s.size<=1048576)(N:dp w) :
  Ds 71 #[s] w (.string (cw s)):=by
 have L:=@run_makeMap prog;have H:=underlying153;have c:=a10;obtain⟨b,hb⟩:∃b,w.heap.size=b:=⟨_,rfl⟩;have m0:=Jl w;obtain⟨w1,V,m1,e1⟩:=pf H c _ _ _ 0 (.func (.func 116) #[] #[]) m0 (by simp);obtain⟨w2,X,m2,e2⟩:=pf H c _ _ _ 1 (.func (.func 117) #[] #[]) m1 (by simp);obtain⟨w3,Y,m3,e3⟩:=pf H c _ _ _ 2 (.func (.func 118) #[] #[]) m2 (by simp);have z1:w1.heap.size=w.heap.size+1:=by rw[e1];simp[World.putObj]
 have z2:w2.heap.size=w.heap.size+1:=by rw[e2];simpa[World.putObj]using z1
 have g:Below w.heap.size w w1:=by rw[e1];exact mz ((a0c _ w).alloc (a0a _) _) (by simp) (a0a _) _
 have B:Below w.heap.size w w2:=by rw[e2];exact mz g (by omega) (a0a _) _
 have C:Below w.heap.size w w3:=by rw[e3];exact mz B (by omega) (a0a _) _
 simp only[a1a,a1q]at m3;have I:=af (fun W k v (h:lB W w.heap.size [(0,.func (.func 116) #[] #[]),(1,.func (.func 117) #[] #[]),(2,.func (.func 118) #[] #[])]) T=>Jk H c W w.heap.size _ k v false h T (by decide));have g0:=ae I w3 0 (.func (.func 116) #[] #[]) m3 (by simp);have M:=af m3;have y:=af C;have S:=af N;have J:=af O;have z:=af (vK s);clear e1 e2 e3 z1 z2 g B C m0 m1 m2 m3 H c O N hb b;go_enter func71,ntmps71;go_wp2_with fail;refine(sV s w3 J).mono ?_;rintro e x1⟨rfl,K⟩;have D:=M.later K;have g:=aj y K;have eS:(⟨(gJ s.data.toList).toArray⟩:ByteArray)=jV s 1:=rfl;rw[eS];clear K M y V X Y g0 L eS;go_wp2_with fail
 go_loopw [4,5,6] (fun v i _ wr=>∃k:Nat,1<=k/\k<=3/\i = .int .i64 k/\v = .string (jV s k)/\lB wr w.heap.size [(0,.func (.func 116) #[] #[]),(1,.func (.func 117) #[] #[]),(2,.func (.func 118) #[] #[])]/\Below w.heap.size w wr) (fun _ i _ _=>3-(intOf i).toNat)
 case atStart=>exact⟨1,by omega,by omega,rfl,rfl,D,g⟩
 case round=>
  obtain⟨k,u,x,rfl,rfl,t,a⟩:=hrel;clear D g;rcases (show k=1∨k=2∨k=3 by omega)with c|c|c
  .
   have l:(k:Int)=1:=by omega
   have E:(k:Int)<=2:=by omega
   have g1:(Instr.lookup 153 (.map (some w.heap.size)) (.int .i64 (k:Int)) false).run prog wr = .ok (.func (.func 117) #[] #[]) wr:=by rw[l];exact I wr 1 (.func (.func 117) #[] #[]) t (by simp)
   have p:=af (sQ s wr J);have eF:(⟨(mJ s).toArray⟩:ByteArray)=byF s:=rfl;rw[eF]at p;have f:jV s k=byS s:=by rw[c];rfl
   have j:Hid (jV s (k+1)=gG (byS s) (byF s)):=by show _=_;rw[c];rfl
   obtain⟨P,Q,U⟩:=ae z;rw[f];have o:=af c;have d:=af (a0b t a);clear t a c u x f eF l;generalize byF s=F at *
   generalize byS s=A at *
   go_wp2_with fail;refine p.mono ?_;rintro e x2⟨rfl,r⟩;have n:=af (a0b (d.1.later r) (aj d.2 r));clear r d p;by_cases m:F.size<A.size
   .
    have G:(F.size:Int)<(A.size:Int):=by omega
    have q:=af (fU m);go_wp2;go_roundw
    case rel=>exact⟨k+1,by omega,by have:=ae o;omega,by go_num,by rw[ae j,ae q],n.1,n.2⟩
    case measure=>have:=ae o;simp[intOf];omega
   .
    have q:=af (iq m);go_wp2;go_roundw
    case rel=>exact⟨k+1,by omega,by have:=ae o;omega,by go_num,by rw[ae j,ae q],n.1,n.2⟩
    case measure=>have:=ae o;simp[intOf];omega
  .
   have l:(k:Int)=2:=by omega
   have E:(k:Int)<=2:=by omega
   have g1:(Instr.lookup 153 (.map (some w.heap.size)) (.int .i64 (k:Int)) false).run prog wr = .ok (.func (.func 118) #[] #[]) wr:=by rw[l];exact I wr 2 (.func (.func 118) #[] #[]) t (by simp)
   have p:=af (wm s wr J (S.later a));have eF:(⟨(mV s).toArray⟩:ByteArray)=byO s:=rfl;rw[eF]at p;have f:jV s k=gG (byS s) (byF s):=by rw[c];rfl
   have j:Hid (jV s (k+1)=gG (gG (byS s) (byF s)) (byO s)):=by show _=_;rw[c];rfl
   obtain⟨P,Q,U⟩:=ae z;rw[f];have o:=af c;have d:=af (a0b t a);clear t a c u x f eF P Q l;generalize byO s=F at *
   generalize gG (byS s) (byF s)=A at *
   go_wp2_with fail;refine p.mono ?_;rintro e x2⟨rfl,r⟩;have n:=af (a0b (d.1.later r) (aj d.2 r));clear r d p;by_cases m:F.size<A.size
   .
    have G:(F.size:Int)<(A.size:Int):=by omega
    have q:=af (fU m);go_wp2;go_roundw
    case rel=>exact⟨k+1,by omega,by have:=ae o;omega,by go_num,by rw[ae j,ae q],n.1,n.2⟩
    case measure=>have:=ae o;simp[intOf];omega
   .
    have q:=af (iq m);go_wp2;go_roundw
    case rel=>exact⟨k+1,by omega,by have:=ae o;omega,by go_num,by rw[ae j,ae q],n.1,n.2⟩
    case measure=>have:=ae o;simp[intOf];omega
  .
   have E:¬ (k:Int)<=2:=by omega
   have f:Hid (jV s k=cw s):=by show _=_;rw[c];rfl
   have R:=af a;clear t a c u x;generalize jV s k=A at *
   go_wp2;go_ret;exact⟨by rw[←ae f];rfl,R⟩
def yL(s:ByteArray)(w:World)(r:s.size<=300) :
  Ds 132 #[s] w (.string (cw s)):=by
 have J:¬ (300:Int)<(s.size:Int):=by omega
 have m:=af (fun W=>D9 s W r);have n:=af (fun W=>D7 s W r);have o:=af (fun W=>KZ s W r);have e1:(⟨(leS 5 (iQ s.size)++s.data.toList).toArray⟩:ByteArray)=jV s 1:=by
  show _=byS s;unfold byS gJ;rw[a0d (by rw[kv];exact r),kv]
 have e2:(⟨(eJ s).toArray⟩:ByteArray)=byF s:=by unfold byF mJ;rw[a0d r]
 have e3:(⟨(nt s).toArray⟩:ByteArray)=byO s:=by unfold byO mV;rw[a0d r]
 rw[e1]at m;rw[e2]at n;rw[e3]at o;have z:=af (vK s);clear r e1 e2 e3;go_enter func132,ntmps132;go_wp2_with fail;refine(m _).mono ?_;rintro e x1⟨rfl,D⟩;have B:=af D;clear D;go_wp2_with fail;refine(n _).mono ?_;rintro e x2⟨rfl,E⟩;have C:=af (aj B E);clear E B;go_wp2_with fail;refine(o _).mono ?_;rintro e x3⟨rfl,G⟩;have p:=aj C G;have t:Below w.heap.size w (x3.alloc (.cells #[.string (byF s),.string (byO s)] 9)):=p.alloc p.size _;have c0:(x3.alloc (.cells #[.string (byF s),.string (byO s)] 9)).cell? ⟨x3.heap.size,0,none⟩=some (.string (byF s)):=by simp
 have c1:(x3.alloc (.cells #[.string (byF s),.string (byO s)] 9)).cell? ⟨x3.heap.size,1,none⟩=some (.string (byO s)):=by simp
 have y:=af t;clear G p t C m n o;go_wp2_with fail;generalize x3.alloc (.cells #[.string (byF s),.string (byO s)] 9)=x4 at *
 generalize x3.heap.size=g at *
 go_loopw [3,5] (fun v i wr=>∃k:Nat,k<=2/\i = .int .i64 k/\v = .string (jV s (k+1))/\wr=x4) (fun _ i _=>2-(intOf i).toNat)
 case atStart=>exact⟨0,by omega,rfl,rfl,rfl⟩
 case round=>
  obtain⟨k,q,rfl,rfl,x⟩:=hrel;rw[x];clear x;obtain⟨H,I,K⟩:=ae z;rcases (show k=0∨k=1∨k=2 by omega)with b|b|b
  .
   have u:(k:Int)<2:=by omega
   have c:x4.cell? ⟨g,k,none⟩=some (.string (byF s)):=by rw[b];exact c0
   have a:jV s (k+1)=byS s:=by rw[b];rfl
   have d:Hid (jV s (k+1+1)=gG (byS s) (byF s)):=by show _=_;rw[b];rfl
   rw[a];have j:=af b;clear b a c0 c1 q;generalize byF s=F at *
   generalize byS s=A at *
   by_cases f:F.size<A.size
   .
    have h:(F.size:Int)<(A.size:Int):=by omega
    have l:=af (fU f);go_wp2;go_roundw
    case rel=>exact⟨k+1,by have:=ae j;omega,by go_num,by rw[ae d,ae l],by first|rfl|trivial⟩
    case measure=>have:=ae j;simp[intOf];omega
   .
    have h:¬ (F.size:Int)<(A.size:Int):=by omega
    have l:=af (iq f);go_wp2;go_roundw
    case rel=>exact⟨k+1,by have:=ae j;omega,by go_num,by rw[ae d,ae l],by first|rfl|trivial⟩
    case measure=>have:=ae j;simp[intOf];omega
  .
   have u:(k:Int)<2:=by omega
   have c:x4.cell? ⟨g,k,none⟩=some (.string (byO s)):=by rw[b];exact c1
   have a:jV s (k+1)=gG (byS s) (byF s):=by rw[b];rfl
   have d:Hid (jV s (k+1+1)=gG (gG (byS s) (byF s)) (byO s)):=by show _=_;rw[b];rfl
   rw[a];have j:=af b;clear b a c0 c1 q H I;generalize byO s=F at *
   generalize gG (byS s) (byF s)=A at *
   by_cases f:F.size<A.size
   .
    have h:(F.size:Int)<(A.size:Int):=by omega
    have l:=af (fU f);go_wp2;go_roundw
    case rel=>exact⟨k+1,by have:=ae j;omega,by go_num,by rw[ae d,ae l],by first|rfl|trivial⟩
    case measure=>have:=ae j;simp[intOf];omega
   .
    have h:¬ (F.size:Int)<(A.size:Int):=by omega
    have l:=af (iq f);go_wp2;go_roundw
    case rel=>exact⟨k+1,by have:=ae j;omega,by go_num,by rw[ae d,ae l],by first|rfl|trivial⟩
    case measure=>have:=ae j;simp[intOf];omega
  .
   have u:¬ (k:Int)<2:=by omega
   have a:Hid (jV s (k+1)=cw s):=by show _=_;rw[b];rfl
   clear b c0 c1 q;generalize jV s (k+1)=A at *
   go_wp2;go_ret;exact⟨by rw[←ae a];rfl,y⟩
def tD(s:ByteArray)(w:World)(c:s.size<=1048576) :
  Ds 132 #[s] w (.string (cw s)):=by
 by_cases h:s.size<=300
 . exact yL s w h
 .
  have b:(300:Int)<(s.size:Int):=by omega
  have a:=af (Dz s h);clear h;go_enter func132,ntmps132;go_wp2;go_ret;exact⟨by rw[ae a];rfl,a0c _ _⟩
def dh(s:ByteArray):Nat:=if (cw s).size<s.size then 8 else 0
def aO(s:ByteArray):ByteArray:=if (cw s).size<s.size then cw s else s
def iG(s:ByteArray):((cw s).size:Int)<=100000:=by
 obtain⟨c,h2,d⟩:=vK s;have key:∀a b:ByteArray,(a.size:Int)<=100000->(b.size:Int)<=100000->((gG a b).size:Int)<=100000:=fun a b e hb=>by
  by_cases h:b.size<a.size
  . rw[fU h];exact hb
  . rw[iq h];exact e
 unfold cw;exact key _ _ (key _ _ c h2) d
def zr(s:ByteArray)(w:World)(d:s.size<=1048576) :
  Ds 98 #[s] w (.tuple #[.int .i64 (dh s:Nat),.string (aO s)]):=by
 have b:=af (tD s w d);unfold dh aO;generalize cw s=x at *
 clear d;by_cases h:x.size<s.size
 .
  have f:(x.size:Int)<(s.size:Int):=by omega
  rw[a0d h,a0d h];clear h;go_enter func98,ntmps98;go_wp2_with fail;refine b.mono ?_;rintro e w1⟨rfl,a⟩;have c:=af a;clear a b;go_wp2
  go_ret2
  exact⟨rfl,c⟩
 .
  have f:¬ (x.size:Int)<(s.size:Int):=by omega
  rw[a0e h,a0e h];clear h;go_enter func98,ntmps98;go_wp2_with fail;refine b.mono ?_;rintro e w1⟨rfl,a⟩;have c:=af a;clear a b;go_wp2
  go_ret2
  exact⟨rfl,c⟩
def si(W:World)(g:Nat)(n:ByteArray)(y mo d h mi s:Int)(t:ByteArray):Prop:=W.cell? ⟨g,0,none⟩=some (.string n)/\W.cell? ⟨g,1,none⟩=some (.int .i64 y)/\W.cell? ⟨g,2,none⟩=some (.int .i64 mo)/\W.cell? ⟨g,3,none⟩=some (.int .i64 d)/\W.cell? ⟨g,4,none⟩=some (.int .i64 h)/\W.cell? ⟨g,5,none⟩=some (.int .i64 mi)/\W.cell? ⟨g,6,none⟩=some (.int .i64 s)/\W.cell? ⟨g,7,none⟩=some (.string t)
def nv(w:World)(n:ByteArray)(y mo d h mi s:Int)(t:ByteArray)(W:World):Prop:=Below w.heap.size w W/\w.heap.size<W.heap.size/\si W w.heap.size n y mo d h mi s t
def nv.later{w W W':World}{n t:ByteArray}{y mo d h mi s:Int}(k:nv w n y mo d h mi s t W)(hb:Below W.heap.size W W'):nv w n y mo d h mi s t W':=by
 have a:∀j,W'.cell? ⟨w.heap.size,j,none⟩=W.cell? ⟨w.heap.size,j,none⟩:=fun j=>hb.cell (p:=⟨w.heap.size,j,none⟩) k.2.1;obtain⟨c,b,e0,e1,e2,e3,e4,e5,e6,e7⟩:=k;exact⟨c.trans (hb.mono (a0s b)),a0h b hb.size,(a 0).trans e0,(a 1).trans e1,(a 2).trans e2,(a 3).trans e3,(a 4).trans e4,(a 5).trans e5,(a 6).trans e6,(a 7).trans e7⟩
def Qx(how st crc pk lg n:Nat):fp how st crc pk lg n=ax (leS 2 20)++ax (leS 2 0)++ax (leS 2 how)++ax (leS 4 st)++ax (leS 4 crc)++ax (leS 4 pk)++ax (leS 4 lg)++ax (leS 2 n)++ax (leS 2 0):=by
 have c:∀a b:ByteArray,a.data.toList=b.data.toList->a=b:=fun a b h=>by
  cases a;cases b
  simp only[ByteArray.mk.injEq];exact Array.toList_inj.1 h
 apply c;unfold fp ax;simp
def ru(n t:ByteArray)(y mo d h mi s:Int)(N:Nat)(w:World)(k:(0<=y/\y<=100000)/\(0<=mo/\mo<=100)/\(0<=d/\d<=100)/\(0<=h/\h<=100)/\(0<=mi/\mi<=100) /\ -100<=s/\s<=100)
  (u:(((((y-1980)*16+mo)*32+d)*32+h)*64+mi)*32+Int.tdiv s 2=(N:Int)) (l:N<4294967296) (I:n.size<65536) (v:t.size<=1048576) :
  Ds 97 #[.agg #[n,y,mo,d,h,mi,s,t]] w (.string (fp (dh t) N (aE 0 t.data.toList) (aO t).size t.size n.size)):=by
 have i:=cE
 have o:aE 0 t.data.toList<4294967296:=ig _ _ (by omega);have p:=iG t;have m:(aO t).size<=1048576:=by unfold aO;split<;>omega
 have q:dh t<=8:=by unfold dh;split<;>omega
 have j:Hid (∀W,Ds 92 #[.int .i64 ((20:Nat):Int),.int .i64 2] W (.string (ax (leS 2 (20))))):=fun W=>aP (20) 2 W (by omega) (by omega);have r:Hid (∀W,Ds 92 #[.int .i64 ((0:Nat):Int),.int .i64 2] W (.string (ax (leS 2 (0))))):=fun W=>aP (0) 2 W (by omega) (by omega);have B:Hid (∀W,Ds 92 #[.int .i64 ((dh t:Nat):Int),.int .i64 2] W (.string (ax (leS 2 (dh t))))):=fun W=>aP (dh t) 2 W (by omega) (by omega);have E:Hid (∀W,Ds 92 #[.int .i64 ((N:Nat):Int),.int .i64 4] W (.string (ax (leS 4 (N))))):=fun W=>aP (N) 4 W (by omega) (by omega);have C:Hid (∀W,Ds 92 #[.int .i64 ((aE 0 t.data.toList:Nat):Int),.int .i64 4] W (.string (ax (leS 4 (aE 0 t.data.toList))))):=fun W=>aP (aE 0 t.data.toList) 4 W (by omega) (by omega);have z:Hid (∀W,Ds 92 #[.int .i64 (((aO t).size:Nat):Int),.int .i64 4] W (.string (ax (leS 4 ((aO t).size))))):=fun W=>aP ((aO t).size) 4 W (by omega) (by omega);have CT:Hid (∀W,Ds 92 #[.int .i64 ((t.size:Nat):Int),.int .i64 4] W (.string (ax (leS 4 (t.size))))):=fun W=>aP (t.size) 4 W (by omega) (by omega);have D:Hid (∀W,Ds 92 #[.int .i64 ((n.size:Nat):Int),.int .i64 2] W (.string (ax (leS 2 (n.size))))):=fun W=>aP (n.size) 2 W (by omega) (by omega);have F:Hid (∀W,Ds 131 #[.agg #[y,mo,d,h,mi,s]] W (.int .i64 ((N:Nat):Int))):=fun W=>by
  have:=Lc y mo d h mi s W k;rw[u]at this;exact this
 have A:Hid (∀W,Ds 95 #[t] W (.int .i64 ((aE 0 t.data.toList:Nat):Int))):=fun W=>(uu t W (by unfold maxLen;omega)).mono fun e w' ⟨H,h2⟩=>⟨H,by rw[h2];exact a0c _ _⟩;have g:=af (fun W=>zr t W v);have G:=af (Qx (dh t) N (aE 0 t.data.toList) (aO t).size t.size n.size);have zz:∀many V,many<=4->((ax (leS many V)).size:Int)<=4:=fun many V O=>by rw[bF,aB];omega
 have z1:=zz 2 20 (by omega);have z2:=zz 2 0 (by omega);have z3:=zz 2 (dh t) (by omega);have z4:=zz 4 N (by omega);have z5:=zz 4 (aE 0 t.data.toList) (by omega);have z6:=zz 4 (aO t).size (by omega);have z7:=zz 4 t.size (by omega);have z8:=zz 2 n.size (by omega);generalize ax (leS 2 20)=A20 at *
 generalize ax (leS 2 0)=A0 at *
 generalize ax (leS 2 (dh t))=AH at *
 generalize ax (leS 4 N)=AN at *
 generalize ax (leS 4 (aE 0 t.data.toList))=AK at *
 generalize ax (leS 4 (aO t).size)=AB at *
 generalize ax (leS 4 t.size)=AT at *
 generalize ax (leS 2 n.size)=AM at *
 generalize fp (dh t) N (aE 0 t.data.toList) (aO t).size t.size n.size=RES at *
 generalize dh t=hw at *
 generalize aO t=bd at *
 generalize aE 0 t.data.toList=cr at *
 have T0':Hid (nv w n y mo d h mi s t (w.alloc (.cells #[n,y,mo,d,h,mi,s,t] 26))):=⟨cC,by simp,by simp,by simp,by simp,by simp,by simp,by simp,by simp,by simp⟩;clear k u l I v o p m q zz;go_enter func97,ntmps97;go_wp2_with fail;obtain⟨W1,hW1⟩:∃x,w.alloc (.cells #[n,y,mo,d,h,mi,s,t] 26)=x:=⟨_,rfl⟩;rw[hW1]at T0';rw[hW1];have T1:=T0';clear T0' hW1;refine(g W1).mono ?_;rintro e W2⟨rfl,b⟩;have T2:=af (T1.later b);clear b T1 g;go_wp2_with fail;refine wp_region_held_drew (S:=fun W=>si W w.heap.size n y mo d h mi s t) i T2.2.2 (fun f=>?_);refine ag 3 (.int .i64 (hw:Nat)) rfl (fun W a=>by obtain⟨s0,s1,s2,s3,s4,s5,s6,s7⟩:=a;go_simp) f ?_;refine ag 6 (.pointer (some ⟨w.heap.size,1,none⟩)) rfl (fun W a=>by obtain⟨s0,s1,s2,s3,s4,s5,s6,s7⟩:=a;go_simp) f ?_;refine ag 7 (.agg #[y,mo,d,h,mi,s]) rfl (fun W a=>by obtain⟨s0,s1,s2,s3,s4,s5,s6,s7⟩:=a;go_simp) f ?_;have T3:Hid (nv w n y mo d h mi s t W2.drew):=⟨T2.1.drew,T2.2.1,T2.2.2⟩;generalize W2.drew=W3 at *
 refine ah 0 fun K c=>?_;go_simp;go_at_call 92;refine(j W3).mono ?_;rintro e W4⟨rfl,b⟩;have T4:=af (T3.later b);refine Shut.out c _ _ T4.2.2 (fun f=>?_);clear c K b;refine ah 1 fun K c=>?_;go_simp;go_at_call 92;refine(r W4).mono ?_;rintro e W5⟨rfl,b⟩;have T5:=af (T4.later b);refine Shut.out c _ _ T5.2.2 (fun f=>?_);clear c K b;refine ag 2 (.string (A20++A0)) rfl (fun W a=>by obtain⟨s0,s1,s2,s3,s4,s5,s6,s7⟩:=a;go_simp<;>omega) f ?_;refine ah 4 fun K c=>?_;go_simp;go_at_call 92;refine(B W5).mono ?_;rintro e W6⟨rfl,b⟩;have T6:=af (T5.later b);refine Shut.out c _ _ T6.2.2 (fun f=>?_);clear c K b;refine ag 5 (.string (A20++A0++AH)) rfl (fun W a=>by obtain⟨s0,s1,s2,s3,s4,s5,s6,s7⟩:=a;go_simp<;>omega) f ?_;refine ah 8 fun K c=>?_;go_simp;go_at_call 131;refine(F W6).mono ?_;rintro e W7⟨rfl,b⟩;have T7:=af (T6.later b);refine Shut.out c _ _ T7.2.2 (fun f=>?_);clear c K b;refine ah 9 fun K c=>?_;go_simp;go_at_call 92;refine(E W7).mono ?_;rintro e W8⟨rfl,b⟩;have T8:=af (T7.later b);refine Shut.out c _ _ T8.2.2 (fun f=>?_);clear c K b;refine ag 10 (.string (A20++A0++AH++AN)) rfl (fun W a=>by obtain⟨s0,s1,s2,s3,s4,s5,s6,s7⟩:=a;go_simp<;>omega) f ?_;refine ah 11 fun K c=>?_;go_simp;refine Shut.out c _ _ T8.2.2 (fun f=>?_);clear c K;refine wpAnyH_done (by kernel_rfl) ?_ _;clear f;obtain⟨B1,hB1⟩:∃x,A20++A0++AH++AN=x:=⟨_,rfl⟩;have zB1:(B1.size:Int)<=1000:=by rw[←hB1];simp only[a0H];omega
 rw[hB1];go_wp2_with fail;refine wp_region_held_drew (S:=fun W=>si W w.heap.size n y mo d h mi s t) i T8.2.2 (fun f=>?_);refine ag 0 (.string B1) rfl (fun W a=>by obtain⟨s0,s1,s2,s3,s4,s5,s6,s7⟩:=a;go_simp) f ?_;refine ag 1 (.pointer (some ⟨w.heap.size,7,none⟩)) rfl (fun W a=>by obtain⟨s0,s1,s2,s3,s4,s5,s6,s7⟩:=a;go_simp) f ?_;refine ag 2 (.string t) rfl (fun W a=>by obtain⟨s0,s1,s2,s3,s4,s5,s6,s7⟩:=a;go_simp) f ?_;refine ag 6 (.string bd) rfl (fun W a=>by obtain⟨s0,s1,s2,s3,s4,s5,s6,s7⟩:=a;go_simp) f ?_;refine ag 7 (.int .i64 (bd.size:Nat)) rfl (fun W a=>by obtain⟨s0,s1,s2,s3,s4,s5,s6,s7⟩:=a;go_simp) f ?_;refine ag 10 (.pointer (some ⟨w.heap.size,7,none⟩)) rfl (fun W a=>by obtain⟨s0,s1,s2,s3,s4,s5,s6,s7⟩:=a;go_simp) f ?_;refine ag 11 (.string t) rfl (fun W a=>by obtain⟨s0,s1,s2,s3,s4,s5,s6,s7⟩:=a;go_simp) f ?_;refine ag 12 (.int .i64 (t.size:Nat)) rfl (fun W a=>by obtain⟨s0,s1,s2,s3,s4,s5,s6,s7⟩:=a;go_simp) f ?_;have T9:Hid (nv w n y mo d h mi s t W8.drew):=⟨T8.1.drew,T8.2.1,T8.2.2⟩;generalize W8.drew=W9 at *
 refine ah 3 fun K c=>?_;go_simp;go_at_call 95;refine(A W9).mono ?_;rintro e W10⟨rfl,b⟩;have T10:=af (T9.later b);refine Shut.out c _ _ T10.2.2 (fun f=>?_);clear c K b;refine ah 4 fun K c=>?_;go_simp;go_at_call 92;refine(C W10).mono ?_;rintro e W11⟨rfl,b⟩;have T11:=af (T10.later b);refine Shut.out c _ _ T11.2.2 (fun f=>?_);clear c K b;refine ag 5 (.string (B1++AK)) rfl (fun W a=>by obtain⟨s0,s1,s2,s3,s4,s5,s6,s7⟩:=a;go_simp<;>omega) f ?_;refine ah 8 fun K c=>?_;go_simp;go_at_call 92;refine(z W11).mono ?_;rintro e W12⟨rfl,b⟩;have T12:=af (T11.later b);refine Shut.out c _ _ T12.2.2 (fun f=>?_);clear c K b;refine ag 9 (.string (B1++AK++AB)) rfl (fun W a=>by obtain⟨s0,s1,s2,s3,s4,s5,s6,s7⟩:=a;go_simp<;>omega) f ?_;refine ah 13 fun K c=>?_;go_simp;go_at_call 92;refine(CT W12).mono ?_;rintro e W13⟨rfl,b⟩;have T13:=af (T12.later b);refine Shut.out c _ _ T13.2.2 (fun f=>?_);clear c K b;refine ag 14 (.string (B1++AK++AB++AT)) rfl (fun W a=>by obtain⟨s0,s1,s2,s3,s4,s5,s6,s7⟩:=a;go_simp<;>omega) f ?_;refine ah 15 fun K c=>?_;go_simp;refine Shut.out c _ _ T13.2.2 (fun f=>?_);clear c K;refine wpAnyH_done (by kernel_rfl) ?_ _;clear f;obtain⟨B2,hB2⟩:∃x,B1++AK++AB++AT=x:=⟨_,rfl⟩;have zB2:(B2.size:Int)<=2000:=by rw[←hB2];simp only[a0H];omega
 rw[hB2];obtain⟨c0,c1,c2,c3,c4,J,L,M⟩:=T13.2.2;go_wp2_with fail;refine(D W13).mono ?_;rintro e X1⟨rfl,b⟩;have TX:=af (T13.later b);clear b;go_wp2_with fail;refine(r X1).mono ?_;rintro e X2⟨rfl,b⟩;have TY:=af (TX.later b);clear b;go_wp2;go_ret;exact⟨by rw[ae G,←hB2,←hB1];rfl,TY.1⟩
def da(n t:ByteArray)(N:Nat):ByteArray:=df (dh t) N (aE 0 t.data.toList) (aO t).size t.size n++aO t
def Sq:ax (leS 4 67324752)=(⟨#[80,75,3,4]⟩:ByteArray):=by decide +kernel
def Ea(n t:ByteArray)(y mo d h mi s:Int)(N:Nat)(w:World)(k:(0<=y/\y<=100000)/\(0<=mo/\mo<=100)/\(0<=d/\d<=100)/\(0<=h/\h<=100)/\(0<=mi/\mi<=100) /\ -100<=s/\s<=100)
  (q:(((((y-1980)*16+mo)*32+d)*32+h)*64+mi)*32+Int.tdiv s 2=(N:Int)) (i:N<4294967296) (r:n.size<65536) (p:t.size<=1048576) :
  Ds 62 #[.agg #[n,y,mo,d,h,mi,s,t]] w (.string (da n t N)):=by
 have j:=cE
 have u:=af (fun W=>ru n t y mo d h mi s N W k q i r p);have f:=af (fun W=>zr t W p);have v:Hid (∀W,Ds 92 #[.int .i64 67324752,.int .i64 4] W (.string (ax (leS 4 67324752)))):=fun W=>aP 67324752 4 W (by omega) (by omega);have o:=iG t;have m:(aO t).size<=1048576:=by unfold aO;split<;>omega
 have A:((aO t).size:Int)<=1048576:=by omega
 have B:(n.size:Int)<65536:=by omega
 have z:Hid (ax (leS 4 67324752)++fp (dh t) N (aE 0 t.data.toList) (aO t).size t.size n.size++n++aO t=da n t N):=by unfold da df;rw[Sq];exact rfl
 have z1:((ax (leS 4 67324752)).size:Int)<=4:=by rw[bF,aB];omega
 have z2:((fp (dh t) N (aE 0 t.data.toList) (aO t).size t.size n.size).size:Int)<=26:=by rw[fV];omega
 generalize ax (leS 4 67324752)=A4 at *
 generalize fp (dh t) N (aE 0 t.data.toList) (aO t).size t.size n.size=FL at *
 generalize da n t N=RES at *
 generalize dh t=hw at *
 generalize aO t=bd at *
 have T0':Hid (nv w n y mo d h mi s t (w.alloc (.cells #[n,y,mo,d,h,mi,s,t] 26))):=⟨cC,by simp,by simp,by simp,by simp,by simp,by simp,by simp,by simp,by simp⟩;clear k q i r p o m;go_enter func62,ntmps62;go_wp2_with fail;obtain⟨W1,hW1⟩:∃x,w.alloc (.cells #[n,y,mo,d,h,mi,s,t] 26)=x:=⟨_,rfl⟩;rw[hW1]at T0';rw[hW1];have T1:=T0';clear T0' hW1;refine(f W1).mono ?_;rintro e W2⟨rfl,c⟩;have T2:=af (T1.later c);clear c T1 f;go_wp2_with fail;refine wp_region_held_drew (S:=fun W=>si W w.heap.size n y mo d h mi s t) j T2.2.2 (fun b=>?_);refine ag 1 (.agg #[n,y,mo,d,h,mi,s,t]) rfl (fun W a=>by obtain⟨s0,s1,s2,s3,s4,s5,s6,s7⟩:=a;go_simp) b ?_;refine ag 4 (.pointer w.heap.size) rfl (fun W a=>by obtain⟨s0,s1,s2,s3,s4,s5,s6,s7⟩:=a;go_simp) b ?_;refine ag 5 (.string n) rfl (fun W a=>by obtain⟨s0,s1,s2,s3,s4,s5,s6,s7⟩:=a;go_simp) b ?_;refine ag 7 (.string bd) rfl (fun W a=>by obtain⟨s0,s1,s2,s3,s4,s5,s6,s7⟩:=a;go_simp) b ?_;have T3:Hid (nv w n y mo d h mi s t W2.drew):=⟨T2.1.drew,T2.2.1,T2.2.2⟩;generalize W2.drew=W3 at *
 refine ah 0 fun K g=>?_;go_simp;go_at_call 92;refine(v W3).mono ?_;rintro e W4⟨rfl,c⟩;have T4:=af (T3.later c);refine Shut.out g _ _ T4.2.2 (fun b=>?_);clear g K c;refine ah 2 fun K g=>?_;go_simp;go_at_call 97;refine(u W4).mono ?_;rintro e W5⟨rfl,c⟩;have T5:=af (T4.later c);refine Shut.out g _ _ T5.2.2 (fun b=>?_);clear g K c;refine ag 3 (.string (A4++FL)) rfl (fun W a=>by obtain⟨s0,s1,s2,s3,s4,s5,s6,s7⟩:=a;go_simp<;>omega) b ?_;refine ag 6 (.string (A4++FL++n)) rfl (fun W a=>by obtain⟨s0,s1,s2,s3,s4,s5,s6,s7⟩:=a;go_simp<;>omega) b ?_;refine ag 8 (.string (A4++FL++n++bd)) rfl (fun W a=>by obtain⟨s0,s1,s2,s3,s4,s5,s6,s7⟩:=a;go_simp<;>omega) b ?_;refine ah 9 fun K g=>?_;go_simp;refine Shut.out g _ _ T5.2.2 (fun b=>?_);clear g K;refine wpAnyH_done (by kernel_rfl) ?_ _;clear b;generalize l:A4++FL++n++bd=AA;go_wp2;go_ret;exact⟨by rw[←ae z,←l];rfl,T5.1⟩
def xZ(a b c:ByteArray):Nat->ByteArray
 | 0=>a | 1=>b|_=>c
def B9(w:World)(a b c:ByteArray)(t:TypeId):∀i,i<3->(w.alloc (.cells #[a,b,c] t)).cell? ⟨w.heap.size,0+i,none⟩=some (.string (xZ a b c i)):=by
 intro i d
 match i,d with
 | 0,_=>simp[xZ]
 | 1,_=>simp[xZ]
 | 2,_=>simp[xZ]
def FA{c:ByteArray}{n:Nat}(d:a.size<=n)(hb:b.size<=n)(e:c.size<=n)(i:Nat):(xZ a b c i).size<=n:=by
 match i with
 | 0=>exact d
 | 1=>exact hb
 | _+2=>exact e
def Bo(B b m:Nat)(s:ByteArray)(w:World)(h:Rd w B b m)(V:m<=80000)(X:s.size<=9000) :
  Calls prog 35 #[.pointer b,s] w fun e w'=>(∃t:ByteArray,e = .returned (.string t)/\t.size<=9100/\vz s t)/\Rd w' B b (m+10)/\Below b w w':=by
 have E:=cE
 have O:(s.size:Int)<=9000:=by omega
 go_enter func35,ntmps35;by_cases H:s.toList.isEmpty=true
 . go_wp2;go_ret;exact⟨⟨_,rfl,by omega,sx s⟩,h.mono (by omega),a0c _ _⟩
 .
  have L:s.toList.isEmpty=false:=by simpa using H
  have J:0<s.size:=by
   rcases a2n s.size with G|G
   . have e:s=ByteArray.empty:=ByteArray.size_eq_zero_iff.1 G;subst e;exact absurd (by unfold ByteArray.toList ByteArray.toList.loop;rfl) H
   . exact G
  have N:(0:Int)<(s.size:Int):=by omega
  clear H;go_wp2_with fail;refine(bY B b m _ _ h (by omega) (by omega) (by omega)).mono ?_;rintro e w1⟨Z,rfl,I,T,p,n⟩;obtain⟨k,rfl⟩:=a0r I;have C:k<s.size:=by omega
  go_wp2_with fail;refine(bY B b (m+1) _ _ p (by omega) (by omega) (by omega)).mono ?_;rintro e w2⟨r,rfl,r0,r1,g,o⟩;have i:Hid (Rd w2 B b (m+2)/\Below b w w2):=⟨g,n.1.trans o.1⟩;have l:=g.lt;clear p n g o h;have M:r=0∨r=1∨r=2∨r=3∨r=4:=by omega
  have k0:(0:Int)<=(k:Int):=by omega
  have k1:(k:Int)<(s.size:Int):=by omega
  have k2:(k:Int)<=(s.size:Int):=by omega
  have k3:(k:Int)+1<=(s.size:Int):=by omega
  have k5:(0:Int)<=(k:Int)+1:=by omega
  rcases M with rfl|rfl|rfl|rfl|rfl
  .
   go_wp2_with fail;refine wp_region_held_drew (S:=fun _=>True) E trivial (fun f=>?_);refine ag 0 (.string s) rfl (fun W a=>by go_simp) f ?_;refine ag 1 (.int .i64 (k:Nat)) rfl (fun W a=>by go_simp) f ?_;refine ag 2 (.string (s.extract 0 k)) rfl (fun W a=>by go_simp) f ?_;refine ag 3 (.pointer b) rfl (fun W a=>by go_simp) f ?_;refine ag 9 (.string s) rfl (fun W a=>by go_simp) f ?_;refine ag 10 (.int .i64 (k:Nat)) rfl (fun W a=>by go_simp) f ?_;refine ag 11 (.int .i64 ((k:Int)+1)) rfl (fun W a=>by go_simp;exact bW _ (by omega) (by omega)) f ?_;refine ag 12 (.string (s.extract (k+1) s.size)) rfl (fun W a=>by go_simp) f ?_;refine ah 4 fun K j=>?_;go_simp;go_at_call 74;refine(bY B b (m+2) _ _ (show Rd w2.drew B b (m+2)from i.1) (by omega) (by omega) (by omega)).mono ?_;rintro e w3⟨q,rfl,U,q1,c,d⟩;refine Shut.out j _ _ trivial (fun f=>?_);clear j K;obtain⟨y,rfl⟩:=a0r U;have R:y<256:=by omega
   have Y:IntKind.u8.wrap (y:Int)=(y:Int):=Ab (by omega) (by omega);have z:Hid (Rd w3 B b (m+3)/\Below b w w3):=⟨c,i.2.drew.trans d.1⟩;have D:=c.lt;clear c d;refine ag 5 (.int .u8 (y:Int)) rfl (fun W a=>by go_simp) f ?_;refine ah 6 fun K j=>?_;go_simp;refine Shut.out j _ _ trivial (fun _=>?_);clear j K f;have F:=Gj w3 y R;have v:Hid (Rd (w3.alloc (.cells #[.int .u8 (y:Int)] 5)) B b (m+10)/\Below b w (w3.alloc (.cells #[.int .u8 (y:Int)] 5))):=⟨(z.1.alloc _).mono (by omega),z.2.alloc (a0s D) _⟩;obtain⟨w4,hw4⟩:∃x,w3.alloc (.cells #[.int .u8 (y:Int)] 5)=x:=⟨_,rfl⟩;rw[hw4]at v F;refine fw (S':=fun W=>W=w4) (fun _ _=>trivial) _ _ _ _ ?_;have f:w3.alloc (.cells #[.int .u8 (y:Int)] 5)=w4:=hw4;generalize UInt8.ofNat y=yy at *
   refine ag 7 (.string ⟨[yy].toArray⟩) rfl (fun W a=>by subst a;go_simp) f ?_;refine ag 8 (.string (s.extract 0 k++(⟨[yy].toArray⟩:ByteArray))) rfl (fun W a=>by subst a;go_simp<;>omega) f ?_;refine ag 13 (.string (s.extract 0 k++(⟨[yy].toArray⟩:ByteArray)++s.extract (k+1) s.size)) rfl (fun W a=>by subst a;go_simp<;>omega) f ?_;refine ah 14 fun K j=>?_;go_simp;refine Shut.out j _ _ rfl (fun _=>?_);clear j K;refine wpAnyH_done (by kernel_rfl) ?_ _;clear F f hw4;have A:(s.extract 0 k++(⟨[yy].toArray⟩:ByteArray)++s.extract (k+1) s.size).size<=9100:=by
    have e1:(⟨[yy].toArray⟩:ByteArray).size=1:=rfl;rw[vM,vM,a2e,a2e,e1];omega
   have u:=af (Nj s k C yy);generalize s.extract 0 k++(⟨[yy].toArray⟩:ByteArray)++s.extract (k+1) s.size=Zz at *
   go_wp2;go_ret;exact⟨⟨_,rfl,A,u⟩,v.1,v.2⟩
  .
   have u:=af (Ni s k C);have A:(s.extract 0 k).size<=9100:=by rw[a2e];omega
   go_wp2;go_ret;exact⟨⟨_,rfl,A,u⟩,i.1.mono (by omega),i.2⟩
  .
   go_wp2_with fail;refine(of_le B b (m+2) w2.heap.size 0 3 3 100 _ _ (i.1.alloc _) (by omega) (by omega) (by omega) (a13 l) (B9 w2 _ _ _ _) (FA (by decide) (by decide) (by decide))).mono ?_;rintro e w3⟨t0,P,rfl,c,d⟩;have v:Hid (Rd w3 B b (m+10)/\Below b w w3):=⟨c.mono (by omega),(i.2.alloc (a0s l) _).trans d.1⟩;have A:(s++t0).size<=9100:=by rw[vM];omega
   have Q:(t0.size:Int)<=100:=by omega
   clear c d;go_wp2;go_ret;exact⟨⟨_,rfl,A,Nh s t0⟩,v.1,v.2⟩
  . go_wp2;go_ret;exact⟨⟨_,rfl,by omega,sx s⟩,i.1.mono (by omega),i.2⟩
  . go_wp2;go_ret;exact⟨⟨_,rfl,by omega,sx s⟩,i.1.mono (by omega),i.2⟩
def ub(B b m:Nat)(s:ByteArray)(w:World)(h:Rd w B b m)(c:m<=80000)(d:s.size<=9000) :
  Calls prog 35 #[.pointer b,s] w fun e w'=>(∃t:ByteArray,e = .returned (.string t)/\t.size<=9100)/\Rd w' B b (m+10)/\Below b w w':=
 (Bo B b m s w h c d).mono fun _ _ ⟨⟨t,e,a,_⟩,h2⟩=>⟨⟨t,e,a⟩,h2⟩
