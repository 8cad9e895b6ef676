/- Of what the proof is made: 6 texts, one behind the other. -/
import Derived.Test.YtlpmnnjlmjffpaaGreatDoorM19
import Derived.Test.YtlpmnnjlmjffpaaGreatDoorM20
import Derived.Test.YtlpmnnjlmjffpaaGreatDoorM12
import Derived.Test.YtlpmnnjlmjffpaaGreatDoorM33
import Derived.Test.YtlpmnnjlmjffpaaGreatDoorM22
import Derived.Test.YtlpmnnjlmjffpaaGreatDoorM5
import Derived.Test.YtlpmnnjlmjffpaaGreatDoorM3
import Derived.Test.YtlpmnnjlmjffpaaGreatDoorM6
import Derived.BigQuiet
import Derived.Test.YtlpmnnjlmjffpaaGreatDoorM9
import Derived.Test.YtlpmnnjlmjffpaaGreatDoorM4
set_option maxRecDepth 100000
set_option linter.unusedSimpArgs false
set_option linter.unusedVariables false
set_option maxHeartbeats 6400000
namespace Go.Proofs.YtlpmnnjlmjffpaaGreatDoor
open Go.Proofs.Tryz
open Go.RowKit Corb
variable {V p sz y:Nat}{a b:ByteArray}{l:List (Int×Int)}
def Std(V:Nat):Nat->List (Int×Int)->Prop
 | _,[]=>True
 | p,x :: l=>V/2 ^ p%2 ^ x.2.toNat=x.1.toNat/\Std V (p+x.2.toNat) l
def bN(l:List (Int×Int)):Nat:=fB (bitsOf l)
theorem jA:bN []=0:=rfl
theorem eG(x:Int×Int)(l:List (Int×Int)):bN (x :: l)=x.2.toNat+bN l:=by unfold bN bitsOf;rw[a0E,kh]
theorem dm(a b:List (Int×Int)):bN (a++b)=bN a+bN b:=by unfold bN bitsOf;rw[a06,qO]
theorem nN{a b:List (Int×Int)} : ∀{p:Nat},Std V p (a++b)<->Std V p a/\Std V (p+bN a) b:=by
 induction a with
 | nil=>intro p;simp[Std,jA]
 | cons x a ih=>
  intro p;rw[a12];simp only[Std];rw[ih,eG,and_assoc,a1U]
theorem KV: ∀(l:List (Int×Int)) (p:Nat),dD V p (bitsOf l)=numsOf l->Std V p l:=by
 intro l;induction l with
 | nil=>intro p _;trivial
 | cons x l ih=>
  intro p h;unfold bitsOf numsOf at h;rw[a0E,a0E]at h;simp only[dD,List.cons.injEq]at h;refine⟨?_,ih _ h.2⟩;rw[←h.1,a0l]
theorem Nh(W:Nat)(h:aY l=true):Std ((aX l).1+W*2 ^ (aX l).2) 0 l:=KV l 0 (GA l W h)
theorem pS{x:Int×Int}(h:Std V p (x :: l))(a:p+x.2.toNat<=sz):rdN V sz p x.2.toNat=some (x.1.toNat,p+x.2.toNat):=by
 rw[ck a,h.1]
theorem ow{B:List Int}(a:av B=true){k:Nat}(e:0<B.getD k 0)(h:Std V p (pcM B k :: l))(f:p+(B.getD k 0).toNat<=sz):dec B V sz p=some ((k:Int),p+(B.getD k 0).toNat):=by
 have d:k<B.length:=by
  rcases a08 k B.length with c|c
  . exact c
  . simp[List.getD,c]at e
 have hb:=lE (fO a) d;obtain⟨n,hn⟩:∃n:Nat,B.getD k 0=(n:Int)+1:=⟨(B.getD k 0).toNat-1,by omega⟩;have b:=h.1;unfold pcM at b;simp only at b;rw[zI B 15 k d,a0e (by omega),a0l,a0l,hn,show((n:Int)+1).toNat=n+1 by omega]at b;rw[hn,show((n:Int)+1).toNat=n+1 by omega]at f ⊢;have:=IL a d hn b (by omega);rw[this]
 congr 1
theorem MA:(List.range 61).all (fun y=>decide (y<3) || (decide (fnd 3 4 y 27<28)&&decide ((stF 3 4 (fnd 3 4 y 27)).1<=y)))=true:=by decide +kernel
theorem LJ:(List.range 251).all (fun y=>decide (y<1) || (decide (fnd 1 2 y 29<30)&&decide ((stF 1 2 (fnd 1 2 y 29)).1<=y)))=true:=by decide +kernel
theorem JK(a:3<=y)(b:y<=60):fnd 3 4 y 27<28/\(stF 3 4 (fnd 3 4 y 27)).1<=y:=by
 have:=a05.1 MA y (List.mem_range.2 (by omega));simp only[a1B,a0h,a0o]at this;omega
theorem Ir(a:1<=y)(b:y<=250):fnd 1 2 y 29<30/\(stF 1 2 (fnd 1 2 y 29)).1<=y:=by
 have:=a05.1 LJ y (List.mem_range.2 (by omega));simp only[a1B,a0h,a0o]at this;omega
theorem KH{least group many k:Nat}(b:k<many)(d:(stF least group k).1<=y)(h:Std V p (((y:Int)-((stF least group k).1:Int),((stF least group k).2:Nat)) :: l))(c:p+(stF least group k).2<=sz):scG V sz least group many k p=some (y,p+(stF least group k).2):=by
 unfold scG;rw[a0e b];have a:=pS (sz:=sz) h (by simpa using c);simp only[a0l]at a;rw[a];simp only[a0f]
 congr 2
 omega
def BP(L D:List Int)(t:Tk):Prop:=if isB t then 0<L.getD t.1.toNat 0 else 0<L.getD (257+fnd 3 4 t.2.1.toNat 27) 0/\0<D.getD (fnd 1 2 t.2.2.toNat 29) 0
theorem lr(B:List Int)(k:Nat):(pcM B k).2.toNat=(B.getD k 0).toNat:=rfl
theorem MV{L D:List Int}(okL:av L=true)(okD:av D=true){t:Tk}(f:okT t=true)(a:BP L D t)(h:Std V p (ci L D t++l))(b:p+bN (ci L D t)<=sz) :
  ∃i q,dec L V sz p=some (i,q)/\i≠256/\oneG V sz D i q=some (t,p+bN (ci L D t)):=by
 obtain⟨y,lo,c⟩:=t;unfold BP at a;unfold ci at h b ⊢;by_cases d:isB (y,lo,c)=true
 .
  rw[a0e d]at h b a ⊢;have hb:0<=y/\y<=255/\lo=0/\c=0:=by unfold isB inB at d;simp only[a0h,a0o]at d;omega
  rw[eG,jA,a1l,lr]at b ⊢;refine⟨_,_,ow okL a h b,?_,?_⟩
  . simp only;omega
  . unfold oneG;rw[a0e (by simp only;omega)];simp only[a0k,a0O,a03];omega
 .
  rw[a0d d]at h b a ⊢;have e:isK (y,lo,c)=true:=by unfold okT at f;simpa[d]using f
  have hb:y=0/\3<=lo/\lo<=60/\1<=c/\c<=250:=by unfold isK inB at e;simp only[a0h,a0o]at e;omega
  obtain⟨rfl,g,m,n,o⟩:=hb;obtain⟨x,rfl⟩:=a0r (show 0<=lo by omega);obtain⟨z,rfl⟩:=a0r (show 0<=c by omega);simp only[a0l]at h b a ⊢;obtain⟨f1,f2⟩:=JK (y:=x) (by omega) (by omega);obtain⟨g1,g2⟩:=Ir (y:=z) (by omega) (by omega);generalize fnd 3 4 x 27=k at *
  generalize fnd 1 2 z 29=j at *
  simp only[eG,jA,a1l,lr,a0l]at b ⊢;have s1:=h;have s2:=h.2;have s3:=s2.2;have s4:=s3.2;simp only[lr,a0l]at s2 s3 s4;refine⟨_,_,ow okL a.1 s1 (by omega),by omega,?_⟩;unfold oneG;rw[a0d (by omega),show((257+k:Nat):Int).toNat-257=k by omega];unfold ft;rw[KH f1 f2 s2 (by omega)];simp only[a0f];rw[ow okD a.2 s3 (by omega)];simp only[a0f,a0l];rw[KH g1 g2 s4 (by omega)];simp only[a0f,a0k,a0O,a1T];omega
def oy(R:List UInt8):List Tk->Option (List UInt8)
 | []=>some R
 | t :: T=>(dP R t).bind fun x=>oy x T
theorem EE{L D:List Int}(okL:av L=true)(okD:av D=true)(n:0<L.getD 256 0) : ∀(T:List Tk) (p:Nat) (R b:List UInt8),(∀t∈T,okT t=true/\BP L D t)->Std V p (T.flatMap (ci L D)++(pcM L 256 :: l))->p+bN (T.flatMap (ci L D))+(L.getD 256 0).toNat<=sz->oy R T=some b->gp V sz L D p R=some (b,p+bN (T.flatMap (ci L D))+(L.getD 256 0).toNat):=by
 intro T;induction T with
 | nil=>
  intro p R b _ h c a;simp only[oy,a0k]at a;subst a;simp only[a2M,a1i,jA,a1l]at h c ⊢;exact tU (ow okL n h c)
 | cons t T ih=>
  intro p R b e h c a;simp only[a07,a0H,dm]at h c ⊢;obtain⟨m,h2⟩:=e t (by simp);obtain⟨i,q,g,j,k⟩:=MV (sz:=sz) okL okD m h2 h (by omega);rw[qf g j,k];simp only[a0f];simp only[oy]at a;rcases f:dP R t with _|x
  . rw[f]at a;cases a
  . rw[f]at a;simp only[a0f]at a ⊢;rw[ih (p+bN (ci L D t)) x b (fun t' d=>e t' (by simp[d])) (nN.1 h).2 (by omega) a,a1U p]
theorem GW{L:List UInt8}(d:L.length<=300):∀(n p:Nat),L.length-p<=n->p<=L.length->oy (L.take p) (cG L p)=some L:=by
 intro n;induction n with
 | zero=>
  intro p b h2;have e:p=L.length:=by omega
  subst e;rw[fe (a3Q _)];simp only[oy,a1v]
 | succ n ih=>
  intro p b h2;by_cases a:p<L.length
  . rw[jb a];simp only[oy];rw[EM a d];have f:=gW L p;have c:=rJ a;exact ih _ (by omega) c
  .
   have e:p=L.length:=by omega
   subst e;rw[fe (a3Q _)];simp only[oy,a1v]
theorem tX{L:List UInt8}(a:L.length<=300):oy [] (cG L 0)=some L:=GW a L.length 0 (by omega) (a0g _)
def iX(a b:ByteArray):ByteArray:=if b.size<a.size then b else a
theorem gE(h:b.size<a.size):iX a b=b:=a0e h
theorem iF(h:¬ b.size<a.size):iX a b=a:=a0d h
def byO(s:ByteArray):ByteArray:=⟨(tw s).toArray⟩
def c9(s:ByteArray):ByteArray:=iX (iX (byS s) (byF s)) (byO s)
def qm(s:ByteArray):Nat->ByteArray
 | 1=>byS s
 | 2=>iX (byS s) (byF s)
 | _=>c9 s
theorem xG(s:ByteArray)(h:¬ s.size<=300):byO s=⟨#[]⟩:=by unfold byO tw;rw[a0d h]
theorem yq(s:ByteArray)(h:¬ s.size<=300):c9 s=⟨#[]⟩:=by
 unfold c9;rw[xH s h,xF s h,xG s h];rfl
theorem vL(l:List (Int×Int)):(cm l).length=((aX l).2+7)/8:=by unfold cm;exact ax _ _
theorem tI{l:List UInt8}(h:l.length<=100000):((⟨l.toArray⟩:ByteArray).size:Int)<=100000:=by
 have:(⟨l.toArray⟩:ByteArray).size=l.length:=by simp[ByteArray.size]
 omega
theorem DI(h:lOk l=true):(aX l).2<=64000:=by
 unfold lOk at h;simp only[a0h,a0o]at h;have a:=dB (0,0) l (fun x c=>by
  have h2:=h.1;unfold aY at h2;exact(aR.1 (a05.1 h2 x c)).1.2)
 have b:aW (0,0) l=aX l:=rfl;rw[b]at a;omega
theorem xI(s:ByteArray):((byS s).size:Int)<=100000/\((byF s).size:Int)<=100000/\((byO s).size:Int)<=100000:=by
 by_cases a:s.size<=300
 .
  have c:=jc s a;have d:=gh s;refine⟨tI ?_,tI ?_,tI ?_⟩
  .
   unfold jH
   split
   . rw[a0m,ax,jy];omega
   . simp
  . unfold sq;rw[a0e a];show(cm (kz s)).length<=_;rw[vL];have b:=DI (wF s a);omega
  . unfold tw;rw[a0e a];show(cm (kO _)).length<=_;rw[vL];have b:=DI (xe _ c d);omega
 . rw[xH s a,xF s a,xG s a];exact⟨by decide,by decide,by decide⟩
theorem uy(s:ByteArray)(w:World)(r:s.size<=300) :
  CD 158 #[.string s] w (.string (c9 s)):=by
 have J:¬ (300:Int)<(s.size:Int):=by omega
 have m:=af (fun W=>yV s W r);have n:=af (fun W=>yT s W r);have o:=af (fun W=>FI s W r);have e1:(⟨(leS 5 (iO s.size)++s.data.toList).toArray⟩:ByteArray)=qm s 1:=by
  show _=byS s;unfold byS jH;rw[a0e (by rw[jy];exact r),jy]
 have e2:(⟨(fp s).toArray⟩:ByteArray)=byF s:=by unfold byF sq;rw[a0e r]
 have e3:(⟨(pN s).toArray⟩:ByteArray)=byO s:=by unfold byO tw;rw[a0e r]
 rw[e1]at m;rw[e2]at n;rw[e3]at o;have z:=af (xI s);clear r e1 e2 e3;go_enter func158,ntmps158;go_wp2_with fail;refine(ae m _).mono ?_;rintro e x1 ⟨rfl,D⟩;have B:=af D;clear D;go_wp2_with fail;refine(ae n _).mono ?_;rintro e x2 ⟨rfl,E⟩;have C:=af (ak (ae B) E);clear E B;go_wp2_with fail;refine(ae o _).mono ?_;rintro e x3 ⟨rfl,G⟩;have p:=ak (ae C) G;have t:Below w.heap.size w (x3.alloc (.cells #[.string (byF s),.string (byO s)] 9)):=p.alloc p.size _;have c0:(x3.alloc (.cells #[.string (byF s),.string (byO s)] 9)).cell? ⟨x3.heap.size,0,none⟩=some (.string (byF s)):=by simp
 have c1:(x3.alloc (.cells #[.string (byF s),.string (byO s)] 9)).cell? ⟨x3.heap.size,1,none⟩=some (.string (byO s)):=by simp
 have y:=af t;clear G p t C m n o;go_wp2_with fail;generalize x3.alloc (.cells #[.string (byF s),.string (byO s)] 9)=x4 at *
 generalize x3.heap.size=g at *
 go_loopw [3,5] (fun v i wr=>∃k:Nat,k<=2/\i = .int .i64 k/\v = .string (qm s (k+1))/\wr=x4) (fun _ i _=>2-(intOf i).toNat)
 case atStart=>exact⟨0,by omega,rfl,rfl,rfl⟩
 case round=>
  obtain⟨k,q,rfl,rfl,x⟩:=hrel;rw[x];clear x;obtain⟨H,I,K⟩:=ae z;rcases (show k=0∨k=1∨k=2 by omega)with b|b|b
  .
   have u:(k:Int)<2:=by omega
   have c:x4.cell? ⟨g,k,none⟩=some (.string (byF s)):=by rw[b];exact c0
   have a:qm s (k+1)=byS s:=by rw[b];rfl
   have d:Hid (qm s (k+1+1)=iX (byS s) (byF s)):=by show _=_;rw[b];rfl
   rw[a];have j:=af b;clear b a c0 c1 q;generalize byF s=F at *
   generalize byS s=A at *
   by_cases f:F.size<A.size
   .
    have h:(F.size:Int)<(A.size:Int):=by omega
    have l:=af (gE f);go_wp2;go_roundw
    case rel=>exact⟨k+1,by have:=ae j;omega,by go_num,by rw[ae d,ae l],by first|rfl|trivial⟩
    case measure=>have:=ae j;simp[intOf];omega
   .
    have h:¬ (F.size:Int)<(A.size:Int):=by omega
    have l:=af (iF f);go_wp2;go_roundw
    case rel=>exact⟨k+1,by have:=ae j;omega,by go_num,by rw[ae d,ae l],by first|rfl|trivial⟩
    case measure=>have:=ae j;simp[intOf];omega
  .
   have u:(k:Int)<2:=by omega
   have c:x4.cell? ⟨g,k,none⟩=some (.string (byO s)):=by rw[b];exact c1
   have a:qm s (k+1)=iX (byS s) (byF s):=by rw[b];rfl
   have d:Hid (qm s (k+1+1)=iX (iX (byS s) (byF s)) (byO s)):=by show _=_;rw[b];rfl
   rw[a];have j:=af b;clear b a c0 c1 q H I;generalize byO s=F at *
   generalize iX (byS s) (byF s)=A at *
   by_cases f:F.size<A.size
   .
    have h:(F.size:Int)<(A.size:Int):=by omega
    have l:=af (gE f);go_wp2;go_roundw
    case rel=>exact⟨k+1,by have:=ae j;omega,by go_num,by rw[ae d,ae l],by first|rfl|trivial⟩
    case measure=>have:=ae j;simp[intOf];omega
   .
    have h:¬ (F.size:Int)<(A.size:Int):=by omega
    have l:=af (iF f);go_wp2;go_roundw
    case rel=>exact⟨k+1,by have:=ae j;omega,by go_num,by rw[ae d,ae l],by first|rfl|trivial⟩
    case measure=>have:=ae j;simp[intOf];omega
  .
   have u:¬ (k:Int)<2:=by omega
   have a:Hid (qm s (k+1)=c9 s):=by show _=_;rw[b];rfl
   clear b c0 c1 q;generalize qm s (k+1)=A at *
   go_wp2;go_ret;exact⟨by rw[←ae a];rfl,ae y⟩
theorem p6(s:ByteArray)(w:World)(c:s.size<=1048576) :
  CD 158 #[.string s] w (.string (c9 s)):=by
 by_cases h:s.size<=300
 . exact uy s w h
 .
  have b:(300:Int)<(s.size:Int):=by omega
  have a:=af (yq s h);clear h;go_enter func158,ntmps158;go_wp2;go_ret;exact⟨by rw[ae a];rfl,a0c _ _⟩
def ef(s:ByteArray):Nat:=if (c9 s).size<s.size then 8 else 0
def bg(s:ByteArray):ByteArray:=if (c9 s).size<s.size then c9 s else s
theorem kB(s:ByteArray):((c9 s).size:Int)<=100000:=by
 obtain⟨c,h2,d⟩:=xI s;have key:∀a b:ByteArray,(a.size:Int)<=100000->(b.size:Int)<=100000->((iX a b).size:Int)<=100000:=fun a b e hb=>by
  by_cases h:b.size<a.size
  . rw[gE h];exact hb
  . rw[iF h];exact e
 unfold c9;exact key _ _ (key _ _ c h2) d
theorem vg(s:ByteArray)(w:World)(d:s.size<=1048576) :
  CD 134 #[.string s] w (.tuple #[.int .i64 (ef s:Nat),.string (bg s)]):=by
 have b:=af (p6 s w d);unfold ef bg;generalize c9 s=x at *
 clear d;by_cases h:x.size<s.size
 .
  have f:(x.size:Int)<(s.size:Int):=by omega
  rw[a0e h,a0e h];clear h;go_enter func134,ntmps134;go_wp2_with fail;refine(ae b).mono ?_;rintro e w1 ⟨rfl,a⟩;have c:=af a;clear a b;go_wp2
  go_ret2
  exact⟨rfl,ae c⟩
 .
  have f:¬ (x.size:Int)<(s.size:Int):=by omega
  rw[a0d h,a0d h];clear h;go_enter func134,ntmps134;go_wp2_with fail;refine(ae b).mono ?_;rintro e w1 ⟨rfl,a⟩;have c:=af a;clear a b;go_wp2
  go_ret2
  exact⟨rfl,ae c⟩
def wb(W:World)(g:Nat)(n:ByteArray)(y mo d h mi s:Int)(t:ByteArray):Prop:=W.cell? ⟨g,0,none⟩=some (.string n)/\W.cell? ⟨g,1,none⟩=some (.int .i64 y)/\W.cell? ⟨g,2,none⟩=some (.int .i64 mo)/\W.cell? ⟨g,3,none⟩=some (.int .i64 d)/\W.cell? ⟨g,4,none⟩=some (.int .i64 h)/\W.cell? ⟨g,5,none⟩=some (.int .i64 mi)/\W.cell? ⟨g,6,none⟩=some (.int .i64 s)/\W.cell? ⟨g,7,none⟩=some (.string t)
def nb(w:World)(n:ByteArray)(y mo d h mi s:Int)(t:ByteArray)(W:World):Prop:=Below w.heap.size w W/\w.heap.size<W.heap.size/\wb W w.heap.size n y mo d h mi s t
theorem nb.later{w W W':World}{n t:ByteArray}{y mo d h mi s:Int}(k:nb w n y mo d h mi s t W)(hb:Below W.heap.size W W'):nb w n y mo d h mi s t W':=by
 have a:∀j,W'.cell? ⟨w.heap.size,j,none⟩=W.cell? ⟨w.heap.size,j,none⟩:=fun j=>hb.cell (p:=⟨w.heap.size,j,none⟩) k.2.1;obtain⟨c,b,e0,e1,e2,e3,e4,e5,e6,e7⟩:=k;exact⟨c.trans (hb.mono (a0C b)),a0j b hb.size,(a 0).trans e0,(a 1).trans e1,(a 2).trans e2,(a 3).trans e3,(a 4).trans e4,(a 5).trans e5,(a 6).trans e6,(a 7).trans e7⟩
theorem Lf(how st crc pk lg n:Nat):du how st crc pk lg n=az (leS 2 20)++az (leS 2 0)++az (leS 2 how)++az (leS 4 st)++az (leS 4 crc)++az (leS 4 pk)++az (leS 4 lg)++az (leS 2 n)++az (leS 2 0):=by
 have c:∀a b:ByteArray,a.data.toList=b.data.toList->a=b:=fun a b h=>by
  cases a;cases b
  simp only[ByteArray.mk.injEq];exact Array.toList_inj.1 h
 apply c;unfold du az;simp
theorem oC(n t:ByteArray)(y mo d h mi s:Int)(N:Nat)(w:World)(k:(0<=y/\y<=100000)/\(0<=mo/\mo<=100)/\(0<=d/\d<=100)/\(0<=h/\h<=100)/\(0<=mi/\mi<=100) /\ -100<=s/\s<=100)
  (u:(((((y-1980)*16+mo)*32+d)*32+h)*64+mi)*32+Int.tdiv s 2=(N:Int)) (l:N<4294967296) (I:n.size<65536) (v:t.size<=1048576) :
  CD 133 #[.agg #[.string n,.int .i64 y,.int .i64 mo,.int .i64 d,.int .i64 h,.int .i64 mi,.int .i64 s,.string t]] w (.string (du (ef t) N (aH 0 t.data.toList) (bg t).size t.size n.size)):=by
 have i:prog.follows .mixedOrders=true:=by kernel_rfl
 have o:aH 0 t.data.toList<4294967296:=iJ _ _ (by omega);have p:=kB t;have m:(bg t).size<=1048576:=by unfold bg;split<;>omega
 have q:ef t<=8:=by unfold ef;split<;>omega
 have j:Hid (∀W,CD 79 #[.int .i64 ((20:Nat):Int),.int .i64 2] W (.string (az (leS 2 (20))))):=fun W=>aM (20) 2 W (by omega) (by omega);have r:Hid (∀W,CD 79 #[.int .i64 ((0:Nat):Int),.int .i64 2] W (.string (az (leS 2 (0))))):=fun W=>aM (0) 2 W (by omega) (by omega);have B:Hid (∀W,CD 79 #[.int .i64 ((ef t:Nat):Int),.int .i64 2] W (.string (az (leS 2 (ef t))))):=fun W=>aM (ef t) 2 W (by omega) (by omega);have E:Hid (∀W,CD 79 #[.int .i64 ((N:Nat):Int),.int .i64 4] W (.string (az (leS 4 (N))))):=fun W=>aM (N) 4 W (by omega) (by omega);have C:Hid (∀W,CD 79 #[.int .i64 ((aH 0 t.data.toList:Nat):Int),.int .i64 4] W (.string (az (leS 4 (aH 0 t.data.toList))))):=fun W=>aM (aH 0 t.data.toList) 4 W (by omega) (by omega);have z:Hid (∀W,CD 79 #[.int .i64 (((bg t).size:Nat):Int),.int .i64 4] W (.string (az (leS 4 ((bg t).size))))):=fun W=>aM ((bg t).size) 4 W (by omega) (by omega);have CT:Hid (∀W,CD 79 #[.int .i64 ((t.size:Nat):Int),.int .i64 4] W (.string (az (leS 4 (t.size))))):=fun W=>aM (t.size) 4 W (by omega) (by omega);have D:Hid (∀W,CD 79 #[.int .i64 ((n.size:Nat):Int),.int .i64 2] W (.string (az (leS 2 (n.size))))):=fun W=>aM (n.size) 2 W (by omega) (by omega);have F:Hid (∀W,CD 157 #[.agg #[.int .i64 y,.int .i64 mo,.int .i64 d,.int .i64 h,.int .i64 mi,.int .i64 s]] W (.int .i64 ((N:Nat):Int))):=fun W=>by
  have:=FM y mo d h mi s W k;rw[u]at this;exact this
 have A:Hid (∀W,CD 82 #[.string t] W (.int .i64 ((aH 0 t.data.toList:Nat):Int))):=fun W=>(qM t W (by unfold maxLen;omega)).mono fun e w' ⟨H,h2⟩=>⟨H,by rw[h2];exact a0c _ _⟩;have g:=af (fun W=>vg t W v);have G:=af (Lf (ef t) N (aH 0 t.data.toList) (bg t).size t.size n.size);have zz:∀many V,many<=4->((az (leS many V)).size:Int)<=4:=fun many V O=>by rw[bH,ax];omega
 have z1:=zz 2 20 (by omega);have z2:=zz 2 0 (by omega);have z3:=zz 2 (ef t) (by omega);have z4:=zz 4 N (by omega);have z5:=zz 4 (aH 0 t.data.toList) (by omega);have z6:=zz 4 (bg t).size (by omega);have z7:=zz 4 t.size (by omega);have z8:=zz 2 n.size (by omega);generalize az (leS 2 20)=A20 at *
 generalize az (leS 2 0)=A0 at *
 generalize az (leS 2 (ef t))=AH at *
 generalize az (leS 4 N)=AN at *
 generalize az (leS 4 (aH 0 t.data.toList))=AK at *
 generalize az (leS 4 (bg t).size)=AB at *
 generalize az (leS 4 t.size)=AT at *
 generalize az (leS 2 n.size)=AM at *
 generalize du (ef t) N (aH 0 t.data.toList) (bg t).size t.size n.size=RES at *
 generalize ef t=hw at *
 generalize bg t=bd at *
 generalize aH 0 t.data.toList=cr at *
 have T0':Hid (nb w n y mo d h mi s t (w.alloc (.cells #[.string n,.int .i64 y,.int .i64 mo,.int .i64 d,.int .i64 h,.int .i64 mi,.int .i64 s,.string t] 35))):=⟨(a0c _ _).alloc (a0a _) _,by simp,by simp,by simp,by simp,by simp,by simp,by simp,by simp,by simp⟩;clear k u l I v o p m q zz;go_enter func133,ntmps133;go_wp2_with fail;obtain⟨W1,hW1⟩:∃x,w.alloc (.cells #[.string n,.int .i64 y,.int .i64 mo,.int .i64 d,.int .i64 h,.int .i64 mi,.int .i64 s,.string t] 35)=x:=⟨_,rfl⟩;rw[hW1]at T0';rw[hW1];have T1:=T0';clear T0' hW1;refine(ae g W1).mono ?_;rintro e W2 ⟨rfl,b⟩;have T2:=af ((ae T1).later b);clear b T1 g;go_wp2_with fail;refine wp_region_held_drew (S:=fun W=>wb W w.heap.size n y mo d h mi s t) i (ae T2).2.2 (fun f=>?_);refine ag 3 (.int .i64 (hw:Nat)) rfl (by kernel_rfl) (fun _ _ _ h=>h) rfl (fun W a=>by obtain⟨s0,s1,s2,s3,s4,s5,s6,s7⟩:=a;go_simp) f ?_;refine ag 6 (.pointer (some ⟨w.heap.size,1,none⟩)) rfl (by kernel_rfl) (fun _ _ _ h=>h) rfl (fun W a=>by obtain⟨s0,s1,s2,s3,s4,s5,s6,s7⟩:=a;go_simp) f ?_;refine ag 7 (.agg #[.int .i64 y,.int .i64 mo,.int .i64 d,.int .i64 h,.int .i64 mi,.int .i64 s]) rfl (by kernel_rfl) (fun _ _ _ h=>h) rfl (fun W a=>by obtain⟨s0,s1,s2,s3,s4,s5,s6,s7⟩:=a;go_simp) f ?_;have T3:Hid (nb w n y mo d h mi s t W2.drew):=⟨(ae T2).1.drew,(ae T2).2.1,(ae T2).2.2⟩;generalize W2.drew=W3 at *
 refine ah 0 (by kernel_rfl) rfl fun K c=>?_;go_simp;go_at_call 79;refine(ae j W3).mono ?_;rintro e W4 ⟨rfl,b⟩;have T4:=af ((ae T3).later b);refine Shut.out c _ _ (ae T4).2.2 (fun f=>?_);clear c K b;refine ah 1 (by kernel_rfl) rfl fun K c=>?_;go_simp;go_at_call 79;refine(ae r W4).mono ?_;rintro e W5 ⟨rfl,b⟩;have T5:=af ((ae T4).later b);refine Shut.out c _ _ (ae T5).2.2 (fun f=>?_);clear c K b;refine ag 2 (.string (A20++A0)) rfl (by kernel_rfl) (fun _ _ _ h=>h) rfl (fun W a=>by obtain⟨s0,s1,s2,s3,s4,s5,s6,s7⟩:=a;go_simp<;>omega) f ?_;refine ah 4 (by kernel_rfl) rfl fun K c=>?_;go_simp;go_at_call 79;refine(ae B W5).mono ?_;rintro e W6 ⟨rfl,b⟩;have T6:=af ((ae T5).later b);refine Shut.out c _ _ (ae T6).2.2 (fun f=>?_);clear c K b;refine ag 5 (.string (A20++A0++AH)) rfl (by kernel_rfl) (fun _ _ _ h=>h) rfl (fun W a=>by obtain⟨s0,s1,s2,s3,s4,s5,s6,s7⟩:=a;go_simp<;>omega) f ?_;refine ah 8 (by kernel_rfl) rfl fun K c=>?_;go_simp;go_at_call 157;refine(ae F W6).mono ?_;rintro e W7 ⟨rfl,b⟩;have T7:=af ((ae T6).later b);refine Shut.out c _ _ (ae T7).2.2 (fun f=>?_);clear c K b;refine ah 9 (by kernel_rfl) rfl fun K c=>?_;go_simp;go_at_call 79;refine(ae E W7).mono ?_;rintro e W8 ⟨rfl,b⟩;have T8:=af ((ae T7).later b);refine Shut.out c _ _ (ae T8).2.2 (fun f=>?_);clear c K b;refine ag 10 (.string (A20++A0++AH++AN)) rfl (by kernel_rfl) (fun _ _ _ h=>h) rfl (fun W a=>by obtain⟨s0,s1,s2,s3,s4,s5,s6,s7⟩:=a;go_simp<;>omega) f ?_;refine ah 11 (by kernel_rfl) rfl fun K c=>?_;go_simp;refine Shut.out c _ _ (ae T8).2.2 (fun f=>?_);clear c K;refine wpAnyH_done (by kernel_rfl) ?_ _;clear f;obtain⟨B1,hB1⟩:∃x,A20++A0++AH++AN=x:=⟨_,rfl⟩;have zB1:(B1.size:Int)<=1000:=by rw[←hB1];simp only[a0u];omega
 rw[hB1];go_wp2_with fail;refine wp_region_held_drew (S:=fun W=>wb W w.heap.size n y mo d h mi s t) i (ae T8).2.2 (fun f=>?_);refine ag 0 (.string B1) rfl (by kernel_rfl) (fun _ _ _ h=>h) rfl (fun W a=>by obtain⟨s0,s1,s2,s3,s4,s5,s6,s7⟩:=a;go_simp) f ?_;refine ag 1 (.pointer (some ⟨w.heap.size,7,none⟩)) rfl (by kernel_rfl) (fun _ _ _ h=>h) rfl (fun W a=>by obtain⟨s0,s1,s2,s3,s4,s5,s6,s7⟩:=a;go_simp) f ?_;refine ag 2 (.string t) rfl (by kernel_rfl) (fun _ _ _ h=>h) rfl (fun W a=>by obtain⟨s0,s1,s2,s3,s4,s5,s6,s7⟩:=a;go_simp) f ?_;refine ag 6 (.string bd) rfl (by kernel_rfl) (fun _ _ _ h=>h) rfl (fun W a=>by obtain⟨s0,s1,s2,s3,s4,s5,s6,s7⟩:=a;go_simp) f ?_;refine ag 7 (.int .i64 (bd.size:Nat)) rfl (by kernel_rfl) (fun _ _ _ h=>h) rfl (fun W a=>by obtain⟨s0,s1,s2,s3,s4,s5,s6,s7⟩:=a;go_simp) f ?_;refine ag 10 (.pointer (some ⟨w.heap.size,7,none⟩)) rfl (by kernel_rfl) (fun _ _ _ h=>h) rfl (fun W a=>by obtain⟨s0,s1,s2,s3,s4,s5,s6,s7⟩:=a;go_simp) f ?_;refine ag 11 (.string t) rfl (by kernel_rfl) (fun _ _ _ h=>h) rfl (fun W a=>by obtain⟨s0,s1,s2,s3,s4,s5,s6,s7⟩:=a;go_simp) f ?_;refine ag 12 (.int .i64 (t.size:Nat)) rfl (by kernel_rfl) (fun _ _ _ h=>h) rfl (fun W a=>by obtain⟨s0,s1,s2,s3,s4,s5,s6,s7⟩:=a;go_simp) f ?_;have T9:Hid (nb w n y mo d h mi s t W8.drew):=⟨(ae T8).1.drew,(ae T8).2.1,(ae T8).2.2⟩;generalize W8.drew=W9 at *
 refine ah 3 (by kernel_rfl) rfl fun K c=>?_;go_simp;go_at_call 82;refine(ae A W9).mono ?_;rintro e W10 ⟨rfl,b⟩;have T10:=af ((ae T9).later b);refine Shut.out c _ _ (ae T10).2.2 (fun f=>?_);clear c K b;refine ah 4 (by kernel_rfl) rfl fun K c=>?_;go_simp;go_at_call 79;refine(ae C W10).mono ?_;rintro e W11 ⟨rfl,b⟩;have T11:=af ((ae T10).later b);refine Shut.out c _ _ (ae T11).2.2 (fun f=>?_);clear c K b;refine ag 5 (.string (B1++AK)) rfl (by kernel_rfl) (fun _ _ _ h=>h) rfl (fun W a=>by obtain⟨s0,s1,s2,s3,s4,s5,s6,s7⟩:=a;go_simp<;>omega) f ?_;refine ah 8 (by kernel_rfl) rfl fun K c=>?_;go_simp;go_at_call 79;refine(ae z W11).mono ?_;rintro e W12 ⟨rfl,b⟩;have T12:=af ((ae T11).later b);refine Shut.out c _ _ (ae T12).2.2 (fun f=>?_);clear c K b;refine ag 9 (.string (B1++AK++AB)) rfl (by kernel_rfl) (fun _ _ _ h=>h) rfl (fun W a=>by obtain⟨s0,s1,s2,s3,s4,s5,s6,s7⟩:=a;go_simp<;>omega) f ?_;refine ah 13 (by kernel_rfl) rfl fun K c=>?_;go_simp;go_at_call 79;refine(ae CT W12).mono ?_;rintro e W13 ⟨rfl,b⟩;have T13:=af ((ae T12).later b);refine Shut.out c _ _ (ae T13).2.2 (fun f=>?_);clear c K b;refine ag 14 (.string (B1++AK++AB++AT)) rfl (by kernel_rfl) (fun _ _ _ h=>h) rfl (fun W a=>by obtain⟨s0,s1,s2,s3,s4,s5,s6,s7⟩:=a;go_simp<;>omega) f ?_;refine ah 15 (by kernel_rfl) rfl fun K c=>?_;go_simp;refine Shut.out c _ _ (ae T13).2.2 (fun f=>?_);clear c K;refine wpAnyH_done (by kernel_rfl) ?_ _;clear f;obtain⟨B2,hB2⟩:∃x,B1++AK++AB++AT=x:=⟨_,rfl⟩;have zB2:(B2.size:Int)<=2000:=by rw[←hB2];simp only[a0u];omega
 rw[hB2];obtain⟨c0,c1,c2,c3,c4,J,L,M⟩:=(ae T13).2.2;go_wp2_with fail;refine(ae D W13).mono ?_;rintro e X1 ⟨rfl,b⟩;have TX:=af ((ae T13).later b);clear b;go_wp2_with fail;refine(ae r X1).mono ?_;rintro e X2 ⟨rfl,b⟩;have TY:=af ((ae TX).later b);clear b;go_wp2;go_ret;exact⟨by rw[ae G,←hB2,←hB1];rfl,(ae TY).1⟩
def ca(n t:ByteArray)(N:Nat):ByteArray:=cj (ef t) N (aH 0 t.data.toList) (bg t).size t.size n++bg t
theorem MG:az (leS 4 67324752)=(⟨#[80,75,3,4]⟩:ByteArray):=by decide +kernel
theorem yW(n t:ByteArray)(y mo d h mi s:Int)(N:Nat)(w:World)(k:(0<=y/\y<=100000)/\(0<=mo/\mo<=100)/\(0<=d/\d<=100)/\(0<=h/\h<=100)/\(0<=mi/\mi<=100) /\ -100<=s/\s<=100)
  (q:(((((y-1980)*16+mo)*32+d)*32+h)*64+mi)*32+Int.tdiv s 2=(N:Int)) (i:N<4294967296) (r:n.size<65536) (p:t.size<=1048576) :
  CD 103 #[.agg #[.string n,.int .i64 y,.int .i64 mo,.int .i64 d,.int .i64 h,.int .i64 mi,.int .i64 s,.string t]] w (.string (ca n t N)):=by
 have j:prog.follows .mixedOrders=true:=by kernel_rfl
 have u:=af (fun W=>oC n t y mo d h mi s N W k q i r p);have f:=af (fun W=>vg t W p);have v:Hid (∀W,CD 79 #[.int .i64 67324752,.int .i64 4] W (.string (az (leS 4 67324752)))):=fun W=>aM 67324752 4 W (by omega) (by omega);have o:=kB t;have m:(bg t).size<=1048576:=by unfold bg;split<;>omega
 have A:((bg t).size:Int)<=1048576:=by omega
 have B:(n.size:Int)<65536:=by omega
 have z:Hid (az (leS 4 67324752)++du (ef t) N (aH 0 t.data.toList) (bg t).size t.size n.size++n++bg t=ca n t N):=by unfold ca cj;rw[MG];exact rfl
 have z1:((az (leS 4 67324752)).size:Int)<=4:=by rw[bH,ax];omega
 have z2:((du (ef t) N (aH 0 t.data.toList) (bg t).size t.size n.size).size:Int)<=26:=by rw[dM];omega
 generalize az (leS 4 67324752)=A4 at *
 generalize du (ef t) N (aH 0 t.data.toList) (bg t).size t.size n.size=FL at *
 generalize ca n t N=RES at *
 generalize ef t=hw at *
 generalize bg t=bd at *
 have T0':Hid (nb w n y mo d h mi s t (w.alloc (.cells #[.string n,.int .i64 y,.int .i64 mo,.int .i64 d,.int .i64 h,.int .i64 mi,.int .i64 s,.string t] 35))):=⟨(a0c _ _).alloc (a0a _) _,by simp,by simp,by simp,by simp,by simp,by simp,by simp,by simp,by simp⟩;clear k q i r p o m;go_enter func103,ntmps103;go_wp2_with fail;obtain⟨W1,hW1⟩:∃x,w.alloc (.cells #[.string n,.int .i64 y,.int .i64 mo,.int .i64 d,.int .i64 h,.int .i64 mi,.int .i64 s,.string t] 35)=x:=⟨_,rfl⟩;rw[hW1]at T0';rw[hW1];have T1:=T0';clear T0' hW1;refine(ae f W1).mono ?_;rintro e W2 ⟨rfl,c⟩;have T2:=af ((ae T1).later c);clear c T1 f;go_wp2_with fail;refine wp_region_held_drew (S:=fun W=>wb W w.heap.size n y mo d h mi s t) j (ae T2).2.2 (fun b=>?_);refine ag 1 (.agg #[.string n,.int .i64 y,.int .i64 mo,.int .i64 d,.int .i64 h,.int .i64 mi,.int .i64 s,.string t]) rfl (by kernel_rfl) (fun _ _ _ h=>h) rfl (fun W a=>by obtain⟨s0,s1,s2,s3,s4,s5,s6,s7⟩:=a;go_simp) b ?_;refine ag 4 (.pointer (some ⟨w.heap.size,0,none⟩)) rfl (by kernel_rfl) (fun _ _ _ h=>h) rfl (fun W a=>by obtain⟨s0,s1,s2,s3,s4,s5,s6,s7⟩:=a;go_simp) b ?_;refine ag 5 (.string n) rfl (by kernel_rfl) (fun _ _ _ h=>h) rfl (fun W a=>by obtain⟨s0,s1,s2,s3,s4,s5,s6,s7⟩:=a;go_simp) b ?_;refine ag 7 (.string bd) rfl (by kernel_rfl) (fun _ _ _ h=>h) rfl (fun W a=>by obtain⟨s0,s1,s2,s3,s4,s5,s6,s7⟩:=a;go_simp) b ?_;have T3:Hid (nb w n y mo d h mi s t W2.drew):=⟨(ae T2).1.drew,(ae T2).2.1,(ae T2).2.2⟩;generalize W2.drew=W3 at *
 refine ah 0 (by kernel_rfl) rfl fun K g=>?_;go_simp;go_at_call 79;refine(ae v W3).mono ?_;rintro e W4 ⟨rfl,c⟩;have T4:=af ((ae T3).later c);refine Shut.out g _ _ (ae T4).2.2 (fun b=>?_);clear g K c;refine ah 2 (by kernel_rfl) rfl fun K g=>?_;go_simp;go_at_call 133;refine(ae u W4).mono ?_;rintro e W5 ⟨rfl,c⟩;have T5:=af ((ae T4).later c);refine Shut.out g _ _ (ae T5).2.2 (fun b=>?_);clear g K c;refine ag 3 (.string (A4++FL)) rfl (by kernel_rfl) (fun _ _ _ h=>h) rfl (fun W a=>by obtain⟨s0,s1,s2,s3,s4,s5,s6,s7⟩:=a;go_simp<;>omega) b ?_;refine ag 6 (.string (A4++FL++n)) rfl (by kernel_rfl) (fun _ _ _ h=>h) rfl (fun W a=>by obtain⟨s0,s1,s2,s3,s4,s5,s6,s7⟩:=a;go_simp<;>omega) b ?_;refine ag 8 (.string (A4++FL++n++bd)) rfl (by kernel_rfl) (fun _ _ _ h=>h) rfl (fun W a=>by obtain⟨s0,s1,s2,s3,s4,s5,s6,s7⟩:=a;go_simp<;>omega) b ?_;refine ah 9 (by kernel_rfl) rfl fun K g=>?_;go_simp;refine Shut.out g _ _ (ae T5).2.2 (fun b=>?_);clear g K;refine wpAnyH_done (by kernel_rfl) ?_ _;clear b;generalize l:A4++FL++n++bd=AA;go_wp2;go_ret;exact⟨by rw[←ae z,←l];rfl,(ae T5).1⟩
def tT(a b c:ByteArray):Nat->ByteArray
 | 0=>a | 1=>b|_=>c
theorem oZ(w:World)(a b c:ByteArray)(t:TypeId):∀i,i<3->(w.alloc (.cells #[.string a,.string b,.string c] t)).cell? ⟨w.heap.size,0+i,none⟩=some (.string (tT a b c i)):=by
 intro i d
 match i,d with
 | 0,_=>simp[tT]
 | 1,_=>simp[tT]
 | 2,_=>simp[tT]
theorem qP{c:ByteArray}{n:Nat}(d:a.size<=n)(hb:b.size<=n)(e:c.size<=n)(i:Nat):(tT a b c i).size<=n:=by
 match i with
 | 0=>exact d
 | 1=>exact hb
 | _+2=>exact e
theorem kH(B b m:Nat)(s:ByteArray)(w:World)(h:Rd w B b m)(V:m<=80000)(X:s.size<=9000) :
  Calls prog 35 #[.pointer (some ⟨b,0,none⟩),.string s] w fun e w'=>(∃t:ByteArray,e = .returned (.string t)/\t.size<=9100/\lm s t)/\Rd w' B b (m+10)/\Below b w w':=by
 have E:prog.follows .mixedOrders=true:=by kernel_rfl
 have O:(s.size:Int)<=9000:=by omega
 go_enter func35,ntmps35;by_cases H:s.toList.isEmpty=true
 . go_wp2;go_ret;exact⟨⟨_,rfl,by omega,pn s⟩,h.mono (by omega),a0c _ _⟩
 .
  have L:s.toList.isEmpty=false:=by simpa using H
  have J:0<s.size:=by
   rcases a2x s.size with G|G
   . have e:s=ByteArray.empty:=ByteArray.size_eq_zero_iff.1 G;subst e;exact absurd (by unfold ByteArray.toList ByteArray.toList.loop;rfl) H
   . exact G
  have N:(0:Int)<(s.size:Int):=by omega
  clear H;go_wp2_with fail;refine(bG B b m _ _ h (by omega) (by omega) (by omega)).mono ?_;rintro e w1 ⟨Z,rfl,I,T,p,n⟩;obtain⟨k,rfl⟩:=a0r I;have C:k<s.size:=by omega
  go_wp2_with fail;refine(bG B b (m+1) _ _ p (by omega) (by omega) (by omega)).mono ?_;rintro e w2 ⟨r,rfl,r0,r1,g,o⟩;have i:Hid (Rd w2 B b (m+2)/\Below b w w2):=⟨g,n.1.trans o.1⟩;have l:=g.lt;clear p n g o h;have M:r=0∨r=1∨r=2∨r=3∨r=4:=by omega
  have k0:(0:Int)<=(k:Int):=by omega
  have k1:(k:Int)<(s.size:Int):=by omega
  have k2:(k:Int)<=(s.size:Int):=by omega
  have k3:(k:Int)+1<=(s.size:Int):=by omega
  have k5:(0:Int)<=(k:Int)+1:=by omega
  rcases M with rfl|rfl|rfl|rfl|rfl
  .
   go_wp2_with fail;refine wp_region_held_drew (S:=fun _=>True) E trivial (fun f=>?_);refine ag 0 (.string s) rfl (by kernel_rfl) (fun _ _ _ h=>h) rfl (fun W a=>by go_simp) f ?_;refine ag 1 (.int .i64 (k:Nat)) rfl (by kernel_rfl) (fun _ _ _ h=>h) rfl (fun W a=>by go_simp) f ?_;refine ag 2 (.string (s.extract 0 k)) rfl (by kernel_rfl) (fun _ _ _ h=>h) rfl (fun W a=>by go_simp) f ?_;refine ag 3 (.pointer (some ⟨b,0,none⟩)) rfl (by kernel_rfl) (fun _ _ _ h=>h) rfl (fun W a=>by go_simp) f ?_;refine ag 9 (.string s) rfl (by kernel_rfl) (fun _ _ _ h=>h) rfl (fun W a=>by go_simp) f ?_;refine ag 10 (.int .i64 (k:Nat)) rfl (by kernel_rfl) (fun _ _ _ h=>h) rfl (fun W a=>by go_simp) f ?_;refine ag 11 (.int .i64 ((k:Int)+1)) rfl (by kernel_rfl) (fun _ _ _ h=>h) rfl (fun W a=>by go_simp;exact bw _ (by omega) (by omega)) f ?_;refine ag 12 (.string (s.extract (k+1) s.size)) rfl (by kernel_rfl) (fun _ _ _ h=>h) rfl (fun W a=>by go_simp) f ?_;refine ah 4 (by kernel_rfl) rfl fun K j=>?_;go_simp;go_at_call 40;refine(bG B b (m+2) _ _ (show Rd w2.drew B b (m+2)from(ae i).1) (by omega) (by omega) (by omega)).mono ?_;rintro e w3 ⟨q,rfl,U,q1,c,d⟩;refine Shut.out j _ _ trivial (fun f=>?_);clear j K;obtain⟨y,rfl⟩:=a0r U;have R:y<256:=by omega
   have Y:IntKind.u8.wrap (y:Int)=(y:Int):=vT (by omega) (by omega);have z:Hid (Rd w3 B b (m+3)/\Below b w w3):=⟨c,(ae i).2.drew.trans d.1⟩;have D:=c.lt;clear c d;refine ag 5 (.int .u8 (y:Int)) rfl (by kernel_rfl) (fun _ _ _ h=>h) rfl (fun W a=>by go_simp) f ?_;refine ah 6 (by kernel_rfl) rfl fun K j=>?_;go_simp;refine Shut.out j _ _ trivial (fun _=>?_);clear j K f;have F:=Br w3 y R;have v:Hid (Rd (w3.alloc (.cells #[.int .u8 (y:Int)] 5)) B b (m+10)/\Below b w (w3.alloc (.cells #[.int .u8 (y:Int)] 5))):=⟨((ae z).1.alloc _).mono (by omega),(ae z).2.alloc (a0C D) _⟩;obtain⟨w4,hw4⟩:∃x,w3.alloc (.cells #[.int .u8 (y:Int)] 5)=x:=⟨_,rfl⟩;rw[hw4]at v F;refine dX (S':=fun W=>W=w4) (fun _ _=>trivial) _ _ _ _ ?_;have f:w3.alloc (.cells #[.int .u8 (y:Int)] 5)=w4:=hw4;generalize UInt8.ofNat y=yy at *
   refine ag 7 (.string ⟨[yy].toArray⟩) rfl (by kernel_rfl) (fun _ _ _ h=>h) rfl (fun W a=>by subst a;go_simp) f ?_;refine ag 8 (.string (s.extract 0 k++(⟨[yy].toArray⟩:ByteArray))) rfl (by kernel_rfl) (fun _ _ _ h=>h) rfl (fun W a=>by subst a;go_simp<;>omega) f ?_;refine ag 13 (.string (s.extract 0 k++(⟨[yy].toArray⟩:ByteArray)++s.extract (k+1) s.size)) rfl (by kernel_rfl) (fun _ _ _ h=>h) rfl (fun W a=>by subst a;go_simp<;>omega) f ?_;refine ah 14 (by kernel_rfl) rfl fun K j=>?_;go_simp;refine Shut.out j _ _ rfl (fun _=>?_);clear j K;refine wpAnyH_done (by kernel_rfl) ?_ _;clear F f hw4;have A:(s.extract 0 k++(⟨[yy].toArray⟩:ByteArray)++s.extract (k+1) s.size).size<=9100:=by
    have e1:(⟨[yy].toArray⟩:ByteArray).size=1:=rfl;rw[rY,rY,a1p,a1p,e1];omega
   have u:=af (Iy s k C yy);generalize s.extract 0 k++(⟨[yy].toArray⟩:ByteArray)++s.extract (k+1) s.size=Zz at *
   go_wp2;go_ret;exact⟨⟨_,rfl,A,ae u⟩,(ae v).1,(ae v).2⟩
  .
   have u:=af (Ix s k C);have A:(s.extract 0 k).size<=9100:=by rw[a1p];omega
   go_wp2;go_ret;exact⟨⟨_,rfl,A,ae u⟩,(ae i).1.mono (by omega),(ae i).2⟩
  .
   go_wp2_with fail;refine(of_le B b (m+2) w2.heap.size 0 3 3 100 _ _ ((ae i).1.alloc _) (by omega) (by omega) (by omega) (a1S l) (oZ w2 _ _ _ _) (qP (by decide) (by decide) (by decide))).mono ?_;rintro e w3 ⟨t0,P,rfl,c,d⟩;have v:Hid (Rd w3 B b (m+10)/\Below b w w3):=⟨c.mono (by omega),((ae i).2.alloc (a0C l) _).trans d.1⟩;have A:(s++t0).size<=9100:=by rw[rY];omega
   have Q:(t0.size:Int)<=100:=by omega
   clear c d;go_wp2;go_ret;exact⟨⟨_,rfl,A,Iw s t0⟩,(ae v).1,(ae v).2⟩
  . go_wp2;go_ret;exact⟨⟨_,rfl,by omega,pn s⟩,(ae i).1.mono (by omega),(ae i).2⟩
  . go_wp2;go_ret;exact⟨⟨_,rfl,by omega,pn s⟩,(ae i).1.mono (by omega),(ae i).2⟩
theorem yQ(B b m:Nat)(s:ByteArray)(w:World)(h:Rd w B b m)(c:m<=80000)(d:s.size<=9000) :
  Calls prog 35 #[.pointer (some ⟨b,0,none⟩),.string s] w fun e w'=>(∃t:ByteArray,e = .returned (.string t)/\t.size<=9100)/\Rd w' B b (m+10)/\Below b w w':=
 (kH B b m s w h c d).mono fun _ _ ⟨⟨t,e,a,_⟩,h2⟩=>⟨⟨t,e,a⟩,h2⟩
end Go.Proofs.YtlpmnnjlmjffpaaGreatDoor
