/- Of what the proof is made: 5 texts, one behind the other. -/
import Derived.Test.YtggknepmhjfohaaGreatDoorM30
import Derived.Test.YtggknepmhjfohaaGreatDoorM4
import Derived.Test.YtggknepmhjfohaaGreatDoorM20
import Derived.Test.YtggknepmhjfohaaGreatDoorM3
import Derived.Test.YtggknepmhjfohaaGreatDoorM5
import Derived.BigQuiet
import Derived.Test.YtggknepmhjfohaaGreatDoorM8
set_option maxRecDepth 100000
set_option linter.unusedSimpArgs false
set_option linter.unusedVariables false
set_option maxHeartbeats 6400000
namespace Go.Proofs.YtggknepmhjfohaaGreatDoor
open Go.Proofs.Tryz
open Go.RowKit Corb
variable {a b:ByteArray}
def fp(a b:ByteArray):ByteArray:=if b.size<a.size then b else a
theorem eG(h:b.size<a.size):fp a b=b:=a0d h
theorem fQ(h:¬ b.size<a.size):fp a b=a:=a0e h
def byO(s:ByteArray):ByteArray:=⟨(kM s).toArray⟩
def bU(s:ByteArray):ByteArray:=fp (fp (byS s) (byF s)) (byO s)
def iv(s:ByteArray):Nat->ByteArray
 | 1=>byS s
 | 2=>fp (byS s) (byF s)
 | _=>bU s
theorem xl(s:ByteArray)(h:¬ s.size<=300):byO s=⟨#[]⟩:=by unfold byO kM;rw[a0e h]
theorem xU(s:ByteArray)(h:¬ s.size<=300):bU s=⟨#[]⟩:=by
 unfold bU;rw[xo s h,xj s h,xl s h];rfl
theorem vr(l:List (Int×Int)):(cx l).length=((aW l).2+7)/8:=by unfold cx;exact aL _ _
theorem tL{l:List UInt8}(h:l.length<=100000):((⟨l.toArray⟩:ByteArray).size:Int)<=100000:=by
 have:(⟨l.toArray⟩:ByteArray).size=l.length:=by simp[ByteArray.size]
 omega
theorem Cy{l:List (Int×Int)}(h:lOk l=true):(aW l).2<=64000:=by
 unfold lOk at h;simp only[a0l,a0u]at h;have a:=dH (0,0) l (fun x c=>by
  have h2:=h.1;unfold aX at h2;exact(aP.1 (a1m.1 h2 x c)).1.2)
 have b:aV (0,0) l=aW l:=rfl;rw[b]at a;omega
theorem kv{B:Nat}{a w:World}(h:Below B a w){r:Nat}(b:B<=w.heap.size)(d:B<=r)(o:Obj):Below B a (w.putObj r o):=h.grown (grownBy_putObj' w r o) b (fun j c=>by cases c;exact d)
theorem rN(s:ByteArray):((byS s).size:Int)<=100000/\((byF s).size:Int)<=100000/\((byO s).size:Int)<=100000:=by
 by_cases a:s.size<=300
 .
  have c:=ij s a;have d:=eo s;refine⟨tL ?_,tL ?_,tL ?_⟩
  .
   unfold fq
   split
   . rw[a0m,aL,iJ];omega
   . simp
  . unfold kA;rw[a0d a];show(cx (gw s)).length<=_;rw[vr];have b:=Cy (od s a);omega
  . unfold kM;rw[a0d a];show(cx (ir _)).length<=_;rw[vr];have b:=Cy (ru _ c d);omega
 . rw[xo s a,xj s a,xl s a];exact⟨by decide,by decide,by decide⟩
theorem pA(s:ByteArray)(w:World)(O:s.size<=1048576)(N:ec w) :
  CD 40 #[.string s] w (.string (bU s)):=by
 have L:=@run_makeMap prog;have H:=underlying97;have c:=a1X;obtain⟨b,hb⟩:∃b,w.heap.size=b:=⟨_,rfl⟩;have m0:=Di w;obtain⟨w1,V,m1,e1⟩:=mA H c _ _ _ 0 (.func (.func 65) #[] #[]) m0 (by simp);obtain⟨w2,X,m2,e2⟩:=mA H c _ _ _ 1 (.func (.func 66) #[] #[]) m1 (by simp);obtain⟨w3,Y,m3,e3⟩:=mA H c _ _ _ 2 (.func (.func 67) #[] #[]) m2 (by simp);have z1:w1.heap.size=w.heap.size+1:=by rw[e1];simp[World.putObj]
 have z2:w2.heap.size=w.heap.size+1:=by rw[e2];simpa[World.putObj]using z1
 have g:Below w.heap.size w w1:=by rw[e1];exact kv ((a0c _ w).alloc (a0a _) _) (by simp) (a0a _) _
 have B:Below w.heap.size w w2:=by rw[e2];exact kv g (by omega) (a0a _) _
 have C:Below w.heap.size w w3:=by rw[e3];exact kv B (by omega) (a0a _) _
 simp only[a1b,a1o]at m3;have I:=af (fun W k v (h:jz W w.heap.size [(0,.func (.func 65) #[] #[]),(1,.func (.func 66) #[] #[]),(2,.func (.func 67) #[] #[])]) T=>Dh H c W w.heap.size _ k v false h T (by decide));have g0:=ae I w3 0 (.func (.func 65) #[] #[]) m3 (by simp);have M:=af m3;have y:=af C;have S:=af N;have J:=af O;have z:=af (rN s);clear e1 e2 e3 z1 z2 g B C m0 m1 m2 m3 H c O N hb b;go_enter func40,ntmps40;go_wp2_with fail;refine(pE s w3 (ae J)).mono ?_;rintro e x1 ⟨rfl,K⟩;have D:=(ae M).later K;have g:=ap (ae y) K;have eS:(⟨(fq s.data.toList).toArray⟩:ByteArray)=iv s 1:=rfl;rw[eS];clear K M y V X Y g0 L eS;go_wp2_with fail
 go_loopw [4,5,6] (fun v i _ wr=>∃k:Nat,1<=k/\k<=3/\i = .int .i64 k/\v = .string (iv s k)/\jz wr w.heap.size [(0,.func (.func 65) #[] #[]),(1,.func (.func 66) #[] #[]),(2,.func (.func 67) #[] #[])]/\Below w.heap.size w wr) (fun _ i _ _=>3-(intOf i).toNat)
 case atStart=>exact⟨1,by omega,by omega,rfl,rfl,D,g⟩
 case round=>
  obtain⟨k,u,x,rfl,rfl,t,a⟩:=hrel;clear D g;rcases (show k=1∨k=2∨k=3 by omega)with c|c|c
  .
   have l:(k:Int)=1:=by omega
   have E:(k:Int)<=2:=by omega
   have g1:(Instr.lookup 97 (.map (some w.heap.size)) (.int .i64 (k:Int)) false).run prog wr = .ok (.func (.func 66) #[] #[]) wr:=by rw[l];exact ae I wr 1 (.func (.func 66) #[] #[]) t (by simp)
   have p:=af (py s wr (ae J));have eF:(⟨(kA s).toArray⟩:ByteArray)=byF s:=rfl;rw[eF]at p;have f:iv s k=byS s:=by rw[c];rfl
   have j:Hid (iv s (k+1)=fp (byS s) (byF s)):=by show _=_;rw[c];rfl
   obtain⟨P,Q,U⟩:=ae z;rw[f];have o:=af c;have d:=af (a0b t a);clear t a c u x f eF l;generalize byF s=F at *
   generalize byS s=A at *
   go_wp2_with fail;refine(ae p).mono ?_;rintro e x2 ⟨rfl,r⟩;have n:=af (a0b ((ae d).1.later r) (ap (ae d).2 r));clear r d p;by_cases m:F.size<A.size
   .
    have G:(F.size:Int)<(A.size:Int):=by omega
    have q:=af (eG m);go_wp2;go_roundw
    case rel=>exact⟨k+1,by omega,by have:=ae o;omega,by go_num,by rw[ae j,ae q],(ae n).1,(ae n).2⟩
    case measure=>have:=ae o;simp[intOf];omega
   .
    have q:=af (fQ m);go_wp2;go_roundw
    case rel=>exact⟨k+1,by omega,by have:=ae o;omega,by go_num,by rw[ae j,ae q],(ae n).1,(ae n).2⟩
    case measure=>have:=ae o;simp[intOf];omega
  .
   have l:(k:Int)=2:=by omega
   have E:(k:Int)<=2:=by omega
   have g1:(Instr.lookup 97 (.map (some w.heap.size)) (.int .i64 (k:Int)) false).run prog wr = .ok (.func (.func 67) #[] #[]) wr:=by rw[l];exact ae I wr 2 (.func (.func 67) #[] #[]) t (by simp)
   have p:=af (su s wr (ae J) ((ae S).later a));have eF:(⟨(kM s).toArray⟩:ByteArray)=byO s:=rfl;rw[eF]at p;have f:iv s k=fp (byS s) (byF s):=by rw[c];rfl
   have j:Hid (iv s (k+1)=fp (fp (byS s) (byF s)) (byO s)):=by show _=_;rw[c];rfl
   obtain⟨P,Q,U⟩:=ae z;rw[f];have o:=af c;have d:=af (a0b t a);clear t a c u x f eF P Q l;generalize byO s=F at *
   generalize fp (byS s) (byF s)=A at *
   go_wp2_with fail;refine(ae p).mono ?_;rintro e x2 ⟨rfl,r⟩;have n:=af (a0b ((ae d).1.later r) (ap (ae d).2 r));clear r d p;by_cases m:F.size<A.size
   .
    have G:(F.size:Int)<(A.size:Int):=by omega
    have q:=af (eG m);go_wp2;go_roundw
    case rel=>exact⟨k+1,by omega,by have:=ae o;omega,by go_num,by rw[ae j,ae q],(ae n).1,(ae n).2⟩
    case measure=>have:=ae o;simp[intOf];omega
   .
    have q:=af (fQ m);go_wp2;go_roundw
    case rel=>exact⟨k+1,by omega,by have:=ae o;omega,by go_num,by rw[ae j,ae q],(ae n).1,(ae n).2⟩
    case measure=>have:=ae o;simp[intOf];omega
  .
   have E:¬ (k:Int)<=2:=by omega
   have f:Hid (iv s k=bU s):=by show _=_;rw[c];rfl
   have R:=af a;clear t a c u x;generalize iv s k=A at *
   go_wp2;go_ret;exact⟨by rw[←ae f];rfl,ae R⟩
theorem um(s:ByteArray)(w:World)(r:s.size<=300) :
  CD 74 #[.string s] w (.string (bU s)):=by
 have J:¬ (300:Int)<(s.size:Int):=by omega
 have m:=af (fun W=>yC s W r);have n:=af (fun W=>yA s W r);have o:=af (fun W=>Ew s W r);have e1:(⟨(leS 5 (gn s.size)++s.data.toList).toArray⟩:ByteArray)=iv s 1:=by
  show _=byS s;unfold byS fq;rw[a0d (by rw[iJ];exact r),iJ]
 have e2:(⟨(dF s).toArray⟩:ByteArray)=byF s:=by unfold byF kA;rw[a0d r]
 have e3:(⟨(lm s).toArray⟩:ByteArray)=byO s:=by unfold byO kM;rw[a0d r]
 rw[e1]at m;rw[e2]at n;rw[e3]at o;have z:=af (rN s);clear r e1 e2 e3;go_enter func74,ntmps74;go_wp2_with fail;refine(ae m _).mono ?_;rintro e x1 ⟨rfl,D⟩;have B:=af D;clear D;go_wp2_with fail;refine(ae n _).mono ?_;rintro e x2 ⟨rfl,E⟩;have C:=af (ap (ae B) E);clear E B;go_wp2_with fail;refine(ae o _).mono ?_;rintro e x3 ⟨rfl,G⟩;have p:=ap (ae C) G;have t:Below w.heap.size w (x3.alloc (.cells #[.string (byF s),.string (byO s)] 9)):=p.alloc p.size _;have c0:(x3.alloc (.cells #[.string (byF s),.string (byO s)] 9)).cell? ⟨x3.heap.size,0,none⟩=some (.string (byF s)):=by simp
 have c1:(x3.alloc (.cells #[.string (byF s),.string (byO s)] 9)).cell? ⟨x3.heap.size,1,none⟩=some (.string (byO s)):=by simp
 have y:=af t;clear G p t C m n o;go_wp2_with fail;generalize x3.alloc (.cells #[.string (byF s),.string (byO s)] 9)=x4 at *
 generalize x3.heap.size=g at *
 go_loopw [3,5] (fun v i wr=>∃k:Nat,k<=2/\i = .int .i64 k/\v = .string (iv s (k+1))/\wr=x4) (fun _ i _=>2-(intOf i).toNat)
 case atStart=>exact⟨0,by omega,rfl,rfl,rfl⟩
 case round=>
  obtain⟨k,q,rfl,rfl,x⟩:=hrel;rw[x];clear x;obtain⟨H,I,K⟩:=ae z;rcases (show k=0∨k=1∨k=2 by omega)with b|b|b
  .
   have u:(k:Int)<2:=by omega
   have c:x4.cell? ⟨g,k,none⟩=some (.string (byF s)):=by rw[b];exact c0
   have a:iv s (k+1)=byS s:=by rw[b];rfl
   have d:Hid (iv s (k+1+1)=fp (byS s) (byF s)):=by show _=_;rw[b];rfl
   rw[a];have j:=af b;clear b a c0 c1 q;generalize byF s=F at *
   generalize byS s=A at *
   by_cases f:F.size<A.size
   .
    have h:(F.size:Int)<(A.size:Int):=by omega
    have l:=af (eG f);go_wp2;go_roundw
    case rel=>exact⟨k+1,by have:=ae j;omega,by go_num,by rw[ae d,ae l],by first|rfl|trivial⟩
    case measure=>have:=ae j;simp[intOf];omega
   .
    have h:¬ (F.size:Int)<(A.size:Int):=by omega
    have l:=af (fQ f);go_wp2;go_roundw
    case rel=>exact⟨k+1,by have:=ae j;omega,by go_num,by rw[ae d,ae l],by first|rfl|trivial⟩
    case measure=>have:=ae j;simp[intOf];omega
  .
   have u:(k:Int)<2:=by omega
   have c:x4.cell? ⟨g,k,none⟩=some (.string (byO s)):=by rw[b];exact c1
   have a:iv s (k+1)=fp (byS s) (byF s):=by rw[b];rfl
   have d:Hid (iv s (k+1+1)=fp (fp (byS s) (byF s)) (byO s)):=by show _=_;rw[b];rfl
   rw[a];have j:=af b;clear b a c0 c1 q H I;generalize byO s=F at *
   generalize fp (byS s) (byF s)=A at *
   by_cases f:F.size<A.size
   .
    have h:(F.size:Int)<(A.size:Int):=by omega
    have l:=af (eG f);go_wp2;go_roundw
    case rel=>exact⟨k+1,by have:=ae j;omega,by go_num,by rw[ae d,ae l],by first|rfl|trivial⟩
    case measure=>have:=ae j;simp[intOf];omega
   .
    have h:¬ (F.size:Int)<(A.size:Int):=by omega
    have l:=af (fQ f);go_wp2;go_roundw
    case rel=>exact⟨k+1,by have:=ae j;omega,by go_num,by rw[ae d,ae l],by first|rfl|trivial⟩
    case measure=>have:=ae j;simp[intOf];omega
  .
   have u:¬ (k:Int)<2:=by omega
   have a:Hid (iv s (k+1)=bU s):=by show _=_;rw[b];rfl
   clear b c0 c1 q;generalize iv s (k+1)=A at *
   go_wp2;go_ret;exact⟨by rw[←ae a];rfl,ae y⟩
theorem pW(s:ByteArray)(w:World)(c:s.size<=1048576) :
  CD 74 #[.string s] w (.string (bU s)):=by
 by_cases h:s.size<=300
 . exact um s w h
 .
  have b:(300:Int)<(s.size:Int):=by omega
  have a:=af (xU s h);clear h;go_enter func74,ntmps74;go_wp2;go_ret;exact⟨by rw[ae a];rfl,a0c _ _⟩
def eq(s:ByteArray):Nat:=if (bU s).size<s.size then 8 else 0
def bn(s:ByteArray):ByteArray:=if (bU s).size<s.size then bU s else s
theorem oe(s:ByteArray):((bU s).size:Int)<=100000:=by
 obtain⟨c,h2,d⟩:=rN s;have key:∀a b:ByteArray,(a.size:Int)<=100000->(b.size:Int)<=100000->((fp a b).size:Int)<=100000:=fun a b e hb=>by
  by_cases h:b.size<a.size
  . rw[eG h];exact hb
  . rw[fQ h];exact e
 unfold bU;exact key _ _ (key _ _ c h2) d
theorem uP(s:ByteArray)(w:World)(d:s.size<=1048576) :
  CD 47 #[.string s] w (.tuple #[.int .i64 (eq s:Nat),.string (bn s)]):=by
 have b:=af (pW s w d);unfold eq bn;generalize bU s=x at *
 clear d;by_cases h:x.size<s.size
 .
  have f:(x.size:Int)<(s.size:Int):=by omega
  rw[a0d h,a0d h];clear h;go_enter func47,ntmps47;go_wp2_with fail;refine(ae b).mono ?_;rintro e w1 ⟨rfl,a⟩;have c:=af a;clear a b;go_wp2
  go_ret2
  exact⟨rfl,ae c⟩
 .
  have f:¬ (x.size:Int)<(s.size:Int):=by omega
  rw[a0e h,a0e h];clear h;go_enter func47,ntmps47;go_wp2_with fail;refine(ae b).mono ?_;rintro e w1 ⟨rfl,a⟩;have c:=af a;clear a b;go_wp2
  go_ret2
  exact⟨rfl,ae c⟩
def oZ(W:World)(g:Nat)(n:ByteArray)(y mo d h mi s:Int)(t:ByteArray):Prop:=W.cell? ⟨g,0,none⟩=some (.string n)/\W.cell? ⟨g,1,none⟩=some (.int .i64 y)/\W.cell? ⟨g,2,none⟩=some (.int .i64 mo)/\W.cell? ⟨g,3,none⟩=some (.int .i64 d)/\W.cell? ⟨g,4,none⟩=some (.int .i64 h)/\W.cell? ⟨g,5,none⟩=some (.int .i64 mi)/\W.cell? ⟨g,6,none⟩=some (.int .i64 s)/\W.cell? ⟨g,7,none⟩=some (.string t)
def mI(w:World)(n:ByteArray)(y mo d h mi s:Int)(t:ByteArray)(W:World):Prop:=Below w.heap.size w W/\w.heap.size<W.heap.size/\oZ W w.heap.size n y mo d h mi s t
theorem mI.later{w W W':World}{n t:ByteArray}{y mo d h mi s:Int}(k:mI w n y mo d h mi s t W)(hb:Below W.heap.size W W'):mI w n y mo d h mi s t W':=by
 have a:∀j,W'.cell? ⟨w.heap.size,j,none⟩=W.cell? ⟨w.heap.size,j,none⟩:=fun j=>hb.cell (p:=⟨w.heap.size,j,none⟩) k.2.1;obtain⟨c,b,e0,e1,e2,e3,e4,e5,e6,e7⟩:=k;exact⟨c.trans (hb.mono (a0s b)),a0k b hb.size,(a 0).trans e0,(a 1).trans e1,(a 2).trans e2,(a 3).trans e3,(a 4).trans e4,(a 5).trans e5,(a 6).trans e6,(a 7).trans e7⟩
theorem Jd(how st crc pk lg n:Nat):jw how st crc pk lg n=bW (leS 2 20)++bW (leS 2 0)++bW (leS 2 how)++bW (leS 4 st)++bW (leS 4 crc)++bW (leS 4 pk)++bW (leS 4 lg)++bW (leS 2 n)++bW (leS 2 0):=by
 have c:∀a b:ByteArray,a.data.toList=b.data.toList->a=b:=fun a b h=>by
  cases a;cases b
  simp only[ByteArray.mk.injEq];exact Array.toList_inj.1 h
 apply c;unfold jw bW;simp
theorem wn(n t:ByteArray)(y mo d h mi s:Int)(N:Nat)(w:World)(k:(0<=y/\y<=100000)/\(0<=mo/\mo<=100)/\(0<=d/\d<=100)/\(0<=h/\h<=100)/\(0<=mi/\mi<=100) /\ -100<=s/\s<=100)
  (u:(((((y-1980)*16+mo)*32+d)*32+h)*64+mi)*32+Int.tdiv s 2=(N:Int)) (l:N<4294967296) (I:n.size<65536) (v:t.size<=1048576) :
  CD 49 #[.agg #[.string n,.int .i64 y,.int .i64 mo,.int .i64 d,.int .i64 h,.int .i64 mi,.int .i64 s,.string t]] w (.string (jw (eq t) N (aI 0 t.data.toList) (bn t).size t.size n.size)):=by
 have i:prog.follows .mixedOrders=true:=by kernel_rfl
 have o:aI 0 t.data.toList<4294967296:=gu _ _ (by omega);have p:=oe t;have m:(bn t).size<=1048576:=by unfold bn;split<;>omega
 have q:eq t<=8:=by unfold eq;split<;>omega
 have j:Hid (∀W,CD 48 #[.int .i64 ((20:Nat):Int),.int .i64 2] W (.string (bW (leS 2 (20))))):=fun W=>dz (20) 2 W (by omega) (by omega);have r:Hid (∀W,CD 48 #[.int .i64 ((0:Nat):Int),.int .i64 2] W (.string (bW (leS 2 (0))))):=fun W=>dz (0) 2 W (by omega) (by omega);have B:Hid (∀W,CD 48 #[.int .i64 ((eq t:Nat):Int),.int .i64 2] W (.string (bW (leS 2 (eq t))))):=fun W=>dz (eq t) 2 W (by omega) (by omega);have E:Hid (∀W,CD 48 #[.int .i64 ((N:Nat):Int),.int .i64 4] W (.string (bW (leS 4 (N))))):=fun W=>dz (N) 4 W (by omega) (by omega);have C:Hid (∀W,CD 48 #[.int .i64 ((aI 0 t.data.toList:Nat):Int),.int .i64 4] W (.string (bW (leS 4 (aI 0 t.data.toList))))):=fun W=>dz (aI 0 t.data.toList) 4 W (by omega) (by omega);have z:Hid (∀W,CD 48 #[.int .i64 (((bn t).size:Nat):Int),.int .i64 4] W (.string (bW (leS 4 ((bn t).size))))):=fun W=>dz ((bn t).size) 4 W (by omega) (by omega);have CT:Hid (∀W,CD 48 #[.int .i64 ((t.size:Nat):Int),.int .i64 4] W (.string (bW (leS 4 (t.size))))):=fun W=>dz (t.size) 4 W (by omega) (by omega);have D:Hid (∀W,CD 48 #[.int .i64 ((n.size:Nat):Int),.int .i64 2] W (.string (bW (leS 2 (n.size))))):=fun W=>dz (n.size) 2 W (by omega) (by omega);have F:Hid (∀W,CD 75 #[.agg #[.int .i64 y,.int .i64 mo,.int .i64 d,.int .i64 h,.int .i64 mi,.int .i64 s]] W (.int .i64 ((N:Nat):Int))):=fun W=>by
  have:=Ey y mo d h mi s W k;rw[u]at this;exact this
 have A:Hid (∀W,CD 39 #[.string t] W (.int .i64 ((aI 0 t.data.toList:Nat):Int))):=fun W=>(qJ t W (by unfold maxLen;omega)).mono fun e w' ⟨H,h2⟩=>⟨H,by rw[h2];exact a0c _ _⟩;have g:=af (fun W=>uP t W v);have G:=af (Jd (eq t) N (aI 0 t.data.toList) (bn t).size t.size n.size);have zz:∀many V,many<=4->((bW (leS many V)).size:Int)<=4:=fun many V O=>by rw[qe,aL];omega
 have z1:=zz 2 20 (by omega);have z2:=zz 2 0 (by omega);have z3:=zz 2 (eq t) (by omega);have z4:=zz 4 N (by omega);have z5:=zz 4 (aI 0 t.data.toList) (by omega);have z6:=zz 4 (bn t).size (by omega);have z7:=zz 4 t.size (by omega);have z8:=zz 2 n.size (by omega);generalize bW (leS 2 20)=A20 at *
 generalize bW (leS 2 0)=A0 at *
 generalize bW (leS 2 (eq t))=AH at *
 generalize bW (leS 4 N)=AN at *
 generalize bW (leS 4 (aI 0 t.data.toList))=AK at *
 generalize bW (leS 4 (bn t).size)=AB at *
 generalize bW (leS 4 t.size)=AT at *
 generalize bW (leS 2 n.size)=AM at *
 generalize jw (eq t) N (aI 0 t.data.toList) (bn t).size t.size n.size=RES at *
 generalize eq t=hw at *
 generalize bn t=bd at *
 generalize aI 0 t.data.toList=cr at *
 have T0':Hid (mI w n y mo d h mi s t (w.alloc (.cells #[.string n,.int .i64 y,.int .i64 mo,.int .i64 d,.int .i64 h,.int .i64 mi,.int .i64 s,.string t] 27))):=⟨(a0c _ _).alloc (a0a _) _,by simp,by simp,by simp,by simp,by simp,by simp,by simp,by simp,by simp⟩;clear k u l I v o p m q zz;go_enter func49,ntmps49;go_wp2_with fail;obtain⟨W1,hW1⟩:∃x,w.alloc (.cells #[.string n,.int .i64 y,.int .i64 mo,.int .i64 d,.int .i64 h,.int .i64 mi,.int .i64 s,.string t] 27)=x:=⟨_,rfl⟩;rw[hW1]at T0';rw[hW1];have T1:=T0';clear T0' hW1;refine(ae g W1).mono ?_;rintro e W2 ⟨rfl,b⟩;have T2:=af ((ae T1).later b);clear b T1 g;go_wp2_with fail;refine wp_region_held_drew (S:=fun W=>oZ W w.heap.size n y mo d h mi s t) i (ae T2).2.2 (fun f=>?_);refine ag 3 (.int .i64 (hw:Nat)) rfl (by kernel_rfl) (fun _ _ _ h=>h) rfl (fun W a=>by obtain⟨s0,s1,s2,s3,s4,s5,s6,s7⟩:=a;go_simp) f ?_;refine ag 6 (.pointer (some ⟨w.heap.size,1,none⟩)) rfl (by kernel_rfl) (fun _ _ _ h=>h) rfl (fun W a=>by obtain⟨s0,s1,s2,s3,s4,s5,s6,s7⟩:=a;go_simp) f ?_;refine ag 7 (.agg #[.int .i64 y,.int .i64 mo,.int .i64 d,.int .i64 h,.int .i64 mi,.int .i64 s]) rfl (by kernel_rfl) (fun _ _ _ h=>h) rfl (fun W a=>by obtain⟨s0,s1,s2,s3,s4,s5,s6,s7⟩:=a;go_simp) f ?_;have T3:Hid (mI w n y mo d h mi s t W2.drew):=⟨(ae T2).1.drew,(ae T2).2.1,(ae T2).2.2⟩;generalize W2.drew=W3 at *
 refine ai 0 (by kernel_rfl) rfl fun K c=>?_;go_simp;go_at_call 48;refine(ae j W3).mono ?_;rintro e W4 ⟨rfl,b⟩;have T4:=af ((ae T3).later b);refine Shut.out c _ _ (ae T4).2.2 (fun f=>?_);clear c K b;refine ai 1 (by kernel_rfl) rfl fun K c=>?_;go_simp;go_at_call 48;refine(ae r W4).mono ?_;rintro e W5 ⟨rfl,b⟩;have T5:=af ((ae T4).later b);refine Shut.out c _ _ (ae T5).2.2 (fun f=>?_);clear c K b;refine ag 2 (.string (A20++A0)) rfl (by kernel_rfl) (fun _ _ _ h=>h) rfl (fun W a=>by obtain⟨s0,s1,s2,s3,s4,s5,s6,s7⟩:=a;go_simp<;>omega) f ?_;refine ai 4 (by kernel_rfl) rfl fun K c=>?_;go_simp;go_at_call 48;refine(ae B W5).mono ?_;rintro e W6 ⟨rfl,b⟩;have T6:=af ((ae T5).later b);refine Shut.out c _ _ (ae T6).2.2 (fun f=>?_);clear c K b;refine ag 5 (.string (A20++A0++AH)) rfl (by kernel_rfl) (fun _ _ _ h=>h) rfl (fun W a=>by obtain⟨s0,s1,s2,s3,s4,s5,s6,s7⟩:=a;go_simp<;>omega) f ?_;refine ai 8 (by kernel_rfl) rfl fun K c=>?_;go_simp;go_at_call 75;refine(ae F W6).mono ?_;rintro e W7 ⟨rfl,b⟩;have T7:=af ((ae T6).later b);refine Shut.out c _ _ (ae T7).2.2 (fun f=>?_);clear c K b;refine ai 9 (by kernel_rfl) rfl fun K c=>?_;go_simp;go_at_call 48;refine(ae E W7).mono ?_;rintro e W8 ⟨rfl,b⟩;have T8:=af ((ae T7).later b);refine Shut.out c _ _ (ae T8).2.2 (fun f=>?_);clear c K b;refine ag 10 (.string (A20++A0++AH++AN)) rfl (by kernel_rfl) (fun _ _ _ h=>h) rfl (fun W a=>by obtain⟨s0,s1,s2,s3,s4,s5,s6,s7⟩:=a;go_simp<;>omega) f ?_;refine ai 11 (by kernel_rfl) rfl fun K c=>?_;go_simp;refine Shut.out c _ _ (ae T8).2.2 (fun f=>?_);clear c K;refine wpAnyH_done (by kernel_rfl) ?_ _;clear f;obtain⟨B1,hB1⟩:∃x,A20++A0++AH++AN=x:=⟨_,rfl⟩;have zB1:(B1.size:Int)<=1000:=by rw[←hB1];simp only[a0U];omega
 rw[hB1];go_wp2_with fail;refine wp_region_held_drew (S:=fun W=>oZ W w.heap.size n y mo d h mi s t) i (ae T8).2.2 (fun f=>?_);refine ag 0 (.string B1) rfl (by kernel_rfl) (fun _ _ _ h=>h) rfl (fun W a=>by obtain⟨s0,s1,s2,s3,s4,s5,s6,s7⟩:=a;go_simp) f ?_;refine ag 1 (.pointer (some ⟨w.heap.size,7,none⟩)) rfl (by kernel_rfl) (fun _ _ _ h=>h) rfl (fun W a=>by obtain⟨s0,s1,s2,s3,s4,s5,s6,s7⟩:=a;go_simp) f ?_;refine ag 2 (.string t) rfl (by kernel_rfl) (fun _ _ _ h=>h) rfl (fun W a=>by obtain⟨s0,s1,s2,s3,s4,s5,s6,s7⟩:=a;go_simp) f ?_;refine ag 6 (.string bd) rfl (by kernel_rfl) (fun _ _ _ h=>h) rfl (fun W a=>by obtain⟨s0,s1,s2,s3,s4,s5,s6,s7⟩:=a;go_simp) f ?_;refine ag 7 (.int .i64 (bd.size:Nat)) rfl (by kernel_rfl) (fun _ _ _ h=>h) rfl (fun W a=>by obtain⟨s0,s1,s2,s3,s4,s5,s6,s7⟩:=a;go_simp) f ?_;refine ag 10 (.pointer (some ⟨w.heap.size,7,none⟩)) rfl (by kernel_rfl) (fun _ _ _ h=>h) rfl (fun W a=>by obtain⟨s0,s1,s2,s3,s4,s5,s6,s7⟩:=a;go_simp) f ?_;refine ag 11 (.string t) rfl (by kernel_rfl) (fun _ _ _ h=>h) rfl (fun W a=>by obtain⟨s0,s1,s2,s3,s4,s5,s6,s7⟩:=a;go_simp) f ?_;refine ag 12 (.int .i64 (t.size:Nat)) rfl (by kernel_rfl) (fun _ _ _ h=>h) rfl (fun W a=>by obtain⟨s0,s1,s2,s3,s4,s5,s6,s7⟩:=a;go_simp) f ?_;have T9:Hid (mI w n y mo d h mi s t W8.drew):=⟨(ae T8).1.drew,(ae T8).2.1,(ae T8).2.2⟩;generalize W8.drew=W9 at *
 refine ai 3 (by kernel_rfl) rfl fun K c=>?_;go_simp;go_at_call 39;refine(ae A W9).mono ?_;rintro e W10 ⟨rfl,b⟩;have T10:=af ((ae T9).later b);refine Shut.out c _ _ (ae T10).2.2 (fun f=>?_);clear c K b;refine ai 4 (by kernel_rfl) rfl fun K c=>?_;go_simp;go_at_call 48;refine(ae C W10).mono ?_;rintro e W11 ⟨rfl,b⟩;have T11:=af ((ae T10).later b);refine Shut.out c _ _ (ae T11).2.2 (fun f=>?_);clear c K b;refine ag 5 (.string (B1++AK)) rfl (by kernel_rfl) (fun _ _ _ h=>h) rfl (fun W a=>by obtain⟨s0,s1,s2,s3,s4,s5,s6,s7⟩:=a;go_simp<;>omega) f ?_;refine ai 8 (by kernel_rfl) rfl fun K c=>?_;go_simp;go_at_call 48;refine(ae z W11).mono ?_;rintro e W12 ⟨rfl,b⟩;have T12:=af ((ae T11).later b);refine Shut.out c _ _ (ae T12).2.2 (fun f=>?_);clear c K b;refine ag 9 (.string (B1++AK++AB)) rfl (by kernel_rfl) (fun _ _ _ h=>h) rfl (fun W a=>by obtain⟨s0,s1,s2,s3,s4,s5,s6,s7⟩:=a;go_simp<;>omega) f ?_;refine ai 13 (by kernel_rfl) rfl fun K c=>?_;go_simp;go_at_call 48;refine(ae CT W12).mono ?_;rintro e W13 ⟨rfl,b⟩;have T13:=af ((ae T12).later b);refine Shut.out c _ _ (ae T13).2.2 (fun f=>?_);clear c K b;refine ag 14 (.string (B1++AK++AB++AT)) rfl (by kernel_rfl) (fun _ _ _ h=>h) rfl (fun W a=>by obtain⟨s0,s1,s2,s3,s4,s5,s6,s7⟩:=a;go_simp<;>omega) f ?_;refine ai 15 (by kernel_rfl) rfl fun K c=>?_;go_simp;refine Shut.out c _ _ (ae T13).2.2 (fun f=>?_);clear c K;refine wpAnyH_done (by kernel_rfl) ?_ _;clear f;obtain⟨B2,hB2⟩:∃x,B1++AK++AB++AT=x:=⟨_,rfl⟩;have zB2:(B2.size:Int)<=2000:=by rw[←hB2];simp only[a0U];omega
 rw[hB2];obtain⟨c0,c1,c2,c3,c4,J,L,M⟩:=(ae T13).2.2;go_wp2_with fail;refine(ae D W13).mono ?_;rintro e X1 ⟨rfl,b⟩;have TX:=af ((ae T13).later b);clear b;go_wp2_with fail;refine(ae r X1).mono ?_;rintro e X2 ⟨rfl,b⟩;have TY:=af ((ae TX).later b);clear b;go_wp2;go_ret;exact⟨by rw[ae G,←hB2,←hB1];rfl,(ae TY).1⟩
def bV(n t:ByteArray)(N:Nat):ByteArray:=cG (eq t) N (aI 0 t.data.toList) (bn t).size t.size n++bn t
theorem Kj:bW (leS 4 67324752)=(⟨#[80,75,3,4]⟩:ByteArray):=by decide +kernel
theorem yD(n t:ByteArray)(y mo d h mi s:Int)(N:Nat)(w:World)(k:(0<=y/\y<=100000)/\(0<=mo/\mo<=100)/\(0<=d/\d<=100)/\(0<=h/\h<=100)/\(0<=mi/\mi<=100) /\ -100<=s/\s<=100)
  (q:(((((y-1980)*16+mo)*32+d)*32+h)*64+mi)*32+Int.tdiv s 2=(N:Int)) (i:N<4294967296) (r:n.size<65536) (p:t.size<=1048576) :
  CD 23 #[.agg #[.string n,.int .i64 y,.int .i64 mo,.int .i64 d,.int .i64 h,.int .i64 mi,.int .i64 s,.string t]] w (.string (bV n t N)):=by
 have j:prog.follows .mixedOrders=true:=by kernel_rfl
 have u:=af (fun W=>wn n t y mo d h mi s N W k q i r p);have f:=af (fun W=>uP t W p);have v:Hid (∀W,CD 48 #[.int .i64 67324752,.int .i64 4] W (.string (bW (leS 4 67324752)))):=fun W=>dz 67324752 4 W (by omega) (by omega);have o:=oe t;have m:(bn t).size<=1048576:=by unfold bn;split<;>omega
 have A:((bn t).size:Int)<=1048576:=by omega
 have B:(n.size:Int)<65536:=by omega
 have z:Hid (bW (leS 4 67324752)++jw (eq t) N (aI 0 t.data.toList) (bn t).size t.size n.size++n++bn t=bV n t N):=by unfold bV cG;rw[Kj];exact rfl
 have z1:((bW (leS 4 67324752)).size:Int)<=4:=by rw[qe,aL];omega
 have z2:((jw (eq t) N (aI 0 t.data.toList) (bn t).size t.size n.size).size:Int)<=26:=by rw[jb];omega
 generalize bW (leS 4 67324752)=A4 at *
 generalize jw (eq t) N (aI 0 t.data.toList) (bn t).size t.size n.size=FL at *
 generalize bV n t N=RES at *
 generalize eq t=hw at *
 generalize bn t=bd at *
 have T0':Hid (mI w n y mo d h mi s t (w.alloc (.cells #[.string n,.int .i64 y,.int .i64 mo,.int .i64 d,.int .i64 h,.int .i64 mi,.int .i64 s,.string t] 27))):=⟨(a0c _ _).alloc (a0a _) _,by simp,by simp,by simp,by simp,by simp,by simp,by simp,by simp,by simp⟩;clear k q i r p o m;go_enter func23,ntmps23;go_wp2_with fail;obtain⟨W1,hW1⟩:∃x,w.alloc (.cells #[.string n,.int .i64 y,.int .i64 mo,.int .i64 d,.int .i64 h,.int .i64 mi,.int .i64 s,.string t] 27)=x:=⟨_,rfl⟩;rw[hW1]at T0';rw[hW1];have T1:=T0';clear T0' hW1;refine(ae f W1).mono ?_;rintro e W2 ⟨rfl,c⟩;have T2:=af ((ae T1).later c);clear c T1 f;go_wp2_with fail;refine wp_region_held_drew (S:=fun W=>oZ W w.heap.size n y mo d h mi s t) j (ae T2).2.2 (fun b=>?_);refine ag 1 (.agg #[.string n,.int .i64 y,.int .i64 mo,.int .i64 d,.int .i64 h,.int .i64 mi,.int .i64 s,.string t]) rfl (by kernel_rfl) (fun _ _ _ h=>h) rfl (fun W a=>by obtain⟨s0,s1,s2,s3,s4,s5,s6,s7⟩:=a;go_simp) b ?_;refine ag 4 (.pointer (some ⟨w.heap.size,0,none⟩)) rfl (by kernel_rfl) (fun _ _ _ h=>h) rfl (fun W a=>by obtain⟨s0,s1,s2,s3,s4,s5,s6,s7⟩:=a;go_simp) b ?_;refine ag 5 (.string n) rfl (by kernel_rfl) (fun _ _ _ h=>h) rfl (fun W a=>by obtain⟨s0,s1,s2,s3,s4,s5,s6,s7⟩:=a;go_simp) b ?_;refine ag 7 (.string bd) rfl (by kernel_rfl) (fun _ _ _ h=>h) rfl (fun W a=>by obtain⟨s0,s1,s2,s3,s4,s5,s6,s7⟩:=a;go_simp) b ?_;have T3:Hid (mI w n y mo d h mi s t W2.drew):=⟨(ae T2).1.drew,(ae T2).2.1,(ae T2).2.2⟩;generalize W2.drew=W3 at *
 refine ai 0 (by kernel_rfl) rfl fun K g=>?_;go_simp;go_at_call 48;refine(ae v W3).mono ?_;rintro e W4 ⟨rfl,c⟩;have T4:=af ((ae T3).later c);refine Shut.out g _ _ (ae T4).2.2 (fun b=>?_);clear g K c;refine ai 2 (by kernel_rfl) rfl fun K g=>?_;go_simp;go_at_call 49;refine(ae u W4).mono ?_;rintro e W5 ⟨rfl,c⟩;have T5:=af ((ae T4).later c);refine Shut.out g _ _ (ae T5).2.2 (fun b=>?_);clear g K c;refine ag 3 (.string (A4++FL)) rfl (by kernel_rfl) (fun _ _ _ h=>h) rfl (fun W a=>by obtain⟨s0,s1,s2,s3,s4,s5,s6,s7⟩:=a;go_simp<;>omega) b ?_;refine ag 6 (.string (A4++FL++n)) rfl (by kernel_rfl) (fun _ _ _ h=>h) rfl (fun W a=>by obtain⟨s0,s1,s2,s3,s4,s5,s6,s7⟩:=a;go_simp<;>omega) b ?_;refine ag 8 (.string (A4++FL++n++bd)) rfl (by kernel_rfl) (fun _ _ _ h=>h) rfl (fun W a=>by obtain⟨s0,s1,s2,s3,s4,s5,s6,s7⟩:=a;go_simp<;>omega) b ?_;refine ai 9 (by kernel_rfl) rfl fun K g=>?_;go_simp;refine Shut.out g _ _ (ae T5).2.2 (fun b=>?_);clear g K;refine wpAnyH_done (by kernel_rfl) ?_ _;clear b;generalize l:A4++FL++n++bd=AA;go_wp2;go_ret;exact⟨by rw[←ae z,←l];rfl,(ae T5).1⟩
def tS(a b c:ByteArray):Nat->ByteArray
 | 0=>a | 1=>b|_=>c
theorem wP(w:World)(a b c:ByteArray)(t:TypeId):∀i,i<3->(w.alloc (.cells #[.string a,.string b,.string c] t)).cell? ⟨w.heap.size,0+i,none⟩=some (.string (tS a b c i)):=by
 intro i d
 match i,d with
 | 0,_=>simp[tS]
 | 1,_=>simp[tS]
 | 2,_=>simp[tS]
theorem zQ{c:ByteArray}{n:Nat}(d:a.size<=n)(hb:b.size<=n)(e:c.size<=n)(i:Nat):(tS a b c i).size<=n:=by
 match i with
 | 0=>exact d
 | 1=>exact hb
 | _+2=>exact e
theorem wi(B b m:Nat)(s:ByteArray)(w:World)(h:Rd w B b m)(V:m<=80000)(X:s.size<=9000) :
  Calls prog 10 #[.pointer (some ⟨b,0,none⟩),.string s] w fun e w'=>(∃t:ByteArray,e = .returned (.string t)/\t.size<=9100/\rD s t)/\Rd w' B b (m+10)/\Below b w w':=by
 have E:prog.follows .mixedOrders=true:=by kernel_rfl
 have O:(s.size:Int)<=9000:=by omega
 go_enter func10,ntmps10;by_cases H:s.toList.isEmpty=true
 . go_wp2;go_ret;exact⟨⟨_,rfl,by omega,pd s⟩,h.mono (by omega),a0c _ _⟩
 .
  have L:s.toList.isEmpty=false:=by simpa using H
  have J:0<s.size:=by
   rcases a2j s.size with G|G
   . have e:s=ByteArray.empty:=ByteArray.size_eq_zero_iff.1 G;subst e;exact absurd (by unfold ByteArray.toList ByteArray.toList.loop;rfl) H
   . exact G
  have N:(0:Int)<(s.size:Int):=by omega
  clear H;go_wp2_with fail;refine(cP B b m _ _ h (by omega) (by omega) (by omega)).mono ?_;rintro e w1 ⟨Z,rfl,I,T,p,n⟩;obtain⟨k,rfl⟩:=a0n I;have C:k<s.size:=by omega
  go_wp2_with fail;refine(cP B b (m+1) _ _ p (by omega) (by omega) (by omega)).mono ?_;rintro e w2 ⟨r,rfl,r0,r1,g,o⟩;have i:Hid (Rd w2 B b (m+2)/\Below b w w2):=⟨g,n.1.trans o.1⟩;have l:=g.lt;clear p n g o h;have M:r=0∨r=1∨r=2∨r=3∨r=4:=by omega
  have k0:(0:Int)<=(k:Int):=by omega
  have k1:(k:Int)<(s.size:Int):=by omega
  have k2:(k:Int)<=(s.size:Int):=by omega
  have k3:(k:Int)+1<=(s.size:Int):=by omega
  have k5:(0:Int)<=(k:Int)+1:=by omega
  rcases M with rfl|rfl|rfl|rfl|rfl
  .
   go_wp2_with fail;refine wp_region_held_drew (S:=fun _=>True) E trivial (fun f=>?_);refine ag 0 (.string s) rfl (by kernel_rfl) (fun _ _ _ h=>h) rfl (fun W a=>by go_simp) f ?_;refine ag 1 (.int .i64 (k:Nat)) rfl (by kernel_rfl) (fun _ _ _ h=>h) rfl (fun W a=>by go_simp) f ?_;refine ag 2 (.string (s.extract 0 k)) rfl (by kernel_rfl) (fun _ _ _ h=>h) rfl (fun W a=>by go_simp) f ?_;refine ag 3 (.pointer (some ⟨b,0,none⟩)) rfl (by kernel_rfl) (fun _ _ _ h=>h) rfl (fun W a=>by go_simp) f ?_;refine ag 9 (.string s) rfl (by kernel_rfl) (fun _ _ _ h=>h) rfl (fun W a=>by go_simp) f ?_;refine ag 10 (.int .i64 (k:Nat)) rfl (by kernel_rfl) (fun _ _ _ h=>h) rfl (fun W a=>by go_simp) f ?_;refine ag 11 (.int .i64 ((k:Int)+1)) rfl (by kernel_rfl) (fun _ _ _ h=>h) rfl (fun W a=>by go_simp;exact bF _ (by omega) (by omega)) f ?_;refine ag 12 (.string (s.extract (k+1) s.size)) rfl (by kernel_rfl) (fun _ _ _ h=>h) rfl (fun W a=>by go_simp) f ?_;refine ai 4 (by kernel_rfl) rfl fun K j=>?_;go_simp;go_at_call 20;refine(cP B b (m+2) _ _ (show Rd w2.drew B b (m+2)from(ae i).1) (by omega) (by omega) (by omega)).mono ?_;rintro e w3 ⟨q,rfl,U,q1,c,d⟩;refine Shut.out j _ _ trivial (fun f=>?_);clear j K;obtain⟨y,rfl⟩:=a0n U;have R:y<256:=by omega
   have Y:IntKind.u8.wrap (y:Int)=(y:Int):=vA (by omega) (by omega);have z:Hid (Rd w3 B b (m+3)/\Below b w w3):=⟨c,(ae i).2.drew.trans d.1⟩;have D:=c.lt;clear c d;refine ag 5 (.int .u8 (y:Int)) rfl (by kernel_rfl) (fun _ _ _ h=>h) rfl (fun W a=>by go_simp) f ?_;refine ai 6 (by kernel_rfl) rfl fun K j=>?_;go_simp;refine Shut.out j _ _ trivial (fun _=>?_);clear j K f;have F:=Av w3 y R;have v:Hid (Rd (w3.alloc (.cells #[.int .u8 (y:Int)] 5)) B b (m+10)/\Below b w (w3.alloc (.cells #[.int .u8 (y:Int)] 5))):=⟨((ae z).1.alloc _).mono (by omega),(ae z).2.alloc (a0s D) _⟩;obtain⟨w4,hw4⟩:∃x,w3.alloc (.cells #[.int .u8 (y:Int)] 5)=x:=⟨_,rfl⟩;rw[hw4]at v F;refine fF (S':=fun W=>W=w4) (fun _ _=>trivial) _ _ _ _ ?_;have f:w3.alloc (.cells #[.int .u8 (y:Int)] 5)=w4:=hw4;generalize UInt8.ofNat y=yy at *
   refine ag 7 (.string ⟨[yy].toArray⟩) rfl (by kernel_rfl) (fun _ _ _ h=>h) rfl (fun W a=>by subst a;go_simp) f ?_;refine ag 8 (.string (s.extract 0 k++(⟨[yy].toArray⟩:ByteArray))) rfl (by kernel_rfl) (fun _ _ _ h=>h) rfl (fun W a=>by subst a;go_simp<;>omega) f ?_;refine ag 13 (.string (s.extract 0 k++(⟨[yy].toArray⟩:ByteArray)++s.extract (k+1) s.size)) rfl (by kernel_rfl) (fun _ _ _ h=>h) rfl (fun W a=>by subst a;go_simp<;>omega) f ?_;refine ai 14 (by kernel_rfl) rfl fun K j=>?_;go_simp;refine Shut.out j _ _ rfl (fun _=>?_);clear j K;refine wpAnyH_done (by kernel_rfl) ?_ _;clear F f hw4;have A:(s.extract 0 k++(⟨[yy].toArray⟩:ByteArray)++s.extract (k+1) s.size).size<=9100:=by
    have e1:(⟨[yy].toArray⟩:ByteArray).size=1:=rfl;rw[rP,rP,a2c,a2c,e1];omega
   have u:=af (F7 s k C yy);generalize s.extract 0 k++(⟨[yy].toArray⟩:ByteArray)++s.extract (k+1) s.size=Zz at *
   go_wp2;go_ret;exact⟨⟨_,rfl,A,ae u⟩,(ae v).1,(ae v).2⟩
  .
   have u:=af (F6 s k C);have A:(s.extract 0 k).size<=9100:=by rw[a2c];omega
   go_wp2;go_ret;exact⟨⟨_,rfl,A,ae u⟩,(ae i).1.mono (by omega),(ae i).2⟩
  .
   go_wp2_with fail;refine(of_le B b (m+2) w2.heap.size 0 3 3 100 _ _ ((ae i).1.alloc _) (by omega) (by omega) (by omega) (a1w l) (wP w2 _ _ _ _) (zQ (by decide) (by decide) (by decide))).mono ?_;rintro e w3 ⟨t0,P,rfl,c,d⟩;have v:Hid (Rd w3 B b (m+10)/\Below b w w3):=⟨c.mono (by omega),((ae i).2.alloc (a0s l) _).trans d.1⟩;have A:(s++t0).size<=9100:=by rw[rP];omega
   have Q:(t0.size:Int)<=100:=by omega
   clear c d;go_wp2;go_ret;exact⟨⟨_,rfl,A,F5 s t0⟩,(ae v).1,(ae v).2⟩
  . go_wp2;go_ret;exact⟨⟨_,rfl,by omega,pd s⟩,(ae i).1.mono (by omega),(ae i).2⟩
  . go_wp2;go_ret;exact⟨⟨_,rfl,by omega,pd s⟩,(ae i).1.mono (by omega),(ae i).2⟩
theorem yw(B b m:Nat)(s:ByteArray)(w:World)(h:Rd w B b m)(c:m<=80000)(d:s.size<=9000) :
  Calls prog 10 #[.pointer (some ⟨b,0,none⟩),.string s] w fun e w'=>(∃t:ByteArray,e = .returned (.string t)/\t.size<=9100)/\Rd w' B b (m+10)/\Below b w w':=
 (wi B b m s w h c d).mono fun _ _ ⟨⟨t,e,a,_⟩,h2⟩=>⟨⟨t,e,a⟩,h2⟩
end Go.Proofs.YtggknepmhjfohaaGreatDoor
