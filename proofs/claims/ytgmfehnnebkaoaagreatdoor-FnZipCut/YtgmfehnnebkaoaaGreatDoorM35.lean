/- Of what the proof is made: 4 texts, one behind the other. -/
import Derived.Test.YtgmfehnnebkaoaaGreatDoorM32
import Derived.Test.YtgmfehnnebkaoaaGreatDoorM5
import Derived.Test.YtgmfehnnebkaoaaGreatDoorM21
import Derived.Test.YtgmfehnnebkaoaaGreatDoorM3
import Derived.Test.YtgmfehnnebkaoaaGreatDoorM6
set_option maxRecDepth 100000
set_option linter.unusedSimpArgs false
set_option linter.unusedVariables false
set_option maxHeartbeats 6400000
namespace Go.Proofs.YtgmfehnnebkaoaaGreatDoor
open Go.Proofs.Tryz
open Go.RowKit Corb
def fq(a b:ByteArray):ByteArray:=if b.size<a.size then b else a
theorem eM{a b:ByteArray}(h:b.size<a.size):fq a b=b:=a0d h
theorem fX{a b:ByteArray}(h:¬ b.size<a.size):fq a b=a:=a0e h
def byO(s:ByteArray):ByteArray:=⟨(ln s).toArray⟩
def bR(s:ByteArray):ByteArray:=fq (fq (byS s) (byF s)) (byO s)
def iG(s:ByteArray):Nat->ByteArray
 | 1=>byS s
 | 2=>fq (byS s) (byF s)
 | _=>bR s
theorem yY(s:ByteArray)(h:¬ s.size<=300):byO s=⟨#[]⟩:=by unfold byO ln;rw[a0e h]
theorem zE(s:ByteArray)(h:¬ s.size<=300):bR s=⟨#[]⟩:=by
 unfold bR;rw[yZ s h,yX s h,yY s h];rfl
theorem wS(l:List (Int×Int)):(cz l).length=((aV l).2+7)/8:=by unfold cz;exact aF _ _
theorem uS{l:List UInt8}(h:l.length<=100000):((⟨l.toArray⟩:ByteArray).size:Int)<=100000:=by
 have:(⟨l.toArray⟩:ByteArray).size=l.length:=by simp[ByteArray.size]
 omega
theorem EA{l:List (Int×Int)}(h:lOk l=true):(aV l).2<=64000:=by
 unfold lOk at h;simp only[a0j,a0p]at h;have a:=dM (0,0) l (fun x c=>by
  have h2:=h.1;unfold aW at h2;exact(aP.1 (a03.1 h2 x c)).1.2)
 have b:aU (0,0) l=aV l:=rfl;rw[b]at a;omega
theorem kU{B:Nat}{a w:World}(h:Below B a w){r:Nat}(b:B<=w.heap.size)(d:B<=r)(o:Obj):Below B a (w.putObj r o):=h.grown (grownBy_putObj' w r o) b (fun j c=>by cases c;exact d)
theorem sV(s:ByteArray):((byS s).size:Int)<=100000/\((byF s).size:Int)<=100000/\((byO s).size:Int)<=100000:=by
 by_cases a:s.size<=300
 .
  have c:=iy s a;have d:=eq s;refine⟨uS ?_,uS ?_,uS ?_⟩
  .
   unfold fs
   split
   . rw[a0i,aF,iQ];omega
   . simp
  . unfold kZ;rw[a0d a];show(cz (gK s)).length<=_;rw[wS];have b:=EA (oS s a);omega
  . unfold ln;rw[a0d a];show(cz (iD _)).length<=_;rw[wS];have b:=EA (sC _ c d);omega
 . rw[yZ s a,yX s a,yY s a];exact⟨by decide,by decide,by decide⟩
theorem qm(s:ByteArray)(w:World)(O:s.size<=1048576)(N:cJ w) :
  CD 47 #[.string s] w (.string (bR s)):=by
 have L:=@run_makeMap prog;have H:=underlying112;have c:=a19;obtain⟨b,hb⟩:∃b,w.heap.size=b:=⟨_,rfl⟩;have m0:=E6 w;obtain⟨w1,V,m1,e1⟩:=ni H c _ _ _ 0 (.func (.func 79) #[] #[]) m0 (by simp);obtain⟨w2,X,m2,e2⟩:=ni H c _ _ _ 1 (.func (.func 80) #[] #[]) m1 (by simp);obtain⟨w3,Y,m3,e3⟩:=ni H c _ _ _ 2 (.func (.func 81) #[] #[]) m2 (by simp);have z1:w1.heap.size=w.heap.size+1:=by rw[e1];simp[World.putObj]
 have z2:w2.heap.size=w.heap.size+1:=by rw[e2];simpa[World.putObj]using z1
 have g:Below w.heap.size w w1:=by rw[e1];exact kU ((a0c _ w).alloc (a0a _) _) (by simp) (a0a _) _
 have B:Below w.heap.size w w2:=by rw[e2];exact kU g (by omega) (a0a _) _
 have C:Below w.heap.size w w3:=by rw[e3];exact kU B (by omega) (a0a _) _
 simp only[a0X,a1g]at m3;have I:=af (fun W k v (h:jI W w.heap.size [(0,.func (.func 79) #[] #[]),(1,.func (.func 80) #[] #[]),(2,.func (.func 81) #[] #[])]) T=>E5 H c W w.heap.size _ k v false h T (by decide));have g0:=ae I w3 0 (.func (.func 79) #[] #[]) m3 (by simp);have M:=af m3;have y:=af C;have S:=af N;have J:=af O;have z:=af (sV s);clear e1 e2 e3 z1 z2 g B C m0 m1 m2 m3 H c O N hb b;go_enter func47,ntmps47;go_wp2_with fail;refine(qq s w3 (ae J)).mono ?_;rintro e x1 ⟨rfl,K⟩;have D:=(ae M).later K;have g:=ah (ae y) K;have eS:(⟨(fs s.data.toList).toArray⟩:ByteArray)=iG s 1:=rfl;rw[eS];clear K M y V X Y g0 L eS;go_wp2_with fail
 go_loopw [4,5,6] (fun v i _ wr=>∃k:Nat,1<=k/\k<=3/\i = .int .i64 k/\v = .string (iG s k)/\jI wr w.heap.size [(0,.func (.func 79) #[] #[]),(1,.func (.func 80) #[] #[]),(2,.func (.func 81) #[] #[])]/\Below w.heap.size w wr) (fun _ i _ _=>3-(intOf i).toNat)
 case atStart=>exact⟨1,by omega,by omega,rfl,rfl,D,g⟩
 case round=>
  obtain⟨k,u,x,rfl,rfl,t,a⟩:=hrel;clear D g;rcases (show k=1∨k=2∨k=3 by omega)with c|c|c
  .
   have l:(k:Int)=1:=by omega
   have E:(k:Int)<=2:=by omega
   have g1:(Instr.lookup 112 (.map (some w.heap.size)) (.int .i64 (k:Int)) false).run prog wr = .ok (.func (.func 80) #[] #[]) wr:=by rw[l];exact ae I wr 1 (.func (.func 80) #[] #[]) t (by simp)
   have p:=af (qk s wr (ae J));have eF:(⟨(kZ s).toArray⟩:ByteArray)=byF s:=rfl;rw[eF]at p;have f:iG s k=byS s:=by rw[c];rfl
   have j:Hid (iG s (k+1)=fq (byS s) (byF s)):=by show _=_;rw[c];rfl
   obtain⟨P,Q,U⟩:=ae z;rw[f];have o:=af c;have d:=af (a0b t a);clear t a c u x f eF l;generalize byF s=F at *
   generalize byS s=A at *
   go_wp2_with fail;refine(ae p).mono ?_;rintro e x2 ⟨rfl,r⟩;have n:=af (a0b ((ae d).1.later r) (ah (ae d).2 r));clear r d p;by_cases m:F.size<A.size
   .
    have G:(F.size:Int)<(A.size:Int):=by omega
    have q:=af (eM m);go_wp2;go_roundw
    case rel=>exact⟨k+1,by omega,by have:=ae o;omega,by go_num,by rw[ae j,ae q],(ae n).1,(ae n).2⟩
    case measure=>have:=ae o;simp[intOf];omega
   .
    have q:=af (fX m);go_wp2;go_roundw
    case rel=>exact⟨k+1,by omega,by have:=ae o;omega,by go_num,by rw[ae j,ae q],(ae n).1,(ae n).2⟩
    case measure=>have:=ae o;simp[intOf];omega
  .
   have l:(k:Int)=2:=by omega
   have E:(k:Int)<=2:=by omega
   have g1:(Instr.lookup 112 (.map (some w.heap.size)) (.int .i64 (k:Int)) false).run prog wr = .ok (.func (.func 81) #[] #[]) wr:=by rw[l];exact ae I wr 2 (.func (.func 81) #[] #[]) t (by simp)
   have p:=af (tI s wr (ae J) ((ae S).later a));have eF:(⟨(ln s).toArray⟩:ByteArray)=byO s:=rfl;rw[eF]at p;have f:iG s k=fq (byS s) (byF s):=by rw[c];rfl
   have j:Hid (iG s (k+1)=fq (fq (byS s) (byF s)) (byO s)):=by show _=_;rw[c];rfl
   obtain⟨P,Q,U⟩:=ae z;rw[f];have o:=af c;have d:=af (a0b t a);clear t a c u x f eF P Q l;generalize byO s=F at *
   generalize fq (byS s) (byF s)=A at *
   go_wp2_with fail;refine(ae p).mono ?_;rintro e x2 ⟨rfl,r⟩;have n:=af (a0b ((ae d).1.later r) (ah (ae d).2 r));clear r d p;by_cases m:F.size<A.size
   .
    have G:(F.size:Int)<(A.size:Int):=by omega
    have q:=af (eM m);go_wp2;go_roundw
    case rel=>exact⟨k+1,by omega,by have:=ae o;omega,by go_num,by rw[ae j,ae q],(ae n).1,(ae n).2⟩
    case measure=>have:=ae o;simp[intOf];omega
   .
    have q:=af (fX m);go_wp2;go_roundw
    case rel=>exact⟨k+1,by omega,by have:=ae o;omega,by go_num,by rw[ae j,ae q],(ae n).1,(ae n).2⟩
    case measure=>have:=ae o;simp[intOf];omega
  .
   have E:¬ (k:Int)<=2:=by omega
   have f:Hid (iG s k=bR s):=by show _=_;rw[c];rfl
   have R:=af a;clear t a c u x;generalize iG s k=A at *
   go_wp2;go_ret;exact⟨by rw[←ae f];rfl,ae R⟩
theorem vC(s:ByteArray)(w:World)(r:s.size<=300) :
  CD 133 #[.string s] w (.string (bR s)):=by
 have J:¬ (300:Int)<(s.size:Int):=by omega
 have m:=af (fun W=>Ai s W r);have n:=af (fun W=>Ag s W r);have o:=af (fun W=>Gx s W r);have e1:(⟨(leS 5 (gz s.size)++s.data.toList).toArray⟩:ByteArray)=iG s 1:=by
  show _=byS s;unfold byS fs;rw[a0d (by rw[iQ];exact r),iQ]
 have e2:(⟨(dL s).toArray⟩:ByteArray)=byF s:=by unfold byF kZ;rw[a0d r]
 have e3:(⟨(lM s).toArray⟩:ByteArray)=byO s:=by unfold byO ln;rw[a0d r]
 rw[e1]at m;rw[e2]at n;rw[e3]at o;have z:=af (sV s);clear r e1 e2 e3;go_enter func133,ntmps133;go_wp2_with fail;refine(ae m _).mono ?_;rintro e x1 ⟨rfl,D⟩;have B:=af D;clear D;go_wp2_with fail;refine(ae n _).mono ?_;rintro e x2 ⟨rfl,E⟩;have C:=af (ah (ae B) E);clear E B;go_wp2_with fail;refine(ae o _).mono ?_;rintro e x3 ⟨rfl,G⟩;have p:=ah (ae C) G;have t:Below w.heap.size w (x3.alloc (.cells #[.string (byF s),.string (byO s)] 9)):=p.alloc p.size _;have c0:(x3.alloc (.cells #[.string (byF s),.string (byO s)] 9)).cell? ⟨x3.heap.size,0,none⟩=some (.string (byF s)):=by simp
 have c1:(x3.alloc (.cells #[.string (byF s),.string (byO s)] 9)).cell? ⟨x3.heap.size,1,none⟩=some (.string (byO s)):=by simp
 have y:=af t;clear G p t C m n o;go_wp2_with fail;generalize x3.alloc (.cells #[.string (byF s),.string (byO s)] 9)=x4 at *
 generalize x3.heap.size=g at *
 go_loopw [3,5] (fun v i wr=>∃k:Nat,k<=2/\i = .int .i64 k/\v = .string (iG s (k+1))/\wr=x4) (fun _ i _=>2-(intOf i).toNat)
 case atStart=>exact⟨0,by omega,rfl,rfl,rfl⟩
 case round=>
  obtain⟨k,q,rfl,rfl,x⟩:=hrel;rw[x];clear x;obtain⟨H,I,K⟩:=ae z;rcases (show k=0∨k=1∨k=2 by omega)with b|b|b
  .
   have u:(k:Int)<2:=by omega
   have c:x4.cell? ⟨g,k,none⟩=some (.string (byF s)):=by rw[b];exact c0
   have a:iG s (k+1)=byS s:=by rw[b];rfl
   have d:Hid (iG s (k+1+1)=fq (byS s) (byF s)):=by show _=_;rw[b];rfl
   rw[a];have j:=af b;clear b a c0 c1 q;generalize byF s=F at *
   generalize byS s=A at *
   by_cases f:F.size<A.size
   .
    have h:(F.size:Int)<(A.size:Int):=by omega
    have l:=af (eM f);go_wp2;go_roundw
    case rel=>exact⟨k+1,by have:=ae j;omega,by go_num,by rw[ae d,ae l],by first|rfl|trivial⟩
    case measure=>have:=ae j;simp[intOf];omega
   .
    have h:¬ (F.size:Int)<(A.size:Int):=by omega
    have l:=af (fX f);go_wp2;go_roundw
    case rel=>exact⟨k+1,by have:=ae j;omega,by go_num,by rw[ae d,ae l],by first|rfl|trivial⟩
    case measure=>have:=ae j;simp[intOf];omega
  .
   have u:(k:Int)<2:=by omega
   have c:x4.cell? ⟨g,k,none⟩=some (.string (byO s)):=by rw[b];exact c1
   have a:iG s (k+1)=fq (byS s) (byF s):=by rw[b];rfl
   have d:Hid (iG s (k+1+1)=fq (fq (byS s) (byF s)) (byO s)):=by show _=_;rw[b];rfl
   rw[a];have j:=af b;clear b a c0 c1 q H I;generalize byO s=F at *
   generalize fq (byS s) (byF s)=A at *
   by_cases f:F.size<A.size
   .
    have h:(F.size:Int)<(A.size:Int):=by omega
    have l:=af (eM f);go_wp2;go_roundw
    case rel=>exact⟨k+1,by have:=ae j;omega,by go_num,by rw[ae d,ae l],by first|rfl|trivial⟩
    case measure=>have:=ae j;simp[intOf];omega
   .
    have h:¬ (F.size:Int)<(A.size:Int):=by omega
    have l:=af (fX f);go_wp2;go_roundw
    case rel=>exact⟨k+1,by have:=ae j;omega,by go_num,by rw[ae d,ae l],by first|rfl|trivial⟩
    case measure=>have:=ae j;simp[intOf];omega
  .
   have u:¬ (k:Int)<2:=by omega
   have a:Hid (iG s (k+1)=bR s):=by show _=_;rw[b];rfl
   clear b c0 c1 q;generalize iG s (k+1)=A at *
   go_wp2;go_ret;exact⟨by rw[←ae a];rfl,ae y⟩
theorem qK(s:ByteArray)(w:World)(c:s.size<=1048576) :
  CD 133 #[.string s] w (.string (bR s)):=by
 by_cases h:s.size<=300
 . exact vC s w h
 .
  have b:(300:Int)<(s.size:Int):=by omega
  have a:=af (zE s h);clear h;go_enter func133,ntmps133;go_wp2;go_ret;exact⟨by rw[ae a];rfl,a0c _ _⟩
def cn(s:ByteArray):Nat:=if (bR s).size<s.size then 8 else 0
def aK(s:ByteArray):ByteArray:=if (bR s).size<s.size then bR s else s
theorem gm(s:ByteArray):((bR s).size:Int)<=100000:=by
 obtain⟨c,h2,d⟩:=sV s;have key:∀a b:ByteArray,(a.size:Int)<=100000->(b.size:Int)<=100000->((fq a b).size:Int)<=100000:=fun a b e hb=>by
  by_cases h:b.size<a.size
  . rw[eM h];exact hb
  . rw[fX h];exact e
 unfold bR;exact key _ _ (key _ _ c h2) d
theorem wl(s:ByteArray)(w:World)(d:s.size<=1048576) :
  CD 85 #[.string s] w (.tuple #[.int .i64 (cn s:Nat),.string (aK s)]):=by
 have b:=af (qK s w d);unfold cn aK;generalize bR s=x at *
 clear d;by_cases h:x.size<s.size
 .
  have f:(x.size:Int)<(s.size:Int):=by omega
  rw[a0d h,a0d h];clear h;go_enter func85,ntmps85;go_wp2_with fail;refine(ae b).mono ?_;rintro e w1 ⟨rfl,a⟩;have c:=af a;clear a b;go_wp2
  go_ret2
  exact⟨rfl,ae c⟩
 .
  have f:¬ (x.size:Int)<(s.size:Int):=by omega
  rw[a0e h,a0e h];clear h;go_enter func85,ntmps85;go_wp2_with fail;refine(ae b).mono ?_;rintro e w1 ⟨rfl,a⟩;have c:=af a;clear a b;go_wp2
  go_ret2
  exact⟨rfl,ae c⟩
def pP(W:World)(g:Nat)(n:ByteArray)(y mo d h mi s:Int)(t:ByteArray):Prop:=W.cell? ⟨g,0,none⟩=some (.string n)/\W.cell? ⟨g,1,none⟩=some (.int .i64 y)/\W.cell? ⟨g,2,none⟩=some (.int .i64 mo)/\W.cell? ⟨g,3,none⟩=some (.int .i64 d)/\W.cell? ⟨g,4,none⟩=some (.int .i64 h)/\W.cell? ⟨g,5,none⟩=some (.int .i64 mi)/\W.cell? ⟨g,6,none⟩=some (.int .i64 s)/\W.cell? ⟨g,7,none⟩=some (.string t)
def lO(w:World)(n:ByteArray)(y mo d h mi s:Int)(t:ByteArray)(W:World):Prop:=Below w.heap.size w W/\w.heap.size<W.heap.size/\pP W w.heap.size n y mo d h mi s t
theorem lO.later{w W W':World}{n t:ByteArray}{y mo d h mi s:Int}(k:lO w n y mo d h mi s t W)(hb:Below W.heap.size W W'):lO w n y mo d h mi s t W':=by
 have a:∀j,W'.cell? ⟨w.heap.size,j,none⟩=W.cell? ⟨w.heap.size,j,none⟩:=fun j=>hb.cell (p:=⟨w.heap.size,j,none⟩) k.2.1;obtain⟨c,b,e0,e1,e2,e3,e4,e5,e6,e7⟩:=k;exact⟨c.trans (hb.mono (a0w b)),a0h b hb.size,(a 0).trans e0,(a 1).trans e1,(a 2).trans e2,(a 3).trans e3,(a 4).trans e4,(a 5).trans e5,(a 6).trans e6,(a 7).trans e7⟩
theorem Mc(how st crc pk lg n:Nat):fj how st crc pk lg n=az (leS 2 20)++az (leS 2 0)++az (leS 2 how)++az (leS 4 st)++az (leS 4 crc)++az (leS 4 pk)++az (leS 4 lg)++az (leS 2 n)++az (leS 2 0):=by
 have c:∀a b:ByteArray,a.data.toList=b.data.toList->a=b:=fun a b h=>by
  cases a;cases b
  simp only[ByteArray.mk.injEq];exact Array.toList_inj.1 h
 apply c;unfold fj az;simp
theorem pf(n t:ByteArray)(y mo d h mi s:Int)(N:Nat)(w:World)(k:(0<=y/\y<=100000)/\(0<=mo/\mo<=100)/\(0<=d/\d<=100)/\(0<=h/\h<=100)/\(0<=mi/\mi<=100) /\ -100<=s/\s<=100)
  (u:(((((y-1980)*16+mo)*32+d)*32+h)*64+mi)*32+Int.tdiv s 2=(N:Int)) (l:N<4294967296) (I:n.size<65536) (v:t.size<=1048576) :
  CD 84 #[.agg #[.string n,.int .i64 y,.int .i64 mo,.int .i64 d,.int .i64 h,.int .i64 mi,.int .i64 s,.string t]] w (.string (fj (cn t) N (ay 0 t.data.toList) (aK t).size t.size n.size)):=by
 have i:prog.follows .mixedOrders=true:=by kernel_rfl
 have o:ay 0 t.data.toList<4294967296:=fL _ _ (by omega);have p:=gm t;have m:(aK t).size<=1048576:=by unfold aK;split<;>omega
 have q:cn t<=8:=by unfold cn;split<;>omega
 have j:Hid (∀W,CD 83 #[.int .i64 ((20:Nat):Int),.int .i64 2] W (.string (az (leS 2 (20))))):=fun W=>aS (20) 2 W (by omega) (by omega);have r:Hid (∀W,CD 83 #[.int .i64 ((0:Nat):Int),.int .i64 2] W (.string (az (leS 2 (0))))):=fun W=>aS (0) 2 W (by omega) (by omega);have B:Hid (∀W,CD 83 #[.int .i64 ((cn t:Nat):Int),.int .i64 2] W (.string (az (leS 2 (cn t))))):=fun W=>aS (cn t) 2 W (by omega) (by omega);have E:Hid (∀W,CD 83 #[.int .i64 ((N:Nat):Int),.int .i64 4] W (.string (az (leS 4 (N))))):=fun W=>aS (N) 4 W (by omega) (by omega);have C:Hid (∀W,CD 83 #[.int .i64 ((ay 0 t.data.toList:Nat):Int),.int .i64 4] W (.string (az (leS 4 (ay 0 t.data.toList))))):=fun W=>aS (ay 0 t.data.toList) 4 W (by omega) (by omega);have z:Hid (∀W,CD 83 #[.int .i64 (((aK t).size:Nat):Int),.int .i64 4] W (.string (az (leS 4 ((aK t).size))))):=fun W=>aS ((aK t).size) 4 W (by omega) (by omega);have CT:Hid (∀W,CD 83 #[.int .i64 ((t.size:Nat):Int),.int .i64 4] W (.string (az (leS 4 (t.size))))):=fun W=>aS (t.size) 4 W (by omega) (by omega);have D:Hid (∀W,CD 83 #[.int .i64 ((n.size:Nat):Int),.int .i64 2] W (.string (az (leS 2 (n.size))))):=fun W=>aS (n.size) 2 W (by omega) (by omega);have F:Hid (∀W,CD 131 #[.agg #[.int .i64 y,.int .i64 mo,.int .i64 d,.int .i64 h,.int .i64 mi,.int .i64 s]] W (.int .i64 ((N:Nat):Int))):=fun W=>by
  have:=Gy y mo d h mi s W k;rw[u]at this;exact this
 have A:Hid (∀W,CD 132 #[.string t] W (.int .i64 ((ay 0 t.data.toList:Nat):Int))):=fun W=>(Bq t W (by unfold maxLen;omega)).mono fun e w' ⟨H,h2⟩=>⟨H,by rw[h2];exact a0c _ _⟩;have g:=af (fun W=>wl t W v);have G:=af (Mc (cn t) N (ay 0 t.data.toList) (aK t).size t.size n.size);have zz:∀many V,many<=4->((az (leS many V)).size:Int)<=4:=fun many V O=>by rw[bL,aF];omega
 have z1:=zz 2 20 (by omega);have z2:=zz 2 0 (by omega);have z3:=zz 2 (cn t) (by omega);have z4:=zz 4 N (by omega);have z5:=zz 4 (ay 0 t.data.toList) (by omega);have z6:=zz 4 (aK t).size (by omega);have z7:=zz 4 t.size (by omega);have z8:=zz 2 n.size (by omega);generalize az (leS 2 20)=A20 at *
 generalize az (leS 2 0)=A0 at *
 generalize az (leS 2 (cn t))=AH at *
 generalize az (leS 4 N)=AN at *
 generalize az (leS 4 (ay 0 t.data.toList))=AK at *
 generalize az (leS 4 (aK t).size)=AB at *
 generalize az (leS 4 t.size)=AT at *
 generalize az (leS 2 n.size)=AM at *
 generalize fj (cn t) N (ay 0 t.data.toList) (aK t).size t.size n.size=RES at *
 generalize cn t=hw at *
 generalize aK t=bd at *
 generalize ay 0 t.data.toList=cr at *
 have T0':Hid (lO w n y mo d h mi s t (w.alloc (.cells #[.string n,.int .i64 y,.int .i64 mo,.int .i64 d,.int .i64 h,.int .i64 mi,.int .i64 s,.string t] 33))):=⟨(a0c _ _).alloc (a0a _) _,by simp,by simp,by simp,by simp,by simp,by simp,by simp,by simp,by simp⟩;clear k u l I v o p m q zz;go_enter func84,ntmps84;go_wp2_with fail;obtain⟨W1,hW1⟩:∃x,w.alloc (.cells #[.string n,.int .i64 y,.int .i64 mo,.int .i64 d,.int .i64 h,.int .i64 mi,.int .i64 s,.string t] 33)=x:=⟨_,rfl⟩;rw[hW1]at T0';rw[hW1];have T1:=T0';clear T0' hW1;refine(ae g W1).mono ?_;rintro e W2 ⟨rfl,b⟩;have T2:=af ((ae T1).later b);clear b T1 g;go_wp2_with fail;refine wp_region_held_drew (S:=fun W=>pP W w.heap.size n y mo d h mi s t) i (ae T2).2.2 (fun f=>?_);refine ag 3 (.int .i64 (hw:Nat)) rfl (by kernel_rfl) (fun _ _ _ h=>h) rfl (fun W a=>by obtain⟨s0,s1,s2,s3,s4,s5,s6,s7⟩:=a;go_simp) f ?_;refine ag 6 (.pointer (some ⟨w.heap.size,1,none⟩)) rfl (by kernel_rfl) (fun _ _ _ h=>h) rfl (fun W a=>by obtain⟨s0,s1,s2,s3,s4,s5,s6,s7⟩:=a;go_simp) f ?_;refine ag 7 (.agg #[.int .i64 y,.int .i64 mo,.int .i64 d,.int .i64 h,.int .i64 mi,.int .i64 s]) rfl (by kernel_rfl) (fun _ _ _ h=>h) rfl (fun W a=>by obtain⟨s0,s1,s2,s3,s4,s5,s6,s7⟩:=a;go_simp) f ?_;have T3:Hid (lO w n y mo d h mi s t W2.drew):=⟨(ae T2).1.drew,(ae T2).2.1,(ae T2).2.2⟩;generalize W2.drew=W3 at *
 refine aj 0 (by kernel_rfl) rfl fun K c=>?_;go_simp;go_at_call 83;refine(ae j W3).mono ?_;rintro e W4 ⟨rfl,b⟩;have T4:=af ((ae T3).later b);refine Shut.out c _ _ (ae T4).2.2 (fun f=>?_);clear c K b;refine aj 1 (by kernel_rfl) rfl fun K c=>?_;go_simp;go_at_call 83;refine(ae r W4).mono ?_;rintro e W5 ⟨rfl,b⟩;have T5:=af ((ae T4).later b);refine Shut.out c _ _ (ae T5).2.2 (fun f=>?_);clear c K b;refine ag 2 (.string (A20++A0)) rfl (by kernel_rfl) (fun _ _ _ h=>h) rfl (fun W a=>by obtain⟨s0,s1,s2,s3,s4,s5,s6,s7⟩:=a;go_simp<;>omega) f ?_;refine aj 4 (by kernel_rfl) rfl fun K c=>?_;go_simp;go_at_call 83;refine(ae B W5).mono ?_;rintro e W6 ⟨rfl,b⟩;have T6:=af ((ae T5).later b);refine Shut.out c _ _ (ae T6).2.2 (fun f=>?_);clear c K b;refine ag 5 (.string (A20++A0++AH)) rfl (by kernel_rfl) (fun _ _ _ h=>h) rfl (fun W a=>by obtain⟨s0,s1,s2,s3,s4,s5,s6,s7⟩:=a;go_simp<;>omega) f ?_;refine aj 8 (by kernel_rfl) rfl fun K c=>?_;go_simp;go_at_call 131;refine(ae F W6).mono ?_;rintro e W7 ⟨rfl,b⟩;have T7:=af ((ae T6).later b);refine Shut.out c _ _ (ae T7).2.2 (fun f=>?_);clear c K b;refine aj 9 (by kernel_rfl) rfl fun K c=>?_;go_simp;go_at_call 83;refine(ae E W7).mono ?_;rintro e W8 ⟨rfl,b⟩;have T8:=af ((ae T7).later b);refine Shut.out c _ _ (ae T8).2.2 (fun f=>?_);clear c K b;refine ag 10 (.string (A20++A0++AH++AN)) rfl (by kernel_rfl) (fun _ _ _ h=>h) rfl (fun W a=>by obtain⟨s0,s1,s2,s3,s4,s5,s6,s7⟩:=a;go_simp<;>omega) f ?_;refine aj 11 (by kernel_rfl) rfl fun K c=>?_;go_simp;refine Shut.out c _ _ (ae T8).2.2 (fun f=>?_);clear c K;refine wpAnyH_done (by kernel_rfl) ?_ _;clear f;obtain⟨B1,hB1⟩:∃x,A20++A0++AH++AN=x:=⟨_,rfl⟩;have zB1:(B1.size:Int)<=1000:=by rw[←hB1];simp only[a0t];omega
 rw[hB1];go_wp2_with fail;refine wp_region_held_drew (S:=fun W=>pP W w.heap.size n y mo d h mi s t) i (ae T8).2.2 (fun f=>?_);refine ag 0 (.string B1) rfl (by kernel_rfl) (fun _ _ _ h=>h) rfl (fun W a=>by obtain⟨s0,s1,s2,s3,s4,s5,s6,s7⟩:=a;go_simp) f ?_;refine ag 1 (.pointer (some ⟨w.heap.size,7,none⟩)) rfl (by kernel_rfl) (fun _ _ _ h=>h) rfl (fun W a=>by obtain⟨s0,s1,s2,s3,s4,s5,s6,s7⟩:=a;go_simp) f ?_;refine ag 2 (.string t) rfl (by kernel_rfl) (fun _ _ _ h=>h) rfl (fun W a=>by obtain⟨s0,s1,s2,s3,s4,s5,s6,s7⟩:=a;go_simp) f ?_;refine ag 6 (.string bd) rfl (by kernel_rfl) (fun _ _ _ h=>h) rfl (fun W a=>by obtain⟨s0,s1,s2,s3,s4,s5,s6,s7⟩:=a;go_simp) f ?_;refine ag 7 (.int .i64 (bd.size:Nat)) rfl (by kernel_rfl) (fun _ _ _ h=>h) rfl (fun W a=>by obtain⟨s0,s1,s2,s3,s4,s5,s6,s7⟩:=a;go_simp) f ?_;refine ag 10 (.pointer (some ⟨w.heap.size,7,none⟩)) rfl (by kernel_rfl) (fun _ _ _ h=>h) rfl (fun W a=>by obtain⟨s0,s1,s2,s3,s4,s5,s6,s7⟩:=a;go_simp) f ?_;refine ag 11 (.string t) rfl (by kernel_rfl) (fun _ _ _ h=>h) rfl (fun W a=>by obtain⟨s0,s1,s2,s3,s4,s5,s6,s7⟩:=a;go_simp) f ?_;refine ag 12 (.int .i64 (t.size:Nat)) rfl (by kernel_rfl) (fun _ _ _ h=>h) rfl (fun W a=>by obtain⟨s0,s1,s2,s3,s4,s5,s6,s7⟩:=a;go_simp) f ?_;have T9:Hid (lO w n y mo d h mi s t W8.drew):=⟨(ae T8).1.drew,(ae T8).2.1,(ae T8).2.2⟩;generalize W8.drew=W9 at *
 refine aj 3 (by kernel_rfl) rfl fun K c=>?_;go_simp;go_at_call 132;refine(ae A W9).mono ?_;rintro e W10 ⟨rfl,b⟩;have T10:=af ((ae T9).later b);refine Shut.out c _ _ (ae T10).2.2 (fun f=>?_);clear c K b;refine aj 4 (by kernel_rfl) rfl fun K c=>?_;go_simp;go_at_call 83;refine(ae C W10).mono ?_;rintro e W11 ⟨rfl,b⟩;have T11:=af ((ae T10).later b);refine Shut.out c _ _ (ae T11).2.2 (fun f=>?_);clear c K b;refine ag 5 (.string (B1++AK)) rfl (by kernel_rfl) (fun _ _ _ h=>h) rfl (fun W a=>by obtain⟨s0,s1,s2,s3,s4,s5,s6,s7⟩:=a;go_simp<;>omega) f ?_;refine aj 8 (by kernel_rfl) rfl fun K c=>?_;go_simp;go_at_call 83;refine(ae z W11).mono ?_;rintro e W12 ⟨rfl,b⟩;have T12:=af ((ae T11).later b);refine Shut.out c _ _ (ae T12).2.2 (fun f=>?_);clear c K b;refine ag 9 (.string (B1++AK++AB)) rfl (by kernel_rfl) (fun _ _ _ h=>h) rfl (fun W a=>by obtain⟨s0,s1,s2,s3,s4,s5,s6,s7⟩:=a;go_simp<;>omega) f ?_;refine aj 13 (by kernel_rfl) rfl fun K c=>?_;go_simp;go_at_call 83;refine(ae CT W12).mono ?_;rintro e W13 ⟨rfl,b⟩;have T13:=af ((ae T12).later b);refine Shut.out c _ _ (ae T13).2.2 (fun f=>?_);clear c K b;refine ag 14 (.string (B1++AK++AB++AT)) rfl (by kernel_rfl) (fun _ _ _ h=>h) rfl (fun W a=>by obtain⟨s0,s1,s2,s3,s4,s5,s6,s7⟩:=a;go_simp<;>omega) f ?_;refine aj 15 (by kernel_rfl) rfl fun K c=>?_;go_simp;refine Shut.out c _ _ (ae T13).2.2 (fun f=>?_);clear c K;refine wpAnyH_done (by kernel_rfl) ?_ _;clear f;obtain⟨B2,hB2⟩:∃x,B1++AK++AB++AT=x:=⟨_,rfl⟩;have zB2:(B2.size:Int)<=2000:=by rw[←hB2];simp only[a0t];omega
 rw[hB2];obtain⟨c0,c1,c2,c3,c4,J,L,M⟩:=(ae T13).2.2;go_wp2_with fail;refine(ae D W13).mono ?_;rintro e X1 ⟨rfl,b⟩;have TX:=af ((ae T13).later b);clear b;go_wp2_with fail;refine(ae r X1).mono ?_;rintro e X2 ⟨rfl,b⟩;have TY:=af ((ae TX).later b);clear b;go_wp2;go_ret;exact⟨by rw[ae G,←hB2,←hB1];rfl,(ae TY).1⟩
def bF(n t:ByteArray)(N:Nat):ByteArray:=cb (cn t) N (ay 0 t.data.toList) (aK t).size t.size n++aK t
theorem Nz:az (leS 4 67324752)=(⟨#[80,75,3,4]⟩:ByteArray):=by decide +kernel
theorem Aj(n t:ByteArray)(y mo d h mi s:Int)(N:Nat)(w:World)(k:(0<=y/\y<=100000)/\(0<=mo/\mo<=100)/\(0<=d/\d<=100)/\(0<=h/\h<=100)/\(0<=mi/\mi<=100) /\ -100<=s/\s<=100)
  (q:(((((y-1980)*16+mo)*32+d)*32+h)*64+mi)*32+Int.tdiv s 2=(N:Int)) (i:N<4294967296) (r:n.size<65536) (p:t.size<=1048576) :
  CD 51 #[.agg #[.string n,.int .i64 y,.int .i64 mo,.int .i64 d,.int .i64 h,.int .i64 mi,.int .i64 s,.string t]] w (.string (bF n t N)):=by
 have j:prog.follows .mixedOrders=true:=by kernel_rfl
 have u:=af (fun W=>pf n t y mo d h mi s N W k q i r p);have f:=af (fun W=>wl t W p);have v:Hid (∀W,CD 83 #[.int .i64 67324752,.int .i64 4] W (.string (az (leS 4 67324752)))):=fun W=>aS 67324752 4 W (by omega) (by omega);have o:=gm t;have m:(aK t).size<=1048576:=by unfold aK;split<;>omega
 have A:((aK t).size:Int)<=1048576:=by omega
 have B:(n.size:Int)<65536:=by omega
 have z:Hid (az (leS 4 67324752)++fj (cn t) N (ay 0 t.data.toList) (aK t).size t.size n.size++n++aK t=bF n t N):=by unfold bF cb;rw[Nz];exact rfl
 have z1:((az (leS 4 67324752)).size:Int)<=4:=by rw[bL,aF];omega
 have z2:((fj (cn t) N (ay 0 t.data.toList) (aK t).size t.size n.size).size:Int)<=26:=by rw[dW];omega
 generalize az (leS 4 67324752)=A4 at *
 generalize fj (cn t) N (ay 0 t.data.toList) (aK t).size t.size n.size=FL at *
 generalize bF n t N=RES at *
 generalize cn t=hw at *
 generalize aK t=bd at *
 have T0':Hid (lO w n y mo d h mi s t (w.alloc (.cells #[.string n,.int .i64 y,.int .i64 mo,.int .i64 d,.int .i64 h,.int .i64 mi,.int .i64 s,.string t] 33))):=⟨(a0c _ _).alloc (a0a _) _,by simp,by simp,by simp,by simp,by simp,by simp,by simp,by simp,by simp⟩;clear k q i r p o m;go_enter func51,ntmps51;go_wp2_with fail;obtain⟨W1,hW1⟩:∃x,w.alloc (.cells #[.string n,.int .i64 y,.int .i64 mo,.int .i64 d,.int .i64 h,.int .i64 mi,.int .i64 s,.string t] 33)=x:=⟨_,rfl⟩;rw[hW1]at T0';rw[hW1];have T1:=T0';clear T0' hW1;refine(ae f W1).mono ?_;rintro e W2 ⟨rfl,c⟩;have T2:=af ((ae T1).later c);clear c T1 f;go_wp2_with fail;refine wp_region_held_drew (S:=fun W=>pP W w.heap.size n y mo d h mi s t) j (ae T2).2.2 (fun b=>?_);refine ag 1 (.agg #[.string n,.int .i64 y,.int .i64 mo,.int .i64 d,.int .i64 h,.int .i64 mi,.int .i64 s,.string t]) rfl (by kernel_rfl) (fun _ _ _ h=>h) rfl (fun W a=>by obtain⟨s0,s1,s2,s3,s4,s5,s6,s7⟩:=a;go_simp) b ?_;refine ag 4 (.pointer (some ⟨w.heap.size,0,none⟩)) rfl (by kernel_rfl) (fun _ _ _ h=>h) rfl (fun W a=>by obtain⟨s0,s1,s2,s3,s4,s5,s6,s7⟩:=a;go_simp) b ?_;refine ag 5 (.string n) rfl (by kernel_rfl) (fun _ _ _ h=>h) rfl (fun W a=>by obtain⟨s0,s1,s2,s3,s4,s5,s6,s7⟩:=a;go_simp) b ?_;refine ag 7 (.string bd) rfl (by kernel_rfl) (fun _ _ _ h=>h) rfl (fun W a=>by obtain⟨s0,s1,s2,s3,s4,s5,s6,s7⟩:=a;go_simp) b ?_;have T3:Hid (lO w n y mo d h mi s t W2.drew):=⟨(ae T2).1.drew,(ae T2).2.1,(ae T2).2.2⟩;generalize W2.drew=W3 at *
 refine aj 0 (by kernel_rfl) rfl fun K g=>?_;go_simp;go_at_call 83;refine(ae v W3).mono ?_;rintro e W4 ⟨rfl,c⟩;have T4:=af ((ae T3).later c);refine Shut.out g _ _ (ae T4).2.2 (fun b=>?_);clear g K c;refine aj 2 (by kernel_rfl) rfl fun K g=>?_;go_simp;go_at_call 84;refine(ae u W4).mono ?_;rintro e W5 ⟨rfl,c⟩;have T5:=af ((ae T4).later c);refine Shut.out g _ _ (ae T5).2.2 (fun b=>?_);clear g K c;refine ag 3 (.string (A4++FL)) rfl (by kernel_rfl) (fun _ _ _ h=>h) rfl (fun W a=>by obtain⟨s0,s1,s2,s3,s4,s5,s6,s7⟩:=a;go_simp<;>omega) b ?_;refine ag 6 (.string (A4++FL++n)) rfl (by kernel_rfl) (fun _ _ _ h=>h) rfl (fun W a=>by obtain⟨s0,s1,s2,s3,s4,s5,s6,s7⟩:=a;go_simp<;>omega) b ?_;refine ag 8 (.string (A4++FL++n++bd)) rfl (by kernel_rfl) (fun _ _ _ h=>h) rfl (fun W a=>by obtain⟨s0,s1,s2,s3,s4,s5,s6,s7⟩:=a;go_simp<;>omega) b ?_;refine aj 9 (by kernel_rfl) rfl fun K g=>?_;go_simp;refine Shut.out g _ _ (ae T5).2.2 (fun b=>?_);clear g K;refine wpAnyH_done (by kernel_rfl) ?_ _;clear b;generalize l:A4++FL++n++bd=AA;go_wp2;go_ret;exact⟨by rw[←ae z,←l];rfl,(ae T5).1⟩
end Go.Proofs.YtgmfehnnebkaoaaGreatDoor
