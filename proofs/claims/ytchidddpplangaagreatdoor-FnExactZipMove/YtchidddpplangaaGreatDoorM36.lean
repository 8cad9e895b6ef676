/- Of what the proof is made: 4 texts, one behind the other. -/
import Derived.Test.YtchidddpplangaaGreatDoorM35
import Derived.Test.YtchidddpplangaaGreatDoorM5
import Derived.Test.YtchidddpplangaaGreatDoorM20
import Derived.Test.YtchidddpplangaaGreatDoorM3
import Derived.Test.YtchidddpplangaaGreatDoorM6
set_option maxRecDepth 100000
set_option linter.unusedSimpArgs false
set_option linter.unusedVariables false
set_option maxHeartbeats 6400000
namespace Go.Proofs.YtchidddpplangaaGreatDoor
open Go.Proofs.Tryz
open Go.RowKit Corb
def fF(a b:ByteArray):ByteArray:=if b.size<a.size then b else a
theorem jw{a b:ByteArray}(h:b.size<a.size):fF a b=b:=a0e h
theorem kM{a b:ByteArray}(h:¬ b.size<a.size):fF a b=a:=a0d h
def byO(s:ByteArray):ByteArray:=⟨(mu s).toArray⟩
def ea(s:ByteArray):ByteArray:=fF (fF (byS s) (byF s)) (byO s)
def iU(s:ByteArray):Nat->ByteArray
 | 1=>byS s
 | 2=>fF (byS s) (byF s)
 | _=>ea s
theorem yW(s:ByteArray)(h:¬ s.size<=300):byO s=⟨#[]⟩:=by unfold byO mu;rw[a0d h]
theorem zD(s:ByteArray)(h:¬ s.size<=300):ea s=⟨#[]⟩:=by
 unfold ea;rw[yX s h,yV s h,yW s h];rfl
theorem wH(l:List (Int×Int)):(gF l).length=((cH l).2+7)/8:=by unfold gF;exact aF _ _
theorem uM{l:List UInt8}(h:l.length<=100000):((⟨l.toArray⟩:ByteArray).size:Int)<=100000:=by
 have:(⟨l.toArray⟩:ByteArray).size=l.length:=by simp[ByteArray.size]
 omega
theorem Ev{l:List (Int×Int)}(h:lOk l=true):(cH l).2<=64000:=by
 unfold lOk at h;simp only[a0n,a0w]at h;have a:=dO (0,0) l (fun x c=>by
  have h2:=h.1;unfold bw at h2;exact(aS.1 (a1a.1 h2 x c)).1.2)
 have b:aX (0,0) l=cH l:=rfl;rw[b]at a;omega
theorem kX{B:Nat}{a w:World}(h:Below B a w){r:Nat}(b:B<=w.heap.size)(d:B<=r)(o:Obj):Below B a (w.putObj r o):=h.grown (grownBy_putObj' w r o) b (fun j c=>by cases c;exact d)
theorem sU(s:ByteArray):((byS s).size:Int)<=100000/\((byF s).size:Int)<=100000/\((byO s).size:Int)<=100000:=by
 by_cases a:s.size<=300
 .
  have c:=kQ s a;have d:=iu s;refine⟨uM ?_,uM ?_,uM ?_⟩
  .
   unfold jB
   split
   . rw[a0j,aF,jX];omega
   . simp
  . unfold mb;rw[a0e a];show(gF (kZ s)).length<=_;rw[wH];have b:=Ev (xG s a);omega
  . unfold mu;rw[a0e a];show(gF (kJ _)).length<=_;rw[wH];have b:=Ev (Fc _ c d);omega
 . rw[yX s a,yV s a,yW s a];exact⟨by decide,by decide,by decide⟩
theorem qo(s:ByteArray)(w:World)(O:s.size<=1048576)(N:dT w) :
  Ds 83 #[.string s] w (.string (ea s)):=by
 have L:=@run_makeMap prog;have H:=underlying162;have c:=a1U;obtain⟨b,hb⟩:∃b,w.heap.size=b:=⟨_,rfl⟩;have m0:=EW w;obtain⟨w1,V,m1,e1⟩:=ni H c _ _ _ 0 (.func (.func 108) #[] #[]) m0 (by simp);obtain⟨w2,X,m2,e2⟩:=ni H c _ _ _ 1 (.func (.func 109) #[] #[]) m1 (by simp);obtain⟨w3,Y,m3,e3⟩:=ni H c _ _ _ 2 (.func (.func 110) #[] #[]) m2 (by simp);have z1:w1.heap.size=w.heap.size+1:=by rw[e1];simp[World.putObj]
 have z2:w2.heap.size=w.heap.size+1:=by rw[e2];simpa[World.putObj]using z1
 have g:Below w.heap.size w w1:=by rw[e1];exact kX ((a0c _ w).alloc (a0a _) _) (by simp) (a0a _) _
 have B:Below w.heap.size w w2:=by rw[e2];exact kX g (by omega) (a0a _) _
 have C:Below w.heap.size w w3:=by rw[e3];exact kX B (by omega) (a0a _) _
 simp only[a1G,a18]at m3;have I:=ae (fun W k v (h:jZ W w.heap.size [(0,.func (.func 108) #[] #[]),(1,.func (.func 109) #[] #[]),(2,.func (.func 110) #[] #[])]) T=>EV H c W w.heap.size _ k v false h T (by decide));have g0:=ab I w3 0 (.func (.func 108) #[] #[]) m3 (by simp);have M:=ae m3;have y:=ae C;have S:=ae N;have J:=ae O;have z:=ae (sU s);clear e1 e2 e3 z1 z2 g B C m0 m1 m2 m3 H c O N hb b;go_enter func83,ntmps83;go_wp2_with fail;refine(qt s w3 (ab J)).mono ?_;rintro e x1 ⟨rfl,K⟩;have D:=(ab M).later K;have g:=ai (ab y) K;have eS:(⟨(jB s.data.toList).toArray⟩:ByteArray)=iU s 1:=rfl;rw[eS];clear K M y V X Y g0 L eS;go_wp2_with fail
 go_loopw [4,5,6] (fun v i _ wr=>∃k:Nat,1<=k/\k<=3/\i = .int .i64 k/\v = .string (iU s k)/\jZ wr w.heap.size [(0,.func (.func 108) #[] #[]),(1,.func (.func 109) #[] #[]),(2,.func (.func 110) #[] #[])]/\Below w.heap.size w wr) (fun _ i _ _=>3-(intOf i).toNat)
 case atStart=>exact⟨1,by omega,by omega,rfl,rfl,D,g⟩
 case round=>
  obtain⟨k,u,x,rfl,rfl,t,a⟩:=hrel;clear D g;rcases (show k=1∨k=2∨k=3 by omega)with c|c|c
  .
   have l:(k:Int)=1:=by omega
   have E:(k:Int)<=2:=by omega
   have g1:(Instr.lookup 162 (.map (some w.heap.size)) (.int .i64 (k:Int)) false).run prog wr = .ok (.func (.func 109) #[] #[]) wr:=by rw[l];exact ab I wr 1 (.func (.func 109) #[] #[]) t (by simp)
   have p:=ae (qm s wr (ab J));have eF:(⟨(mb s).toArray⟩:ByteArray)=byF s:=rfl;rw[eF]at p;have f:iU s k=byS s:=by rw[c];rfl
   have j:Hid (iU s (k+1)=fF (byS s) (byF s)):=by show _=_;rw[c];rfl
   obtain⟨P,Q,U⟩:=ab z;rw[f];have o:=ae c;have d:=ae (a0b t a);clear t a c u x f eF l;generalize byF s=F at *
   generalize byS s=A at *
   go_wp2_with fail;refine(ab p).mono ?_;rintro e x2 ⟨rfl,r⟩;have n:=ae (a0b ((ab d).1.later r) (ai (ab d).2 r));clear r d p;by_cases m:F.size<A.size
   .
    have G:(F.size:Int)<(A.size:Int):=by omega
    have q:=ae (jw m);go_wp2;go_roundw
    case rel=>exact⟨k+1,by omega,by have:=ab o;omega,by go_num,by rw[ab j,ab q],(ab n).1,(ab n).2⟩
    case measure=>have:=ab o;simp[intOf];omega
   .
    have q:=ae (kM m);go_wp2;go_roundw
    case rel=>exact⟨k+1,by omega,by have:=ab o;omega,by go_num,by rw[ab j,ab q],(ab n).1,(ab n).2⟩
    case measure=>have:=ab o;simp[intOf];omega
  .
   have l:(k:Int)=2:=by omega
   have E:(k:Int)<=2:=by omega
   have g1:(Instr.lookup 162 (.map (some w.heap.size)) (.int .i64 (k:Int)) false).run prog wr = .ok (.func (.func 110) #[] #[]) wr:=by rw[l];exact ab I wr 2 (.func (.func 110) #[] #[]) t (by simp)
   have p:=ae (tB s wr (ab J) ((ab S).later a));have eF:(⟨(mu s).toArray⟩:ByteArray)=byO s:=rfl;rw[eF]at p;have f:iU s k=fF (byS s) (byF s):=by rw[c];rfl
   have j:Hid (iU s (k+1)=fF (fF (byS s) (byF s)) (byO s)):=by show _=_;rw[c];rfl
   obtain⟨P,Q,U⟩:=ab z;rw[f];have o:=ae c;have d:=ae (a0b t a);clear t a c u x f eF P Q l;generalize byO s=F at *
   generalize fF (byS s) (byF s)=A at *
   go_wp2_with fail;refine(ab p).mono ?_;rintro e x2 ⟨rfl,r⟩;have n:=ae (a0b ((ab d).1.later r) (ai (ab d).2 r));clear r d p;by_cases m:F.size<A.size
   .
    have G:(F.size:Int)<(A.size:Int):=by omega
    have q:=ae (jw m);go_wp2;go_roundw
    case rel=>exact⟨k+1,by omega,by have:=ab o;omega,by go_num,by rw[ab j,ab q],(ab n).1,(ab n).2⟩
    case measure=>have:=ab o;simp[intOf];omega
   .
    have q:=ae (kM m);go_wp2;go_roundw
    case rel=>exact⟨k+1,by omega,by have:=ab o;omega,by go_num,by rw[ab j,ab q],(ab n).1,(ab n).2⟩
    case measure=>have:=ab o;simp[intOf];omega
  .
   have E:¬ (k:Int)<=2:=by omega
   have f:Hid (iU s k=ea s):=by show _=_;rw[c];rfl
   have R:=ae a;clear t a c u x;generalize iU s k=A at *
   go_wp2;go_ret;exact⟨by rw[←ab f];rfl,ab R⟩
theorem vy(s:ByteArray)(w:World)(r:s.size<=300) :
  Ds 72 #[.string s] w (.string (ea s)):=by
 have J:¬ (300:Int)<(s.size:Int):=by omega
 have m:=ae (fun W=>zY s W r);have n:=ae (fun W=>zW s W r);have o:=ae (fun W=>Gq s W r);have e1:(⟨(leS 5 (gN s.size)++s.data.toList).toArray⟩:ByteArray)=iU s 1:=by
  show _=byS s;unfold byS jB;rw[a0e (by rw[jX];exact r),jX]
 have e2:(⟨(ln s).toArray⟩:ByteArray)=byF s:=by unfold byF mb;rw[a0e r]
 have e3:(⟨(uy s).toArray⟩:ByteArray)=byO s:=by unfold byO mu;rw[a0e r]
 rw[e1]at m;rw[e2]at n;rw[e3]at o;have z:=ae (sU s);clear r e1 e2 e3;go_enter func72,ntmps72;go_wp2_with fail;refine(ab m _).mono ?_;rintro e x1 ⟨rfl,D⟩;have B:=ae D;clear D;go_wp2_with fail;refine(ab n _).mono ?_;rintro e x2 ⟨rfl,E⟩;have C:=ae (ai (ab B) E);clear E B;go_wp2_with fail;refine(ab o _).mono ?_;rintro e x3 ⟨rfl,G⟩;have p:=ai (ab C) G;have t:Below w.heap.size w (x3.alloc (.cells #[.string (byF s),.string (byO s)] 9)):=p.alloc p.size _;have c0:(x3.alloc (.cells #[.string (byF s),.string (byO s)] 9)).cell? ⟨x3.heap.size,0,none⟩=some (.string (byF s)):=by simp
 have c1:(x3.alloc (.cells #[.string (byF s),.string (byO s)] 9)).cell? ⟨x3.heap.size,1,none⟩=some (.string (byO s)):=by simp
 have y:=ae t;clear G p t C m n o;go_wp2_with fail;generalize x3.alloc (.cells #[.string (byF s),.string (byO s)] 9)=x4 at *
 generalize x3.heap.size=g at *
 go_loopw [3,5] (fun v i wr=>∃k:Nat,k<=2/\i = .int .i64 k/\v = .string (iU s (k+1))/\wr=x4) (fun _ i _=>2-(intOf i).toNat)
 case atStart=>exact⟨0,by omega,rfl,rfl,rfl⟩
 case round=>
  obtain⟨k,q,rfl,rfl,x⟩:=hrel;rw[x];clear x;obtain⟨H,I,K⟩:=ab z;rcases (show k=0∨k=1∨k=2 by omega)with b|b|b
  .
   have u:(k:Int)<2:=by omega
   have c:x4.cell? ⟨g,k,none⟩=some (.string (byF s)):=by rw[b];exact c0
   have a:iU s (k+1)=byS s:=by rw[b];rfl
   have d:Hid (iU s (k+1+1)=fF (byS s) (byF s)):=by show _=_;rw[b];rfl
   rw[a];have j:=ae b;clear b a c0 c1 q;generalize byF s=F at *
   generalize byS s=A at *
   by_cases f:F.size<A.size
   .
    have h:(F.size:Int)<(A.size:Int):=by omega
    have l:=ae (jw f);go_wp2;go_roundw
    case rel=>exact⟨k+1,by have:=ab j;omega,by go_num,by rw[ab d,ab l],by first|rfl|trivial⟩
    case measure=>have:=ab j;simp[intOf];omega
   .
    have h:¬ (F.size:Int)<(A.size:Int):=by omega
    have l:=ae (kM f);go_wp2;go_roundw
    case rel=>exact⟨k+1,by have:=ab j;omega,by go_num,by rw[ab d,ab l],by first|rfl|trivial⟩
    case measure=>have:=ab j;simp[intOf];omega
  .
   have u:(k:Int)<2:=by omega
   have c:x4.cell? ⟨g,k,none⟩=some (.string (byO s)):=by rw[b];exact c1
   have a:iU s (k+1)=fF (byS s) (byF s):=by rw[b];rfl
   have d:Hid (iU s (k+1+1)=fF (fF (byS s) (byF s)) (byO s)):=by show _=_;rw[b];rfl
   rw[a];have j:=ae b;clear b a c0 c1 q H I;generalize byO s=F at *
   generalize fF (byS s) (byF s)=A at *
   by_cases f:F.size<A.size
   .
    have h:(F.size:Int)<(A.size:Int):=by omega
    have l:=ae (jw f);go_wp2;go_roundw
    case rel=>exact⟨k+1,by have:=ab j;omega,by go_num,by rw[ab d,ab l],by first|rfl|trivial⟩
    case measure=>have:=ab j;simp[intOf];omega
   .
    have h:¬ (F.size:Int)<(A.size:Int):=by omega
    have l:=ae (kM f);go_wp2;go_roundw
    case rel=>exact⟨k+1,by have:=ab j;omega,by go_num,by rw[ab d,ab l],by first|rfl|trivial⟩
    case measure=>have:=ab j;simp[intOf];omega
  .
   have u:¬ (k:Int)<2:=by omega
   have a:Hid (iU s (k+1)=ea s):=by show _=_;rw[b];rfl
   clear b c0 c1 q;generalize iU s (k+1)=A at *
   go_wp2;go_ret;exact⟨by rw[←ab a];rfl,ab y⟩
theorem qM(s:ByteArray)(w:World)(c:s.size<=1048576) :
  Ds 72 #[.string s] w (.string (ea s)):=by
 by_cases h:s.size<=300
 . exact vy s w h
 .
  have b:(300:Int)<(s.size:Int):=by omega
  have a:=ae (zD s h);clear h;go_enter func72,ntmps72;go_wp2;go_ret;exact⟨by rw[ab a];rfl,a0c _ _⟩
def dH(s:ByteArray):Nat:=if (ea s).size<s.size then 8 else 0
def aY(s:ByteArray):ByteArray:=if (ea s).size<s.size then ea s else s
theorem gp(s:ByteArray):((ea s).size:Int)<=100000:=by
 obtain⟨c,h2,d⟩:=sU s;have key:∀a b:ByteArray,(a.size:Int)<=100000->(b.size:Int)<=100000->((fF a b).size:Int)<=100000:=fun a b e hb=>by
  by_cases h:b.size<a.size
  . rw[jw h];exact hb
  . rw[kM h];exact e
 unfold ea;exact key _ _ (key _ _ c h2) d
theorem wh(s:ByteArray)(w:World)(d:s.size<=1048576) :
  Ds 51 #[.string s] w (.tuple #[.int .i64 (dH s:Nat),.string (aY s)]):=by
 have b:=ae (qM s w d);unfold dH aY;generalize ea s=x at *
 clear d;by_cases h:x.size<s.size
 .
  have f:(x.size:Int)<(s.size:Int):=by omega
  rw[a0e h,a0e h];clear h;go_enter func51,ntmps51;go_wp2_with fail;refine(ab b).mono ?_;rintro e w1 ⟨rfl,a⟩;have c:=ae a;clear a b;go_wp2
  go_ret2
  exact⟨rfl,ab c⟩
 .
  have f:¬ (x.size:Int)<(s.size:Int):=by omega
  rw[a0d h,a0d h];clear h;go_enter func51,ntmps51;go_wp2_with fail;refine(ab b).mono ?_;rintro e w1 ⟨rfl,a⟩;have c:=ae a;clear a b;go_wp2
  go_ret2
  exact⟨rfl,ab c⟩
def pQ(W:World)(g:Nat)(n:ByteArray)(y mo d h mi s:Int)(t:ByteArray):Prop:=W.cell? ⟨g,0,none⟩=some (.string n)/\W.cell? ⟨g,1,none⟩=some (.int .i64 y)/\W.cell? ⟨g,2,none⟩=some (.int .i64 mo)/\W.cell? ⟨g,3,none⟩=some (.int .i64 d)/\W.cell? ⟨g,4,none⟩=some (.int .i64 h)/\W.cell? ⟨g,5,none⟩=some (.int .i64 mi)/\W.cell? ⟨g,6,none⟩=some (.int .i64 s)/\W.cell? ⟨g,7,none⟩=some (.string t)
def lR(w:World)(n:ByteArray)(y mo d h mi s:Int)(t:ByteArray)(W:World):Prop:=Below w.heap.size w W/\w.heap.size<W.heap.size/\pQ W w.heap.size n y mo d h mi s t
theorem lR.later{w W W':World}{n t:ByteArray}{y mo d h mi s:Int}(k:lR w n y mo d h mi s t W)(hb:Below W.heap.size W W'):lR w n y mo d h mi s t W':=by
 have a:∀j,W'.cell? ⟨w.heap.size,j,none⟩=W.cell? ⟨w.heap.size,j,none⟩:=fun j=>hb.cell (p:=⟨w.heap.size,j,none⟩) k.2.1;obtain⟨c,b,e0,e1,e2,e3,e4,e5,e6,e7⟩:=k;exact⟨c.trans (hb.mono (a0z b)),a0m b hb.size,(a 0).trans e0,(a 1).trans e1,(a 2).trans e2,(a 3).trans e3,(a 4).trans e4,(a 5).trans e5,(a 6).trans e6,(a 7).trans e7⟩
theorem Lr(how st c d lg n:Nat):er how st c d lg n=aw (leS 2 20)++aw (leS 2 0)++aw (leS 2 how)++aw (leS 4 st)++aw (leS 4 c)++aw (leS 4 d)++aw (leS 4 lg)++aw (leS 2 n)++aw (leS 2 0):=by
 have e:∀a b:ByteArray,a.data.toList=b.data.toList->a=b:=fun a b h=>by
  cases a;cases b
  simp only[ByteArray.mk.injEq];exact Array.toList_inj.1 h
 apply e;unfold er aw;simp
theorem pe(n t:ByteArray)(y mo d h mi s:Int)(N:Nat)(w:World)(k:(0<=y/\y<=100000)/\(0<=mo/\mo<=100)/\(0<=d/\d<=100)/\(0<=h/\h<=100)/\(0<=mi/\mi<=100) /\ -100<=s/\s<=100)
  (u:(((((y-1980)*16+mo)*32+d)*32+h)*64+mi)*32+Int.tdiv s 2=(N:Int)) (l:N<4294967296) (I:n.size<65536) (v:t.size<=1048576) :
  Ds 50 #[.agg #[.string n,.int .i64 y,.int .i64 mo,.int .i64 d,.int .i64 h,.int .i64 mi,.int .i64 s,.string t]] w (.string (er (dH t) N (aE 0 t.data.toList) (aY t).size t.size n.size)):=by
 have i:prog.follows .mixedOrders=true:=by kernel_rfl
 have o:aE 0 t.data.toList<4294967296:=jp _ _ (by omega);have p:=gp t;have m:(aY t).size<=1048576:=by unfold aY;split<;>omega
 have q:dH t<=8:=by unfold dH;split<;>omega
 have j:Hid (∀W,Ds 45 #[.int .i64 ((20:Nat):Int),.int .i64 2] W (.string (aw (leS 2 (20))))):=fun W=>aN (20) 2 W (by omega) (by omega);have r:Hid (∀W,Ds 45 #[.int .i64 ((0:Nat):Int),.int .i64 2] W (.string (aw (leS 2 (0))))):=fun W=>aN (0) 2 W (by omega) (by omega);have B:Hid (∀W,Ds 45 #[.int .i64 ((dH t:Nat):Int),.int .i64 2] W (.string (aw (leS 2 (dH t))))):=fun W=>aN (dH t) 2 W (by omega) (by omega);have E:Hid (∀W,Ds 45 #[.int .i64 ((N:Nat):Int),.int .i64 4] W (.string (aw (leS 4 (N))))):=fun W=>aN (N) 4 W (by omega) (by omega);have C:Hid (∀W,Ds 45 #[.int .i64 ((aE 0 t.data.toList:Nat):Int),.int .i64 4] W (.string (aw (leS 4 (aE 0 t.data.toList))))):=fun W=>aN (aE 0 t.data.toList) 4 W (by omega) (by omega);have z:Hid (∀W,Ds 45 #[.int .i64 (((aY t).size:Nat):Int),.int .i64 4] W (.string (aw (leS 4 ((aY t).size))))):=fun W=>aN ((aY t).size) 4 W (by omega) (by omega);have CT:Hid (∀W,Ds 45 #[.int .i64 ((t.size:Nat):Int),.int .i64 4] W (.string (aw (leS 4 (t.size))))):=fun W=>aN (t.size) 4 W (by omega) (by omega);have D:Hid (∀W,Ds 45 #[.int .i64 ((n.size:Nat):Int),.int .i64 2] W (.string (aw (leS 2 (n.size))))):=fun W=>aN (n.size) 2 W (by omega) (by omega);have F:Hid (∀W,Ds 71 #[.agg #[.int .i64 y,.int .i64 mo,.int .i64 d,.int .i64 h,.int .i64 mi,.int .i64 s]] W (.int .i64 ((N:Nat):Int))):=fun W=>by
  have:=Gt y mo d h mi s W k;rw[u]at this;exact this
 have A:Hid (∀W,Ds 48 #[.string t] W (.int .i64 ((aE 0 t.data.toList:Nat):Int))):=fun W=>(rH t W (by unfold maxLen;omega)).mono fun e w' ⟨H,h2⟩=>⟨H,by rw[h2];exact a0c _ _⟩;have g:=ae (fun W=>wh t W v);have G:=ae (Lr (dH t) N (aE 0 t.data.toList) (aY t).size t.size n.size);have zz:∀many V,many<=4->((aw (leS many V)).size:Int)<=4:=fun many V O=>by rw[bp,aF];omega
 have z1:=zz 2 20 (by omega);have z2:=zz 2 0 (by omega);have z3:=zz 2 (dH t) (by omega);have z4:=zz 4 N (by omega);have z5:=zz 4 (aE 0 t.data.toList) (by omega);have z6:=zz 4 (aY t).size (by omega);have z7:=zz 4 t.size (by omega);have z8:=zz 2 n.size (by omega);generalize aw (leS 2 20)=A20 at *
 generalize aw (leS 2 0)=A0 at *
 generalize aw (leS 2 (dH t))=AH at *
 generalize aw (leS 4 N)=AN at *
 generalize aw (leS 4 (aE 0 t.data.toList))=AK at *
 generalize aw (leS 4 (aY t).size)=AB at *
 generalize aw (leS 4 t.size)=AT at *
 generalize aw (leS 2 n.size)=AM at *
 generalize er (dH t) N (aE 0 t.data.toList) (aY t).size t.size n.size=RES at *
 generalize dH t=hw at *
 generalize aY t=bd at *
 generalize aE 0 t.data.toList=cr at *
 have T0':Hid (lR w n y mo d h mi s t (w.alloc (.cells #[.string n,.int .i64 y,.int .i64 mo,.int .i64 d,.int .i64 h,.int .i64 mi,.int .i64 s,.string t] 31))):=⟨(a0c _ _).alloc (a0a _) _,by simp,by simp,by simp,by simp,by simp,by simp,by simp,by simp,by simp⟩;clear k u l I v o p m q zz;go_enter func50,ntmps50;go_wp2_with fail;obtain⟨W1,hW1⟩:∃x,w.alloc (.cells #[.string n,.int .i64 y,.int .i64 mo,.int .i64 d,.int .i64 h,.int .i64 mi,.int .i64 s,.string t] 31)=x:=⟨_,rfl⟩;rw[hW1]at T0';rw[hW1];have T1:=T0';clear T0' hW1;refine(ab g W1).mono ?_;rintro e W2 ⟨rfl,b⟩;have T2:=ae ((ab T1).later b);clear b T1 g;go_wp2_with fail;refine wp_region_held_drew (S:=fun W=>pQ W w.heap.size n y mo d h mi s t) i (ab T2).2.2 (fun f=>?_);refine af 3 (.int .i64 (hw:Nat)) rfl (by kernel_rfl) (fun _ _ _ h=>h) rfl (fun W a=>by obtain⟨s0,s1,s2,s3,s4,s5,s6,s7⟩:=a;go_simp) f ?_;refine af 6 (.pointer (some ⟨w.heap.size,1,none⟩)) rfl (by kernel_rfl) (fun _ _ _ h=>h) rfl (fun W a=>by obtain⟨s0,s1,s2,s3,s4,s5,s6,s7⟩:=a;go_simp) f ?_;refine af 7 (.agg #[.int .i64 y,.int .i64 mo,.int .i64 d,.int .i64 h,.int .i64 mi,.int .i64 s]) rfl (by kernel_rfl) (fun _ _ _ h=>h) rfl (fun W a=>by obtain⟨s0,s1,s2,s3,s4,s5,s6,s7⟩:=a;go_simp) f ?_;have T3:Hid (lR w n y mo d h mi s t W2.drew):=⟨(ab T2).1.drew,(ab T2).2.1,(ab T2).2.2⟩;generalize W2.drew=W3 at *
 refine ag 0 (by kernel_rfl) rfl fun K c=>?_;go_simp;go_at_call 45;refine(ab j W3).mono ?_;rintro e W4 ⟨rfl,b⟩;have T4:=ae ((ab T3).later b);refine Shut.out c _ _ (ab T4).2.2 (fun f=>?_);clear c K b;refine ag 1 (by kernel_rfl) rfl fun K c=>?_;go_simp;go_at_call 45;refine(ab r W4).mono ?_;rintro e W5 ⟨rfl,b⟩;have T5:=ae ((ab T4).later b);refine Shut.out c _ _ (ab T5).2.2 (fun f=>?_);clear c K b;refine af 2 (.string (A20++A0)) rfl (by kernel_rfl) (fun _ _ _ h=>h) rfl (fun W a=>by obtain⟨s0,s1,s2,s3,s4,s5,s6,s7⟩:=a;go_simp<;>omega) f ?_;refine ag 4 (by kernel_rfl) rfl fun K c=>?_;go_simp;go_at_call 45;refine(ab B W5).mono ?_;rintro e W6 ⟨rfl,b⟩;have T6:=ae ((ab T5).later b);refine Shut.out c _ _ (ab T6).2.2 (fun f=>?_);clear c K b;refine af 5 (.string (A20++A0++AH)) rfl (by kernel_rfl) (fun _ _ _ h=>h) rfl (fun W a=>by obtain⟨s0,s1,s2,s3,s4,s5,s6,s7⟩:=a;go_simp<;>omega) f ?_;refine ag 8 (by kernel_rfl) rfl fun K c=>?_;go_simp;go_at_call 71;refine(ab F W6).mono ?_;rintro e W7 ⟨rfl,b⟩;have T7:=ae ((ab T6).later b);refine Shut.out c _ _ (ab T7).2.2 (fun f=>?_);clear c K b;refine ag 9 (by kernel_rfl) rfl fun K c=>?_;go_simp;go_at_call 45;refine(ab E W7).mono ?_;rintro e W8 ⟨rfl,b⟩;have T8:=ae ((ab T7).later b);refine Shut.out c _ _ (ab T8).2.2 (fun f=>?_);clear c K b;refine af 10 (.string (A20++A0++AH++AN)) rfl (by kernel_rfl) (fun _ _ _ h=>h) rfl (fun W a=>by obtain⟨s0,s1,s2,s3,s4,s5,s6,s7⟩:=a;go_simp<;>omega) f ?_;refine ag 11 (by kernel_rfl) rfl fun K c=>?_;go_simp;refine Shut.out c _ _ (ab T8).2.2 (fun f=>?_);clear c K;refine wpAnyH_done (by kernel_rfl) ?_ _;clear f;obtain⟨B1,hB1⟩:∃x,A20++A0++AH++AN=x:=⟨_,rfl⟩;have zB1:(B1.size:Int)<=1000:=by rw[←hB1];simp only[a0R];omega
 rw[hB1];go_wp2_with fail;refine wp_region_held_drew (S:=fun W=>pQ W w.heap.size n y mo d h mi s t) i (ab T8).2.2 (fun f=>?_);refine af 0 (.string B1) rfl (by kernel_rfl) (fun _ _ _ h=>h) rfl (fun W a=>by obtain⟨s0,s1,s2,s3,s4,s5,s6,s7⟩:=a;go_simp) f ?_;refine af 1 (.pointer (some ⟨w.heap.size,7,none⟩)) rfl (by kernel_rfl) (fun _ _ _ h=>h) rfl (fun W a=>by obtain⟨s0,s1,s2,s3,s4,s5,s6,s7⟩:=a;go_simp) f ?_;refine af 2 (.string t) rfl (by kernel_rfl) (fun _ _ _ h=>h) rfl (fun W a=>by obtain⟨s0,s1,s2,s3,s4,s5,s6,s7⟩:=a;go_simp) f ?_;refine af 6 (.string bd) rfl (by kernel_rfl) (fun _ _ _ h=>h) rfl (fun W a=>by obtain⟨s0,s1,s2,s3,s4,s5,s6,s7⟩:=a;go_simp) f ?_;refine af 7 (.int .i64 (bd.size:Nat)) rfl (by kernel_rfl) (fun _ _ _ h=>h) rfl (fun W a=>by obtain⟨s0,s1,s2,s3,s4,s5,s6,s7⟩:=a;go_simp) f ?_;refine af 10 (.pointer (some ⟨w.heap.size,7,none⟩)) rfl (by kernel_rfl) (fun _ _ _ h=>h) rfl (fun W a=>by obtain⟨s0,s1,s2,s3,s4,s5,s6,s7⟩:=a;go_simp) f ?_;refine af 11 (.string t) rfl (by kernel_rfl) (fun _ _ _ h=>h) rfl (fun W a=>by obtain⟨s0,s1,s2,s3,s4,s5,s6,s7⟩:=a;go_simp) f ?_;refine af 12 (.int .i64 (t.size:Nat)) rfl (by kernel_rfl) (fun _ _ _ h=>h) rfl (fun W a=>by obtain⟨s0,s1,s2,s3,s4,s5,s6,s7⟩:=a;go_simp) f ?_;have T9:Hid (lR w n y mo d h mi s t W8.drew):=⟨(ab T8).1.drew,(ab T8).2.1,(ab T8).2.2⟩;generalize W8.drew=W9 at *
 refine ag 3 (by kernel_rfl) rfl fun K c=>?_;go_simp;go_at_call 48;refine(ab A W9).mono ?_;rintro e W10 ⟨rfl,b⟩;have T10:=ae ((ab T9).later b);refine Shut.out c _ _ (ab T10).2.2 (fun f=>?_);clear c K b;refine ag 4 (by kernel_rfl) rfl fun K c=>?_;go_simp;go_at_call 45;refine(ab C W10).mono ?_;rintro e W11 ⟨rfl,b⟩;have T11:=ae ((ab T10).later b);refine Shut.out c _ _ (ab T11).2.2 (fun f=>?_);clear c K b;refine af 5 (.string (B1++AK)) rfl (by kernel_rfl) (fun _ _ _ h=>h) rfl (fun W a=>by obtain⟨s0,s1,s2,s3,s4,s5,s6,s7⟩:=a;go_simp<;>omega) f ?_;refine ag 8 (by kernel_rfl) rfl fun K c=>?_;go_simp;go_at_call 45;refine(ab z W11).mono ?_;rintro e W12 ⟨rfl,b⟩;have T12:=ae ((ab T11).later b);refine Shut.out c _ _ (ab T12).2.2 (fun f=>?_);clear c K b;refine af 9 (.string (B1++AK++AB)) rfl (by kernel_rfl) (fun _ _ _ h=>h) rfl (fun W a=>by obtain⟨s0,s1,s2,s3,s4,s5,s6,s7⟩:=a;go_simp<;>omega) f ?_;refine ag 13 (by kernel_rfl) rfl fun K c=>?_;go_simp;go_at_call 45;refine(ab CT W12).mono ?_;rintro e W13 ⟨rfl,b⟩;have T13:=ae ((ab T12).later b);refine Shut.out c _ _ (ab T13).2.2 (fun f=>?_);clear c K b;refine af 14 (.string (B1++AK++AB++AT)) rfl (by kernel_rfl) (fun _ _ _ h=>h) rfl (fun W a=>by obtain⟨s0,s1,s2,s3,s4,s5,s6,s7⟩:=a;go_simp<;>omega) f ?_;refine ag 15 (by kernel_rfl) rfl fun K c=>?_;go_simp;refine Shut.out c _ _ (ab T13).2.2 (fun f=>?_);clear c K;refine wpAnyH_done (by kernel_rfl) ?_ _;clear f;obtain⟨B2,hB2⟩:∃x,B1++AK++AB++AT=x:=⟨_,rfl⟩;have zB2:(B2.size:Int)<=2000:=by rw[←hB2];simp only[a0R];omega
 rw[hB2];obtain⟨c0,c1,c2,c3,c4,J,L,M⟩:=(ab T13).2.2;go_wp2_with fail;refine(ab D W13).mono ?_;rintro e X1 ⟨rfl,b⟩;have TX:=ae ((ab T13).later b);clear b;go_wp2_with fail;refine(ab r X1).mono ?_;rintro e X2 ⟨rfl,b⟩;have TY:=ae ((ab TX).later b);clear b;go_wp2;go_ret;exact⟨by rw[ab G,←hB2,←hB1];rfl,(ab TY).1⟩
def oj(n t:ByteArray)(N:Nat):ByteArray:=eV (dH t) N (aE 0 t.data.toList) (aY t).size t.size n++aY t
theorem MF:aw (leS 4 67324752)=(⟨#[80,75,3,4]⟩:ByteArray):=by decide +kernel
theorem zZ(n t:ByteArray)(y mo d h mi s:Int)(N:Nat)(w:World)(k:(0<=y/\y<=100000)/\(0<=mo/\mo<=100)/\(0<=d/\d<=100)/\(0<=h/\h<=100)/\(0<=mi/\mi<=100) /\ -100<=s/\s<=100)
  (q:(((((y-1980)*16+mo)*32+d)*32+h)*64+mi)*32+Int.tdiv s 2=(N:Int)) (i:N<4294967296) (r:n.size<65536) (p:t.size<=1048576) :
  Ds 32 #[.agg #[.string n,.int .i64 y,.int .i64 mo,.int .i64 d,.int .i64 h,.int .i64 mi,.int .i64 s,.string t]] w (.string (oj n t N)):=by
 have j:prog.follows .mixedOrders=true:=by kernel_rfl
 have u:=ae (fun W=>pe n t y mo d h mi s N W k q i r p);have f:=ae (fun W=>wh t W p);have v:Hid (∀W,Ds 45 #[.int .i64 67324752,.int .i64 4] W (.string (aw (leS 4 67324752)))):=fun W=>aN 67324752 4 W (by omega) (by omega);have o:=gp t;have m:(aY t).size<=1048576:=by unfold aY;split<;>omega
 have A:((aY t).size:Int)<=1048576:=by omega
 have B:(n.size:Int)<65536:=by omega
 have z:Hid (aw (leS 4 67324752)++er (dH t) N (aE 0 t.data.toList) (aY t).size t.size n.size++n++aY t=oj n t N):=by unfold oj eV;rw[MF];exact rfl
 have z1:((aw (leS 4 67324752)).size:Int)<=4:=by rw[bp,aF];omega
 have z2:((er (dH t) N (aE 0 t.data.toList) (aY t).size t.size n.size).size:Int)<=26:=by rw[fU];omega
 generalize aw (leS 4 67324752)=A4 at *
 generalize er (dH t) N (aE 0 t.data.toList) (aY t).size t.size n.size=FL at *
 generalize oj n t N=RES at *
 generalize dH t=hw at *
 generalize aY t=bd at *
 have T0':Hid (lR w n y mo d h mi s t (w.alloc (.cells #[.string n,.int .i64 y,.int .i64 mo,.int .i64 d,.int .i64 h,.int .i64 mi,.int .i64 s,.string t] 31))):=⟨(a0c _ _).alloc (a0a _) _,by simp,by simp,by simp,by simp,by simp,by simp,by simp,by simp,by simp⟩;clear k q i r p o m;go_enter func32,ntmps32;go_wp2_with fail;obtain⟨W1,hW1⟩:∃x,w.alloc (.cells #[.string n,.int .i64 y,.int .i64 mo,.int .i64 d,.int .i64 h,.int .i64 mi,.int .i64 s,.string t] 31)=x:=⟨_,rfl⟩;rw[hW1]at T0';rw[hW1];have T1:=T0';clear T0' hW1;refine(ab f W1).mono ?_;rintro e W2 ⟨rfl,c⟩;have T2:=ae ((ab T1).later c);clear c T1 f;go_wp2_with fail;refine wp_region_held_drew (S:=fun W=>pQ W w.heap.size n y mo d h mi s t) j (ab T2).2.2 (fun b=>?_);refine af 1 (.agg #[.string n,.int .i64 y,.int .i64 mo,.int .i64 d,.int .i64 h,.int .i64 mi,.int .i64 s,.string t]) rfl (by kernel_rfl) (fun _ _ _ h=>h) rfl (fun W a=>by obtain⟨s0,s1,s2,s3,s4,s5,s6,s7⟩:=a;go_simp) b ?_;refine af 4 (.pointer (some ⟨w.heap.size,0,none⟩)) rfl (by kernel_rfl) (fun _ _ _ h=>h) rfl (fun W a=>by obtain⟨s0,s1,s2,s3,s4,s5,s6,s7⟩:=a;go_simp) b ?_;refine af 5 (.string n) rfl (by kernel_rfl) (fun _ _ _ h=>h) rfl (fun W a=>by obtain⟨s0,s1,s2,s3,s4,s5,s6,s7⟩:=a;go_simp) b ?_;refine af 7 (.string bd) rfl (by kernel_rfl) (fun _ _ _ h=>h) rfl (fun W a=>by obtain⟨s0,s1,s2,s3,s4,s5,s6,s7⟩:=a;go_simp) b ?_;have T3:Hid (lR w n y mo d h mi s t W2.drew):=⟨(ab T2).1.drew,(ab T2).2.1,(ab T2).2.2⟩;generalize W2.drew=W3 at *
 refine ag 0 (by kernel_rfl) rfl fun K g=>?_;go_simp;go_at_call 45;refine(ab v W3).mono ?_;rintro e W4 ⟨rfl,c⟩;have T4:=ae ((ab T3).later c);refine Shut.out g _ _ (ab T4).2.2 (fun b=>?_);clear g K c;refine ag 2 (by kernel_rfl) rfl fun K g=>?_;go_simp;go_at_call 50;refine(ab u W4).mono ?_;rintro e W5 ⟨rfl,c⟩;have T5:=ae ((ab T4).later c);refine Shut.out g _ _ (ab T5).2.2 (fun b=>?_);clear g K c;refine af 3 (.string (A4++FL)) rfl (by kernel_rfl) (fun _ _ _ h=>h) rfl (fun W a=>by obtain⟨s0,s1,s2,s3,s4,s5,s6,s7⟩:=a;go_simp<;>omega) b ?_;refine af 6 (.string (A4++FL++n)) rfl (by kernel_rfl) (fun _ _ _ h=>h) rfl (fun W a=>by obtain⟨s0,s1,s2,s3,s4,s5,s6,s7⟩:=a;go_simp<;>omega) b ?_;refine af 8 (.string (A4++FL++n++bd)) rfl (by kernel_rfl) (fun _ _ _ h=>h) rfl (fun W a=>by obtain⟨s0,s1,s2,s3,s4,s5,s6,s7⟩:=a;go_simp<;>omega) b ?_;refine ag 9 (by kernel_rfl) rfl fun K g=>?_;go_simp;refine Shut.out g _ _ (ab T5).2.2 (fun b=>?_);clear g K;refine wpAnyH_done (by kernel_rfl) ?_ _;clear b;generalize l:A4++FL++n++bd=AA;go_wp2;go_ret;exact⟨by rw[←ab z,←l];rfl,(ab T5).1⟩
end Go.Proofs.YtchidddpplangaaGreatDoor
