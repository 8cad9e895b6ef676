/- Of what the proof is made: 5 texts, one behind the other. -/
import Derived.Test.YtkdlcomfpffhhaaGreatDoorM35
import Derived.Test.YtkdlcomfpffhhaaGreatDoorM4
import Derived.Test.YtkdlcomfpffhhaaGreatDoorM18
import Derived.Test.YtkdlcomfpffhhaaGreatDoorM3
import Derived.Test.YtkdlcomfpffhhaaGreatDoorM5
import Derived.BigQuiet
import Derived.Test.YtkdlcomfpffhhaaGreatDoorM8
import Derived.Test.YtkdlcomfpffhhaaGreatDoorM7
set_option maxRecDepth 100000
set_option linter.unusedSimpArgs false
set_option linter.unusedVariables false
set_option maxHeartbeats 6400000
namespace Go.Proofs.YtkdlcomfpffhhaaGreatDoor
open Go.Proofs.Tryz
open Go.RowKit Corb
variable {a b:ByteArray}
def iB(a b:ByteArray):ByteArray:=if b.size<a.size then b else a
theorem mY(h:b.size<a.size):iB a b=b:=a0e h
theorem pn(h:¬ b.size<a.size):iB a b=a:=a0d h
def byO(s:ByteArray):ByteArray:=⟨(wn s).toArray⟩
def gB(s:ByteArray):ByteArray:=iB (iB (byS s) (byF s)) (byO s)
def pI(s:ByteArray):Nat->ByteArray
 | 1=>byS s
 | 2=>iB (byS s) (byF s)
 | _=>gB s
theorem wW(s:ByteArray)(h:¬ s.size<=300):byO s=⟨#[]⟩:=by unfold byO wn;rw[a0d h]
theorem xB(s:ByteArray)(h:¬ s.size<=300):gB s=⟨#[]⟩:=by
 unfold gB;rw[wX s h,wV s h,wW s h];rfl
theorem uZ(l:List (Int×Int)):(iF l).length=((cO l).2+7)/8:=by unfold iF;exact aH _ _
theorem sV{l:List UInt8}(h:l.length<=100000):((⟨l.toArray⟩:ByteArray).size:Int)<=100000:=by
 have:(⟨l.toArray⟩:ByteArray).size=l.length:=by simp[ByteArray.size]
 omega
theorem Cn{l:List (Int×Int)}(h:lOk l=true):(cO l).2<=64000:=by
 unfold lOk at h;simp only[a0n,a0E]at h;have a:=dh (0,0) l (fun x c=>by
  have h2:=h.1;unfold bm at h2;exact(aV.1 (a06.1 h2 x c)).1.2)
 have b:aT (0,0) l=cO l:=rfl;rw[b]at a;omega
theorem wY(s:ByteArray):((byS s).size:Int)<=100000/\((byF s).size:Int)<=100000/\((byO s).size:Int)<=100000:=by
 by_cases a:s.size<=300
 .
  have c:=ln s a;have d:=j7 s;refine⟨sV ?_,sV ?_,sV ?_⟩
  .
   unfold sY
   split
   . rw[a0o,aH,jZ];omega
   . simp
  . unfold vP;rw[a0e a];show(iF (rr s)).length<=_;rw[uZ];have b:=Cn (KT s a);omega
  . unfold wn;rw[a0e a];show(iF (nW _)).length<=_;rw[uZ];have b:=Cn (LL _ c d);omega
 . rw[wX s a,wV s a,wW s a];exact⟨by decide,by decide,by decide⟩
theorem tR(s:ByteArray)(w:World)(r:s.size<=300) :
  CD 195 #[.string s] w (.string (gB s)):=by
 have J:¬ (300:Int)<(s.size:Int):=by omega
 have m:=af (fun W=>ye s W r);have n:=af (fun W=>yb s W r);have o:=af (fun W=>EF s W r);have e1:(⟨(leS 5 (kH s.size)++s.data.toList).toArray⟩:ByteArray)=pI s 1:=by
  show _=byS s;unfold byS sY;rw[a0e (by rw[jZ];exact r),jZ]
 have e2:(⟨(rO s).toArray⟩:ByteArray)=byF s:=by unfold byF vP;rw[a0e r]
 have e3:(⟨(Fv s).toArray⟩:ByteArray)=byO s:=by unfold byO wn;rw[a0e r]
 rw[e1]at m;rw[e2]at n;rw[e3]at o;have z:=af (wY s);clear r e1 e2 e3;go_enter func195,ntmps195;go_wp2_with fail;refine(ae m _).mono ?_;rintro e x1 ⟨rfl,D⟩;have B:=af D;clear D;go_wp2_with fail;refine(ae n _).mono ?_;rintro e x2 ⟨rfl,E⟩;have C:=af (am (ae B) E);clear E B;go_wp2_with fail;refine(ae o _).mono ?_;rintro e x3 ⟨rfl,G⟩;have p:=am (ae C) G;have t:Below w.heap.size w (x3.alloc (.cells #[.string (byF s),.string (byO s)] 9)):=p.alloc p.size _;have c0:(x3.alloc (.cells #[.string (byF s),.string (byO s)] 9)).cell? ⟨x3.heap.size,0,none⟩=some (.string (byF s)):=by simp
 have c1:(x3.alloc (.cells #[.string (byF s),.string (byO s)] 9)).cell? ⟨x3.heap.size,1,none⟩=some (.string (byO s)):=by simp
 have y:=af t;clear G p t C m n o;go_wp2_with fail;generalize x3.alloc (.cells #[.string (byF s),.string (byO s)] 9)=x4 at *
 generalize x3.heap.size=g at *
 go_loopw [3,5] (fun v i wr=>∃k:Nat,k<=2/\i = .int .i64 k/\v = .string (pI s (k+1))/\wr=x4) (fun _ i _=>2-(intOf i).toNat)
 case atStart=>exact⟨0,by omega,rfl,rfl,rfl⟩
 case round=>
  obtain⟨k,q,rfl,rfl,x⟩:=hrel;rw[x];clear x;obtain⟨H,I,K⟩:=ae z;rcases (show k=0∨k=1∨k=2 by omega)with b|b|b
  .
   have u:(k:Int)<2:=by omega
   have c:x4.cell? ⟨g,k,none⟩=some (.string (byF s)):=by rw[b];exact c0
   have a:pI s (k+1)=byS s:=by rw[b];rfl
   have d:Hid (pI s (k+1+1)=iB (byS s) (byF s)):=by show _=_;rw[b];rfl
   rw[a];have j:=af b;clear b a c0 c1 q;generalize byF s=F at *
   generalize byS s=A at *
   by_cases f:F.size<A.size
   .
    have h:(F.size:Int)<(A.size:Int):=by omega
    have l:=af (mY f);go_wp2;go_roundw
    case rel=>exact⟨k+1,by have:=ae j;omega,by go_num,by rw[ae d,ae l],by first|rfl|trivial⟩
    case measure=>have:=ae j;simp[intOf];omega
   .
    have h:¬ (F.size:Int)<(A.size:Int):=by omega
    have l:=af (pn f);go_wp2;go_roundw
    case rel=>exact⟨k+1,by have:=ae j;omega,by go_num,by rw[ae d,ae l],by first|rfl|trivial⟩
    case measure=>have:=ae j;simp[intOf];omega
  .
   have u:(k:Int)<2:=by omega
   have c:x4.cell? ⟨g,k,none⟩=some (.string (byO s)):=by rw[b];exact c1
   have a:pI s (k+1)=iB (byS s) (byF s):=by rw[b];rfl
   have d:Hid (pI s (k+1+1)=iB (iB (byS s) (byF s)) (byO s)):=by show _=_;rw[b];rfl
   rw[a];have j:=af b;clear b a c0 c1 q H I;generalize byO s=F at *
   generalize iB (byS s) (byF s)=A at *
   by_cases f:F.size<A.size
   .
    have h:(F.size:Int)<(A.size:Int):=by omega
    have l:=af (mY f);go_wp2;go_roundw
    case rel=>exact⟨k+1,by have:=ae j;omega,by go_num,by rw[ae d,ae l],by first|rfl|trivial⟩
    case measure=>have:=ae j;simp[intOf];omega
   .
    have h:¬ (F.size:Int)<(A.size:Int):=by omega
    have l:=af (pn f);go_wp2;go_roundw
    case rel=>exact⟨k+1,by have:=ae j;omega,by go_num,by rw[ae d,ae l],by first|rfl|trivial⟩
    case measure=>have:=ae j;simp[intOf];omega
  .
   have u:¬ (k:Int)<2:=by omega
   have a:Hid (pI s (k+1)=gB s):=by show _=_;rw[b];rfl
   clear b c0 c1 q;generalize pI s (k+1)=A at *
   go_wp2;go_ret;exact⟨by rw[←ae a];rfl,ae y⟩
theorem pq(s:ByteArray)(w:World)(c:s.size<=1048576) :
  CD 195 #[.string s] w (.string (gB s)):=by
 by_cases h:s.size<=300
 . exact tR s w h
 .
  have b:(300:Int)<(s.size:Int):=by omega
  have a:=af (xB s h);clear h;go_enter func195,ntmps195;go_wp2;go_ret;exact⟨by rw[ae a];rfl,a0c _ _⟩
def gp(s:ByteArray):Nat:=if (gB s).size<s.size then 8 else 0
def bV(s:ByteArray):ByteArray:=if (gB s).size<s.size then gB s else s
theorem jI(s:ByteArray):((gB s).size:Int)<=100000:=by
 obtain⟨c,h2,d⟩:=wY s;have key:∀a b:ByteArray,(a.size:Int)<=100000->(b.size:Int)<=100000->((iB a b).size:Int)<=100000:=fun a b e hb=>by
  by_cases h:b.size<a.size
  . rw[mY h];exact hb
  . rw[pn h];exact e
 unfold gB;exact key _ _ (key _ _ c h2) d
theorem uz(s:ByteArray)(w:World)(d:s.size<=1048576) :
  CD 154 #[.string s] w (.tuple #[.int .i64 (gp s:Nat),.string (bV s)]):=by
 have b:=af (pq s w d);unfold gp bV;generalize gB s=x at *
 clear d;by_cases h:x.size<s.size
 .
  have f:(x.size:Int)<(s.size:Int):=by omega
  rw[a0e h,a0e h];clear h;go_enter func154,ntmps154;go_wp2_with fail;refine(ae b).mono ?_;rintro e w1 ⟨rfl,a⟩;have c:=af a;clear a b;go_wp2
  go_ret2
  exact⟨rfl,ae c⟩
 .
  have f:¬ (x.size:Int)<(s.size:Int):=by omega
  rw[a0d h,a0d h];clear h;go_enter func154,ntmps154;go_wp2_with fail;refine(ae b).mono ?_;rintro e w1 ⟨rfl,a⟩;have c:=af a;clear a b;go_wp2
  go_ret2
  exact⟨rfl,ae c⟩
def vt(W:World)(g:Nat)(n:ByteArray)(y mo d h mi s:Int)(t:ByteArray):Prop:=W.cell? ⟨g,0,none⟩=some (.string n)/\W.cell? ⟨g,1,none⟩=some (.int .i64 y)/\W.cell? ⟨g,2,none⟩=some (.int .i64 mo)/\W.cell? ⟨g,3,none⟩=some (.int .i64 d)/\W.cell? ⟨g,4,none⟩=some (.int .i64 h)/\W.cell? ⟨g,5,none⟩=some (.int .i64 mi)/\W.cell? ⟨g,6,none⟩=some (.int .i64 s)/\W.cell? ⟨g,7,none⟩=some (.string t)
def mn(w:World)(n:ByteArray)(y mo d h mi s:Int)(t:ByteArray)(W:World):Prop:=Below w.heap.size w W/\w.heap.size<W.heap.size/\vt W w.heap.size n y mo d h mi s t
theorem mn.later{w W W':World}{n t:ByteArray}{y mo d h mi s:Int}(k:mn w n y mo d h mi s t W)(hb:Below W.heap.size W W'):mn w n y mo d h mi s t W':=by
 have a:∀j,W'.cell? ⟨w.heap.size,j,none⟩=W.cell? ⟨w.heap.size,j,none⟩:=fun j=>hb.cell (p:=⟨w.heap.size,j,none⟩) k.2.1;obtain⟨c,b,e0,e1,e2,e3,e4,e5,e6,e7⟩:=k;exact⟨c.trans (hb.mono (a0y b)),a0i b hb.size,(a 0).trans e0,(a 1).trans e1,(a 2).trans e2,(a 3).trans e3,(a 4).trans e4,(a 5).trans e5,(a 6).trans e6,(a 7).trans e7⟩
theorem JZ(how st c d lg n:Nat):dI how st c d lg n=az (leS 2 20)++az (leS 2 0)++az (leS 2 how)++az (leS 4 st)++az (leS 4 c)++az (leS 4 d)++az (leS 4 lg)++az (leS 2 n)++az (leS 2 0):=by
 have e:∀a b:ByteArray,a.data.toList=b.data.toList->a=b:=fun a b h=>by
  cases a;cases b
  simp only[ByteArray.mk.injEq];exact Array.toList_inj.1 h
 apply e;unfold dI az;simp
theorem nJ(n t:ByteArray)(y mo d h mi s:Int)(N:Nat)(w:World)(k:(0<=y/\y<=100000)/\(0<=mo/\mo<=100)/\(0<=d/\d<=100)/\(0<=h/\h<=100)/\(0<=mi/\mi<=100) /\ -100<=s/\s<=100)
  (u:(((((y-1980)*16+mo)*32+d)*32+h)*64+mi)*32+Int.tdiv s 2=(N:Int)) (l:N<4294967296) (I:n.size<65536) (v:t.size<=1048576) :
  CD 153 #[.agg #[.string n,.int .i64 y,.int .i64 mo,.int .i64 d,.int .i64 h,.int .i64 mi,.int .i64 s,.string t]] w (.string (dI (gp t) N (aL 0 t.data.toList) (bV t).size t.size n.size)):=by
 have i:prog.follows .mixedOrders=true:=by kernel_rfl
 have o:aL 0 t.data.toList<4294967296:=mt _ _ (by omega);have p:=jI t;have m:(bV t).size<=1048576:=by unfold bV;split<;>omega
 have q:gp t<=8:=by unfold gp;split<;>omega
 have j:Hid (∀W,CD 103 #[.int .i64 ((20:Nat):Int),.int .i64 2] W (.string (az (leS 2 (20))))):=fun W=>aJ (20) 2 W (by omega) (by omega);have r:Hid (∀W,CD 103 #[.int .i64 ((0:Nat):Int),.int .i64 2] W (.string (az (leS 2 (0))))):=fun W=>aJ (0) 2 W (by omega) (by omega);have B:Hid (∀W,CD 103 #[.int .i64 ((gp t:Nat):Int),.int .i64 2] W (.string (az (leS 2 (gp t))))):=fun W=>aJ (gp t) 2 W (by omega) (by omega);have E:Hid (∀W,CD 103 #[.int .i64 ((N:Nat):Int),.int .i64 4] W (.string (az (leS 4 (N))))):=fun W=>aJ (N) 4 W (by omega) (by omega);have C:Hid (∀W,CD 103 #[.int .i64 ((aL 0 t.data.toList:Nat):Int),.int .i64 4] W (.string (az (leS 4 (aL 0 t.data.toList))))):=fun W=>aJ (aL 0 t.data.toList) 4 W (by omega) (by omega);have z:Hid (∀W,CD 103 #[.int .i64 (((bV t).size:Nat):Int),.int .i64 4] W (.string (az (leS 4 ((bV t).size))))):=fun W=>aJ ((bV t).size) 4 W (by omega) (by omega);have CT:Hid (∀W,CD 103 #[.int .i64 ((t.size:Nat):Int),.int .i64 4] W (.string (az (leS 4 (t.size))))):=fun W=>aJ (t.size) 4 W (by omega) (by omega);have D:Hid (∀W,CD 103 #[.int .i64 ((n.size:Nat):Int),.int .i64 2] W (.string (az (leS 2 (n.size))))):=fun W=>aJ (n.size) 2 W (by omega) (by omega);have F:Hid (∀W,CD 194 #[.agg #[.int .i64 y,.int .i64 mo,.int .i64 d,.int .i64 h,.int .i64 mi,.int .i64 s]] W (.int .i64 ((N:Nat):Int))):=fun W=>by
  have:=EI y mo d h mi s W k;rw[u]at this;exact this
 have A:Hid (∀W,CD 106 #[.string t] W (.int .i64 ((aL 0 t.data.toList:Nat):Int))):=fun W=>(qg t W (by unfold maxLen;omega)).mono fun e w' ⟨H,h2⟩=>⟨H,by rw[h2];exact a0c _ _⟩;have g:=af (fun W=>uz t W v);have G:=af (JZ (gp t) N (aL 0 t.data.toList) (bV t).size t.size n.size);have zz:∀many V,many<=4->((az (leS many V)).size:Int)<=4:=fun many V O=>by rw[bu,aH];omega
 have z1:=zz 2 20 (by omega);have z2:=zz 2 0 (by omega);have z3:=zz 2 (gp t) (by omega);have z4:=zz 4 N (by omega);have z5:=zz 4 (aL 0 t.data.toList) (by omega);have z6:=zz 4 (bV t).size (by omega);have z7:=zz 4 t.size (by omega);have z8:=zz 2 n.size (by omega);generalize az (leS 2 20)=A20 at *
 generalize az (leS 2 0)=A0 at *
 generalize az (leS 2 (gp t))=AH at *
 generalize az (leS 4 N)=AN at *
 generalize az (leS 4 (aL 0 t.data.toList))=AK at *
 generalize az (leS 4 (bV t).size)=AB at *
 generalize az (leS 4 t.size)=AT at *
 generalize az (leS 2 n.size)=AM at *
 generalize dI (gp t) N (aL 0 t.data.toList) (bV t).size t.size n.size=RES at *
 generalize gp t=hw at *
 generalize bV t=bd at *
 generalize aL 0 t.data.toList=cr at *
 have T0':Hid (mn w n y mo d h mi s t (w.alloc (.cells #[.string n,.int .i64 y,.int .i64 mo,.int .i64 d,.int .i64 h,.int .i64 mi,.int .i64 s,.string t] 32))):=⟨(a0c _ _).alloc (a0a _) _,by simp,by simp,by simp,by simp,by simp,by simp,by simp,by simp,by simp⟩;clear k u l I v o p m q zz;go_enter func153,ntmps153;go_wp2_with fail;obtain⟨W1,hW1⟩:∃x,w.alloc (.cells #[.string n,.int .i64 y,.int .i64 mo,.int .i64 d,.int .i64 h,.int .i64 mi,.int .i64 s,.string t] 32)=x:=⟨_,rfl⟩;rw[hW1]at T0';rw[hW1];have T1:=T0';clear T0' hW1;refine(ae g W1).mono ?_;rintro e W2 ⟨rfl,b⟩;have T2:=af ((ae T1).later b);clear b T1 g;go_wp2_with fail;refine a0H (S:=fun W=>vt W w.heap.size n y mo d h mi s t) i (ae T2).2.2 (fun f=>?_);refine ag 3 (.int .i64 (hw:Nat)) rfl (by kernel_rfl) (fun _ _ _ h=>h) rfl (fun W a=>by obtain⟨s0,s1,s2,s3,s4,s5,s6,s7⟩:=a;go_simp) f ?_;refine ag 6 (.pointer (some ⟨w.heap.size,1,none⟩)) rfl (by kernel_rfl) (fun _ _ _ h=>h) rfl (fun W a=>by obtain⟨s0,s1,s2,s3,s4,s5,s6,s7⟩:=a;go_simp) f ?_;refine ag 7 (.agg #[.int .i64 y,.int .i64 mo,.int .i64 d,.int .i64 h,.int .i64 mi,.int .i64 s]) rfl (by kernel_rfl) (fun _ _ _ h=>h) rfl (fun W a=>by obtain⟨s0,s1,s2,s3,s4,s5,s6,s7⟩:=a;go_simp) f ?_;have T3:Hid (mn w n y mo d h mi s t W2.drew):=⟨(ae T2).1.drew,(ae T2).2.1,(ae T2).2.2⟩;generalize W2.drew=W3 at *
 refine ah 0 (by kernel_rfl) rfl fun K c=>?_;go_simp;go_at_call 103;refine(ae j W3).mono ?_;rintro e W4 ⟨rfl,b⟩;have T4:=af ((ae T3).later b);refine a0f c _ _ (ae T4).2.2 (fun f=>?_);clear c K b;refine ah 1 (by kernel_rfl) rfl fun K c=>?_;go_simp;go_at_call 103;refine(ae r W4).mono ?_;rintro e W5 ⟨rfl,b⟩;have T5:=af ((ae T4).later b);refine a0f c _ _ (ae T5).2.2 (fun f=>?_);clear c K b;refine ag 2 (.string (A20++A0)) rfl (by kernel_rfl) (fun _ _ _ h=>h) rfl (fun W a=>by obtain⟨s0,s1,s2,s3,s4,s5,s6,s7⟩:=a;go_simp<;>omega) f ?_;refine ah 4 (by kernel_rfl) rfl fun K c=>?_;go_simp;go_at_call 103;refine(ae B W5).mono ?_;rintro e W6 ⟨rfl,b⟩;have T6:=af ((ae T5).later b);refine a0f c _ _ (ae T6).2.2 (fun f=>?_);clear c K b;refine ag 5 (.string (A20++A0++AH)) rfl (by kernel_rfl) (fun _ _ _ h=>h) rfl (fun W a=>by obtain⟨s0,s1,s2,s3,s4,s5,s6,s7⟩:=a;go_simp<;>omega) f ?_;refine ah 8 (by kernel_rfl) rfl fun K c=>?_;go_simp;go_at_call 194;refine(ae F W6).mono ?_;rintro e W7 ⟨rfl,b⟩;have T7:=af ((ae T6).later b);refine a0f c _ _ (ae T7).2.2 (fun f=>?_);clear c K b;refine ah 9 (by kernel_rfl) rfl fun K c=>?_;go_simp;go_at_call 103;refine(ae E W7).mono ?_;rintro e W8 ⟨rfl,b⟩;have T8:=af ((ae T7).later b);refine a0f c _ _ (ae T8).2.2 (fun f=>?_);clear c K b;refine ag 10 (.string (A20++A0++AH++AN)) rfl (by kernel_rfl) (fun _ _ _ h=>h) rfl (fun W a=>by obtain⟨s0,s1,s2,s3,s4,s5,s6,s7⟩:=a;go_simp<;>omega) f ?_;refine ah 11 (by kernel_rfl) rfl fun K c=>?_;go_simp;refine a0f c _ _ (ae T8).2.2 (fun f=>?_);clear c K;refine a0u (by kernel_rfl) ?_ _;clear f;obtain⟨B1,hB1⟩:∃x,A20++A0++AH++AN=x:=⟨_,rfl⟩;have zB1:(B1.size:Int)<=1000:=by rw[←hB1];simp only[a0N];omega
 rw[hB1];go_wp2_with fail;refine a0H (S:=fun W=>vt W w.heap.size n y mo d h mi s t) i (ae T8).2.2 (fun f=>?_);refine ag 0 (.string B1) rfl (by kernel_rfl) (fun _ _ _ h=>h) rfl (fun W a=>by obtain⟨s0,s1,s2,s3,s4,s5,s6,s7⟩:=a;go_simp) f ?_;refine ag 1 (.pointer (some ⟨w.heap.size,7,none⟩)) rfl (by kernel_rfl) (fun _ _ _ h=>h) rfl (fun W a=>by obtain⟨s0,s1,s2,s3,s4,s5,s6,s7⟩:=a;go_simp) f ?_;refine ag 2 (.string t) rfl (by kernel_rfl) (fun _ _ _ h=>h) rfl (fun W a=>by obtain⟨s0,s1,s2,s3,s4,s5,s6,s7⟩:=a;go_simp) f ?_;refine ag 6 (.string bd) rfl (by kernel_rfl) (fun _ _ _ h=>h) rfl (fun W a=>by obtain⟨s0,s1,s2,s3,s4,s5,s6,s7⟩:=a;go_simp) f ?_;refine ag 7 (.int .i64 (bd.size:Nat)) rfl (by kernel_rfl) (fun _ _ _ h=>h) rfl (fun W a=>by obtain⟨s0,s1,s2,s3,s4,s5,s6,s7⟩:=a;go_simp) f ?_;refine ag 10 (.pointer (some ⟨w.heap.size,7,none⟩)) rfl (by kernel_rfl) (fun _ _ _ h=>h) rfl (fun W a=>by obtain⟨s0,s1,s2,s3,s4,s5,s6,s7⟩:=a;go_simp) f ?_;refine ag 11 (.string t) rfl (by kernel_rfl) (fun _ _ _ h=>h) rfl (fun W a=>by obtain⟨s0,s1,s2,s3,s4,s5,s6,s7⟩:=a;go_simp) f ?_;refine ag 12 (.int .i64 (t.size:Nat)) rfl (by kernel_rfl) (fun _ _ _ h=>h) rfl (fun W a=>by obtain⟨s0,s1,s2,s3,s4,s5,s6,s7⟩:=a;go_simp) f ?_;have T9:Hid (mn w n y mo d h mi s t W8.drew):=⟨(ae T8).1.drew,(ae T8).2.1,(ae T8).2.2⟩;generalize W8.drew=W9 at *
 refine ah 3 (by kernel_rfl) rfl fun K c=>?_;go_simp;go_at_call 106;refine(ae A W9).mono ?_;rintro e W10 ⟨rfl,b⟩;have T10:=af ((ae T9).later b);refine a0f c _ _ (ae T10).2.2 (fun f=>?_);clear c K b;refine ah 4 (by kernel_rfl) rfl fun K c=>?_;go_simp;go_at_call 103;refine(ae C W10).mono ?_;rintro e W11 ⟨rfl,b⟩;have T11:=af ((ae T10).later b);refine a0f c _ _ (ae T11).2.2 (fun f=>?_);clear c K b;refine ag 5 (.string (B1++AK)) rfl (by kernel_rfl) (fun _ _ _ h=>h) rfl (fun W a=>by obtain⟨s0,s1,s2,s3,s4,s5,s6,s7⟩:=a;go_simp<;>omega) f ?_;refine ah 8 (by kernel_rfl) rfl fun K c=>?_;go_simp;go_at_call 103;refine(ae z W11).mono ?_;rintro e W12 ⟨rfl,b⟩;have T12:=af ((ae T11).later b);refine a0f c _ _ (ae T12).2.2 (fun f=>?_);clear c K b;refine ag 9 (.string (B1++AK++AB)) rfl (by kernel_rfl) (fun _ _ _ h=>h) rfl (fun W a=>by obtain⟨s0,s1,s2,s3,s4,s5,s6,s7⟩:=a;go_simp<;>omega) f ?_;refine ah 13 (by kernel_rfl) rfl fun K c=>?_;go_simp;go_at_call 103;refine(ae CT W12).mono ?_;rintro e W13 ⟨rfl,b⟩;have T13:=af ((ae T12).later b);refine a0f c _ _ (ae T13).2.2 (fun f=>?_);clear c K b;refine ag 14 (.string (B1++AK++AB++AT)) rfl (by kernel_rfl) (fun _ _ _ h=>h) rfl (fun W a=>by obtain⟨s0,s1,s2,s3,s4,s5,s6,s7⟩:=a;go_simp<;>omega) f ?_;refine ah 15 (by kernel_rfl) rfl fun K c=>?_;go_simp;refine a0f c _ _ (ae T13).2.2 (fun f=>?_);clear c K;refine a0u (by kernel_rfl) ?_ _;clear f;obtain⟨B2,hB2⟩:∃x,B1++AK++AB++AT=x:=⟨_,rfl⟩;have zB2:(B2.size:Int)<=2000:=by rw[←hB2];simp only[a0N];omega
 rw[hB2];obtain⟨c0,c1,c2,c3,c4,J,L,M⟩:=(ae T13).2.2;go_wp2_with fail;refine(ae D W13).mono ?_;rintro e X1 ⟨rfl,b⟩;have TX:=af ((ae T13).later b);clear b;go_wp2_with fail;refine(ae r X1).mono ?_;rintro e X2 ⟨rfl,b⟩;have TY:=af ((ae TX).later b);clear b;go_wp2;go_ret;exact⟨by rw[ae G,←hB2,←hB1];rfl,(ae TY).1⟩
def mM(n t:ByteArray)(N:Nat):ByteArray:=eE (gp t) N (aL 0 t.data.toList) (bV t).size t.size n++bV t
theorem Lv:az (leS 4 67324752)=(⟨#[80,75,3,4]⟩:ByteArray):=by decide +kernel
theorem yf(n t:ByteArray)(y mo d h mi s:Int)(N:Nat)(w:World)(k:(0<=y/\y<=100000)/\(0<=mo/\mo<=100)/\(0<=d/\d<=100)/\(0<=h/\h<=100)/\(0<=mi/\mi<=100) /\ -100<=s/\s<=100)
  (q:(((((y-1980)*16+mo)*32+d)*32+h)*64+mi)*32+Int.tdiv s 2=(N:Int)) (i:N<4294967296) (r:n.size<65536) (p:t.size<=1048576) :
  CD 108 #[.agg #[.string n,.int .i64 y,.int .i64 mo,.int .i64 d,.int .i64 h,.int .i64 mi,.int .i64 s,.string t]] w (.string (mM n t N)):=by
 have j:prog.follows .mixedOrders=true:=by kernel_rfl
 have u:=af (fun W=>nJ n t y mo d h mi s N W k q i r p);have f:=af (fun W=>uz t W p);have v:Hid (∀W,CD 103 #[.int .i64 67324752,.int .i64 4] W (.string (az (leS 4 67324752)))):=fun W=>aJ 67324752 4 W (by omega) (by omega);have o:=jI t;have m:(bV t).size<=1048576:=by unfold bV;split<;>omega
 have A:((bV t).size:Int)<=1048576:=by omega
 have B:(n.size:Int)<65536:=by omega
 have z:Hid (az (leS 4 67324752)++dI (gp t) N (aL 0 t.data.toList) (bV t).size t.size n.size++n++bV t=mM n t N):=by unfold mM eE;rw[Lv];exact rfl
 have z1:((az (leS 4 67324752)).size:Int)<=4:=by rw[bu,aH];omega
 have z2:((dI (gp t) N (aL 0 t.data.toList) (bV t).size t.size n.size).size:Int)<=26:=by rw[fg];omega
 generalize az (leS 4 67324752)=A4 at *
 generalize dI (gp t) N (aL 0 t.data.toList) (bV t).size t.size n.size=FL at *
 generalize mM n t N=RES at *
 generalize gp t=hw at *
 generalize bV t=bd at *
 have T0':Hid (mn w n y mo d h mi s t (w.alloc (.cells #[.string n,.int .i64 y,.int .i64 mo,.int .i64 d,.int .i64 h,.int .i64 mi,.int .i64 s,.string t] 32))):=⟨(a0c _ _).alloc (a0a _) _,by simp,by simp,by simp,by simp,by simp,by simp,by simp,by simp,by simp⟩;clear k q i r p o m;go_enter func108,ntmps108;go_wp2_with fail;obtain⟨W1,hW1⟩:∃x,w.alloc (.cells #[.string n,.int .i64 y,.int .i64 mo,.int .i64 d,.int .i64 h,.int .i64 mi,.int .i64 s,.string t] 32)=x:=⟨_,rfl⟩;rw[hW1]at T0';rw[hW1];have T1:=T0';clear T0' hW1;refine(ae f W1).mono ?_;rintro e W2 ⟨rfl,c⟩;have T2:=af ((ae T1).later c);clear c T1 f;go_wp2_with fail;refine a0H (S:=fun W=>vt W w.heap.size n y mo d h mi s t) j (ae T2).2.2 (fun b=>?_);refine ag 1 (.agg #[.string n,.int .i64 y,.int .i64 mo,.int .i64 d,.int .i64 h,.int .i64 mi,.int .i64 s,.string t]) rfl (by kernel_rfl) (fun _ _ _ h=>h) rfl (fun W a=>by obtain⟨s0,s1,s2,s3,s4,s5,s6,s7⟩:=a;go_simp) b ?_;refine ag 4 (.pointer (some ⟨w.heap.size,0,none⟩)) rfl (by kernel_rfl) (fun _ _ _ h=>h) rfl (fun W a=>by obtain⟨s0,s1,s2,s3,s4,s5,s6,s7⟩:=a;go_simp) b ?_;refine ag 5 (.string n) rfl (by kernel_rfl) (fun _ _ _ h=>h) rfl (fun W a=>by obtain⟨s0,s1,s2,s3,s4,s5,s6,s7⟩:=a;go_simp) b ?_;refine ag 7 (.string bd) rfl (by kernel_rfl) (fun _ _ _ h=>h) rfl (fun W a=>by obtain⟨s0,s1,s2,s3,s4,s5,s6,s7⟩:=a;go_simp) b ?_;have T3:Hid (mn w n y mo d h mi s t W2.drew):=⟨(ae T2).1.drew,(ae T2).2.1,(ae T2).2.2⟩;generalize W2.drew=W3 at *
 refine ah 0 (by kernel_rfl) rfl fun K g=>?_;go_simp;go_at_call 103;refine(ae v W3).mono ?_;rintro e W4 ⟨rfl,c⟩;have T4:=af ((ae T3).later c);refine a0f g _ _ (ae T4).2.2 (fun b=>?_);clear g K c;refine ah 2 (by kernel_rfl) rfl fun K g=>?_;go_simp;go_at_call 153;refine(ae u W4).mono ?_;rintro e W5 ⟨rfl,c⟩;have T5:=af ((ae T4).later c);refine a0f g _ _ (ae T5).2.2 (fun b=>?_);clear g K c;refine ag 3 (.string (A4++FL)) rfl (by kernel_rfl) (fun _ _ _ h=>h) rfl (fun W a=>by obtain⟨s0,s1,s2,s3,s4,s5,s6,s7⟩:=a;go_simp<;>omega) b ?_;refine ag 6 (.string (A4++FL++n)) rfl (by kernel_rfl) (fun _ _ _ h=>h) rfl (fun W a=>by obtain⟨s0,s1,s2,s3,s4,s5,s6,s7⟩:=a;go_simp<;>omega) b ?_;refine ag 8 (.string (A4++FL++n++bd)) rfl (by kernel_rfl) (fun _ _ _ h=>h) rfl (fun W a=>by obtain⟨s0,s1,s2,s3,s4,s5,s6,s7⟩:=a;go_simp<;>omega) b ?_;refine ah 9 (by kernel_rfl) rfl fun K g=>?_;go_simp;refine a0f g _ _ (ae T5).2.2 (fun b=>?_);clear g K;refine a0u (by kernel_rfl) ?_ _;clear b;generalize l:A4++FL++n++bd=AA;go_wp2;go_ret;exact⟨by rw[←ae z,←l];rfl,(ae T5).1⟩
def tf(a b c:ByteArray):Nat->ByteArray
 | 0=>a | 1=>b|_=>c
theorem wD(w:World)(a b c:ByteArray)(t:TypeId):∀i,i<3->(w.alloc (.cells #[.string a,.string b,.string c] t)).cell? ⟨w.heap.size,0+i,none⟩=some (.string (tf a b c i)):=by
 intro i d
 match i,d with
 | 0,_=>simp[tf]
 | 1,_=>simp[tf]
 | 2,_=>simp[tf]
theorem zx{c:ByteArray}{n:Nat}(d:a.size<=n)(hb:b.size<=n)(e:c.size<=n)(i:Nat):(tf a b c i).size<=n:=by
 match i with
 | 0=>exact d
 | 1=>exact hb
 | _+2=>exact e
theorem Lh{b:Nat}{w w':World}(h:Kn b w w'):Kn b w w'.drew:=⟨h.1.drew,h.2.1,h.2.2⟩
theorem wb(B b m:Nat)(s:ByteArray)(w:World)(h:Rd w B b m)(V:m<=80000)(X:s.size<=9000) :
  Calls prog 44 #[.pointer (some ⟨b,0,none⟩),.string s] w fun e w'=>(∃t:ByteArray,e = .returned (.string t)/\t.size<=9100/\qV s t)/\Rd w' B b (m+10)/\Kn b w w':=by
 have E:prog.follows .mixedOrders=true:=by kernel_rfl
 have O:(s.size:Int)<=9000:=by omega
 go_enter func44,ntmps44;by_cases H:s.toList.isEmpty=true
 . go_wp2;go_ret;exact⟨⟨_,rfl,by omega,oy s⟩,h.mono (by omega),⟨a0c _ _,fun _ _ _=>rfl,a0a _⟩⟩
 .
  have L:s.toList.isEmpty=false:=by simpa using H
  have J:0<s.size:=by
   rcases a2E s.size with G|G
   . have e:s=ByteArray.empty:=ByteArray.size_eq_zero_iff.1 G;subst e;exact absurd (by unfold ByteArray.toList ByteArray.toList.loop;rfl) H
   . exact G
  have N:(0:Int)<(s.size:Int):=by omega
  clear H;go_wp2_with fail;refine(bi B b m _ _ h (by omega) (by omega) (by omega)).mono ?_;rintro e w1 ⟨Z,rfl,I,T,p,n⟩;obtain⟨k,rfl⟩:=a0r I;have C:k<s.size:=by omega
  go_wp2_with fail;refine(bi B b (m+1) _ _ p (by omega) (by omega) (by omega)).mono ?_;rintro e w2 ⟨r,rfl,r0,r1,g,o⟩;have i:Hid (Rd w2 B b (m+2)/\Kn b w w2):=⟨g,n.kn.trans o.kn⟩;have l:=g.lt;clear p n g o h;have M:r=0∨r=1∨r=2∨r=3∨r=4:=by omega
  have k0:(0:Int)<=(k:Int):=by omega
  have k1:(k:Int)<(s.size:Int):=by omega
  have k2:(k:Int)<=(s.size:Int):=by omega
  have k3:(k:Int)+1<=(s.size:Int):=by omega
  have k5:(0:Int)<=(k:Int)+1:=by omega
  rcases M with rfl|rfl|rfl|rfl|rfl
  .
   go_wp2_with fail;refine a0H (S:=fun _=>True) E trivial (fun f=>?_);refine ag 0 (.string s) rfl (by kernel_rfl) (fun _ _ _ h=>h) rfl (fun W a=>by go_simp) f ?_;refine ag 1 (.int .i64 (k:Nat)) rfl (by kernel_rfl) (fun _ _ _ h=>h) rfl (fun W a=>by go_simp) f ?_;refine ag 2 (.string (s.extract 0 k)) rfl (by kernel_rfl) (fun _ _ _ h=>h) rfl (fun W a=>by go_simp) f ?_;refine ag 3 (.pointer (some ⟨b,0,none⟩)) rfl (by kernel_rfl) (fun _ _ _ h=>h) rfl (fun W a=>by go_simp) f ?_;refine ag 9 (.string s) rfl (by kernel_rfl) (fun _ _ _ h=>h) rfl (fun W a=>by go_simp) f ?_;refine ag 10 (.int .i64 (k:Nat)) rfl (by kernel_rfl) (fun _ _ _ h=>h) rfl (fun W a=>by go_simp) f ?_;refine ag 11 (.int .i64 ((k:Int)+1)) rfl (by kernel_rfl) (fun _ _ _ h=>h) rfl (fun W a=>by go_simp;exact bp _ (by omega) (by omega)) f ?_;refine ag 12 (.string (s.extract (k+1) s.size)) rfl (by kernel_rfl) (fun _ _ _ h=>h) rfl (fun W a=>by go_simp) f ?_;refine ah 4 (by kernel_rfl) rfl fun K j=>?_;go_simp;go_at_call 51;refine(bi B b (m+2) _ _ (show Rd w2.drew B b (m+2)from(ae i).1) (by omega) (by omega) (by omega)).mono ?_;rintro e w3 ⟨q,rfl,U,q1,c,d⟩;refine a0f j _ _ trivial (fun f=>?_);clear j K;obtain⟨y,rfl⟩:=a0r U;have R:y<256:=by omega
   have Y:IntKind.u8.wrap (y:Int)=(y:Int):=vm (by omega) (by omega);have z:Hid (Rd w3 B b (m+3)/\Kn b w w3):=⟨c,(Lh (ae i).2).trans d.kn⟩;have D:=c.lt;clear c d;refine ag 5 (.int .u8 (y:Int)) rfl (by kernel_rfl) (fun _ _ _ h=>h) rfl (fun W a=>by go_simp) f ?_;refine ah 6 (by kernel_rfl) rfl fun K j=>?_;go_simp;refine a0f j _ _ trivial (fun _=>?_);clear j K f;have F:=Ap w3 y R;have v:Hid (Rd (w3.alloc (.cells #[.int .u8 (y:Int)] 5)) B b (m+10)/\Kn b w (w3.alloc (.cells #[.int .u8 (y:Int)] 5))):=⟨((ae z).1.alloc _).mono (by omega),(ae z).2.trans (dE _ _ D)⟩;obtain⟨w4,hw4⟩:∃x,w3.alloc (.cells #[.int .u8 (y:Int)] 5)=x:=⟨_,rfl⟩;rw[hw4]at v F;refine dL (S':=fun W=>W=w4) (fun _ _=>trivial) _ _ _ _ ?_;have f:w3.alloc (.cells #[.int .u8 (y:Int)] 5)=w4:=hw4;generalize UInt8.ofNat y=yy at *
   refine ag 7 (.string ⟨[yy].toArray⟩) rfl (by kernel_rfl) (fun _ _ _ h=>h) rfl (fun W a=>by subst a;go_simp) f ?_;refine ag 8 (.string (s.extract 0 k++(⟨[yy].toArray⟩:ByteArray))) rfl (by kernel_rfl) (fun _ _ _ h=>h) rfl (fun W a=>by subst a;go_simp<;>omega) f ?_;refine ag 13 (.string (s.extract 0 k++(⟨[yy].toArray⟩:ByteArray)++s.extract (k+1) s.size)) rfl (by kernel_rfl) (fun _ _ _ h=>h) rfl (fun W a=>by subst a;go_simp<;>omega) f ?_;refine ah 14 (by kernel_rfl) rfl fun K j=>?_;go_simp;refine a0f j _ _ rfl (fun _=>?_);clear j K;refine a0u (by kernel_rfl) ?_ _;clear F f hw4;have A:(s.extract 0 k++(⟨[yy].toArray⟩:ByteArray)++s.extract (k+1) s.size).size<=9100:=by
    have e1:(⟨[yy].toArray⟩:ByteArray).size=1:=rfl;rw[rl,rl,a2f,a2f,e1];omega
   have u:=af (GP s k C yy);generalize s.extract 0 k++(⟨[yy].toArray⟩:ByteArray)++s.extract (k+1) s.size=Zz at *
   go_wp2;go_ret;exact⟨⟨_,rfl,A,ae u⟩,(ae v).1,(ae v).2⟩
  .
   have u:=af (GN s k C);have A:(s.extract 0 k).size<=9100:=by rw[a2f];omega
   go_wp2;go_ret;exact⟨⟨_,rfl,A,ae u⟩,(ae i).1.mono (by omega),(ae i).2⟩
  .
   go_wp2_with fail;refine(of_le B b (m+2) w2.heap.size 0 3 3 100 _ _ ((ae i).1.alloc _) (by omega) (by omega) (by omega) (a14 l) (wD w2 _ _ _ _) (zx (by decide) (by decide) (by decide))).mono ?_;rintro e w3 ⟨t0,P,rfl,c,d⟩;have v:Hid (Rd w3 B b (m+10)/\Kn b w w3):=⟨c.mono (by omega),((ae i).2.trans (dE _ _ l)).trans d.kn⟩;have A:(s++t0).size<=9100:=by rw[rl];omega
   have Q:(t0.size:Int)<=100:=by omega
   clear c d;go_wp2;go_ret;exact⟨⟨_,rfl,A,GM s t0⟩,(ae v).1,(ae v).2⟩
  . go_wp2;go_ret;exact⟨⟨_,rfl,by omega,oy s⟩,(ae i).1.mono (by omega),(ae i).2⟩
  . go_wp2;go_ret;exact⟨⟨_,rfl,by omega,oy s⟩,(ae i).1.mono (by omega),(ae i).2⟩
end Go.Proofs.YtkdlcomfpffhhaaGreatDoor
