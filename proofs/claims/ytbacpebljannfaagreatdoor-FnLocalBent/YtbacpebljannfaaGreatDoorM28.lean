/- Of what the proof is made: 5 texts, one behind the other. -/
import Derived.Test.YtbacpebljannfaaGreatDoorM14
import Derived.Test.YtbacpebljannfaaGreatDoorM7
import Derived.Test.YtbacpebljannfaaGreatDoorM18
import Derived.Test.YtbacpebljannfaaGreatDoorM9
import Derived.Test.YtbacpebljannfaaGreatDoorM27
import Derived.Test.YtbacpebljannfaaGreatDoorM20
import Derived.Test.YtbacpebljannfaaGreatDoorMp1
import Derived.Test.YtbacpebljannfaaGreatDoorM3
import Derived.Test.YtbacpebljannfaaGreatDoorM4
set_option linter.unusedSimpArgs false
set_option maxHeartbeats 6400000
namespace Go.Proofs.YtbacpebljannfaaGreatDoor
open Go.RowKit Corb
def bN(l:List (Int×Int)):Nat:=fq (bitsOf l)
def dG(a b:ByteArray):ByteArray:=if b.size<a.size then b else a
theorem ii{a b:ByteArray}(h:b.size<a.size):dG a b=b:=a0d h
theorem jv{a b:ByteArray}(h:¬ b.size<a.size):dG a b=a:=a0e h
def byO(s:ByteArray):ByteArray:=⟨(kY s).toArray⟩
def dC(s:ByteArray):ByteArray:=dG (dG (byS s) (byF s)) (byO s)
def gE(s:ByteArray):Nat->ByteArray
 | 1=>byS s
 | 2=>dG (byS s) (byF s)
 | _=>dC s
theorem uV(s:ByteArray)(h:¬ s.size<=300):byO s=⟨#[]⟩:=by unfold byO kY;rw[a0e h]
theorem vA(s:ByteArray)(h:¬ s.size<=300):dC s=⟨#[]⟩:=by
 unfold dC;rw[uW s h,uU s h,uV s h];rfl
theorem tw(l:List (Int×Int)):(fB l).length=((cG l).2+7)/8:=by unfold fB;exact aX _ _
theorem rM{l:List UInt8}(h:l.length<=100000):((⟨l.toArray⟩:ByteArray).size:Int)<=100000:=by
 have:(⟨l.toArray⟩:ByteArray).size=l.length:=by simp[ByteArray.size]
 omega
theorem zl{l:List (Int×Int)}(h:lOk l=true):(cG l).2<=64000:=by
 unfold lOk at h;simp only[a0w,a0F]at h;have h1:=dn (0,0) l (fun x hx=>by
  have h2:=h.1;unfold bw at h2;exact(aV.1 (a1h.1 h2 x hx)).1.2)
 have h3:bg (0,0) l=cG l:=rfl;rw[h3]at h1;omega
theorem jD{B:Nat}{a w:World}(h:Below B a w){r:Nat}(hB:B<=w.heap.size)(hr:B<=r)(o:Obj):Below B a (w.putObj r o):=h.grown (grownBy_putObj' w r o) hB (fun j hj=>by cases hj;exact hr)
theorem qp(s:ByteArray):((byS s).size:Int)<=100000/\((byF s).size:Int)<=100000/\((byO s).size:Int)<=100000:=by
 by_cases hs:s.size<=300
 ·
  have hT:=jz s hs;have hk:=fY s;refine⟨rM ?_,rM ?_,rM ?_⟩
  ·
   unfold ik
   split
   · rw[a0l,aX,fA];omega
   · simp
  · unfold kH;rw[a0d hs];show(fB (jG s)).length<=_;rw[tw];have h1:=zl (tZ s hs);omega
  · unfold kY;rw[a0d hs];show(fB (jr _)).length<=_;rw[tw];have h1:=zl (zR _ hT hk);omega
 · rw[uW s hs,uU s hs,uV s hs];exact⟨by decide,by decide,by decide⟩
set_option maxRecDepth 100000 in
theorem ox(s:ByteArray)(w:World)(hs:s.size<=1048576)(hO:dT w) :
  Calls Tryz.prog 42 #[.string s] w fun e w'=>e = .returned (.string (dC s))/\Below w.heap.size w w':=by
 have hmm:=@run_makeMap Tryz.prog;have hu:=Tryz.underlying99;have hk:=a1K;obtain⟨b,hb⟩:∃b,w.heap.size=b:=⟨_,rfl⟩;have m0:=zK w;obtain⟨w1,r1,m1,e1⟩:=lO hu hk _ _ _ 0 (.func (.func 75) #[] #[]) m0 (by simp);obtain⟨w2,r2,m2,e2⟩:=lO hu hk _ _ _ 1 (.func (.func 76) #[] #[]) m1 (by simp);obtain⟨w3,r3,m3,e3⟩:=lO hu hk _ _ _ 2 (.func (.func 77) #[] #[]) m2 (by simp);have z1:w1.heap.size=w.heap.size+1:=by rw[e1];simp[World.putObj]
 have z2:w2.heap.size=w.heap.size+1:=by rw[e2];simpa[World.putObj]using z1
 have hB1:Below w.heap.size w w1:=by rw[e1];exact jD ((a0c _ w).alloc (a0a _) _) (by simp) (a0a _) _
 have hB2:Below w.heap.size w w2:=by rw[e2];exact jD hB1 (by omega) (a0a _) _
 have hB3:Below w.heap.size w w3:=by rw[e3];exact jD hB2 (by omega) (a0a _) _
 simp only[a1d,a1I]at m3;have HG:=af (fun W k v (h:iM W w.heap.size [(0,.func (.func 75) #[] #[]),(1,.func (.func 76) #[] #[]),(2,.func (.func 77) #[] #[])]) hm=>zJ hu hk W w.heap.size _ k v false h hm (by decide));have g0:=ae HG w3 0 (.func (.func 75) #[] #[]) m3 (by simp);have HM:=af m3;have HB3:=af hB3;have HO:=af hO;have HS:=af hs;have HSm:=af (qp s);clear e1 e2 e3 z1 z2 hB1 hB2 hB3 m0 m1 m2 m3 hu hk hs hO hb b;go_enter Tryz.func42,Tryz.ntmps42;go_wp2_with fail;refine(oC s w3 (ae HS)).mono ?_;rintro e x1 ⟨rfl,b1⟩;have hM1:=(ae HM).later b1;have hB1:=al (ae HB3) b1;have eS:(⟨(ik s.data.toList).toArray⟩:ByteArray)=gE s 1:=rfl;rw[eS];clear b1 HM HB3 r1 r2 r3 g0 hmm eS;go_wp2_with fail
 go_loopw [4,5,6] (fun v i _ wr=>∃k:Nat,1<=k/\k<=3/\i = .int .i64 k/\v = .string (gE s k)/\iM wr w.heap.size [(0,.func (.func 75) #[] #[]),(1,.func (.func 76) #[] #[]),(2,.func (.func 77) #[] #[])]/\Below w.heap.size w wr) (fun _ i _ _=>3-(intOf i).toNat)
 case atStart=>exact⟨1,by omega,by omega,rfl,rfl,hM1,hB1⟩
 case round=>
  obtain⟨k,hk1,hk3,rfl,rfl,hM,hbel⟩:=hrel;clear hM1 hB1;rcases (show k=1∨k=2∨k=3 by omega)with hk|hk|hk
  ·
   have hkI:(k:Int)=1:=by omega
   have hle:(k:Int)<=2:=by omega
   have g1:(Instr.lookup 99 (.map (some w.heap.size)) (.int .i64 (k:Int)) false).run Tryz.prog wr = .ok (.func (.func 76) #[] #[]) wr:=by rw[hkI];exact ae HG wr 1 (.func (.func 76) #[] #[]) hM (by simp)
   have HC:=af (ov s wr (ae HS));have eF:(⟨(kH s).toArray⟩:ByteArray)=byF s:=rfl;rw[eF]at HC;have hb1:gE s k=byS s:=by rw[hk];rfl
   have hb2:Hid (gE s (k+1)=dG (byS s) (byF s)):=by show _=_;rw[hk];rfl
   obtain⟨q1,q2,q3⟩:=ae HSm;rw[hb1];have Hk:=af hk;have HMB:=af (a0b hM hbel);clear hM hbel hk hk1 hk3 hb1 eF hkI;generalize byF s=F at *
   generalize byS s=A at *
   go_wp2_with fail;refine(ae HC).mono ?_;rintro e x2 ⟨rfl,b2⟩;have HY:=af (a0b ((ae HMB).1.later b2) (al (ae HMB).2 b2));clear b2 HMB HC;by_cases hlt:F.size<A.size
   ·
    have hltI:(F.size:Int)<(A.size:Int):=by omega
    have HE:=af (ii hlt);go_wp2;go_roundw
    case rel=>exact⟨k+1,by omega,by have:=ae Hk;omega,by go_num,by rw[ae hb2,ae HE],(ae HY).1,(ae HY).2⟩
    case measure=>have:=ae Hk;simp[intOf];omega
   ·
    have hltI:¬ (F.size:Int)<(A.size:Int):=by omega
    have HE:=af (jv hlt);go_wp2;go_roundw
    case rel=>exact⟨k+1,by omega,by have:=ae Hk;omega,by go_num,by rw[ae hb2,ae HE],(ae HY).1,(ae HY).2⟩
    case measure=>have:=ae Hk;simp[intOf];omega
  ·
   have hkI:(k:Int)=2:=by omega
   have hle:(k:Int)<=2:=by omega
   have g1:(Instr.lookup 99 (.map (some w.heap.size)) (.int .i64 (k:Int)) false).run Tryz.prog wr = .ok (.func (.func 77) #[] #[]) wr:=by rw[hkI];exact ae HG wr 2 (.func (.func 77) #[] #[]) hM (by simp)
   have HC:=af (qF s wr (ae HS) ((ae HO).later hbel));have eF:(⟨(kY s).toArray⟩:ByteArray)=byO s:=rfl;rw[eF]at HC;have hb1:gE s k=dG (byS s) (byF s):=by rw[hk];rfl
   have hb2:Hid (gE s (k+1)=dG (dG (byS s) (byF s)) (byO s)):=by show _=_;rw[hk];rfl
   obtain⟨q1,q2,q3⟩:=ae HSm;have q4:((dG (byS s) (byF s)).size:Int)<=100000:=by unfold dG;split<;>omega
   rw[hb1];have Hk:=af hk;have HMB:=af (a0b hM hbel);clear hM hbel hk hk1 hk3 hb1 eF q1 q2 hkI;generalize byO s=F at *
   generalize dG (byS s) (byF s)=A at *
   go_wp2_with fail;refine(ae HC).mono ?_;rintro e x2 ⟨rfl,b2⟩;have HY:=af (a0b ((ae HMB).1.later b2) (al (ae HMB).2 b2));clear b2 HMB HC;by_cases hlt:F.size<A.size
   ·
    have hltI:(F.size:Int)<(A.size:Int):=by omega
    have HE:=af (ii hlt);go_wp2;go_roundw
    case rel=>exact⟨k+1,by omega,by have:=ae Hk;omega,by go_num,by rw[ae hb2,ae HE],(ae HY).1,(ae HY).2⟩
    case measure=>have:=ae Hk;simp[intOf];omega
   ·
    have hltI:¬ (F.size:Int)<(A.size:Int):=by omega
    have HE:=af (jv hlt);go_wp2;go_roundw
    case rel=>exact⟨k+1,by omega,by have:=ae Hk;omega,by go_num,by rw[ae hb2,ae HE],(ae HY).1,(ae HY).2⟩
    case measure=>have:=ae Hk;simp[intOf];omega
  ·
   have hle:¬ (k:Int)<=2:=by omega
   have hb1:Hid (gE s k=dC s):=by show _=_;rw[hk];rfl
   have HB:=af hbel;clear hM hbel hk hk1 hk3;generalize gE s k=A at *
   go_wp2;go_ret;exact⟨by rw[←ae hb1];rfl,ae HB⟩
set_option maxRecDepth 100000 in
theorem si(s:ByteArray)(w:World)(hs:s.size<=300) :
  Calls Tryz.prog 73 #[.string s] w fun e w'=>e = .returned (.string (dC s))/\Below w.heap.size w w':=by
 have hI:¬ (300:Int)<(s.size:Int):=by omega
 have hsI:(s.size:Int)<=300:=by omega
 have HS1:=af (fun W=>vV s W hs);have HS2:=af (fun W=>vT s W hs);have HS3:=af (fun W=>Be s W hs);have e1:(⟨(leS 5 (fC s.size)++s.data.toList).toArray⟩:ByteArray)=gE s 1:=by
  show _=byS s;unfold byS ik;rw[a0d (by rw[fA];exact hs),fA]
 have e2:(⟨(jM s).toArray⟩:ByteArray)=byF s:=by unfold byF kH;rw[a0d hs]
 have e3:(⟨(rA s).toArray⟩:ByteArray)=byO s:=by unfold byO kY;rw[a0d hs]
 rw[e1]at HS1;rw[e2]at HS2;rw[e3]at HS3;have HSm:=af (qp s);clear hs e1 e2 e3;go_enter Tryz.func73,Tryz.ntmps73;go_wp2_with fail;refine(ae HS1 _).mono ?_;rintro e x1 ⟨rfl,b1⟩;have B1:=af b1;clear b1;go_wp2_with fail;refine(ae HS2 _).mono ?_;rintro e x2 ⟨rfl,b2⟩;have B2:=af (al (ae B1) b2);clear b2 B1;go_wp2_with fail;refine(ae HS3 _).mono ?_;rintro e x3 ⟨rfl,b3⟩;have hB3:=al (ae B2) b3;have hB4:Below w.heap.size w (x3.alloc (.cells #[.string (byF s),.string (byO s)] 9)):=hB3.alloc hB3.size _;have c0:(x3.alloc (.cells #[.string (byF s),.string (byO s)] 9)).cell? ⟨x3.heap.size,0,none⟩=some (.string (byF s)):=by simp
 have c1:(x3.alloc (.cells #[.string (byF s),.string (byO s)] 9)).cell? ⟨x3.heap.size,1,none⟩=some (.string (byO s)):=by simp
 have HB4:=af hB4;clear b3 hB3 hB4 B2 HS1 HS2 HS3;go_wp2_with fail;generalize x3.alloc (.cells #[.string (byF s),.string (byO s)] 9)=x4 at *
 generalize x3.heap.size=g at *
 go_loopw [3,5] (fun v i wr=>∃k:Nat,k<=2/\i = .int .i64 k/\v = .string (gE s (k+1))/\wr=x4) (fun _ i _=>2-(intOf i).toNat)
 case atStart=>exact⟨0,by omega,rfl,rfl,rfl⟩
 case round=>
  obtain⟨k,hk2,rfl,rfl,hwr⟩:=hrel;rw[hwr];clear hwr;obtain⟨q1,q2,q3⟩:=ae HSm;rcases (show k=0∨k=1∨k=2 by omega)with hk|hk|hk
  ·
   have hkI:(k:Int)<2:=by omega
   have c:x4.cell? ⟨g,k,none⟩=some (.string (byF s)):=by rw[hk];exact c0
   have hb1:gE s (k+1)=byS s:=by rw[hk];rfl
   have hb2:Hid (gE s (k+1+1)=dG (byS s) (byF s)):=by show _=_;rw[hk];rfl
   rw[hb1];have Hk:=af hk;clear hk hb1 c0 c1 hk2;generalize byF s=F at *
   generalize byS s=A at *
   by_cases hlt:F.size<A.size
   ·
    have hltI:(F.size:Int)<(A.size:Int):=by omega
    have HE:=af (ii hlt);go_wp2;go_roundw
    case rel=>exact⟨k+1,by have:=ae Hk;omega,by go_num,by rw[ae hb2,ae HE],by first|rfl|trivial⟩
    case measure=>have:=ae Hk;simp[intOf];omega
   ·
    have hltI:¬ (F.size:Int)<(A.size:Int):=by omega
    have HE:=af (jv hlt);go_wp2;go_roundw
    case rel=>exact⟨k+1,by have:=ae Hk;omega,by go_num,by rw[ae hb2,ae HE],by first|rfl|trivial⟩
    case measure=>have:=ae Hk;simp[intOf];omega
  ·
   have hkI:(k:Int)<2:=by omega
   have c:x4.cell? ⟨g,k,none⟩=some (.string (byO s)):=by rw[hk];exact c1
   have hb1:gE s (k+1)=dG (byS s) (byF s):=by rw[hk];rfl
   have hb2:Hid (gE s (k+1+1)=dG (dG (byS s) (byF s)) (byO s)):=by show _=_;rw[hk];rfl
   have q4:((dG (byS s) (byF s)).size:Int)<=100000:=by unfold dG;split<;>omega
   rw[hb1];have Hk:=af hk;clear hk hb1 c0 c1 hk2 q1 q2;generalize byO s=F at *
   generalize dG (byS s) (byF s)=A at *
   by_cases hlt:F.size<A.size
   ·
    have hltI:(F.size:Int)<(A.size:Int):=by omega
    have HE:=af (ii hlt);go_wp2;go_roundw
    case rel=>exact⟨k+1,by have:=ae Hk;omega,by go_num,by rw[ae hb2,ae HE],by first|rfl|trivial⟩
    case measure=>have:=ae Hk;simp[intOf];omega
   ·
    have hltI:¬ (F.size:Int)<(A.size:Int):=by omega
    have HE:=af (jv hlt);go_wp2;go_roundw
    case rel=>exact⟨k+1,by have:=ae Hk;omega,by go_num,by rw[ae hb2,ae HE],by first|rfl|trivial⟩
    case measure=>have:=ae Hk;simp[intOf];omega
  ·
   have hkI:¬ (k:Int)<2:=by omega
   have hb1:Hid (gE s (k+1)=dC s):=by show _=_;rw[hk];rfl
   clear hk c0 c1 hk2;generalize gE s (k+1)=A at *
   go_wp2;go_ret;exact⟨by rw[←ae hb1];rfl,ae HB4⟩
theorem oT(s:ByteArray)(w:World)(hs:s.size<=1048576) :
  Calls Tryz.prog 73 #[.string s] w fun e w'=>e = .returned (.string (dC s))/\Below w.heap.size w w':=by
 have hsI:(s.size:Int)<=1048576:=by omega
 by_cases h:s.size<=300
 · exact si s w h
 ·
  have hI:(300:Int)<(s.size:Int):=by omega
  have HF:=af (vA s h);clear h;go_enter Tryz.func73,Tryz.ntmps73;go_wp2;go_ret;exact⟨by rw[ae HF];rfl,a0c _ _⟩
set_option maxRecDepth 100000
def eo(s:ByteArray):Nat:=if (dC s).size<s.size then 8 else 0
def bB(s:ByteArray):ByteArray:=if (dC s).size<s.size then dC s else s
theorem gO(s:ByteArray):((dC s).size:Int)<=100000:=by
 obtain⟨h1,h2,h3⟩:=qp s;have key:∀a b:ByteArray,(a.size:Int)<=100000->(b.size:Int)<=100000->((dG a b).size:Int)<=100000:=fun a b ha hb=>by
  by_cases h:b.size<a.size
  · rw[ii h];exact hb
  · rw[jv h];exact ha
 unfold dC;exact key _ _ (key _ _ h1 h2) h3
theorem sQ(s:ByteArray)(w:World)(hs:s.size<=1048576) :
  Calls Tryz.prog 39 #[.string s] w fun e w'=>e = .returned (.tuple #[.int .i64 (eo s:Nat),.string (bB s)])/\Below w.heap.size w w':=by
 have HC:=af (oT s w hs);have hz:=gO s;have hsI:(s.size:Int)<=1048576:=by omega
 unfold eo bB;generalize dC s=x at *
 clear hs;by_cases h:x.size<s.size
 ·
  have hI:(x.size:Int)<(s.size:Int):=by omega
  rw[a0d h,a0d h];clear h;go_enter Tryz.func39,Tryz.ntmps39;go_wp2_with fail;refine(ae HC).mono ?_;rintro e w1 ⟨rfl,hb1⟩;have HB:=af hb1;clear hb1 HC;go_wp2
  go_ret2
  exact⟨rfl,ae HB⟩
 ·
  have hI:¬ (x.size:Int)<(s.size:Int):=by omega
  rw[a0e h,a0e h];clear h;go_enter Tryz.func39,Tryz.ntmps39;go_wp2_with fail;refine(ae HC).mono ?_;rintro e w1 ⟨rfl,hb1⟩;have HB:=af hb1;clear hb1 HC;go_wp2
  go_ret2
  exact⟨rfl,ae HB⟩
def nZ(W:World)(g:Nat)(n:ByteArray)(y mo d h mi s:Int)(t:ByteArray):Prop:=W.cell? ⟨g,0,none⟩=some (.string n)/\W.cell? ⟨g,1,none⟩=some (.int .i64 y)/\W.cell? ⟨g,2,none⟩=some (.int .i64 mo)/\W.cell? ⟨g,3,none⟩=some (.int .i64 d)/\W.cell? ⟨g,4,none⟩=some (.int .i64 h)/\W.cell? ⟨g,5,none⟩=some (.int .i64 mi)/\W.cell? ⟨g,6,none⟩=some (.int .i64 s)/\W.cell? ⟨g,7,none⟩=some (.string t)
def lZ(w:World)(n:ByteArray)(y mo d h mi s:Int)(t:ByteArray)(W:World):Prop:=Below w.heap.size w W/\w.heap.size<W.heap.size/\nZ W w.heap.size n y mo d h mi s t
theorem lZ.later{w W W':World}{n t:ByteArray}{y mo d h mi s:Int}(k:lZ w n y mo d h mi s t W)(hb:Below W.heap.size W W'):lZ w n y mo d h mi s t W':=by
 have hc:∀j,W'.cell? ⟨w.heap.size,j,none⟩=W.cell? ⟨w.heap.size,j,none⟩:=fun j=>hb.cell (p:=⟨w.heap.size,j,none⟩) k.2.1;obtain⟨b1,b2,e0,e1,e2,e3,e4,e5,e6,e7⟩:=k;exact⟨b1.trans (hb.mono (a0k b2)),a0f b2 hb.size,(hc 0).trans e0,(hc 1).trans e1,(hc 2).trans e2,(hc 3).trans e3,(hc 4).trans e4,(hc 5).trans e5,(hc 6).trans e6,(hc 7).trans e7⟩
theorem Fl(how st crc pk lg n:Nat):iK how st crc pk lg n=bR (leS 2 20)++bR (leS 2 0)++bR (leS 2 how)++bR (leS 4 st)++bR (leS 4 crc)++bR (leS 4 pk)++bR (leS 4 lg)++bR (leS 2 n)++bR (leS 2 0):=by
 have hx:∀a b:ByteArray,a.data.toList=b.data.toList->a=b:=fun a b h=>by
  cases a;cases b
  simp only[ByteArray.mk.injEq];exact Array.toList_inj.1 h
 apply hx;unfold iK bR;simp
theorem um(n t:ByteArray)(y mo d h mi s:Int)(N:Nat)(w:World)(k:(0<=y/\y<=100000)/\(0<=mo/\mo<=100)/\(0<=d/\d<=100)/\(0<=h/\h<=100)/\(0<=mi/\mi<=100) /\ -100<=s/\s<=100)
  (hN:(((((y-1980)*16+mo)*32+d)*32+h)*64+mi)*32+Int.tdiv s 2=(N:Int)) (hN2:N<4294967296) (hn:n.size<65536) (ht:t.size<=1048576) :
  Calls Tryz.prog 41 #[.agg #[.string n,.int .i64 y,.int .i64 mo,.int .i64 d,.int .i64 h,.int .i64 mi,.int .i64 s,.string t]] w fun e w'=>e = .returned (.string (iK (eo t) N (aK 0 t.data.toList) (bB t).size t.size n.size))/\Below w.heap.size w w':=by
 have hmix:Tryz.prog.follows .mixedOrders=true:=by kernel_rfl
 have hcr:aK 0 t.data.toList<4294967296:=fG _ _ (by omega);have hfz:=gO t;have hbz:(bB t).size<=1048576:=by unfold bB;split<;>omega
 have hwz:eo t<=8:=by unfold eo;split<;>omega
 have C20:Hid (∀W,Calls Tryz.prog 40 #[.int .i64 ((20:Nat):Int),.int .i64 2] W fun e w'=>e = .returned (.string (bR (leS 2 (20))))/\Below W.heap.size W w'):=fun W=>dp (20) 2 W (by omega) (by omega);have C0:Hid (∀W,Calls Tryz.prog 40 #[.int .i64 ((0:Nat):Int),.int .i64 2] W fun e w'=>e = .returned (.string (bR (leS 2 (0))))/\Below W.heap.size W w'):=fun W=>dp (0) 2 W (by omega) (by omega);have CH:Hid (∀W,Calls Tryz.prog 40 #[.int .i64 ((eo t:Nat):Int),.int .i64 2] W fun e w'=>e = .returned (.string (bR (leS 2 (eo t))))/\Below W.heap.size W w'):=fun W=>dp (eo t) 2 W (by omega) (by omega);have CN:Hid (∀W,Calls Tryz.prog 40 #[.int .i64 ((N:Nat):Int),.int .i64 4] W fun e w'=>e = .returned (.string (bR (leS 4 (N))))/\Below W.heap.size W w'):=fun W=>dp (N) 4 W (by omega) (by omega);have CK:Hid (∀W,Calls Tryz.prog 40 #[.int .i64 ((aK 0 t.data.toList:Nat):Int),.int .i64 4] W fun e w'=>e = .returned (.string (bR (leS 4 (aK 0 t.data.toList))))/\Below W.heap.size W w'):=fun W=>dp (aK 0 t.data.toList) 4 W (by omega) (by omega);have CB:Hid (∀W,Calls Tryz.prog 40 #[.int .i64 (((bB t).size:Nat):Int),.int .i64 4] W fun e w'=>e = .returned (.string (bR (leS 4 ((bB t).size))))/\Below W.heap.size W w'):=fun W=>dp ((bB t).size) 4 W (by omega) (by omega);have CT:Hid (∀W,Calls Tryz.prog 40 #[.int .i64 ((t.size:Nat):Int),.int .i64 4] W fun e w'=>e = .returned (.string (bR (leS 4 (t.size))))/\Below W.heap.size W w'):=fun W=>dp (t.size) 4 W (by omega) (by omega);have CM:Hid (∀W,Calls Tryz.prog 40 #[.int .i64 ((n.size:Nat):Int),.int .i64 2] W fun e w'=>e = .returned (.string (bR (leS 2 (n.size))))/\Below W.heap.size W w'):=fun W=>dp (n.size) 2 W (by omega) (by omega);have CP:Hid (∀W,Calls Tryz.prog 74 #[.agg #[.int .i64 y,.int .i64 mo,.int .i64 d,.int .i64 h,.int .i64 mi,.int .i64 s]] W fun e w'=>e = .returned (.int .i64 ((N:Nat):Int))/\Below W.heap.size W w'):=fun W=>by
  have:=Bf y mo d h mi s W k;rw[hN]at this;exact this
 have CC:Hid (∀W,Calls Tryz.prog 55 #[.string t] W fun e w'=>e = .returned (.int .i64 ((aK 0 t.data.toList:Nat):Int))/\Below W.heap.size W w'):=fun W=>(wP t W (by unfold maxLen;omega)).mono fun e w' ⟨h1,h2⟩=>⟨h1,by rw[h2];exact a0c _ _⟩;have CHow:=af (fun W=>sQ t W ht);have HE:=af (Fl (eo t) N (aK 0 t.data.toList) (bB t).size t.size n.size);have zz:∀many V,many<=4->((bR (leS many V)).size:Int)<=4:=fun many V hm=>by rw[oX,aX];omega
 have z1:=zz 2 20 (by omega);have z2:=zz 2 0 (by omega);have z3:=zz 2 (eo t) (by omega);have z4:=zz 4 N (by omega);have z5:=zz 4 (aK 0 t.data.toList) (by omega);have z6:=zz 4 (bB t).size (by omega);have z7:=zz 4 t.size (by omega);have z8:=zz 2 n.size (by omega);generalize bR (leS 2 20)=A20 at *
 generalize bR (leS 2 0)=A0 at *
 generalize bR (leS 2 (eo t))=AH at *
 generalize bR (leS 4 N)=AN at *
 generalize bR (leS 4 (aK 0 t.data.toList))=AK at *
 generalize bR (leS 4 (bB t).size)=AB at *
 generalize bR (leS 4 t.size)=AT at *
 generalize bR (leS 2 n.size)=AM at *
 generalize iK (eo t) N (aK 0 t.data.toList) (bB t).size t.size n.size=RES at *
 generalize eo t=hw at *
 generalize bB t=bd at *
 generalize aK 0 t.data.toList=cr at *
 have htI:(t.size:Int)<=1048576:=by omega
 have hnI:(n.size:Int)<65536:=by omega
 have hbI:(bd.size:Int)<=1048576:=by omega
 have T0':Hid (lZ w n y mo d h mi s t (w.alloc (.cells #[.string n,.int .i64 y,.int .i64 mo,.int .i64 d,.int .i64 h,.int .i64 mi,.int .i64 s,.string t] 30))):=⟨(a0c _ _).alloc (a0a _) _,by simp,by simp,by simp,by simp,by simp,by simp,by simp,by simp,by simp⟩;have hlt0:w.heap.size<(w.alloc (.cells #[.string n,.int .i64 y,.int .i64 mo,.int .i64 d,.int .i64 h,.int .i64 mi,.int .i64 s,.string t] 30)).heap.size:=(ae T0').2.1;clear k hN hN2 hn ht hcr hfz hbz hwz zz hlt0;go_enter Tryz.func41,Tryz.ntmps41;go_wp2_with fail;obtain⟨W1,hW1⟩:∃x,w.alloc (.cells #[.string n,.int .i64 y,.int .i64 mo,.int .i64 d,.int .i64 h,.int .i64 mi,.int .i64 s,.string t] 30)=x:=⟨_,rfl⟩;rw[hW1]at T0';rw[hW1];have T1:=T0';clear T0' hW1;refine(ae CHow W1).mono ?_;rintro e W2 ⟨rfl,Bd⟩;have T2:=af ((ae T1).later Bd);clear Bd T1 CHow;go_wp2_with fail;refine wp_region_held_drew (S:=fun W=>nZ W w.heap.size n y mo d h mi s t) hmix (ae T2).2.2 (fun hS=>?_);refine ah 3 (.int .i64 (hw:Nat)) rfl (by kernel_rfl) (fun _ _ _ h=>h) rfl (fun W hSw=>by obtain⟨s0,s1,s2,s3,s4,s5,s6,s7⟩:=hSw;go_simp) hS ?_;refine ah 6 (.pointer (some ⟨w.heap.size,1,none⟩)) rfl (by kernel_rfl) (fun _ _ _ h=>h) rfl (fun W hSw=>by obtain⟨s0,s1,s2,s3,s4,s5,s6,s7⟩:=hSw;go_simp) hS ?_;refine ah 7 (.agg #[.int .i64 y,.int .i64 mo,.int .i64 d,.int .i64 h,.int .i64 mi,.int .i64 s]) rfl (by kernel_rfl) (fun _ _ _ h=>h) rfl (fun W hSw=>by obtain⟨s0,s1,s2,s3,s4,s5,s6,s7⟩:=hSw;go_simp) hS ?_;have T3:Hid (lZ w n y mo d h mi s t W2.drew):=⟨(ae T2).1.drew,(ae T2).2.1,(ae T2).2.2⟩;generalize W2.drew=W3 at *
 refine ai 0 (by kernel_rfl) rfl fun K hK=>?_;go_simp;go_at_call 40;refine(ae C20 W3).mono ?_;rintro e W4 ⟨rfl,Bd⟩;have T4:=af ((ae T3).later Bd);refine Shut.out hK _ _ (ae T4).2.2 (fun hS=>?_);clear hK K Bd;refine ai 1 (by kernel_rfl) rfl fun K hK=>?_;go_simp;go_at_call 40;refine(ae C0 W4).mono ?_;rintro e W5 ⟨rfl,Bd⟩;have T5:=af ((ae T4).later Bd);refine Shut.out hK _ _ (ae T5).2.2 (fun hS=>?_);clear hK K Bd;refine ah 2 (.string (A20++A0)) rfl (by kernel_rfl) (fun _ _ _ h=>h) rfl (fun W hSw=>by obtain⟨s0,s1,s2,s3,s4,s5,s6,s7⟩:=hSw;go_simp<;>omega) hS ?_;refine ai 4 (by kernel_rfl) rfl fun K hK=>?_;go_simp;go_at_call 40;refine(ae CH W5).mono ?_;rintro e W6 ⟨rfl,Bd⟩;have T6:=af ((ae T5).later Bd);refine Shut.out hK _ _ (ae T6).2.2 (fun hS=>?_);clear hK K Bd;refine ah 5 (.string (A20++A0++AH)) rfl (by kernel_rfl) (fun _ _ _ h=>h) rfl (fun W hSw=>by obtain⟨s0,s1,s2,s3,s4,s5,s6,s7⟩:=hSw;go_simp<;>omega) hS ?_;refine ai 8 (by kernel_rfl) rfl fun K hK=>?_;go_simp;go_at_call 74;refine(ae CP W6).mono ?_;rintro e W7 ⟨rfl,Bd⟩;have T7:=af ((ae T6).later Bd);refine Shut.out hK _ _ (ae T7).2.2 (fun hS=>?_);clear hK K Bd;refine ai 9 (by kernel_rfl) rfl fun K hK=>?_;go_simp;go_at_call 40;refine(ae CN W7).mono ?_;rintro e W8 ⟨rfl,Bd⟩;have T8:=af ((ae T7).later Bd);refine Shut.out hK _ _ (ae T8).2.2 (fun hS=>?_);clear hK K Bd;refine ah 10 (.string (A20++A0++AH++AN)) rfl (by kernel_rfl) (fun _ _ _ h=>h) rfl (fun W hSw=>by obtain⟨s0,s1,s2,s3,s4,s5,s6,s7⟩:=hSw;go_simp<;>omega) hS ?_;refine ai 11 (by kernel_rfl) rfl fun K hK=>?_;go_simp;refine Shut.out hK _ _ (ae T8).2.2 (fun hS=>?_);clear hK K;refine wpAnyH_done (by kernel_rfl) ?_ _;clear hS;obtain⟨B1,hB1⟩:∃x,A20++A0++AH++AN=x:=⟨_,rfl⟩;have zB1:(B1.size:Int)<=1000:=by rw[←hB1];simp only[a0V];omega
 rw[hB1];go_wp2_with fail;refine wp_region_held_drew (S:=fun W=>nZ W w.heap.size n y mo d h mi s t) hmix (ae T8).2.2 (fun hS=>?_);refine ah 0 (.string B1) rfl (by kernel_rfl) (fun _ _ _ h=>h) rfl (fun W hSw=>by obtain⟨s0,s1,s2,s3,s4,s5,s6,s7⟩:=hSw;go_simp) hS ?_;refine ah 1 (.pointer (some ⟨w.heap.size,7,none⟩)) rfl (by kernel_rfl) (fun _ _ _ h=>h) rfl (fun W hSw=>by obtain⟨s0,s1,s2,s3,s4,s5,s6,s7⟩:=hSw;go_simp) hS ?_;refine ah 2 (.string t) rfl (by kernel_rfl) (fun _ _ _ h=>h) rfl (fun W hSw=>by obtain⟨s0,s1,s2,s3,s4,s5,s6,s7⟩:=hSw;go_simp) hS ?_;refine ah 6 (.string bd) rfl (by kernel_rfl) (fun _ _ _ h=>h) rfl (fun W hSw=>by obtain⟨s0,s1,s2,s3,s4,s5,s6,s7⟩:=hSw;go_simp) hS ?_;refine ah 7 (.int .i64 (bd.size:Nat)) rfl (by kernel_rfl) (fun _ _ _ h=>h) rfl (fun W hSw=>by obtain⟨s0,s1,s2,s3,s4,s5,s6,s7⟩:=hSw;go_simp) hS ?_;refine ah 10 (.pointer (some ⟨w.heap.size,7,none⟩)) rfl (by kernel_rfl) (fun _ _ _ h=>h) rfl (fun W hSw=>by obtain⟨s0,s1,s2,s3,s4,s5,s6,s7⟩:=hSw;go_simp) hS ?_;refine ah 11 (.string t) rfl (by kernel_rfl) (fun _ _ _ h=>h) rfl (fun W hSw=>by obtain⟨s0,s1,s2,s3,s4,s5,s6,s7⟩:=hSw;go_simp) hS ?_;refine ah 12 (.int .i64 (t.size:Nat)) rfl (by kernel_rfl) (fun _ _ _ h=>h) rfl (fun W hSw=>by obtain⟨s0,s1,s2,s3,s4,s5,s6,s7⟩:=hSw;go_simp) hS ?_;have T9:Hid (lZ w n y mo d h mi s t W8.drew):=⟨(ae T8).1.drew,(ae T8).2.1,(ae T8).2.2⟩;generalize W8.drew=W9 at *
 refine ai 3 (by kernel_rfl) rfl fun K hK=>?_;go_simp;go_at_call 55;refine(ae CC W9).mono ?_;rintro e W10 ⟨rfl,Bd⟩;have T10:=af ((ae T9).later Bd);refine Shut.out hK _ _ (ae T10).2.2 (fun hS=>?_);clear hK K Bd;refine ai 4 (by kernel_rfl) rfl fun K hK=>?_;go_simp;go_at_call 40;refine(ae CK W10).mono ?_;rintro e W11 ⟨rfl,Bd⟩;have T11:=af ((ae T10).later Bd);refine Shut.out hK _ _ (ae T11).2.2 (fun hS=>?_);clear hK K Bd;refine ah 5 (.string (B1++AK)) rfl (by kernel_rfl) (fun _ _ _ h=>h) rfl (fun W hSw=>by obtain⟨s0,s1,s2,s3,s4,s5,s6,s7⟩:=hSw;go_simp<;>omega) hS ?_;refine ai 8 (by kernel_rfl) rfl fun K hK=>?_;go_simp;go_at_call 40;refine(ae CB W11).mono ?_;rintro e W12 ⟨rfl,Bd⟩;have T12:=af ((ae T11).later Bd);refine Shut.out hK _ _ (ae T12).2.2 (fun hS=>?_);clear hK K Bd;refine ah 9 (.string (B1++AK++AB)) rfl (by kernel_rfl) (fun _ _ _ h=>h) rfl (fun W hSw=>by obtain⟨s0,s1,s2,s3,s4,s5,s6,s7⟩:=hSw;go_simp<;>omega) hS ?_;refine ai 13 (by kernel_rfl) rfl fun K hK=>?_;go_simp;go_at_call 40;refine(ae CT W12).mono ?_;rintro e W13 ⟨rfl,Bd⟩;have T13:=af ((ae T12).later Bd);refine Shut.out hK _ _ (ae T13).2.2 (fun hS=>?_);clear hK K Bd;refine ah 14 (.string (B1++AK++AB++AT)) rfl (by kernel_rfl) (fun _ _ _ h=>h) rfl (fun W hSw=>by obtain⟨s0,s1,s2,s3,s4,s5,s6,s7⟩:=hSw;go_simp<;>omega) hS ?_;refine ai 15 (by kernel_rfl) rfl fun K hK=>?_;go_simp;refine Shut.out hK _ _ (ae T13).2.2 (fun hS=>?_);clear hK K;refine wpAnyH_done (by kernel_rfl) ?_ _;clear hS;obtain⟨B2,hB2⟩:∃x,B1++AK++AB++AT=x:=⟨_,rfl⟩;have zB2:(B2.size:Int)<=2000:=by rw[←hB2];simp only[a0V];omega
 rw[hB2];obtain⟨c0,c1,c2,c3,c4,c5,c6,c7⟩:=(ae T13).2.2;have hlt:=(ae T13).2.1;go_wp2_with fail;refine(ae CM W13).mono ?_;rintro e X1 ⟨rfl,Bd⟩;have TX:=af ((ae T13).later Bd);clear Bd;go_wp2_with fail;refine(ae C0 X1).mono ?_;rintro e X2 ⟨rfl,Bd⟩;have TY:=af ((ae TX).later Bd);clear Bd;go_wp2;go_ret;exact⟨by rw[ae HE,←hB2,←hB1];rfl,(ae TY).1⟩
def dE(n t:ByteArray)(N:Nat):ByteArray:=cx (eo t) N (aK 0 t.data.toList) (bB t).size t.size n++bB t
theorem Gb:bR (leS 4 67324752)=(⟨#[80,75,3,4]⟩:ByteArray):=by decide +kernel
theorem vW(n t:ByteArray)(y mo d h mi s:Int)(N:Nat)(w:World)(k:(0<=y/\y<=100000)/\(0<=mo/\mo<=100)/\(0<=d/\d<=100)/\(0<=h/\h<=100)/\(0<=mi/\mi<=100) /\ -100<=s/\s<=100)
  (hN:(((((y-1980)*16+mo)*32+d)*32+h)*64+mi)*32+Int.tdiv s 2=(N:Int)) (hN2:N<4294967296) (hn:n.size<65536) (ht:t.size<=1048576) :
  Calls Tryz.prog 22 #[.agg #[.string n,.int .i64 y,.int .i64 mo,.int .i64 d,.int .i64 h,.int .i64 mi,.int .i64 s,.string t]] w fun e w'=>e = .returned (.string (dE n t N))/\Below w.heap.size w w':=by
 have hmix:Tryz.prog.follows .mixedOrders=true:=by kernel_rfl
 have CF:=af (fun W=>um n t y mo d h mi s N W k hN hN2 hn ht);have CHow:=af (fun W=>sQ t W ht);have CM:Hid (∀W,Calls Tryz.prog 40 #[.int .i64 67324752,.int .i64 4] W fun e w'=>e = .returned (.string (bR (leS 4 67324752)))/\Below W.heap.size W w'):=fun W=>dp 67324752 4 W (by omega) (by omega);have hfz:=gO t;have hbz:(bB t).size<=1048576:=by unfold bB;split<;>omega
 have hbI:((bB t).size:Int)<=1048576:=by omega
 have hnI:(n.size:Int)<65536:=by omega
 have HE:Hid (bR (leS 4 67324752)++iK (eo t) N (aK 0 t.data.toList) (bB t).size t.size n.size++n++bB t=dE n t N):=by unfold dE cx;rw[Gb];exact rfl
 have z1:((bR (leS 4 67324752)).size:Int)<=4:=by rw[oX,aX];omega
 have z2:((iK (eo t) N (aK 0 t.data.toList) (bB t).size t.size n.size).size:Int)<=26:=by rw[ir];omega
 generalize bR (leS 4 67324752)=A4 at *
 generalize iK (eo t) N (aK 0 t.data.toList) (bB t).size t.size n.size=FL at *
 generalize dE n t N=RES at *
 generalize eo t=hw at *
 generalize bB t=bd at *
 have T0':Hid (lZ w n y mo d h mi s t (w.alloc (.cells #[.string n,.int .i64 y,.int .i64 mo,.int .i64 d,.int .i64 h,.int .i64 mi,.int .i64 s,.string t] 30))):=⟨(a0c _ _).alloc (a0a _) _,by simp,by simp,by simp,by simp,by simp,by simp,by simp,by simp,by simp⟩;clear k hN hN2 hn ht hfz hbz;go_enter Tryz.func22,Tryz.ntmps22;go_wp2_with fail;obtain⟨W1,hW1⟩:∃x,w.alloc (.cells #[.string n,.int .i64 y,.int .i64 mo,.int .i64 d,.int .i64 h,.int .i64 mi,.int .i64 s,.string t] 30)=x:=⟨_,rfl⟩;rw[hW1]at T0';rw[hW1];have T1:=T0';clear T0' hW1;refine(ae CHow W1).mono ?_;rintro e W2 ⟨rfl,Bd⟩;have T2:=af ((ae T1).later Bd);clear Bd T1 CHow;go_wp2_with fail;refine wp_region_held_drew (S:=fun W=>nZ W w.heap.size n y mo d h mi s t) hmix (ae T2).2.2 (fun hS=>?_);refine ah 1 (.agg #[.string n,.int .i64 y,.int .i64 mo,.int .i64 d,.int .i64 h,.int .i64 mi,.int .i64 s,.string t]) rfl (by kernel_rfl) (fun _ _ _ h=>h) rfl (fun W hSw=>by obtain⟨s0,s1,s2,s3,s4,s5,s6,s7⟩:=hSw;go_simp) hS ?_;refine ah 4 (.pointer (some ⟨w.heap.size,0,none⟩)) rfl (by kernel_rfl) (fun _ _ _ h=>h) rfl (fun W hSw=>by obtain⟨s0,s1,s2,s3,s4,s5,s6,s7⟩:=hSw;go_simp) hS ?_;refine ah 5 (.string n) rfl (by kernel_rfl) (fun _ _ _ h=>h) rfl (fun W hSw=>by obtain⟨s0,s1,s2,s3,s4,s5,s6,s7⟩:=hSw;go_simp) hS ?_;refine ah 7 (.string bd) rfl (by kernel_rfl) (fun _ _ _ h=>h) rfl (fun W hSw=>by obtain⟨s0,s1,s2,s3,s4,s5,s6,s7⟩:=hSw;go_simp) hS ?_;have T3:Hid (lZ w n y mo d h mi s t W2.drew):=⟨(ae T2).1.drew,(ae T2).2.1,(ae T2).2.2⟩;generalize W2.drew=W3 at *
 refine ai 0 (by kernel_rfl) rfl fun K hK=>?_;go_simp;go_at_call 40;refine(ae CM W3).mono ?_;rintro e W4 ⟨rfl,Bd⟩;have T4:=af ((ae T3).later Bd);refine Shut.out hK _ _ (ae T4).2.2 (fun hS=>?_);clear hK K Bd;refine ai 2 (by kernel_rfl) rfl fun K hK=>?_;go_simp;go_at_call 41;refine(ae CF W4).mono ?_;rintro e W5 ⟨rfl,Bd⟩;have T5:=af ((ae T4).later Bd);refine Shut.out hK _ _ (ae T5).2.2 (fun hS=>?_);clear hK K Bd;refine ah 3 (.string (A4++FL)) rfl (by kernel_rfl) (fun _ _ _ h=>h) rfl (fun W hSw=>by obtain⟨s0,s1,s2,s3,s4,s5,s6,s7⟩:=hSw;go_simp<;>omega) hS ?_;refine ah 6 (.string (A4++FL++n)) rfl (by kernel_rfl) (fun _ _ _ h=>h) rfl (fun W hSw=>by obtain⟨s0,s1,s2,s3,s4,s5,s6,s7⟩:=hSw;go_simp<;>omega) hS ?_;refine ah 8 (.string (A4++FL++n++bd)) rfl (by kernel_rfl) (fun _ _ _ h=>h) rfl (fun W hSw=>by obtain⟨s0,s1,s2,s3,s4,s5,s6,s7⟩:=hSw;go_simp<;>omega) hS ?_;refine ai 9 (by kernel_rfl) rfl fun K hK=>?_;go_simp;refine Shut.out hK _ _ (ae T5).2.2 (fun hS=>?_);clear hK K;refine wpAnyH_done (by kernel_rfl) ?_ _;clear hS;generalize hAA:A4++FL++n++bd=AA;go_wp2;go_ret;exact⟨by rw[←ae HE,←hAA];rfl,(ae T5).1⟩
end Go.Proofs.YtbacpebljannfaaGreatDoor
