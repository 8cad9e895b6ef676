/- Of what the proof is made: 4 texts, one behind the other. -/
import Derived.Test.YtkdlcomfpffhhaaGreatDoorM36
import Derived.Test.YtkdlcomfpffhhaaGreatDoorM4
import Derived.Test.YtkdlcomfpffhhaaGreatDoorM19
import Derived.Test.YtkdlcomfpffhhaaGreatDoorM3
import Derived.Test.YtkdlcomfpffhhaaGreatDoorM5
set_option linter.unusedSimpArgs false
set_option linter.unusedVariables false
set_option maxHeartbeats 6400000
namespace Go.Proofs.YtkdlcomfpffhhaaGreatDoor
open Go.RowKit Corb
def g8(a b:ByteArray):ByteArray:=if b.size<a.size then b else a
theorem fG{a b:ByteArray}(h:b.size<a.size):g8 a b=b:=a0d h
theorem gG{a b:ByteArray}(h:¬ b.size<a.size):g8 a b=a:=a0e h
def byO(s:ByteArray):ByteArray:=⟨(kp s).toArray⟩
def bU(s:ByteArray):ByteArray:=g8 (g8 (byS s) (byF s)) (byO s)
def oF(s:ByteArray):Nat->ByteArray
 | 1=>byS s
 | 2=>g8 (byS s) (byF s)
 | _=>bU s
theorem Fu(s:ByteArray)(h:¬ s.size<=300):byO s=⟨#[]⟩:=by unfold byO kp;rw[a0e h]
theorem tN(l:List (Int×Int)):(bR l).length=((aT l).2+7)/8:=by unfold bR;exact az _ _
theorem rJ{l:List UInt8}(h:l.length<=100000):((⟨l.toArray⟩:ByteArray).size:Int)<=100000:=by
 have:(⟨l.toArray⟩:ByteArray).size=l.length:=by simp[ByteArray.size]
 omega
theorem AE{l:List (Int×Int)}(h:lOk l=true):(aT l).2<=64000:=by
 unfold lOk at h;simp only[a0i,a0q]at h;have h1:=DL (0,0) l (fun x hx=>by
  have h2:=h.1;unfold aM at h2;exact(aV.1 (a0R.1 h2 x hx)).1.2)
 have h3:LS (0,0) l=aT l:=rfl;rw[h3]at h1;omega
theorem i6{B:Nat}{a w:World}(h:Below B a w){r:Nat}(hB:B<=w.heap.size)(hr:B<=r)(o:Obj):Below B a (w.putObj r o):=h.grown (grownBy_putObj' w r o) hB (fun j hj=>by cases hj;exact hr)
theorem vA(s:ByteArray):((byS s).size:Int)<=100000/\((byF s).size:Int)<=100000/\((byO s).size:Int)<=100000:=by
 by_cases hs:s.size<=300
 ·
  have hT:=kK s hs;have hk:=fQ s;refine⟨rJ ?_,rJ ?_,rJ ?_⟩
  ·
   unfold eu
   split
   · rw[a0l,az,lz];omega
   · simp
  · unfold jY;rw[a0d hs];show(bR (gQ s)).length<=_;rw[tN];have h1:=AE (mN s hs);omega
  · unfold kp;rw[a0d hs];show(bR (jJ _)).length<=_;rw[tN];have h1:=AE (pN _ hT hk);omega
 · rw[Fv s hs,Ft s hs,Fu s hs];exact⟨by decide,by decide,by decide⟩
set_option maxRecDepth 100000 in
theorem oa(s:ByteArray)(w:World)(hs:s.size<=1048576)(hO:dk w) :
  Calls Tryz.prog 62 #[.string s] w fun e w'=>e = .returned (.string (bU s))/\Below w.heap.size w w':=by
 have hmm:=@run_makeMap Tryz.prog;have hu:=Tryz.underlying129;have hk:=a14;obtain⟨b,hb⟩:∃b,w.heap.size=b:=⟨_,rfl⟩;have m0:=Br w;obtain⟨w1,r1,m1,e1⟩:=ln hu hk _ _ _ 0 (.func (.func 91) #[] #[]) m0 (by simp);obtain⟨w2,r2,m2,e2⟩:=ln hu hk _ _ _ 1 (.func (.func 92) #[] #[]) m1 (by simp);obtain⟨w3,r3,m3,e3⟩:=ln hu hk _ _ _ 2 (.func (.func 93) #[] #[]) m2 (by simp);have z1:w1.heap.size=w.heap.size+1:=by rw[e1];simp[World.putObj]
 have z2:w2.heap.size=w.heap.size+1:=by rw[e2];simpa[World.putObj]using z1
 have hB1:Below w.heap.size w w1:=by rw[e1];exact i6 ((a0c _ w).alloc (a0a _) _) (by simp) (a0a _) _
 have hB2:Below w.heap.size w w2:=by rw[e2];exact i6 hB1 (by omega) (a0a _) _
 have hB3:Below w.heap.size w w3:=by rw[e3];exact i6 hB2 (by omega) (a0a _) _
 simp only[a04,a1h]at m3;have HG:=af (fun W k v (h:iw W w.heap.size [(0,.func (.func 91) #[] #[]),(1,.func (.func 92) #[] #[]),(2,.func (.func 93) #[] #[])]) hm=>Bq hu hk W w.heap.size _ k v false h hm (by decide));have g0:=ae HG w3 0 (.func (.func 91) #[] #[]) m3 (by simp);have HM:=af m3;have HB3:=af hB3;have HO:=af hO;have HS:=af hs;have HSm:=af (vA s);clear e1 e2 e3 z1 z2 hB1 hB2 hB3 m0 m1 m2 m3 hu hk hs hO hb b;go_enter Tryz.func62,Tryz.ntmps62;go_wp2_with fail;refine(oe s w3 (ae HS)).mono ?_;rintro e x1 ⟨rfl,b1⟩;have hM1:=(ae HM).later b1;have hB1:=aj (ae HB3) b1;have eS:(⟨(eu s.data.toList).toArray⟩:ByteArray)=oF s 1:=rfl;rw[eS];clear b1 HM HB3 r1 r2 r3 g0 hmm eS;go_wp2_with fail
 go_loopw [4,5,6] (fun v i _ wr=>∃k:Nat,1<=k/\k<=3/\i = .int .i64 k/\v = .string (oF s k)/\iw wr w.heap.size [(0,.func (.func 91) #[] #[]),(1,.func (.func 92) #[] #[]),(2,.func (.func 93) #[] #[])]/\Below w.heap.size w wr) (fun _ i _ _=>3-(intOf i).toNat)
 case atStart=>exact⟨1,by omega,by omega,rfl,rfl,hM1,hB1⟩
 case round=>
  obtain⟨k,hk1,hk3,rfl,rfl,hM,hbel⟩:=hrel;clear hM1 hB1;rcases (show k=1∨k=2∨k=3 by omega)with hk|hk|hk
  ·
   have hkI:(k:Int)=1:=by omega
   have hle:(k:Int)<=2:=by omega
   have g1:(Instr.lookup 129 (.map (some w.heap.size)) (.int .i64 (k:Int)) false).run Tryz.prog wr = .ok (.func (.func 92) #[] #[]) wr:=by rw[hkI];exact ae HG wr 1 (.func (.func 92) #[] #[]) hM (by simp)
   have HC:=af (nY s wr (ae HS));have eF:(⟨(jY s).toArray⟩:ByteArray)=byF s:=rfl;rw[eF]at HC;have hb1:oF s k=byS s:=by rw[hk];rfl
   have hb2:Hid (oF s (k+1)=g8 (byS s) (byF s)):=by show _=_;rw[hk];rfl
   obtain⟨q1,q2,q3⟩:=ae HSm;rw[hb1];have Hk:=af hk;have HMB:=af (a0b hM hbel);clear hM hbel hk hk1 hk3 hb1 eF hkI;generalize byF s=F at *
   generalize byS s=A at *
   go_wp2_with fail;refine(ae HC).mono ?_;rintro e x2 ⟨rfl,b2⟩;have HY:=af (a0b ((ae HMB).1.later b2) (aj (ae HMB).2 b2));clear b2 HMB HC;by_cases hlt:F.size<A.size
   ·
    have hltI:(F.size:Int)<(A.size:Int):=by omega
    have HE:=af (fG hlt);go_wp2;go_roundw
    case rel=>exact⟨k+1,by omega,by have:=ae Hk;omega,by go_num,by rw[ae hb2,ae HE],(ae HY).1,(ae HY).2⟩
    case measure=>have:=ae Hk;simp[intOf];omega
   ·
    have HE:=af (gG hlt);go_wp2;go_roundw
    case rel=>exact⟨k+1,by omega,by have:=ae Hk;omega,by go_num,by rw[ae hb2,ae HE],(ae HY).1,(ae HY).2⟩
    case measure=>have:=ae Hk;simp[intOf];omega
  ·
   have hkI:(k:Int)=2:=by omega
   have hle:(k:Int)<=2:=by omega
   have g1:(Instr.lookup 129 (.map (some w.heap.size)) (.int .i64 (k:Int)) false).run Tryz.prog wr = .ok (.func (.func 93) #[] #[]) wr:=by rw[hkI];exact ae HG wr 2 (.func (.func 93) #[] #[]) hM (by simp)
   have HC:=af (qC s wr (ae HS) ((ae HO).later hbel));have eF:(⟨(kp s).toArray⟩:ByteArray)=byO s:=rfl;rw[eF]at HC;have hb1:oF s k=g8 (byS s) (byF s):=by rw[hk];rfl
   have hb2:Hid (oF s (k+1)=g8 (g8 (byS s) (byF s)) (byO s)):=by show _=_;rw[hk];rfl
   obtain⟨q1,q2,q3⟩:=ae HSm;rw[hb1];have Hk:=af hk;have HMB:=af (a0b hM hbel);clear hM hbel hk hk1 hk3 hb1 eF q1 q2 hkI;generalize byO s=F at *
   generalize g8 (byS s) (byF s)=A at *
   go_wp2_with fail;refine(ae HC).mono ?_;rintro e x2 ⟨rfl,b2⟩;have HY:=af (a0b ((ae HMB).1.later b2) (aj (ae HMB).2 b2));clear b2 HMB HC;by_cases hlt:F.size<A.size
   ·
    have hltI:(F.size:Int)<(A.size:Int):=by omega
    have HE:=af (fG hlt);go_wp2;go_roundw
    case rel=>exact⟨k+1,by omega,by have:=ae Hk;omega,by go_num,by rw[ae hb2,ae HE],(ae HY).1,(ae HY).2⟩
    case measure=>have:=ae Hk;simp[intOf];omega
   ·
    have HE:=af (gG hlt);go_wp2;go_roundw
    case rel=>exact⟨k+1,by omega,by have:=ae Hk;omega,by go_num,by rw[ae hb2,ae HE],(ae HY).1,(ae HY).2⟩
    case measure=>have:=ae Hk;simp[intOf];omega
  ·
   have hle:¬ (k:Int)<=2:=by omega
   have hb1:Hid (oF s k=bU s):=by show _=_;rw[hk];rfl
   have HB:=af hbel;clear hM hbel hk hk1 hk3;generalize oF s k=A at *
   go_wp2;go_ret;exact⟨by rw[←ae hb1];rfl,ae HB⟩
set_option maxRecDepth 100000
def eW(s:ByteArray):Nat:=if (bU s).size<s.size then 8 else 0
def bj(s:ByteArray):ByteArray:=if (bU s).size<s.size then bU s else s
theorem jc(s:ByteArray):((bU s).size:Int)<=100000:=by
 obtain⟨h1,h2,h3⟩:=vA s;have key:∀a b:ByteArray,(a.size:Int)<=100000->(b.size:Int)<=100000->((g8 a b).size:Int)<=100000:=fun a b ha hb=>by
  by_cases h:b.size<a.size
  · rw[fG h];exact hb
  · rw[gG h];exact ha
 unfold bU;exact key _ _ (key _ _ h1 h2) h3
def yJ(W:World)(g:Nat)(n:ByteArray)(y mo d h mi s:Int)(t:ByteArray):Prop:=W.cell? ⟨g,0,none⟩=some (.string n)/\W.cell? ⟨g,1,none⟩=some (.int .i64 y)/\W.cell? ⟨g,2,none⟩=some (.int .i64 mo)/\W.cell? ⟨g,3,none⟩=some (.int .i64 d)/\W.cell? ⟨g,4,none⟩=some (.int .i64 h)/\W.cell? ⟨g,5,none⟩=some (.int .i64 mi)/\W.cell? ⟨g,6,none⟩=some (.int .i64 s)/\W.cell? ⟨g,7,none⟩=some (.string t)
def pW(w:World)(n:ByteArray)(y mo d h mi s:Int)(t:ByteArray)(W:World):Prop:=Below w.heap.size w W/\w.heap.size<W.heap.size/\yJ W w.heap.size n y mo d h mi s t
theorem pW.later{w W W':World}{n t:ByteArray}{y mo d h mi s:Int}(k:pW w n y mo d h mi s t W)(hb:Below W.heap.size W W'):pW w n y mo d h mi s t W':=by
 have hc:∀j,W'.cell? ⟨w.heap.size,j,none⟩=W.cell? ⟨w.heap.size,j,none⟩:=fun j=>hb.cell (p:=⟨w.heap.size,j,none⟩) k.2.1;obtain⟨b1,b2,e0,e1,e2,e3,e4,e5,e6,e7⟩:=k;exact⟨b1.trans (hb.mono (a0x b2)),a0k b2 hb.size,(hc 0).trans e0,(hc 1).trans e1,(hc 2).trans e2,(hc 3).trans e3,(hc 4).trans e4,(hc 5).trans e5,(hc 6).trans e6,(hc 7).trans e7⟩
def cH(n t:ByteArray)(N:Nat):ByteArray:=bJ (eW t) N (aP 0 t.data.toList) (bj t).size t.size n++bj t
end Go.Proofs.YtkdlcomfpffhhaaGreatDoor
