/- Of what the proof is made: 6 texts, one behind the other. -/
import Derived.Test.YtbacpebljannfaaGreatDoorM10
import Derived.Test.YtbacpebljannfaaGreatDoorRb1
import Derived.Test.YtbacpebljannfaaGreatDoorM8
set_option linter.unusedSimpArgs false
set_option maxHeartbeats 3200000
namespace Go.Proofs.YtbacpebljannfaaGreatDoor
open Go.RowKit Corb
def pJ(V p:Nat):Nat:=V/2 ^ p%2
theorem pX(V p:Nat):pJ V p<=1:=by unfold pJ;omega
def cd(V p:Nat):Nat->Nat
 | 0=>0
 | n+1=>2*cd V p n+pJ V (p+n)
theorem Ie(V p n:Nat):cd V p n<p2 n:=by
 induction n with
 | zero=>simp[cd,p2]
 | succ n ih=>
  have:=pX V (p+n);simp only[cd];rw[jQ];omega
def jy(l:List Int)(n c:Nat):Int:=(aU l 15).getD (pl l n+(c-2*nx l n)) 0
def kF(l:List Int)(V sz p:Nat):Nat->Nat->Option (Int×Nat)
 | 0,_=>none
 | f+1,n=>if sz<p+n+1 then none else if cd V p (n+1)<nx l (n+1)then some (jy l n (cd V p (n+1)),p+n+1)else kF l V sz p f (n+1)
def dec(l:List Int)(V sz p:Nat):Option (Int×Nat):=kF l V sz p 15 0
theorem Cd{l:List Int}{n c:Nat}(hn:n<15)(h1:2*nx l n<=c)(h2:c<nx l (n+1)):∃i,i<l.length/\l.getD i 0=(n:Int)+1/\kC l i=c/\jy l n c=(i:Int):=by
 have e:nx l (n+1)=2*nx l n+many l ((n:Int)+1) l.length:=rfl;obtain⟨i,hi,hl,hm⟩:=F9 l ((n:Int)+1) l.length (c-2*nx l n) (by omega);refine⟨i,hi,hl,?_,?_⟩
 ·
  unfold kC;rw[hl,hm];have:((n:Int)+1).toNat-1=n:=by omega
  rw[this];omega
 · unfold jy;rw[←hm];exact Ce l 15 n i hi hl hn
theorem Ez(l:List Int)(N:Nat):pl l N<=N*l.length:=by rw[←nT];exact im l N
theorem sX{l:List Int}(hok:aE l=true)(N:Nat)(hN:N<=15):nx l N<=32768:=by
 have h:=GH hok N hN;have h2:=rB N 15 hN;have h3:p2 15=32768:=rfl;omega
theorem sy(V p n:Nat)(hn:n<=15):cd V p n<32768:=by
 have h:=Ie V p n;have h2:=rB n 15 hn;have h3:p2 15=32768:=rfl;omega
theorem Gm (l : List Int) : ∀ a b, a ≤ b → pl l a ≤ pl l b := by
  intro a b hab
  induction b with
  | zero => have : a = 0 := by omega
            rw [this]; exact a0a _
  | succ b ihb =>
    by_cases e2 : a = b + 1
    · rw [e2]; exact a0a _
    · have := ihb (by omega)
      simp only [pl]; omega
theorem yZ{l:List Int}{n c:Nat}(hn:n<15)(h1:2*nx l n<=c)(h2:c<nx l (n+1)):pl l n+(c-2*nx l n)<(aU l 15).length:=by
 have e:nx l (n+1)=2*nx l n+many l ((n:Int)+1) l.length:=rfl;have e2:pl l (n+1)=pl l n+many l ((n:Int)+1) l.length:=rfl;have:=Gm l (n+1) 15 (by omega);rw[nT];omega
theorem dt.heap{w w':World}{b:Nat}{vl vc vs:Value}{m:Nat->Nat}(h:dt w b vl vc vs m)(he:w'.heap[b]?=w.heap[b]?)(hs:w.heap.size<=w'.heap.size):dt w' b vl vc vs m:=by
 obtain⟨c0,c1,c2,c3,f,hlt⟩:=h;exact⟨(World.cell?_of_block (a:=⟨b,0,none⟩) he).trans c0,(World.cell?_of_block (a:=⟨b,1,none⟩) he).trans c1,fun j hj=>(World.cell?_of_block (a:=⟨b,2+j,none⟩) he).trans (c2 j hj),(World.cell?_of_block (a:=⟨b,18,none⟩) he).trans c3,fun o=>(World.frozen?_of_block (a:=⟨b,o,none⟩) he).trans (f o),by omega⟩
theorem aZ.keep{w w':World}{a:Option Addr}{b:Nat}{l:List Int}(h:aZ w a l)(hk:aB b w w')(hg:∀g o,a=some ⟨g,o,none⟩->g≠b):aZ w' a l:=by
 intro h0;obtain⟨g,o,e,hlt,hc⟩:=h h0;exact⟨g,o,e,a0f hlt hk.1.size,fun i hi=>(World.cell?_of_block (a:=⟨g,o+i,none⟩) (hk.2 g hlt (hg g o e))).trans (hc i hi)⟩
theorem jF{l:List Int}{V sz p f n:Nat}(h:sz<p+n+1):kF l V sz p (f+1) n=none:=by simp only[kF];rw[a0d h]
theorem ni{l:List Int}{V sz p f n:Nat}(h:¬ sz<p+n+1)(h2:cd V p (n+1)<nx l (n+1)):kF l V sz p (f+1) n=some (jy l n (cd V p (n+1)),p+n+1):=by simp only[kF];rw[a0e h,a0d h2]
theorem lE{l:List Int}{V sz p f n:Nat}(h:¬ sz<p+n+1)(h2:¬ cd V p (n+1)<nx l (n+1)):kF l V sz p (f+1) n=kF l V sz p f (n+1):=by simp only[kF];rw[a0e h,a0e h2]
def dc(w:World)(b:Nat)(s:ByteArray)(d:Option (Int×Nat))(e:Ending)(w':World):Prop:=
 aB b w w'/\match d with
  | none=>e = .returned (.tuple #[.int .i64 0,.bool false])
  | some (i,q)=>e = .returned (.tuple #[.int .i64 i,.bool true])/\Rdr w' b s q
end Go.Proofs.YtbacpebljannfaaGreatDoor
namespace Go.Proofs.YtbacpebljannfaaGreatDoor.Lit
open Go.Proofs.YtbacpebljannfaaGreatDoor
open Go.RowKit Corb
theorem bookGet_any(a sa:Option Addr)(cap n sn sc b p:Nat)(vc:Value)(C:Array Value)(l:List Int)(s:ByteArray)(w:World)(hC:C=(aM (.slice a n cap) vc (.slice sa sn sc) (bF l 15)).toArray)(hok:aE l=true)(hsn:(aU l 15).length=sn)
  (hs:s.size<=2000000) (hr:Rdr w b s p) (hp:p<=8*s.size) (hrow:∀W,aB b w W->aZ W sa (aU l 15)) :
  Calls Tryz.prog 227 #[.agg C,.pointer (some ⟨b,0,none⟩)] w (dc w b s (dec l (ap s) (8*s.size) p)):=by
 have hbl:=hr.lt;have hB0:=jd w (.slice a n cap) vc (.slice sa sn sc) (bF l 15) 131;rw[←hC]at hB0;have hk0:aB b w (w.alloc (.cells C 131)):=(aB.refl b w).alloc (by omega) _;have hr0:=hr.alloc (.cells C 131);have hsz0:w.heap.size<(w.alloc (.cells C 131)).heap.size:=by simp
 have HS:=af hs;have HP:=af hp;have HOK:=af hok;have HSN:=af hsn;have hsnI:(sn:Int)<=4500:=by
  have h1:=im l 15;have h2:=cF hok;have h3:15*l.length<=15*300:=Nat.mul_le_mul_left _ h2;omega
 have hspI:(p:Int)<=16000000:=by omega
 have Hr:=af hrow;clear hC hr hs hp hok hsn hrow;go_enter Tryz.func227,Tryz.ntmps227;go_wp2_with fail;generalize w.alloc (.cells C 131)=w0 at *
 go_loopw [4,5,6,7,8,9] (fun _ _ c f pc lg wr=>∃N:Nat,N<=15/\lg = .int .i64 ((N:Int)+1)/\c = .int .i64 (cd (ap s) p N:Nat)/\f = .int .i64 (nx l N:Nat)/\pc = .int .i64 (pl l N:Nat)/\nx l N<=cd (ap s) p N/\Rdr wr b s (p+N)/\aB b w wr/\dt wr w.heap.size (.slice a n cap) vc (.slice sa sn sc) (bF l 15)/\dec l (ap s) (8*s.size) p=kF l (ap s) (8*s.size) p (15-N) N) (fun _ _ _ _ _ lg _=>16-(intOf lg).toNat)
 case atStart=>exact⟨0,by omega,rfl,rfl,rfl,rfl,Nat.le_refl _,hr0,hk0,hB0,rfl⟩
 case round=>
  obtain⟨N,hN,rfl,rfl,rfl,rfl,hge,hrd,hkp,hbk,hdec⟩:=hrel;clear hr0 hk0 hB0 hsz0;have hNI:(N:Int)<=15:=by omega
  have c1:=af (sy (ap s) p N hN);have c2:=af (sX (ae HOK) N hN);have cI:(cd (ap s) p N:Int)<=32768:=by have:=ae c1;omega
  have nI:(nx l N:Int)<=32768:=by have:=ae c2;omega
  have HGE:=af hge;have HD:=af hdec;clear hge hdec;by_cases hlt:N<15
  ·
   have hN15:(N:Int)<15:=by omega
   have hd15:decide ((N:Int)+1<=15)=true:=decide_eq_true (by omega);have hbit:(ap s/2 ^ (p+N)%2:Nat)=pJ (ap s) (p+N):=rfl;have hb1:=pX (ap s) (p+N);have hcd:Hid (cd (ap s) p (N+1)=2*cd (ap s) p N+pJ (ap s) (p+N)):=rfl;have hcb:=af (sy (ap s) p (N+1) (by omega));have hnx:Hid (nx l (N+1)=2*nx l N+many l ((N:Int)+1) l.length):=rfl;have hpl:Hid (pl l (N+1)=pl l N+many l ((N:Int)+1) l.length):=rfl;have hnb:=af (sX (ae HOK) (N+1) (by omega));have hpb:(pl l (N+1):Int)<=4500:=by
    have h1:=Ez l (N+1);have h2:=cF (ae HOK);have h3:(N+1)*l.length<=15*300:=Nat.mul_le_mul (by omega) h2;omega
   have hmm:Hid (bF l 15 (N+1)=many l ((N:Int)+1) l.length):=by
    show bF l 15 (N+1)=_;unfold bF;rw[if_pos ⟨by omega,by omega⟩]
    congr 1
   have hin:=af (fun h1 h2=>yZ (l:=l) (n:=N) (c:=cd (ap s) p (N+1)) hlt h1 h2);have Hhit:=af (fun h1 h2=>ni (l:=l) (V:=ap s) (sz:=8*s.size) (p:=p) (f:=14-N) (n:=N) h1 h2);have Hnext:=af (fun h1 h2=>lE (l:=l) (V:=ap s) (sz:=8*s.size) (p:=p) (f:=14-N) (n:=N) h1 h2);have Hshort:=af (fun h1=>jF (l:=l) (V:=ap s) (sz:=8*s.size) (p:=p) (f:=14-N) (n:=N) h1);have e15:15-N=(14-N)+1:=by omega
   have e14:14-N=15-(N+1):=by omega
   rw[e15]at HD;have hsym:Hid (jy l N (cd (ap s) p (N+1))=(aU l 15).getD (pl l N+(cd (ap s) p (N+1)-2*nx l N)) 0):=rfl;generalize many l ((N:Int)+1) l.length=M at *
   go_wp2_with fail;refine(jt b (p+N) s _ hrd (ae HS)).mono ?_;rintro e x1 ⟨rfl,hrd1,hk1⟩;rw[hbit];have hkp1:=hkp.trans hk1;have hbk1:=hbk.heap (hk1.2 _ (by have:=hbk.2.2.2.2.2;exact this) (by omega)) hk1.1.size;have hmc:=hbk1.2.2.1 (N+1) (by omega);rw[ae hmm]at hmc;have hsc:=hbk1.2.2.2.1;have hwl:=hbk1.2.2.2.2.2;have HIR:=af (ae Hr x1 hkp1);have hAF:=ae HGE;have hXB:=ae hcb;have hYB:=ae hnb;have hPP:=ae hpl;have hXX:=ae hcd;have hYY:=ae hnx;clear hrd hkp hk1 hbk hmm hbit Hr;generalize hX':cd (ap s) p (N+1)=X at *
   have EX:=af hX';clear hX';generalize cd (ap s) p N=A at *
   generalize pJ (ap s) (p+N)=D at *
   generalize hY':nx l (N+1)=Y at *
   have EY:=af hY';clear hY';generalize nx l N=F at *
   generalize hP':pl l (N+1)=P' at *
   have EP:=af hP';clear hP';generalize pl l N=P at *
   have hDI:(D:Int)<=1:=by omega
   have hMI:(M:Int)<=32768:=by omega
   have hPI:(P:Int)<=4500:=by omega
   have hrd2:=hrd1;obtain⟨q0,q1,q2,g0,g1,g2,hb3⟩:=hrd2;by_cases hsh:8*s.size<p+N+1
   ·
    rw[decide_eq_true (show 8*s.size<p+N+1 from hsh)]at q2;have Hn:Hid (dec l (ap s) (8*s.size) p=none):=by
     show dec l (ap s) (8*s.size) p=none;rw[ae HD];exact ae Hshort hsh
    have HKP:=af hkp1;clear hbk1 hXX hYY hPP hsh q0 q1 g0 g1 g2 hrd1 hkp1 hXB hYB hAF;go_wp2
    go_ret2
    unfold dc;rw[ae Hn];exact⟨ae HKP,rfl⟩
   ·
    rw[decide_eq_false (show ¬ 8*s.size<p+N+1 from hsh)]at q2;have HSH:=af hsh;by_cases hhit:X<Y
    ·
     have hxI:(A:Int)*2+(D:Int)<(F:Int)*2+(M:Int):=by omega
     have hin':=ae hin (by omega) hhit;have Hd:Hid (dec l (ap s) (8*s.size) p=some (jy l N X,p+N+1)):=by
      show dec l (ap s) (8*s.size) p=_;rw[ae HD];exact ae Hhit hsh hhit
     have hK:((P:Int)+((A:Int)*2+(D:Int))-(F:Int)*2)=((P+(X-2*F):Nat):Int):=by omega
     have hsn':=ae HSN;obtain⟨g,o,rfl,hg,hcc⟩:=ae HIR (by omega);have c0:=hcc (P+(X-2*F)) (by omega);rw[←ae hsym]at c0;have hKI:((P+(X-2*F):Nat):Int)<(sn:Int):=by omega
     generalize P+(X-2*F)=K at *
     generalize jy l N X=Z at *
     have HKP:=af hkp1;have HRD:=af hrd1;have hK0:(0:Int)<=(K:Int):=by omega
     clear hcc hbk1 hXX hYY hPP hsh q0 q1 g0 g1 g2 hrd1 hkp1 hXB hYB hAF hhit hin' hsn';go_wp2
     go_ret2
     unfold dc;rw[ae Hd];exact⟨ae HKP,rfl,ae HRD⟩
    ·
     have hxI:¬ (A:Int)*2+(D:Int)<(F:Int)*2+(M:Int):=by omega
     have Hd:Hid (dec l (ap s) (8*s.size) p=kF l (ap s) (8*s.size) p (15-(N+1)) (N+1)):=by
      show dec l (ap s) (8*s.size) p=_;rw[ae HD,ae Hnext hsh hhit,e14]
     have HKP:=af hkp1;have HRD:=af hrd1;have HBK:=af hbk1;have HYX:Hid (Y<=X):=by show Y<=X;omega
     have eX:Hid ((A:Int)*2+(D:Int)=(X:Int)):=by show(A:Int)*2+(D:Int)=(X:Int);omega
     have eY:Hid ((F:Int)*2+(M:Int)=(Y:Int)):=by show(F:Int)*2+(M:Int)=(Y:Int);omega
     have eP:Hid ((P:Int)+(M:Int)=(P':Int)):=by show(P:Int)+(M:Int)=(P':Int);omega
     clear hbk1 hXX hYY hPP hsh q0 q1 g0 g1 g2 hrd1 hkp1 hXB hYB hAF hhit HIR hsc;go_wp2;go_roundw
     case rel=>exact⟨N+1,by omega,by go_num,by rw[ae eX,ae EX],by rw[ae eY,ae EY],by rw[ae eP,ae EP],by rw[ae EX,ae EY];exact ae HYX,ae HRD,ae HKP,ae HBK,ae Hd⟩
     case measure=>simp[intOf];omega
  ·
   obtain rfl:N=15:=by omega
   have Hn:Hid (dec l (ap s) (8*s.size) p=none):=ae HD;go_wp2
   go_ret2
   unfold dc;rw[ae Hn];exact⟨hkp,rfl⟩
end Go.Proofs.YtbacpebljannfaaGreatDoor.Lit
namespace Go.Proofs.YtbacpebljannfaaGreatDoor.Dist
open Go.Proofs.YtbacpebljannfaaGreatDoor
open Go.RowKit Corb
theorem bookGet_any(a sa:Option Addr)(cap n sn sc b p:Nat)(vc:Value)(C:Array Value)(l:List Int)(s:ByteArray)(w:World)(hC:C=(aM (.slice a n cap) vc (.slice sa sn sc) (bF l 15)).toArray)(hok:aE l=true)(hsn:(aU l 15).length=sn)
  (hs:s.size<=2000000) (hr:Rdr w b s p) (hp:p<=8*s.size) (hrow:∀W,aB b w W->aZ W sa (aU l 15)) :
  Calls Tryz.prog 233 #[.agg C,.pointer (some ⟨b,0,none⟩)] w (dc w b s (dec l (ap s) (8*s.size) p)):=by
 have hbl:=hr.lt;have hB0:=jd w (.slice a n cap) vc (.slice sa sn sc) (bF l 15) 134;rw[←hC]at hB0;have hk0:aB b w (w.alloc (.cells C 134)):=(aB.refl b w).alloc (by omega) _;have hr0:=hr.alloc (.cells C 134);have hsz0:w.heap.size<(w.alloc (.cells C 134)).heap.size:=by simp
 have HS:=af hs;have HP:=af hp;have HOK:=af hok;have HSN:=af hsn;have hsnI:(sn:Int)<=4500:=by
  have h1:=im l 15;have h2:=cF hok;have h3:15*l.length<=15*300:=Nat.mul_le_mul_left _ h2;omega
 have hspI:(p:Int)<=16000000:=by omega
 have Hr:=af hrow;clear hC hr hs hp hok hsn hrow;go_enter Tryz.func233,Tryz.ntmps233;go_wp2_with fail;generalize w.alloc (.cells C 134)=w0 at *
 go_loopw [4,5,6,7,8,9] (fun _ _ c f pc lg wr=>∃N:Nat,N<=15/\lg = .int .i64 ((N:Int)+1)/\c = .int .i64 (cd (ap s) p N:Nat)/\f = .int .i64 (nx l N:Nat)/\pc = .int .i64 (pl l N:Nat)/\nx l N<=cd (ap s) p N/\Rdr wr b s (p+N)/\aB b w wr/\dt wr w.heap.size (.slice a n cap) vc (.slice sa sn sc) (bF l 15)/\dec l (ap s) (8*s.size) p=kF l (ap s) (8*s.size) p (15-N) N) (fun _ _ _ _ _ lg _=>16-(intOf lg).toNat)
 case atStart=>exact⟨0,by omega,rfl,rfl,rfl,rfl,Nat.le_refl _,hr0,hk0,hB0,rfl⟩
 case round=>
  obtain⟨N,hN,rfl,rfl,rfl,rfl,hge,hrd,hkp,hbk,hdec⟩:=hrel;clear hr0 hk0 hB0 hsz0;have hNI:(N:Int)<=15:=by omega
  have c1:=af (sy (ap s) p N hN);have c2:=af (sX (ae HOK) N hN);have cI:(cd (ap s) p N:Int)<=32768:=by have:=ae c1;omega
  have nI:(nx l N:Int)<=32768:=by have:=ae c2;omega
  have HGE:=af hge;have HD:=af hdec;clear hge hdec;by_cases hlt:N<15
  ·
   have hN15:(N:Int)<15:=by omega
   have hd15:decide ((N:Int)+1<=15)=true:=decide_eq_true (by omega);have hbit:(ap s/2 ^ (p+N)%2:Nat)=pJ (ap s) (p+N):=rfl;have hb1:=pX (ap s) (p+N);have hcd:Hid (cd (ap s) p (N+1)=2*cd (ap s) p N+pJ (ap s) (p+N)):=rfl;have hcb:=af (sy (ap s) p (N+1) (by omega));have hnx:Hid (nx l (N+1)=2*nx l N+many l ((N:Int)+1) l.length):=rfl;have hpl:Hid (pl l (N+1)=pl l N+many l ((N:Int)+1) l.length):=rfl;have hnb:=af (sX (ae HOK) (N+1) (by omega));have hpb:(pl l (N+1):Int)<=4500:=by
    have h1:=Ez l (N+1);have h2:=cF (ae HOK);have h3:(N+1)*l.length<=15*300:=Nat.mul_le_mul (by omega) h2;omega
   have hmm:Hid (bF l 15 (N+1)=many l ((N:Int)+1) l.length):=by
    show bF l 15 (N+1)=_;unfold bF;rw[if_pos ⟨by omega,by omega⟩]
    congr 1
   have hin:=af (fun h1 h2=>yZ (l:=l) (n:=N) (c:=cd (ap s) p (N+1)) hlt h1 h2);have Hhit:=af (fun h1 h2=>ni (l:=l) (V:=ap s) (sz:=8*s.size) (p:=p) (f:=14-N) (n:=N) h1 h2);have Hnext:=af (fun h1 h2=>lE (l:=l) (V:=ap s) (sz:=8*s.size) (p:=p) (f:=14-N) (n:=N) h1 h2);have Hshort:=af (fun h1=>jF (l:=l) (V:=ap s) (sz:=8*s.size) (p:=p) (f:=14-N) (n:=N) h1);have e15:15-N=(14-N)+1:=by omega
   have e14:14-N=15-(N+1):=by omega
   rw[e15]at HD;have hsym:Hid (jy l N (cd (ap s) p (N+1))=(aU l 15).getD (pl l N+(cd (ap s) p (N+1)-2*nx l N)) 0):=rfl;generalize many l ((N:Int)+1) l.length=M at *
   go_wp2_with fail;refine(jt b (p+N) s _ hrd (ae HS)).mono ?_;rintro e x1 ⟨rfl,hrd1,hk1⟩;rw[hbit];have hkp1:=hkp.trans hk1;have hbk1:=hbk.heap (hk1.2 _ (by have:=hbk.2.2.2.2.2;exact this) (by omega)) hk1.1.size;have hmc:=hbk1.2.2.1 (N+1) (by omega);rw[ae hmm]at hmc;have hsc:=hbk1.2.2.2.1;have hwl:=hbk1.2.2.2.2.2;have HIR:=af (ae Hr x1 hkp1);have hAF:=ae HGE;have hXB:=ae hcb;have hYB:=ae hnb;have hPP:=ae hpl;have hXX:=ae hcd;have hYY:=ae hnx;clear hrd hkp hk1 hbk hmm hbit Hr;generalize hX':cd (ap s) p (N+1)=X at *
   have EX:=af hX';clear hX';generalize cd (ap s) p N=A at *
   generalize pJ (ap s) (p+N)=D at *
   generalize hY':nx l (N+1)=Y at *
   have EY:=af hY';clear hY';generalize nx l N=F at *
   generalize hP':pl l (N+1)=P' at *
   have EP:=af hP';clear hP';generalize pl l N=P at *
   have hDI:(D:Int)<=1:=by omega
   have hMI:(M:Int)<=32768:=by omega
   have hPI:(P:Int)<=4500:=by omega
   have hrd2:=hrd1;obtain⟨q0,q1,q2,g0,g1,g2,hb3⟩:=hrd2;by_cases hsh:8*s.size<p+N+1
   ·
    rw[decide_eq_true (show 8*s.size<p+N+1 from hsh)]at q2;have Hn:Hid (dec l (ap s) (8*s.size) p=none):=by
     show dec l (ap s) (8*s.size) p=none;rw[ae HD];exact ae Hshort hsh
    have HKP:=af hkp1;clear hbk1 hXX hYY hPP hsh q0 q1 g0 g1 g2 hrd1 hkp1 hXB hYB hAF;go_wp2
    go_ret2
    unfold dc;rw[ae Hn];exact⟨ae HKP,rfl⟩
   ·
    rw[decide_eq_false (show ¬ 8*s.size<p+N+1 from hsh)]at q2;have HSH:=af hsh;by_cases hhit:X<Y
    ·
     have hxI:(A:Int)*2+(D:Int)<(F:Int)*2+(M:Int):=by omega
     have hin':=ae hin (by omega) hhit;have Hd:Hid (dec l (ap s) (8*s.size) p=some (jy l N X,p+N+1)):=by
      show dec l (ap s) (8*s.size) p=_;rw[ae HD];exact ae Hhit hsh hhit
     have hK:((P:Int)+((A:Int)*2+(D:Int))-(F:Int)*2)=((P+(X-2*F):Nat):Int):=by omega
     have hsn':=ae HSN;obtain⟨g,o,rfl,hg,hcc⟩:=ae HIR (by omega);have c0:=hcc (P+(X-2*F)) (by omega);rw[←ae hsym]at c0;have hKI:((P+(X-2*F):Nat):Int)<(sn:Int):=by omega
     generalize P+(X-2*F)=K at *
     generalize jy l N X=Z at *
     have HKP:=af hkp1;have HRD:=af hrd1;have hK0:(0:Int)<=(K:Int):=by omega
     clear hcc hbk1 hXX hYY hPP hsh q0 q1 g0 g1 g2 hrd1 hkp1 hXB hYB hAF hhit hin' hsn';go_wp2
     go_ret2
     unfold dc;rw[ae Hd];exact⟨ae HKP,rfl,ae HRD⟩
    ·
     have hxI:¬ (A:Int)*2+(D:Int)<(F:Int)*2+(M:Int):=by omega
     have Hd:Hid (dec l (ap s) (8*s.size) p=kF l (ap s) (8*s.size) p (15-(N+1)) (N+1)):=by
      show dec l (ap s) (8*s.size) p=_;rw[ae HD,ae Hnext hsh hhit,e14]
     have HKP:=af hkp1;have HRD:=af hrd1;have HBK:=af hbk1;have HYX:Hid (Y<=X):=by show Y<=X;omega
     have eX:Hid ((A:Int)*2+(D:Int)=(X:Int)):=by show(A:Int)*2+(D:Int)=(X:Int);omega
     have eY:Hid ((F:Int)*2+(M:Int)=(Y:Int)):=by show(F:Int)*2+(M:Int)=(Y:Int);omega
     have eP:Hid ((P:Int)+(M:Int)=(P':Int)):=by show(P:Int)+(M:Int)=(P':Int);omega
     clear hbk1 hXX hYY hPP hsh q0 q1 g0 g1 g2 hrd1 hkp1 hXB hYB hAF hhit HIR hsc;go_wp2;go_roundw
     case rel=>exact⟨N+1,by omega,by go_num,by rw[ae eX,ae EX],by rw[ae eY,ae EY],by rw[ae eP,ae EP],by rw[ae EX,ae EY];exact ae HYX,ae HRD,ae HKP,ae HBK,ae Hd⟩
     case measure=>simp[intOf];omega
  ·
   obtain rfl:N=15:=by omega
   have Hn:Hid (dec l (ap s) (8*s.size) p=none):=ae HD;go_wp2
   go_ret2
   unfold dc;rw[ae Hn];exact⟨hkp,rfl⟩
end Go.Proofs.YtbacpebljannfaaGreatDoor.Dist
namespace Go.Proofs.YtbacpebljannfaaGreatDoor.Len
open Go.Proofs.YtbacpebljannfaaGreatDoor
open Go.RowKit Corb
theorem bookGet_any(a sa:Option Addr)(cap n sn sc b p:Nat)(vc:Value)(C:Array Value)(l:List Int)(s:ByteArray)(w:World)(hC:C=(aM (.slice a n cap) vc (.slice sa sn sc) (bF l 15)).toArray)(hok:aE l=true)(hsn:(aU l 15).length=sn)
  (hs:s.size<=2000000) (hr:Rdr w b s p) (hp:p<=8*s.size) (hrow:∀W,aB b w W->aZ W sa (aU l 15)) :
  Calls Tryz.prog 231 #[.agg C,.pointer (some ⟨b,0,none⟩)] w (dc w b s (dec l (ap s) (8*s.size) p)):=by
 have hbl:=hr.lt;have hB0:=jd w (.slice a n cap) vc (.slice sa sn sc) (bF l 15) 199;rw[←hC]at hB0;have hk0:aB b w (w.alloc (.cells C 199)):=(aB.refl b w).alloc (by omega) _;have hr0:=hr.alloc (.cells C 199);have hsz0:w.heap.size<(w.alloc (.cells C 199)).heap.size:=by simp
 have HS:=af hs;have HP:=af hp;have HOK:=af hok;have HSN:=af hsn;have hsnI:(sn:Int)<=4500:=by
  have h1:=im l 15;have h2:=cF hok;have h3:15*l.length<=15*300:=Nat.mul_le_mul_left _ h2;omega
 have hspI:(p:Int)<=16000000:=by omega
 have Hr:=af hrow;clear hC hr hs hp hok hsn hrow;go_enter Tryz.func231,Tryz.ntmps231;go_wp2_with fail;generalize w.alloc (.cells C 199)=w0 at *
 go_loopw [4,5,6,7,8,9] (fun _ _ c f pc lg wr=>∃N:Nat,N<=15/\lg = .int .i64 ((N:Int)+1)/\c = .int .i64 (cd (ap s) p N:Nat)/\f = .int .i64 (nx l N:Nat)/\pc = .int .i64 (pl l N:Nat)/\nx l N<=cd (ap s) p N/\Rdr wr b s (p+N)/\aB b w wr/\dt wr w.heap.size (.slice a n cap) vc (.slice sa sn sc) (bF l 15)/\dec l (ap s) (8*s.size) p=kF l (ap s) (8*s.size) p (15-N) N) (fun _ _ _ _ _ lg _=>16-(intOf lg).toNat)
 case atStart=>exact⟨0,by omega,rfl,rfl,rfl,rfl,Nat.le_refl _,hr0,hk0,hB0,rfl⟩
 case round=>
  obtain⟨N,hN,rfl,rfl,rfl,rfl,hge,hrd,hkp,hbk,hdec⟩:=hrel;clear hr0 hk0 hB0 hsz0;have hNI:(N:Int)<=15:=by omega
  have c1:=af (sy (ap s) p N hN);have c2:=af (sX (ae HOK) N hN);have cI:(cd (ap s) p N:Int)<=32768:=by have:=ae c1;omega
  have nI:(nx l N:Int)<=32768:=by have:=ae c2;omega
  have HGE:=af hge;have HD:=af hdec;clear hge hdec;by_cases hlt:N<15
  ·
   have hN15:(N:Int)<15:=by omega
   have hd15:decide ((N:Int)+1<=15)=true:=decide_eq_true (by omega);have hbit:(ap s/2 ^ (p+N)%2:Nat)=pJ (ap s) (p+N):=rfl;have hb1:=pX (ap s) (p+N);have hcd:Hid (cd (ap s) p (N+1)=2*cd (ap s) p N+pJ (ap s) (p+N)):=rfl;have hcb:=af (sy (ap s) p (N+1) (by omega));have hnx:Hid (nx l (N+1)=2*nx l N+many l ((N:Int)+1) l.length):=rfl;have hpl:Hid (pl l (N+1)=pl l N+many l ((N:Int)+1) l.length):=rfl;have hnb:=af (sX (ae HOK) (N+1) (by omega));have hpb:(pl l (N+1):Int)<=4500:=by
    have h1:=Ez l (N+1);have h2:=cF (ae HOK);have h3:(N+1)*l.length<=15*300:=Nat.mul_le_mul (by omega) h2;omega
   have hmm:Hid (bF l 15 (N+1)=many l ((N:Int)+1) l.length):=by
    show bF l 15 (N+1)=_;unfold bF;rw[if_pos ⟨by omega,by omega⟩]
    congr 1
   have hin:=af (fun h1 h2=>yZ (l:=l) (n:=N) (c:=cd (ap s) p (N+1)) hlt h1 h2);have Hhit:=af (fun h1 h2=>ni (l:=l) (V:=ap s) (sz:=8*s.size) (p:=p) (f:=14-N) (n:=N) h1 h2);have Hnext:=af (fun h1 h2=>lE (l:=l) (V:=ap s) (sz:=8*s.size) (p:=p) (f:=14-N) (n:=N) h1 h2);have Hshort:=af (fun h1=>jF (l:=l) (V:=ap s) (sz:=8*s.size) (p:=p) (f:=14-N) (n:=N) h1);have e15:15-N=(14-N)+1:=by omega
   have e14:14-N=15-(N+1):=by omega
   rw[e15]at HD;have hsym:Hid (jy l N (cd (ap s) p (N+1))=(aU l 15).getD (pl l N+(cd (ap s) p (N+1)-2*nx l N)) 0):=rfl;generalize many l ((N:Int)+1) l.length=M at *
   go_wp2_with fail;refine(jt b (p+N) s _ hrd (ae HS)).mono ?_;rintro e x1 ⟨rfl,hrd1,hk1⟩;rw[hbit];have hkp1:=hkp.trans hk1;have hbk1:=hbk.heap (hk1.2 _ (by have:=hbk.2.2.2.2.2;exact this) (by omega)) hk1.1.size;have hmc:=hbk1.2.2.1 (N+1) (by omega);rw[ae hmm]at hmc;have hsc:=hbk1.2.2.2.1;have hwl:=hbk1.2.2.2.2.2;have HIR:=af (ae Hr x1 hkp1);have hAF:=ae HGE;have hXB:=ae hcb;have hYB:=ae hnb;have hPP:=ae hpl;have hXX:=ae hcd;have hYY:=ae hnx;clear hrd hkp hk1 hbk hmm hbit Hr;generalize hX':cd (ap s) p (N+1)=X at *
   have EX:=af hX';clear hX';generalize cd (ap s) p N=A at *
   generalize pJ (ap s) (p+N)=D at *
   generalize hY':nx l (N+1)=Y at *
   have EY:=af hY';clear hY';generalize nx l N=F at *
   generalize hP':pl l (N+1)=P' at *
   have EP:=af hP';clear hP';generalize pl l N=P at *
   have hDI:(D:Int)<=1:=by omega
   have hMI:(M:Int)<=32768:=by omega
   have hPI:(P:Int)<=4500:=by omega
   have hrd2:=hrd1;obtain⟨q0,q1,q2,g0,g1,g2,hb3⟩:=hrd2;by_cases hsh:8*s.size<p+N+1
   ·
    rw[decide_eq_true (show 8*s.size<p+N+1 from hsh)]at q2;have Hn:Hid (dec l (ap s) (8*s.size) p=none):=by
     show dec l (ap s) (8*s.size) p=none;rw[ae HD];exact ae Hshort hsh
    have HKP:=af hkp1;clear hbk1 hXX hYY hPP hsh q0 q1 g0 g1 g2 hrd1 hkp1 hXB hYB hAF;go_wp2
    go_ret2
    unfold dc;rw[ae Hn];exact⟨ae HKP,rfl⟩
   ·
    rw[decide_eq_false (show ¬ 8*s.size<p+N+1 from hsh)]at q2;have HSH:=af hsh;by_cases hhit:X<Y
    ·
     have hxI:(A:Int)*2+(D:Int)<(F:Int)*2+(M:Int):=by omega
     have hin':=ae hin (by omega) hhit;have Hd:Hid (dec l (ap s) (8*s.size) p=some (jy l N X,p+N+1)):=by
      show dec l (ap s) (8*s.size) p=_;rw[ae HD];exact ae Hhit hsh hhit
     have hK:((P:Int)+((A:Int)*2+(D:Int))-(F:Int)*2)=((P+(X-2*F):Nat):Int):=by omega
     have hsn':=ae HSN;obtain⟨g,o,rfl,hg,hcc⟩:=ae HIR (by omega);have c0:=hcc (P+(X-2*F)) (by omega);rw[←ae hsym]at c0;have hKI:((P+(X-2*F):Nat):Int)<(sn:Int):=by omega
     generalize P+(X-2*F)=K at *
     generalize jy l N X=Z at *
     have HKP:=af hkp1;have HRD:=af hrd1;have hK0:(0:Int)<=(K:Int):=by omega
     clear hcc hbk1 hXX hYY hPP hsh q0 q1 g0 g1 g2 hrd1 hkp1 hXB hYB hAF hhit hin' hsn';go_wp2
     go_ret2
     unfold dc;rw[ae Hd];exact⟨ae HKP,rfl,ae HRD⟩
    ·
     have hxI:¬ (A:Int)*2+(D:Int)<(F:Int)*2+(M:Int):=by omega
     have Hd:Hid (dec l (ap s) (8*s.size) p=kF l (ap s) (8*s.size) p (15-(N+1)) (N+1)):=by
      show dec l (ap s) (8*s.size) p=_;rw[ae HD,ae Hnext hsh hhit,e14]
     have HKP:=af hkp1;have HRD:=af hrd1;have HBK:=af hbk1;have HYX:Hid (Y<=X):=by show Y<=X;omega
     have eX:Hid ((A:Int)*2+(D:Int)=(X:Int)):=by show(A:Int)*2+(D:Int)=(X:Int);omega
     have eY:Hid ((F:Int)*2+(M:Int)=(Y:Int)):=by show(F:Int)*2+(M:Int)=(Y:Int);omega
     have eP:Hid ((P:Int)+(M:Int)=(P':Int)):=by show(P:Int)+(M:Int)=(P':Int);omega
     clear hbk1 hXX hYY hPP hsh q0 q1 g0 g1 g2 hrd1 hkp1 hXB hYB hAF hhit HIR hsc;go_wp2;go_roundw
     case rel=>exact⟨N+1,by omega,by go_num,by rw[ae eX,ae EX],by rw[ae eY,ae EY],by rw[ae eP,ae EP],by rw[ae EX,ae EY];exact ae HYX,ae HRD,ae HKP,ae HBK,ae Hd⟩
     case measure=>simp[intOf];omega
  ·
   obtain rfl:N=15:=by omega
   have Hn:Hid (dec l (ap s) (8*s.size) p=none):=ae HD;go_wp2
   go_ret2
   unfold dc;rw[ae Hn];exact⟨hkp,rfl⟩
end Go.Proofs.YtbacpebljannfaaGreatDoor.Len
namespace Go.Proofs.YtbacpebljannfaaGreatDoor
open Go.RowKit Corb
theorem Rdr.three{w:World}{b p:Nat}{s:ByteArray}(h:Rdr w b s p)(hp:8*s.size<p):Three w b (.string s) (.int .i64 (min p (8*s.size):Nat)) (.bool true):=by
 unfold Rdr at h;rwa[a0s hp]at h
end Go.Proofs.YtbacpebljannfaaGreatDoor
