/- Of what the proof is made: 4 texts, one behind the other. -/
import Derived.Test.YtkdlcomfpffhhaaGreatDoorM11
import Derived.Test.YtkdlcomfpffhhaaGreatDoorM8
import Derived.Test.YtkdlcomfpffhhaaGreatDoorM9
set_option maxRecDepth 100000
set_option linter.unusedSimpArgs false
set_option linter.unusedVariables false
set_option maxHeartbeats 3200000
namespace Go.Proofs.YtkdlcomfpffhhaaGreatDoor
open Go.RowKit Corb
variable {V f n p sz:Nat}{l:List Int}
def tB(V p:Nat):Nat:=V/2 ^ p%2
theorem Cq(V p:Nat):tB V p<=1:=by unfold tB;omega
def cd(V p:Nat):Nat->Nat
 | 0=>0
 | n+1=>2*cd V p n+tB V (p+n)
theorem NK(V p n:Nat):cd V p n<p2 n:=by
 induction n with
 | zero=>simp[cd,p2]
 | succ n ih=>
  have:=Cq V (p+n);simp only[cd];rw[lM];omega
def sZ(l:List Int)(n c:Nat):Int:=(cK l 15).getD (pl l n+(c-2*nx l n)) 0
def mx(l:List Int)(V sz p:Nat):Nat->Nat->Option (Int×Nat)
 | 0,_=>none
 | f+1,n=>if sz<p+n+1 then none else if cd V p (n+1)<nx l (n+1)then some (sZ l n (cd V p (n+1)),p+n+1)else mx l V sz p f (n+1)
def dec(l:List Int)(V sz p:Nat):Option (Int×Nat):=mx l V sz p 15 0
theorem pw{c:Nat}(f:n<15)(g:2*nx l n<=c)(h2:c<nx l (n+1)):∃i,i<l.length/\l.getD i 0=(n:Int)+1/\cY l i=c/\sZ l n c=(i:Int):=by
 have e:nx l (n+1)=2*nx l n+many l ((n:Int)+1) l.length:=rfl;obtain⟨i,b,a,d⟩:=Lq l ((n:Int)+1) l.length (c-2*nx l n) (by omega);refine⟨i,b,a,?_,?_⟩
 .
  unfold cY;rw[a,d];have:((n:Int)+1).toNat-1=n:=by omega
  rw[this];omega
 . unfold sZ;rw[←d];exact FU l 15 n i b a f
theorem DC{i j:Nat}(a:l.getD i 0=l.getD j 0)(b:cY l i=cY l j):i=j:=by
 unfold cY at b;rw[a]at b;rcases Nat.lt_trichotomy i j with h|h|h
 . have:=nT a j h;omega
 . exact h
 . have:=nT a.symm i h;rw[a]at this;omega
theorem N7(l:List Int)(N:Nat):pl l N<=N*l.length:=by rw[←om];exact s9 l N
theorem MF(a:ay l=true)(N:Nat)(b:N<=15):nx l N<=32768:=by
 have h:=MG a N b;have h2:=nX N 15 b;have c:p2 15=32768:=rfl;omega
theorem GX(V p n:Nat)(a:n<=15):cd V p n<32768:=by
 have h:=NK V p n;have h2:=nX n 15 a;have b:p2 15=32768:=rfl;omega
theorem LS (l : List Int) : ∀ a b, a ≤ b → pl l a ≤ pl l b := by
  intro a b hab
  induction b with
  | zero => have : a = 0 := by omega
            rw [this]; exact a0a _
  | succ b ihb =>
    by_cases e2 : a = b + 1
    . rw [e2]; exact a0a _
    . have := ihb (by omega)
      simp only [pl]; omega
theorem Nr{c:Nat}(b:n<15)(a:2*nx l n<=c)(h2:c<nx l (n+1)):pl l n+(c-2*nx l n)<(cK l 15).length:=by
 have e:nx l (n+1)=2*nx l n+many l ((n:Int)+1) l.length:=rfl;have e2:pl l (n+1)=pl l n+many l ((n:Int)+1) l.length:=rfl;have:=LS l (n+1) 15 (by omega);rw[om];omega
theorem fe.heap{w w':World}{b:Nat}{vl vc vs:Value}{m:Nat->Nat}(h:fe w b vl vc vs m)(c:w'.heap[b]?=w.heap[b]?)(g:w.heap.size<=w'.heap.size):fe w' b vl vc vs m:=by
 obtain⟨c0,c1,c2,c3,f,e⟩:=h;exact⟨(World.cell?_of_block (a:=⟨b,0,none⟩) c).trans c0,(World.cell?_of_block (a:=⟨b,1,none⟩) c).trans c1,fun j d=>(World.cell?_of_block (a:=⟨b,2+j,none⟩) c).trans (c2 j d),(World.cell?_of_block (a:=⟨b,18,none⟩) c).trans c3,fun o=>(World.frozen?_of_block (a:=⟨b,o,none⟩) c).trans (f o),by omega⟩
theorem bn.keep{w w':World}{a:Option Addr}{b:Nat}(h:bn w a l)(d:aw b w w')(k:∀g o,a=some ⟨g,o,none⟩->g≠b):bn w' a l:=by
 intro f;obtain⟨g,o,e,c,j⟩:=h f;exact⟨g,o,e,a0i c d.1.size,fun i m=>(World.cell?_of_block (a:=⟨g,o+i,none⟩) (d.2 g c (k g o e))).trans (j i m)⟩
theorem my(h:sz<p+n+1):mx l V sz p (f+1) n=none:=by simp only[mx];rw[a0e h]
theorem rp(h:¬ sz<p+n+1)(h2:cd V p (n+1)<nx l (n+1)):mx l V sz p (f+1) n=some (sZ l n (cd V p (n+1)),p+n+1):=by simp only[mx];rw[a0d h,a0e h2]
theorem oB(h:¬ sz<p+n+1)(h2:¬ cd V p (n+1)<nx l (n+1)):mx l V sz p (f+1) n=mx l V sz p f (n+1):=by simp only[mx];rw[a0d h,a0d h2]
def lp(w:World)(b:Nat)(s:ByteArray)(d:Option (Int×Nat))(e:Ending)(w':World):Prop:=
 aw b w w'/\match d with
  | none=>e = .returned (.tuple #[.int .i64 0,.bool false])
  | some (i,q)=>e = .returned (.tuple #[.int .i64 i,.bool true])/\Rdr w' b s q
end Go.Proofs.YtkdlcomfpffhhaaGreatDoor
namespace Go.Proofs.YtkdlcomfpffhhaaGreatDoor.Bkx
open Go.Proofs.YtkdlcomfpffhhaaGreatDoor
open Go.RowKit Corb
theorem bookGet_any(B:BkI)(hB:Bks B)(a sa:Option Addr)(cap n sn sc b p:Nat)(vc:Value)(C:Array Value)(l:List Int)(s:ByteArray)(w:World)(hC:C=(aW (.slice a n cap) vc (.slice sa sn sc) (fF l 15)).toArray)(ac:ay l=true)(a9:(cK l 15).length=sn)
  (hs:s.size<=2000000) (hr:Rdr w b s p) (hp:p<=8*s.size) (z:∀W,aw b w W->bn W sa (cK l 15)) :
  Calls Tryz.prog B.g #[.agg C,.pointer (some ⟨b,0,none⟩)] w (lp w b s (dec l (ai s) (8*s.size) p)):=by
 have c5:=hr.lt;have t:=wT w (.slice a n cap) vc (.slice sa sn sc) (fF l 15) B.T;rw[←hC]at t;have aa:aw b w (w.alloc (.cells C B.T)):=(aw.refl b w).alloc (by omega) _;have ad:=hr.alloc (.cells C B.T);have E:w.heap.size<(w.alloc (.cells C B.T)).heap.size:=by simp
 have HS:=af hs;have HP:=af hp;have G:=af ac;have be:=af a9;have ck:(sn:Int)<=4500:=by
  have r:=s9 l 15;have h2:=bC ac;have h3:15*l.length<=15*300:=Nat.mul_le_mul_left _ h2;omega
 have cm:(p:Int)<=16000000:=by omega
 have Hr:=af z;clear hC hr hs hp ac a9 z;obtain⟨w0,hw0⟩:∃x,w.alloc (.cells C B.T)=x:=⟨_,rfl⟩;rw[hw0]at t aa ad E;rcases hB with rfl|rfl|rfl;all_goals
  simp only[bkL,bkD,bkN]at hw0 ⊢;have bk:=af hw0;clear hw0
  (first|go_enter Tryz.func286,Tryz.ntmps286|go_enter Tryz.func292,Tryz.ntmps292|go_enter Tryz.func290,Tryz.ntmps290)
  go_wp2_with fail;rw[ae bk]
  go_loopw [4,5,6,7,8,9] (fun _ _ c f pc lg wr=>∃N:Nat,N<=15/\lg = .int .i64 ((N:Int)+1)/\c = .int .i64 (cd (ai s) p N:Nat)/\f = .int .i64 (nx l N:Nat)/\pc = .int .i64 (pl l N:Nat)/\nx l N<=cd (ai s) p N/\Rdr wr b s (p+N)/\aw b w wr/\fe wr w.heap.size (.slice a n cap) vc (.slice sa sn sc) (fF l 15)/\dec l (ai s) (8*s.size) p=mx l (ai s) (8*s.size) p (15-N) N) (fun _ _ _ _ _ lg _=>16-(intOf lg).toNat)
  case atStart=>exact⟨0,by omega,rfl,rfl,rfl,rfl,Nat.le_refl _,ad,aa,t,rfl⟩
  case round=>
   obtain⟨N,hN,rfl,rfl,rfl,rfl,a3,a6,ab,U,y⟩:=hrel;clear ad aa t E;have ct:(N:Int)<=15:=by omega
   have c1:=af (GX (ai s) p N hN);have c2:=af (MF (ae G) N hN);have cI:(cd (ai s) p N:Int)<=32768:=by have:=ae c1;omega
   have nI:(nx l N:Int)<=32768:=by have:=ae c2;omega
   have bd:=af a3;have HD:=af y;clear a3 y;by_cases b3:N<15
   .
    have cg:(N:Int)<15:=by omega
    have ch:decide ((N:Int)+1<=15)=true:=decide_eq_true (by omega);have v:(ai s/2 ^ (p+N)%2:Nat)=tB (ai s) (p+N):=rfl;have cv:=Cq (ai s) (p+N);have b1:Hid (cd (ai s) p (N+1)=2*cd (ai s) p N+tB (ai s) (p+N)):=rfl;have b0:=af (GX (ai s) p (N+1) (by omega));have b6:Hid (nx l (N+1)=2*nx l N+many l ((N:Int)+1) l.length):=rfl;have b7:Hid (pl l (N+1)=pl l N+many l ((N:Int)+1) l.length):=rfl;have b5:=af (MF (ae G) (N+1) (by omega));have c6:(pl l (N+1):Int)<=4500:=by
     have r:=N7 l (N+1);have h2:=bC (ae G);have h3:(N+1)*l.length<=15*300:=Nat.mul_le_mul (by omega) h2;omega
    have a5:Hid (fF l 15 (N+1)=many l ((N:Int)+1) l.length):=by
     show fF l 15 (N+1)=_;unfold fF;rw[if_pos ⟨by omega,by omega⟩]
     congr 1
    have b2:=af (fun r h2=>Nr (l:=l) (n:=N) (c:=cd (ai s) p (N+1)) b3 r h2);have an:=af (fun r h2=>rp (l:=l) (V:=ai s) (sz:=8*s.size) (p:=p) (f:=14-N) (n:=N) r h2);have I:=af (fun r h2=>oB (l:=l) (V:=ai s) (sz:=8*s.size) (p:=p) (f:=14-N) (n:=N) r h2);have q:=af (fun r=>my (l:=l) (V:=ai s) (sz:=8*s.size) (p:=p) (f:=14-N) (n:=N) r);have e15:15-N=(14-N)+1:=by omega
    have e14:14-N=15-(N+1):=by omega
    rw[e15]at HD;have bb:Hid (sZ l N (cd (ai s) p (N+1))=(cK l 15).getD (pl l N+(cd (ai s) p (N+1)-2*nx l N)) 0):=rfl;generalize many l ((N:Int)+1) l.length=M at *
    go_wp2_with fail;refine(pf b (p+N) s _ a6 (ae HS)).mono ?_;rintro e x1 ⟨rfl,i,u⟩;rw[v];have h:=ab.trans u;have d:=U.heap (u.2 _ (by have:=U.2.2.2.2.2;exact this) (by omega)) u.1.size;have b4:=d.2.2.1 (N+1) (by omega);rw[ae a5]at b4;have b8:=d.2.2.2.1;have c7:=d.2.2.2.2.2;have al:=af (ae Hr x1 h);have J:=ae bd;have O:=ae b0;have R:=ae b5;have L:=ae b7;have Q:=ae b1;have S:=ae b6;clear a6 ab u U a5 v Hr;generalize a0:cd (ai s) p (N+1)=X at *
    have EX:=af a0;clear a0;generalize cd (ai s) p N=A at *
    generalize tB (ai s) (p+N)=D at *
    generalize a1:nx l (N+1)=Y at *
    have EY:=af a1;clear a1;generalize nx l N=F at *
    generalize ao:pl l (N+1)=P' at *
    have EP:=af ao;clear ao;generalize pl l N=P at *
    have cp:(D:Int)<=1:=by omega
    have cs:(M:Int)<=32768:=by omega
    have cu:(P:Int)<=4500:=by omega
    have a7:=i;obtain⟨q0,q1,q2,g0,g1,g2,cy⟩:=a7;by_cases j:8*s.size<p+N+1
    .
     rw[decide_eq_true (show 8*s.size<p+N+1 from j)]at q2;have Hn:Hid (dec l (ai s) (8*s.size) p=none):=by
      show dec l (ai s) (8*s.size) p=none;rw[ae HD];exact ae q j
     have m:=af h;clear d Q S L j q0 q1 g0 g1 g2 i h O R J;go_wp2
     go_ret2
     unfold lp;rw[ae Hn];exact⟨ae m,rfl⟩
    .
     rw[decide_eq_false (show ¬ 8*s.size<p+N+1 from j)]at q2;have co:=af j;by_cases k:X<Y
     .
      have cc:(A:Int)*2+(D:Int)<(F:Int)*2+(M:Int):=by omega
      have a4:=ae b2 (by omega) k;have Hd:Hid (dec l (ai s) (8*s.size) p=some (sZ l N X,p+N+1)):=by
       show dec l (ai s) (8*s.size) p=_;rw[ae HD];exact ae an j k
      have hK:((P:Int)+((A:Int)*2+(D:Int))-(F:Int)*2)=((P+(X-2*F):Nat):Int):=by omega
      have ba:=ae be;obtain⟨g,o,rfl,hg,a2⟩:=ae al (by omega);have c0:=a2 (P+(X-2*F)) (by omega);rw[←ae bb]at c0;have cr:((P+(X-2*F):Nat):Int)<(sn:Int):=by omega
      generalize P+(X-2*F)=K at *
      generalize sZ l N X=Z at *
      have m:=af h;have H:=af i;have cq:(0:Int)<=(K:Int):=by omega
      clear a2 d Q S L j q0 q1 g0 g1 g2 i h O R J k a4 ba;go_wp2
      go_ret2
      unfold lp;rw[ae Hd];exact⟨ae m,rfl,ae H⟩
     .
      have cc:¬ (A:Int)*2+(D:Int)<(F:Int)*2+(M:Int):=by omega
      have Hd:Hid (dec l (ai s) (8*s.size) p=mx l (ai s) (8*s.size) p (15-(N+1)) (N+1)):=by
       show dec l (ai s) (8*s.size) p=_;rw[ae HD,ae I j k,e14]
      have m:=af h;have H:=af i;have bc:=af d;have bs:Hid (Y<=X):=by show Y<=X;omega
      have eX:Hid ((A:Int)*2+(D:Int)=(X:Int)):=by show(A:Int)*2+(D:Int)=(X:Int);omega
      have eY:Hid ((F:Int)*2+(M:Int)=(Y:Int)):=by show(F:Int)*2+(M:Int)=(Y:Int);omega
      have eP:Hid ((P:Int)+(M:Int)=(P':Int)):=by show(P:Int)+(M:Int)=(P':Int);omega
      clear d Q S L j q0 q1 g0 g1 g2 i h O R J k al b8;go_wp2;go_roundw
      case rel=>exact⟨N+1,by omega,by go_num,by rw[ae eX,ae EX],by rw[ae eY,ae EY],by rw[ae eP,ae EP],by rw[ae EX,ae EY];exact ae bs,ae H,ae m,ae bc,ae Hd⟩
      case measure=>simp[intOf];omega
   .
    obtain rfl:N=15:=by omega
    have Hn:Hid (dec l (ai s) (8*s.size) p=none):=ae HD;go_wp2
    go_ret2
    unfold lp;rw[ae Hn];exact⟨ab,rfl⟩
end Go.Proofs.YtkdlcomfpffhhaaGreatDoor.Bkx
namespace Go.Proofs.YtkdlcomfpffhhaaGreatDoor
open Go.RowKit Corb
theorem Rdr.three{w:World}{b p:Nat}{s:ByteArray}(h:Rdr w b s p)(a:8*s.size<p):Three w b (.string s) (.int .i64 (min p (8*s.size):Nat)) (.bool true):=by
 unfold Rdr at h;rwa[a0w a]at h
theorem bf(w:World)(b o:Nat)(u:Value)(d:o<3:=by omega):aw b w (w.setCell ⟨b,o,none⟩ u):=
 ⟨ap (a0c _ _) (a0a _) _,fun k _ a=>a0T w ⟨b,o,none⟩ u k a,fun j c=>⟨by rw[World.cell?_setCell_other _ _ _ _ (by simp only[ne_eq,a0F,a1a,a2A];omega)],by simp⟩⟩
end Go.Proofs.YtkdlcomfpffhhaaGreatDoor
