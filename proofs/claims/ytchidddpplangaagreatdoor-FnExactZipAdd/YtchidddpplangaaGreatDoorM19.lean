/- Of what the proof is made: 4 texts, one behind the other. -/
import Derived.Test.YtchidddpplangaaGreatDoorM12
import Derived.Test.YtchidddpplangaaGreatDoorRb1
import Derived.Test.YtchidddpplangaaGreatDoorM10
set_option maxRecDepth 100000
set_option linter.unusedSimpArgs false
set_option linter.unusedVariables false
set_option maxHeartbeats 3200000
namespace Go.Proofs.YtchidddpplangaaGreatDoor
open Go.RowKit Corb
variable {V f n p sz:Nat}{l:List Int}
def uP(V p:Nat):Nat:=V/2 ^ p%2
theorem DZ(V p:Nat):uP V p<=1:=by unfold uP;omega
def cd(V p:Nat):Nat->Nat
 | 0=>0
 | n+1=>2*cd V p n+uP V (p+n)
theorem NX(V p n:Nat):cd V p n<p2 n:=by
 induction n with
 | zero=>simp[cd,p2]
 | succ n ih=>
  have:=DZ V (p+n);simp only[cd];rw[lj];omega
def uD(l:List Int)(n c:Nat):Int:=(di l 15).getD (pl l n+(c-2*nx l n)) 0
def nK(l:List Int)(V sz p:Nat):Nat->Nat->Option (Int×Nat)
 | 0,_=>none
 | f+1,n=>if sz<p+n+1 then none else if cd V p (n+1)<nx l (n+1)then some (uD l n (cd V p (n+1)),p+n+1)else nK l V sz p f (n+1)
def dec(l:List Int)(V sz p:Nat):Option (Int×Nat):=nK l V sz p 15 0
theorem qA{c:Nat}(f:n<15)(g:2*nx l n<=c)(h2:c<nx l (n+1)):∃i,i<l.length/\l.getD i 0=(n:Int)+1/\dz l i=c/\uD l n c=(i:Int):=by
 have e:nx l (n+1)=2*nx l n+many l ((n:Int)+1) l.length:=rfl;obtain⟨i,b,a,d⟩:=Ma l ((n:Int)+1) l.length (c-2*nx l n) (by omega);refine⟨i,b,a,?_,?_⟩
 .
  unfold dz;rw[a,d];have:((n:Int)+1).toNat-1=n:=by omega
  rw[this];omega
 . unfold uD;rw[←d];exact GL l 15 n i b a f
theorem EI{i j:Nat}(a:l.getD i 0=l.getD j 0)(b:dz l i=dz l j):i=j:=by
 unfold dz at b;rw[a]at b;rcases Nat.lt_trichotomy i j with h|h|h
 . have:=oY a j h;omega
 . exact h
 . have:=oY a.symm i h;rw[a]at this;omega
theorem Oc(l:List Int)(N:Nat):pl l N<=N*l.length:=by rw[←pq];exact uE l N
theorem MX(a:ar l=true)(N:Nat)(b:N<=15):nx l N<=32768:=by
 have h:=MY a N b;have h2:=pd N 15 b;have c:p2 15=32768:=rfl;omega
theorem Iz(V p n:Nat)(a:n<=15):cd V p n<32768:=by
 have h:=NX V p n;have h2:=pd n 15 a;have b:p2 15=32768:=rfl;omega
theorem Mk (l : List Int) : ∀ a b, a ≤ b → pl l a ≤ pl l b := by
  intro a b hab
  induction b with
  | zero => have : a = 0 := by omega
            rw [this]; exact a0a _
  | succ b ihb =>
    by_cases e2 : a = b + 1
    . rw [e2]; exact a0a _
    . have := ihb (by omega)
      simp only [pl]; omega
theorem NE{c:Nat}(b:n<15)(a:2*nx l n<=c)(h2:c<nx l (n+1)):pl l n+(c-2*nx l n)<(di l 15).length:=by
 have e:nx l (n+1)=2*nx l n+many l ((n:Int)+1) l.length:=rfl;have e2:pl l (n+1)=pl l n+many l ((n:Int)+1) l.length:=rfl;have:=Mk l (n+1) 15 (by omega);rw[pq];omega
theorem fI.heap{w w':World}{b:Nat}{vl vc vs:Value}{m:Nat->Nat}(h:fI w b vl vc vs m)(c:w'.heap[b]?=w.heap[b]?)(g:w.heap.size<=w'.heap.size):fI w' b vl vc vs m:=by
 obtain⟨c0,c1,c2,c3,f,e⟩:=h;exact⟨(World.cell?_of_block (a:=⟨b,0,none⟩) c).trans c0,(World.cell?_of_block (a:=⟨b,1,none⟩) c).trans c1,fun j d=>(World.cell?_of_block (a:=⟨b,2+j,none⟩) c).trans (c2 j d),(World.cell?_of_block (a:=⟨b,18,none⟩) c).trans c3,fun o=>(World.frozen?_of_block (a:=⟨b,o,none⟩) c).trans (f o),by omega⟩
theorem aY.keep{w w':World}{a:Option Addr}{b:Nat}(h:aY w a l)(d:au b w w')(k:∀g o,a=some ⟨g,o,none⟩->g≠b):aY w' a l:=by
 intro f;obtain⟨g,o,e,c,j⟩:=h f;exact⟨g,o,e,a0m c d.1.size,fun i m=>(World.cell?_of_block (a:=⟨g,o+i,none⟩) (d.2 g c (k g o e))).trans (j i m)⟩
theorem nM(h:sz<p+n+1):nK l V sz p (f+1) n=none:=by simp only[nK];rw[a0e h]
theorem sL(h:¬ sz<p+n+1)(h2:cd V p (n+1)<nx l (n+1)):nK l V sz p (f+1) n=some (uD l n (cd V p (n+1)),p+n+1):=by simp only[nK];rw[a0d h,a0e h2]
theorem pI(h:¬ sz<p+n+1)(h2:¬ cd V p (n+1)<nx l (n+1)):nK l V sz p (f+1) n=nK l V sz p f (n+1):=by simp only[nK];rw[a0d h,a0d h2]
def mB(w:World)(b:Nat)(s:ByteArray)(d:Option (Int×Nat))(e:Ending)(w':World):Prop:=
 au b w w'/\match d with
  | none=>e = .returned (.tuple #[.int .i64 0,.bool false])
  | some (i,q)=>e = .returned (.tuple #[.int .i64 i,.bool true])/\Rdr w' b s q
end Go.Proofs.YtchidddpplangaaGreatDoor
namespace Go.Proofs.YtchidddpplangaaGreatDoor.Bkx
open Go.Proofs.YtchidddpplangaaGreatDoor
open Go.RowKit Corb
theorem bookGet_any(B:BkI)(hB:Bks B)(a sa:Option Addr)(cap n sn sc b p:Nat)(vc:Value)(C:Array Value)(l:List Int)(s:ByteArray)(w:World)(hC:C=(aZ (.slice a n cap) vc (.slice sa sn sc) (gg l 15)).toArray)(ad:ar l=true)(bb:(di l 15).length=sn)
  (hs:s.size<=2000000) (hr:Rdr w b s p) (hp:p<=8*s.size) (z:∀W,au b w W->aY W sa (di l 15)) :
  Calls Tryz.prog B.g #[.agg C,.pointer (some ⟨b,0,none⟩)] w (mB w b s (dec l (aj s) (8*s.size) p)):=by
 have c8:=hr.lt;have t:=yu w (.slice a n cap) vc (.slice sa sn sc) (gg l 15) B.T;rw[←hC]at t;have aa:au b w (w.alloc (.cells C B.T)):=(au.refl b w).alloc (by omega) _;have al:=hr.alloc (.cells C B.T);have E:w.heap.size<(w.alloc (.cells C B.T)).heap.size:=by simp
 have HS:=ae hs;have HP:=ae hp;have G:=ae ad;have bl:=ae bb;have ch:(sn:Int)<=4500:=by
  have r:=uE l 15;have h2:=bV ad;have h3:15*l.length<=15*300:=Nat.mul_le_mul_left _ h2;omega
 have co:(p:Int)<=16000000:=by omega
 have Hr:=ae z;clear hC hr hs hp ad bb z;obtain⟨w0,hw0⟩:∃x,w.alloc (.cells C B.T)=x:=⟨_,rfl⟩;rw[hw0]at t aa al E;rcases hB with rfl|rfl|rfl;all_goals
  simp only[bkL,bkD,bkN]at hw0 ⊢;have bs:=ae hw0;clear hw0
  (first|go_enter Tryz.func250,Tryz.ntmps250|go_enter Tryz.func256,Tryz.ntmps256|go_enter Tryz.func254,Tryz.ntmps254)
  go_wp2_with fail;rw[ab bs]
  go_loopw [4,5,6,7,8,9] (fun _ _ c f pc lg wr=>∃N:Nat,N<=15/\lg = .int .i64 ((N:Int)+1)/\c = .int .i64 (cd (aj s) p N:Nat)/\f = .int .i64 (nx l N:Nat)/\pc = .int .i64 (pl l N:Nat)/\nx l N<=cd (aj s) p N/\Rdr wr b s (p+N)/\au b w wr/\fI wr w.heap.size (.slice a n cap) vc (.slice sa sn sc) (gg l 15)/\dec l (aj s) (8*s.size) p=nK l (aj s) (8*s.size) p (15-N) N) (fun _ _ _ _ _ lg _=>16-(intOf lg).toNat)
  case atStart=>exact⟨0,by omega,rfl,rfl,rfl,rfl,Nat.le_refl _,al,aa,t,rfl⟩
  case round=>
   obtain⟨N,hN,rfl,rfl,rfl,rfl,a6,a9,ac,U,y⟩:=hrel;clear al aa t E;have cy:(N:Int)<=15:=by omega
   have c1:=ae (Iz (aj s) p N hN);have c2:=ae (MX (ab G) N hN);have cI:(cd (aj s) p N:Int)<=32768:=by have:=ab c1;omega
   have nI:(nx l N:Int)<=32768:=by have:=ab c2;omega
   have bk:=ae a6;have HD:=ae y;clear a6 y;by_cases b4:N<15
   .
    have cc:(N:Int)<15:=by omega
    have cg:decide ((N:Int)+1<=15)=true:=decide_eq_true (by omega);have v:(aj s/2 ^ (p+N)%2:Nat)=uP (aj s) (p+N):=rfl;have c6:=DZ (aj s) (p+N);have b2:Hid (cd (aj s) p (N+1)=2*cd (aj s) p N+uP (aj s) (p+N)):=rfl;have b1:=ae (Iz (aj s) p (N+1) (by omega));have b7:Hid (nx l (N+1)=2*nx l N+many l ((N:Int)+1) l.length):=rfl;have b8:Hid (pl l (N+1)=pl l N+many l ((N:Int)+1) l.length):=rfl;have b6:=ae (MX (ab G) (N+1) (by omega));have c9:(pl l (N+1):Int)<=4500:=by
     have r:=Oc l (N+1);have h2:=bV (ab G);have h3:(N+1)*l.length<=15*300:=Nat.mul_le_mul (by omega) h2;omega
    have a8:Hid (gg l 15 (N+1)=many l ((N:Int)+1) l.length):=by
     show gg l 15 (N+1)=_;unfold gg;rw[if_pos ⟨by omega,by omega⟩]
     congr 1
    have b3:=ae (fun r h2=>NE (l:=l) (n:=N) (c:=cd (aj s) p (N+1)) b4 r h2);have a1:=ae (fun r h2=>sL (l:=l) (V:=aj s) (sz:=8*s.size) (p:=p) (f:=14-N) (n:=N) r h2);have I:=ae (fun r h2=>pI (l:=l) (V:=aj s) (sz:=8*s.size) (p:=p) (f:=14-N) (n:=N) r h2);have q:=ae (fun r=>nM (l:=l) (V:=aj s) (sz:=8*s.size) (p:=p) (f:=14-N) (n:=N) r);have e15:15-N=(14-N)+1:=by omega
    have e14:14-N=15-(N+1):=by omega
    rw[e15]at HD;have bd:Hid (uD l N (cd (aj s) p (N+1))=(di l 15).getD (pl l N+(cd (aj s) p (N+1)-2*nx l N)) 0):=rfl;generalize many l ((N:Int)+1) l.length=M at *
    go_wp2_with fail;refine(qo b (p+N) s _ a9 (ab HS)).mono ?_;rintro e x1 ⟨rfl,i,u⟩;rw[v];have h:=ac.trans u;have d:=U.heap (u.2 _ (by have:=U.2.2.2.2.2;exact this) (by omega)) u.1.size;have b5:=d.2.2.1 (N+1) (by omega);rw[ab a8]at b5;have b9:=d.2.2.2.1;have dd:=d.2.2.2.2.2;have a0:=ae (ab Hr x1 h);have J:=ab bk;have O:=ab b1;have R:=ab b6;have L:=ab b8;have Q:=ab b2;have S:=ab b7;clear a9 ac u U a8 v Hr;generalize a3:cd (aj s) p (N+1)=X at *
    have EX:=ae a3;clear a3;generalize cd (aj s) p N=A at *
    generalize uP (aj s) (p+N)=D at *
    generalize a4:nx l (N+1)=Y at *
    have EY:=ae a4;clear a4;generalize nx l N=F at *
    generalize a2:pl l (N+1)=P' at *
    have EP:=ae a2;clear a2;generalize pl l N=P at *
    have cr:(D:Int)<=1:=by omega
    have cv:(M:Int)<=32768:=by omega
    have c5:(P:Int)<=4500:=by omega
    have ba:=i;obtain⟨q0,q1,q2,g0,g1,g2,c7⟩:=ba;by_cases j:8*s.size<p+N+1
    .
     rw[decide_eq_true (show 8*s.size<p+N+1 from j)]at q2;have Hn:Hid (dec l (aj s) (8*s.size) p=none):=by
      show dec l (aj s) (8*s.size) p=none;rw[ab HD];exact ab q j
     have m:=ae h;clear d Q S L j q0 q1 g0 g1 g2 i h O R J;go_wp2
     go_ret2
     unfold mB;rw[ab Hn];exact⟨ab m,rfl⟩
    .
     rw[decide_eq_false (show ¬ 8*s.size<p+N+1 from j)]at q2;have cp:=ae j;by_cases k:X<Y
     .
      have ca:(A:Int)*2+(D:Int)<(F:Int)*2+(M:Int):=by omega
      have a7:=ab b3 (by omega) k;have Hd:Hid (dec l (aj s) (8*s.size) p=some (uD l N X,p+N+1)):=by
       show dec l (aj s) (8*s.size) p=_;rw[ab HD];exact ab a1 j k
      have hK:((P:Int)+((A:Int)*2+(D:Int))-(F:Int)*2)=((P+(X-2*F):Nat):Int):=by omega
      have bc:=ab bl;obtain⟨g,o,rfl,hg,a5⟩:=ab a0 (by omega);have c0:=a5 (P+(X-2*F)) (by omega);rw[←ab bd]at c0;have cu:((P+(X-2*F):Nat):Int)<(sn:Int):=by omega
      generalize P+(X-2*F)=K at *
      generalize uD l N X=Z at *
      have m:=ae h;have H:=ae i;have cs:(0:Int)<=(K:Int):=by omega
      clear a5 d Q S L j q0 q1 g0 g1 g2 i h O R J k a7 bc;go_wp2
      go_ret2
      unfold mB;rw[ab Hd];exact⟨ab m,rfl,ab H⟩
     .
      have ca:¬ (A:Int)*2+(D:Int)<(F:Int)*2+(M:Int):=by omega
      have Hd:Hid (dec l (aj s) (8*s.size) p=nK l (aj s) (8*s.size) p (15-(N+1)) (N+1)):=by
       show dec l (aj s) (8*s.size) p=_;rw[ab HD,ab I j k,e14]
      have m:=ae h;have H:=ae i;have be:=ae d;have b0:Hid (Y<=X):=by show Y<=X;omega
      have eX:Hid ((A:Int)*2+(D:Int)=(X:Int)):=by show(A:Int)*2+(D:Int)=(X:Int);omega
      have eY:Hid ((F:Int)*2+(M:Int)=(Y:Int)):=by show(F:Int)*2+(M:Int)=(Y:Int);omega
      have eP:Hid ((P:Int)+(M:Int)=(P':Int)):=by show(P:Int)+(M:Int)=(P':Int);omega
      clear d Q S L j q0 q1 g0 g1 g2 i h O R J k a0 b9;go_wp2;go_roundw
      case rel=>exact⟨N+1,by omega,by go_num,by rw[ab eX,ab EX],by rw[ab eY,ab EY],by rw[ab eP,ab EP],by rw[ab EX,ab EY];exact ab b0,ab H,ab m,ab be,ab Hd⟩
      case measure=>simp[intOf];omega
   .
    obtain rfl:N=15:=by omega
    have Hn:Hid (dec l (aj s) (8*s.size) p=none):=ab HD;go_wp2
    go_ret2
    unfold mB;rw[ab Hn];exact⟨ac,rfl⟩
end Go.Proofs.YtchidddpplangaaGreatDoor.Bkx
namespace Go.Proofs.YtchidddpplangaaGreatDoor
open Go.RowKit Corb
theorem Rdr.three{w:World}{b p:Nat}{s:ByteArray}(h:Rdr w b s p)(a:8*s.size<p):Three w b (.string s) (.int .i64 (min p (8*s.size):Nat)) (.bool true):=by
 unfold Rdr at h;rwa[a0u a]at h
theorem bv(w:World)(b o:Nat)(u:Value)(d:o<3:=by omega):au b w (w.setCell ⟨b,o,none⟩ u):=
 ⟨ah (a0c _ _) (a0a _) _,fun k _ a=>a0P w ⟨b,o,none⟩ u k a,fun j c=>⟨by rw[World.cell?_setCell_other _ _ _ _ (by simp only[ne_eq,a0B,a0O,true_and];omega)],by simp⟩⟩
end Go.Proofs.YtchidddpplangaaGreatDoor
