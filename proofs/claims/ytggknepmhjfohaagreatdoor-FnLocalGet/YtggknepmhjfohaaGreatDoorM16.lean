/- Of what the proof is made: 5 texts, one behind the other. -/
import Derived.Test.YtggknepmhjfohaaGreatDoorM12
import Derived.Test.YtggknepmhjfohaaGreatDoorRb1
import Derived.Test.YtggknepmhjfohaaGreatDoorM9
import Derived.Test.YtggknepmhjfohaaGreatDoorM8
set_option maxRecDepth 100000
set_option linter.unusedSimpArgs false
set_option linter.unusedVariables false
set_option maxHeartbeats 3200000
namespace Go.Proofs.YtggknepmhjfohaaGreatDoor
open Go.RowKit Corb
variable {V f n p sz:Nat}{l:List Int}
def qW(V p:Nat):Nat:=V/2 ^ p%2
theorem Cz(V p:Nat):qW V p<=1:=by unfold qW;omega
def cd(V p:Nat):Nat->Nat
 | 0=>0
 | n+1=>2*cd V p n+qW V (p+n)
theorem L4(V p n:Nat):cd V p n<p2 n:=by
 induction n with
 | zero=>simp[cd,p2]
 | succ n ih=>
  have:=Cz V (p+n);simp only[cd];rw[jq];omega
def oQ(l:List Int)(n c:Nat):Int:=(dp l 15).getD (pl l n+(c-2*nx l n)) 0
def mL(l:List Int)(V sz p:Nat):Nat->Nat->Option (Int×Nat)
 | 0,_=>none
 | f+1,n=>if sz<p+n+1 then none else if cd V p (n+1)<nx l (n+1)then some (oQ l n (cd V p (n+1)),p+n+1)else mL l V sz p f (n+1)
def dec(l:List Int)(V sz p:Nat):Option (Int×Nat):=mL l V sz p 15 0
theorem qf{c:Nat}(f:n<15)(g:2*nx l n<=c)(h2:c<nx l (n+1)):∃i,i<l.length/\l.getD i 0=(n:Int)+1/\bY l i=c/\oQ l n c=(i:Int):=by
 have e:nx l (n+1)=2*nx l n+many l ((n:Int)+1) l.length:=rfl;obtain⟨i,b,a,d⟩:=Kh l ((n:Int)+1) l.length (c-2*nx l n) (by omega);refine⟨i,b,a,?_,?_⟩
 .
  unfold bY;rw[a,d];have:((n:Int)+1).toNat-1=n:=by omega
  rw[this];omega
 . unfold oQ;rw[←d];exact vo l 15 n i b a f
theorem DD{i j:Nat}(a:l.getD i 0=l.getD j 0)(b:bY l i=bY l j):i=j:=by
 unfold bY at b;rw[a]at b;rcases Nat.lt_trichotomy i j with h|h|h
 . have:=oz a j h;omega
 . exact h
 . have:=oz a.symm i h;rw[a]at this;omega
theorem Mh(l:List Int)(N:Nat):pl l N<=N*l.length:=by rw[←oS];exact tP l N
theorem Lb(a:au l=true)(N:Nat)(b:N<=15):nx l N<=32768:=by
 have h:=Lc a N b;have h2:=oE N 15 b;have c:p2 15=32768:=rfl;omega
theorem Gc(V p n:Nat)(a:n<=15):cd V p n<32768:=by
 have h:=L4 V p n;have h2:=oE n 15 a;have b:p2 15=32768:=rfl;omega
theorem Ky (l : List Int) : ∀ a b, a ≤ b → pl l a ≤ pl l b := by
  intro a b hab
  induction b with
  | zero => have : a = 0 := by omega
            rw [this]; exact a0a _
  | succ b ihb =>
    by_cases e2 : a = b + 1
    . rw [e2]; exact a0a _
    . have := ihb (by omega)
      simp only [pl]; omega
theorem LS{c:Nat}(b:n<15)(a:2*nx l n<=c)(h2:c<nx l (n+1)):pl l n+(c-2*nx l n)<(dp l 15).length:=by
 have e:nx l (n+1)=2*nx l n+many l ((n:Int)+1) l.length:=rfl;have e2:pl l (n+1)=pl l n+many l ((n:Int)+1) l.length:=rfl;have:=Ky l (n+1) 15 (by omega);rw[oS];omega
theorem fI.heap{w w':World}{b:Nat}{vl vc vs:Value}{m:Nat->Nat}(h:fI w b vl vc vs m)(c:w'.heap[b]?=w.heap[b]?)(g:w.heap.size<=w'.heap.size):fI w' b vl vc vs m:=by
 obtain⟨c0,c1,c2,c3,f,e⟩:=h;exact⟨(World.cell?_of_block (a:=⟨b,0,none⟩) c).trans c0,(World.cell?_of_block (a:=⟨b,1,none⟩) c).trans c1,fun j d=>(World.cell?_of_block (a:=⟨b,2+j,none⟩) c).trans (c2 j d),(World.cell?_of_block (a:=⟨b,18,none⟩) c).trans c3,fun o=>(World.frozen?_of_block (a:=⟨b,o,none⟩) c).trans (f o),by omega⟩
theorem bp.keep{w w':World}{a:Option Addr}{b:Nat}(h:bp w a l)(d:aw b w w')(k:∀g o,a=some ⟨g,o,none⟩->g≠b):bp w' a l:=by
 intro f;obtain⟨g,o,e,c,j⟩:=h f;exact⟨g,o,e,a0k c d.1.size,fun i m=>(World.cell?_of_block (a:=⟨g,o+i,none⟩) (d.2 g c (k g o e))).trans (j i m)⟩
theorem nf(h:sz<p+n+1):mL l V sz p (f+1) n=none:=by simp only[mL];rw[a0d h]
theorem nW(h:¬ sz<p+n+1)(h2:cd V p (n+1)<nx l (n+1)):mL l V sz p (f+1) n=some (oQ l n (cd V p (n+1)),p+n+1):=by simp only[mL];rw[a0e h,a0d h2]
theorem mr(h:¬ sz<p+n+1)(h2:¬ cd V p (n+1)<nx l (n+1)):mL l V sz p (f+1) n=mL l V sz p f (n+1):=by simp only[mL];rw[a0e h,a0e h2]
def mb(w:World)(b:Nat)(s:ByteArray)(d:Option (Int×Nat))(e:Ending)(w':World):Prop:=
 aw b w w'/\match d with
  | none=>e = .returned (.tuple #[.int .i64 0,.bool false])
  | some (i,q)=>e = .returned (.tuple #[.int .i64 i,.bool true])/\Rdr w' b s q
end Go.Proofs.YtggknepmhjfohaaGreatDoor
namespace Go.Proofs.YtggknepmhjfohaaGreatDoor.Bkx
open Go.Proofs.YtggknepmhjfohaaGreatDoor
open Go.RowKit Corb
theorem bookGet_any(B:BkI)(hB:Bks B)(a sa:Option Addr)(cap n sn sc b p:Nat)(vc:Value)(C:Array Value)(l:List Int)(s:ByteArray)(w:World)(hC:C=(aZ (.slice a n cap) vc (.slice sa sn sc) (gg l 15)).toArray)(ac:au l=true)(a8:(dp l 15).length=sn)
  (hs:s.size<=2000000) (hr:Rdr w b s p) (hp:p<=8*s.size) (z:∀W,aw b w W->bp W sa (dp l 15)) :
  Calls Tryz.prog B.g #[.agg C,.pointer (some ⟨b,0,none⟩)] w (mb w b s (dec l (aj s) (8*s.size) p)):=by
 have c6:=hr.lt;have t:=xi w (.slice a n cap) vc (.slice sa sn sc) (gg l 15) B.T;rw[←hC]at t;have aa:aw b w (w.alloc (.cells C B.T)):=(aw.refl b w).alloc (by omega) _;have ad:=hr.alloc (.cells C B.T);have E:w.heap.size<(w.alloc (.cells C B.T)).heap.size:=by simp
 have HS:=af hs;have HP:=af hp;have G:=af ac;have bd:=af a8;have cc:(sn:Int)<=4500:=by
  have r:=tP l 15;have h2:=cb ac;have h3:15*l.length<=15*300:=Nat.mul_le_mul_left _ h2;omega
 have cg:(p:Int)<=16000000:=by omega
 have Hr:=af z;clear hC hr hs hp ac a8 z;obtain⟨w0,hw0⟩:∃x,w.alloc (.cells C B.T)=x:=⟨_,rfl⟩;rw[hw0]at t aa ad E;rcases hB with rfl|rfl|rfl;all_goals
  simp only[bkL,bkD,bkN]at hw0 ⊢;have bk:=af hw0;clear hw0
  (first|go_enter Tryz.func211,Tryz.ntmps211|go_enter Tryz.func217,Tryz.ntmps217|go_enter Tryz.func215,Tryz.ntmps215)
  go_wp2_with fail;rw[ae bk]
  go_loopw [4,5,6,7,8,9] (fun _ _ c f pc lg wr=>∃N:Nat,N<=15/\lg = .int .i64 ((N:Int)+1)/\c = .int .i64 (cd (aj s) p N:Nat)/\f = .int .i64 (nx l N:Nat)/\pc = .int .i64 (pl l N:Nat)/\nx l N<=cd (aj s) p N/\Rdr wr b s (p+N)/\aw b w wr/\fI wr w.heap.size (.slice a n cap) vc (.slice sa sn sc) (gg l 15)/\dec l (aj s) (8*s.size) p=mL l (aj s) (8*s.size) p (15-N) N) (fun _ _ _ _ _ lg _=>16-(intOf lg).toNat)
  case atStart=>exact⟨0,by omega,rfl,rfl,rfl,rfl,Nat.le_refl _,ad,aa,t,rfl⟩
  case round=>
   obtain⟨N,hN,rfl,rfl,rfl,rfl,a3,a6,ab,U,y⟩:=hrel;clear ad aa t E;have cu:(N:Int)<=15:=by omega
   have c1:=af (Gc (aj s) p N hN);have c2:=af (Lb (ae G) N hN);have cI:(cd (aj s) p N:Int)<=32768:=by have:=ae c1;omega
   have nI:(nx l N:Int)<=32768:=by have:=ae c2;omega
   have bc:=af a3;have HD:=af y;clear a3 y;by_cases b2:N<15
   .
    have b9:(N:Int)<15:=by omega
    have ca:decide ((N:Int)+1<=15)=true:=decide_eq_true (by omega);have v:(aj s/2 ^ (p+N)%2:Nat)=qW (aj s) (p+N):=rfl;have cy:=Cz (aj s) (p+N);have b0:Hid (cd (aj s) p (N+1)=2*cd (aj s) p N+qW (aj s) (p+N)):=rfl;have bs:=af (Gc (aj s) p (N+1) (by omega));have b5:Hid (nx l (N+1)=2*nx l N+many l ((N:Int)+1) l.length):=rfl;have b6:Hid (pl l (N+1)=pl l N+many l ((N:Int)+1) l.length):=rfl;have b4:=af (Lb (ae G) (N+1) (by omega));have c7:(pl l (N+1):Int)<=4500:=by
     have r:=Mh l (N+1);have h2:=cb (ae G);have h3:(N+1)*l.length<=15*300:=Nat.mul_le_mul (by omega) h2;omega
    have a5:Hid (gg l 15 (N+1)=many l ((N:Int)+1) l.length):=by
     show gg l 15 (N+1)=_;unfold gg;rw[if_pos ⟨by omega,by omega⟩]
     congr 1
    have b1:=af (fun r h2=>LS (l:=l) (n:=N) (c:=cd (aj s) p (N+1)) b2 r h2);have an:=af (fun r h2=>nW (l:=l) (V:=aj s) (sz:=8*s.size) (p:=p) (f:=14-N) (n:=N) r h2);have I:=af (fun r h2=>mr (l:=l) (V:=aj s) (sz:=8*s.size) (p:=p) (f:=14-N) (n:=N) r h2);have q:=af (fun r=>nf (l:=l) (V:=aj s) (sz:=8*s.size) (p:=p) (f:=14-N) (n:=N) r);have e15:15-N=(14-N)+1:=by omega
    have e14:14-N=15-(N+1):=by omega
    rw[e15]at HD;have ba:Hid (oQ l N (cd (aj s) p (N+1))=(dp l 15).getD (pl l N+(cd (aj s) p (N+1)-2*nx l N)) 0):=rfl;generalize many l ((N:Int)+1) l.length=M at *
    go_wp2_with fail;refine(pO b (p+N) s _ a6 (ae HS)).mono ?_;rintro e x1 ⟨rfl,i,u⟩;rw[v];have h:=ab.trans u;have d:=U.heap (u.2 _ (by have:=U.2.2.2.2.2;exact this) (by omega)) u.1.size;have b3:=d.2.2.1 (N+1) (by omega);rw[ae a5]at b3;have b7:=d.2.2.2.1;have c8:=d.2.2.2.2.2;have al:=af (ae Hr x1 h);have J:=ae bc;have O:=ae bs;have R:=ae b4;have L:=ae b6;have Q:=ae b0;have S:=ae b5;clear a6 ab u U a5 v Hr;generalize a0:cd (aj s) p (N+1)=X at *
    have EX:=af a0;clear a0;generalize cd (aj s) p N=A at *
    generalize qW (aj s) (p+N)=D at *
    generalize a1:nx l (N+1)=Y at *
    have EY:=af a1;clear a1;generalize nx l N=F at *
    generalize ao:pl l (N+1)=P' at *
    have EP:=af ao;clear ao;generalize pl l N=P at *
    have co:(D:Int)<=1:=by omega
    have cs:(M:Int)<=32768:=by omega
    have cv:(P:Int)<=4500:=by omega
    have a7:=i;obtain⟨q0,q1,q2,g0,g1,g2,c5⟩:=a7;by_cases j:8*s.size<p+N+1
    .
     rw[decide_eq_true (show 8*s.size<p+N+1 from j)]at q2;have Hn:Hid (dec l (aj s) (8*s.size) p=none):=by
      show dec l (aj s) (8*s.size) p=none;rw[ae HD];exact ae q j
     have m:=af h;clear d Q S L j q0 q1 g0 g1 g2 i h O R J;go_wp2
     go_ret2
     unfold mb;rw[ae Hn];exact⟨ae m,rfl⟩
    .
     rw[decide_eq_false (show ¬ 8*s.size<p+N+1 from j)]at q2;have ch:=af j;by_cases k:X<Y
     .
      have b8:(A:Int)*2+(D:Int)<(F:Int)*2+(M:Int):=by omega
      have a4:=ae b1 (by omega) k;have Hd:Hid (dec l (aj s) (8*s.size) p=some (oQ l N X,p+N+1)):=by
       show dec l (aj s) (8*s.size) p=_;rw[ae HD];exact ae an j k
      have hK:((P:Int)+((A:Int)*2+(D:Int))-(F:Int)*2)=((P+(X-2*F):Nat):Int):=by omega
      have a9:=ae bd;obtain⟨g,o,rfl,hg,a2⟩:=ae al (by omega);have c0:=a2 (P+(X-2*F)) (by omega);rw[←ae ba]at c0;have cr:((P+(X-2*F):Nat):Int)<(sn:Int):=by omega
      generalize P+(X-2*F)=K at *
      generalize oQ l N X=Z at *
      have m:=af h;have H:=af i;have cp:(0:Int)<=(K:Int):=by omega
      clear a2 d Q S L j q0 q1 g0 g1 g2 i h O R J k a4 a9;go_wp2
      go_ret2
      unfold mb;rw[ae Hd];exact⟨ae m,rfl,ae H⟩
     .
      have b8:¬ (A:Int)*2+(D:Int)<(F:Int)*2+(M:Int):=by omega
      have Hd:Hid (dec l (aj s) (8*s.size) p=mL l (aj s) (8*s.size) p (15-(N+1)) (N+1)):=by
       show dec l (aj s) (8*s.size) p=_;rw[ae HD,ae I j k,e14]
      have m:=af h;have H:=af i;have bb:=af d;have bl:Hid (Y<=X):=by show Y<=X;omega
      have eX:Hid ((A:Int)*2+(D:Int)=(X:Int)):=by show(A:Int)*2+(D:Int)=(X:Int);omega
      have eY:Hid ((F:Int)*2+(M:Int)=(Y:Int)):=by show(F:Int)*2+(M:Int)=(Y:Int);omega
      have eP:Hid ((P:Int)+(M:Int)=(P':Int)):=by show(P:Int)+(M:Int)=(P':Int);omega
      clear d Q S L j q0 q1 g0 g1 g2 i h O R J k al b7;go_wp2;go_roundw
      case rel=>exact⟨N+1,by omega,by go_num,by rw[ae eX,ae EX],by rw[ae eY,ae EY],by rw[ae eP,ae EP],by rw[ae EX,ae EY];exact ae bl,ae H,ae m,ae bb,ae Hd⟩
      case measure=>simp[intOf];omega
   .
    obtain rfl:N=15:=by omega
    have Hn:Hid (dec l (aj s) (8*s.size) p=none):=ae HD;go_wp2
    go_ret2
    unfold mb;rw[ae Hn];exact⟨ab,rfl⟩
end Go.Proofs.YtggknepmhjfohaaGreatDoor.Bkx
namespace Go.Proofs.YtggknepmhjfohaaGreatDoor
open Go.RowKit Corb
variable {V i n p:Nat}{l:List Int}
theorem Rdr.three{w:World}{b:Nat}{s:ByteArray}(h:Rdr w b s p)(a:8*s.size<p):Three w b (.string s) (.int .i64 (min p (8*s.size):Nat)) (.bool true):=by
 unfold Rdr at h;rwa[a0v a]at h
theorem bw(w:World)(b o:Nat)(u:Value)(d:o<3:=by omega):aw b w (w.setCell ⟨b,o,none⟩ u):=
 ⟨ah (a0c _ _) (a0a _) _,fun k _ a=>a0L w ⟨b,o,none⟩ u k a,fun j c=>⟨by rw[World.cell?_setCell_other _ _ _ _ (by simp only[ne_eq,a0A,a0V,a1P];omega)],by simp⟩⟩
theorem Jz(V n j:Nat)(h:j<n):V%2 ^ n/2 ^ j%2=V/2 ^ j%2:=by
 have a:V%2 ^ n/2 ^ j%2=V%2 ^ n%2 ^ (j+1)/2 ^ j:=by
  rw[a1t,a3g]
 have h2:V/2 ^ j%2=V%2 ^ (j+1)/2 ^ j:=by
  rw[a1t,a3g]
 rw[a,h2]
 congr 1
 apply Nat.mod_mod_of_dvd;exact Nat.pow_dvd_pow 2 (by omega)
theorem Mi(n c j:Nat)(h:j<n):rv n c/2 ^ j%2=c/2 ^ (n-1-j)%2:=by
 have e:=LM n c j;rw[Nat.testBit_eq_decide_div_mod_eq,Nat.testBit_eq_decide_div_mod_eq,a0v h,a2U]at e;have a:=Nat.mod_two_eq_zero_or_one (rv n c/2 ^ j);have h2:=Nat.mod_two_eq_zero_or_one (c/2 ^ (n-1-j));rcases a with a|a<;>rcases h2 with h2|h2<;>rw[a,h2]at e ⊢ <;> simp at e
theorem JF{c:Nat}(h:V/2 ^ p%2 ^ n=rv n c)(a:c<2 ^ n)(m:Nat)(b:m<=n):cd V p m=c/2 ^ (n-m):=by
 induction m with
 | zero=>simp only[cd];rw[a20,a1L a]
 | succ m ih=>
  simp only[cd];rw[ih (by omega)];have e:qW V (p+m)=c/2 ^ (n-1-m)%2:=by
   unfold qW;rw[a0S,←a1K,←Jz (V/2 ^ p) n m (by omega),h,Mi n c m (by omega)]
  rw[e,show n-m=(n-1-m)+1 by omega,←kz,show n-(m+1)=n-1-m by omega];omega
theorem Ib{m:Nat}(b:l.getD i 0=(n:Int)+1)(c:m<=n):nx l m<=bY l i/2 ^ (n+1-m):=by
 have a:=Km l m (n-m);rw[show m+(n-m)=n by omega]at a;have h2:2*nx l n<=bY l i:=by
  unfold bY;rw[b,show((n:Int)+1).toNat-1=n by omega];omega
 rw[Nat.le_div_iff_mul_le (a1i _),show n+1-m=(n-m)+1 by omega,a1t];unfold p2 at a;have:nx l m*(2 ^ (n-m)*2)=2*(nx l m*2 ^ (n-m)):=by rw[←a1C,a1d]
 omega
theorem D5(d:au l=true){sz:Nat}(g:i<l.length)(c:l.getD i 0=(n:Int)+1)(j:n<15)(h:V/2 ^ p%2 ^ (n+1)=rv (n+1) (bY l i))(o:p+n+1<=sz)(m f:Nat)(r:m<=n)(q:n<m+f):mL l V sz p f m=some ((i:Int),p+n+1):=by
 have b:=pg d g (by omega);rw[c,show((n:Int)+1).toNat=n+1 by omega]at b;induction f generalizing m with
 | zero=>omega
 | succ f ih=>
  have a:=JF h b.1 (m+1) (by omega);by_cases e:m=n
  .
   subst e;rw[a3F,Nat.pow_zero,Nat.div_one]at a;rw[nW (by omega) (by rw[a];exact b.2),a];have k:oQ l m (bY l i)=(i:Int):=by
    unfold oQ;have e2:bY l i-2*nx l m=many l ((m:Int)+1) i:=by
     unfold bY;rw[c,show((m:Int)+1).toNat-1=m by omega];omega
    rw[e2];exact vo l 15 m i g c j
   rw[k]
  . rw[mr (by omega) (by rw[a];have:=Ib (m:=m+1) c (by omega);omega)];exact ih (m+1) (by omega) (by omega)
theorem Gf(a:au l=true){sz:Nat}(c:i<l.length)(d:l.getD i 0=(n:Int)+1)(h:V/2 ^ p%2 ^ (n+1)=rv (n+1) (bY l i))(b:p+n+1<=sz):dec l V sz p=some ((i:Int),p+n+1):=by
 have hb:=lH (fN a) c;exact D5 a c d (by omega) h b 0 15 (a0g _) (by omega)
end Go.Proofs.YtggknepmhjfohaaGreatDoor
