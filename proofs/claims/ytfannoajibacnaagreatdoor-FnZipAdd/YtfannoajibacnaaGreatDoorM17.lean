/- Texts. -/
import Derived.Test.YtfannoajibacnaaGreatDoorM13
set_option linter.all false
set_option maxRecDepth 100000
set_option maxHeartbeats 3200000
namespace Go.Proofs.YtfannoajibacnaaGreatDoor
open Go.RowKit Corb
variable {V f n p sz:Nat}{l:List Int}
def uI(V p:Nat):Nat:=V/2 ^ p%2
def I1(V p:Nat):uI V p<=1:=by unfold uI;omega
def cd(V p:Nat):Nat->Nat
 | 0=>0
 | n+1=>2*cd V p n+uI V (p+n)
def UI(V p n:Nat):cd V p n<p2 n:=by
 induction n with
 | zero=>simp[cd,p2]
 | succ n ih=>
  have:=I1 V (p+n);simp only[cd];rw[lq];omega
def rT(l:List Int)(n c:Nat):Int:=(dU l 15).getD (pl l n+(c-2*nx l n)) 0
def pz(l:List Int)(V sz p:Nat):Nat->Nat->Option (Int×Nat)
 | 0,_=>none
 | f+1,n=>if sz<p+n+1 then none else if cd V p (n+1)<nx l (n+1)then some (rT l n (cd V p (n+1)),p+n+1)else pz l V sz p f (n+1)
def dec(l:List Int)(V sz p:Nat):Option (Int×Nat):=pz l V sz p 15 0
def tH{c:Nat}(f:n<15)(g:2*nx l n<=c)(h2:c<nx l (n+1)):∃i,i<l.length/\l.getD i 0=(n:Int)+1/\cz l i=c/\rT l n c=(i:Int):=by
 have e:nx l (n+1)=2*nx l n+many l ((n:Int)+1) l.length:=rfl;obtain⟨i,b,a,d⟩:=So l ((n:Int)+1) l.length (c-2*nx l n) (by omega);refine⟨i,b,a,?_,?_⟩
 .
  unfold cz;rw[a,d];have:((n:Int)+1).toNat-1=n:=by omega
  rw[this];omega
 . unfold rT;rw[←d];exact zR l 15 n i b a f
def JJ{i j:Nat}(a:l.getD i 0=l.getD j 0)(b:cz l i=cz l j):i=j:=by
 unfold cz at b;rw[a]at b;rcases Nat.lt_trichotomy i j with h|h|h
 . have:=rE a j h;omega
 . exact h
 . have:=rE a.symm i h;rw[a]at this;omega
def UU(l:List Int)(N:Nat):pl l N<=N*l.length:=by rw[←rV];exact xW l N
def Tq(a:ap l=true)(N:Nat)(b:N<=15):nx l N<=32768:=by
 have h:=Tr a N b;have h2:=rI N 15 b;have c:p2 15=32768:=rfl;omega
def Nu(V p n:Nat)(a:n<=15):cd V p n<32768:=by
 have h:=UI V p n;have h2:=rI n 15 a;have b:p2 15=32768:=rfl;omega
def SE (l : List Int) : ∀ a b, a ≤ b → pl l a ≤ pl l b := by
  intro a b hab
  induction b with
  | zero => have : a = 0 := by omega
            rw [this]; exact a0a _
  | succ b ihb =>
    by_cases e2 : a = b + 1
    . rw [e2]; exact a0a _
    . have := ihb (by omega)
      simp only [pl]; omega
def Uu{c:Nat}(b:n<15)(a:2*nx l n<=c)(h2:c<nx l (n+1)):pl l n+(c-2*nx l n)<(dU l 15).length:=by
 have e:nx l (n+1)=2*nx l n+many l ((n:Int)+1) l.length:=rfl;have e2:pl l (n+1)=pl l n+many l ((n:Int)+1) l.length:=rfl;have:=SE l (n+1) 15 (by omega);rw[rV];omega
def iU.heap{w w':World}{b:Nat}{vl vc vs:Value}{m:Nat->Nat}(h:iU w b vl vc vs m)(c:w'.heap[b]?=w.heap[b]?)(g:w.heap.size<=w'.heap.size):iU w' b vl vc vs m:=by
 obtain⟨c0,c1,c2,c3,f,e⟩:=h;exact⟨(World.cell?_of_block (a:=⟨b,0,none⟩) c).trans c0,(World.cell?_of_block (a:=⟨b,1,none⟩) c).trans c1,fun j d=>(World.cell?_of_block (a:=⟨b,2+j,none⟩) c).trans (c2 j d),(World.cell?_of_block (a:=⟨b,18,none⟩) c).trans c3,fun o=>(World.frozen?_of_block (a:=⟨b,o,none⟩) c).trans (f o),by omega⟩
def pZ(h:sz<p+n+1):pz l V sz p (f+1) n=none:=by simp only[pz];rw[a0d h]
def qU(h:¬ sz<p+n+1)(h2:cd V p (n+1)<nx l (n+1)):pz l V sz p (f+1) n=some (rT l n (cd V p (n+1)),p+n+1):=by simp only[pz];rw[a0e h,a0d h2]
def oP(h:¬ sz<p+n+1)(h2:¬ cd V p (n+1)<nx l (n+1)):pz l V sz p (f+1) n=pz l V sz p f (n+1):=by simp only[pz];rw[a0e h,a0e h2]
def oI(w:World)(b:Nat)(s:ByteArray)(d:Option (Int×Nat))(e:Ending)(w':World):Prop:=
 aw b w w'/\match d with
  | none=>e = .returned (.tuple #[.int .i64 0,.bool false])
  | some (i,q)=>e = .returned (.tuple #[i,.bool true])/\Rdr w' b s q
end Go.Proofs.YtfannoajibacnaaGreatDoor
namespace Go.Proofs.YtfannoajibacnaaGreatDoor.Bkx
open Go.Proofs.YtfannoajibacnaaGreatDoor
open Go.RowKit Corb
def bookGet_any(B:BkI)(hB:Bks B)(a sa:Option Addr)(cap n sn sc b p:Nat)(vc:Value)(C:Array Value)(l:List Int)(s:ByteArray)(w:World)(hC:C=(bz (.slice a n cap) vc (.slice sa sn sc) (iK l 15)).toArray)(ac:ap l=true)(a9:(dU l 15).length=sn)
  (hs:s.size<=2000000) (hr:Rdr w b s p) (hp:p<=8*s.size) (z:∀W,aw b w W->bE W sa (dU l 15)) :
  Calls Tryz.prog B.g #[.agg C,.pointer b] w (oI w b s (dec l (ak s) (8*s.size) p)):=by
 have c5:=hr.lt;have t:=Nq w (.slice a n cap) vc (.slice sa sn sc) (iK l 15) B.T;rw[←hC]at t;have aa:aw b w (w.alloc (.cells C B.T)):=(aw.refl b w).alloc (by omega) _;have ad:=hr.alloc (.cells C B.T);have E:w.heap.size<(w.alloc (.cells C B.T)).heap.size:=by simp
 have HS:=af hs;have HP:=af hp;have G:=af ac;have be:=af a9;have ca:(sn:Int)<=4500:=by
  have r:=xW l 15;have h2:=cG ac;have h3:15*l.length<=15*300:=Nat.mul_le_mul_left _ h2;omega
 have cc:(p:Int)<=16000000:=by omega
 have Hr:=af z;clear hC hr hs hp ac a9 z;obtain⟨w0,hw0⟩:∃x,w.alloc (.cells C B.T)=x:=⟨_,rfl⟩;rw[hw0]at t aa ad E;rcases hB with rfl|rfl|rfl;all_goals
  simp only[bkL,bkD,bkN]at hw0 ⊢;have bk:=af hw0;clear hw0
  (first|go_enter Tryz.func281,Tryz.ntmps281|go_enter Tryz.func287,Tryz.ntmps287|go_enter Tryz.func285,Tryz.ntmps285)
  go_wp2_with fail;rw[ae bk]
  go_loopw [4,5,6,7,8,9] (fun _ _ c f pc lg wr=>∃N:Nat,N<=15/\lg = .int .i64 ((N:Int)+1)/\c = .int .i64 (cd (ak s) p N:Nat)/\f = .int .i64 (nx l N:Nat)/\pc = .int .i64 (pl l N:Nat)/\nx l N<=cd (ak s) p N/\Rdr wr b s (p+N)/\aw b w wr/\iU wr w.heap.size (.slice a n cap) vc (.slice sa sn sc) (iK l 15)/\dec l (ak s) (8*s.size) p=pz l (ak s) (8*s.size) p (15-N) N) (fun _ _ _ _ _ lg _=>16-(intOf lg).toNat)
  case atStart=>exact⟨0,by omega,rfl,rfl,rfl,rfl,Nat.le_refl _,ad,aa,t,rfl⟩
  case round=>
   obtain⟨N,hN,rfl,rfl,rfl,rfl,a4,a7,ab,U,y⟩:=hrel;clear ad aa t E;have cs:(N:Int)<=15:=(by omega);have c1:=af (Nu (ak s) p N hN);have c2:=af (Tq G N hN);have cI:(cd (ak s) p N:Int)<=32768:=by have:=ae c1;omega
   have nI:(nx l N:Int)<=32768:=by have:=ae c2;omega
   have bd:=af a4;have HD:=af y;clear a4 y;by_cases b1:N<15
   .
    have b8:(N:Int)<15:=(by omega);have b9:decide ((N:Int)+1<=15)=true:=decide_eq_true (by omega);have v:(ak s/2 ^ (p+N)%2:Nat)=uI (ak s) (p+N):=rfl;have cv:=I1 (ak s) (p+N);have bs:Hid (cd (ak s) p (N+1)=2*cd (ak s) p N+uI (ak s) (p+N)):=rfl;have bn:=af (Nu (ak s) p (N+1) (by omega));have b4:Hid (nx l (N+1)=2*nx l N+many l ((N:Int)+1) l.length):=rfl;have b5:Hid (pl l (N+1)=pl l N+many l ((N:Int)+1) l.length):=rfl;have b3:=af (Tq G (N+1) (by omega));have c6:(pl l (N+1):Int)<=4500:=by
     have r:=UU l (N+1);have h2:=cG G;have h3:(N+1)*l.length<=15*300:=Nat.mul_le_mul (by omega) h2;omega
    have a6:Hid (iK l 15 (N+1)=many l ((N:Int)+1) l.length):=by
     show iK l 15 (N+1)=_;unfold iK;rw[if_pos ⟨by omega,by omega⟩]
     congr 1
    have b0:=af (fun r h2=>Uu (l:=l) (n:=N) (c:=cd (ak s) p (N+1)) b1 r h2);have ao:=af (fun r h2=>qU (l:=l) (V:=ak s) (sz:=8*s.size) (p:=p) (f:=14-N) (n:=N) r h2);have I:=af (fun r h2=>oP (l:=l) (V:=ak s) (sz:=8*s.size) (p:=p) (f:=14-N) (n:=N) r h2);have q:=af (fun r=>pZ (l:=l) (V:=ak s) (sz:=8*s.size) (p:=p) (f:=14-N) (n:=N) r);have e15:15-N=(14-N)+1:=(by omega);have e14:14-N=15-(N+1):=(by omega);rw[e15]at HD;have bb:Hid (rT l N (cd (ak s) p (N+1))=(dU l 15).getD (pl l N+(cd (ak s) p (N+1)-2*nx l N)) 0):=rfl;generalize many l ((N:Int)+1) l.length=M at *;go_wp2_with fail;apply(tq b (p+N) s _ a7 HS).mono;rintro e x1⟨rfl,i,u⟩;rw[v];have h:=ab.trans u;have d:=U.heap (u.2 _ (by have:=U.2.2.2.2.2;exact this) (by omega)) u.1.size;have b2:=d.2.2.1 (N+1) (by omega);rw[ae a6]at b2;have b6:=d.2.2.2.1;have c7:=d.2.2.2.2.2;have al:=af (ae Hr x1 h);have J:=ae bd;have O:=ae bn;have R:=ae b3;have L:=ae b5;have Q:=ae bs;have S:=ae b4;clear a7 ab u U a6 v Hr;generalize a1:cd (ak s) p (N+1)=X at *;have EX:=af a1;clear a1;generalize cd (ak s) p N=A,uI (ak s) (p+N)=D,a2:nx l (N+1)=Y at *;have EY:=af a2;clear a2;generalize nx l N=F,a0:pl l (N+1)=P' at *;have EP:=af a0;clear a0;generalize pl l N=P at *;have ch:(D:Int)<=1:=(by omega);have cr:(M:Int)<=32768:=(by omega);have cu:(P:Int)<=4500:=(by omega);have a8:=i;obtain⟨q0,q1,q2,g0,g1,g2,cy⟩:=a8;by_cases j:8*s.size<p+N+1
    .
     rw[decide_eq_true (show 8*s.size<p+N+1 from j)]at q2;have Hn:Hid (dec l (ak s) (8*s.size) p=none):=by
      show dec l (ak s) (8*s.size) p=none;rw[ae HD];exact q j
     have m:=af h;clear d Q S L j q0 q1 g0 g1 g2 i h O R J;go_wp2
     go_ret2
     unfold oI;rw[ae Hn];exact⟨m,rfl⟩
    .
     rw[decide_eq_false (show ¬ 8*s.size<p+N+1 from j)]at q2;have cg:=af j;by_cases k:X<Y
     .
      have b7:(A:Int)*2+(D:Int)<(F:Int)*2+(M:Int):=(by omega);have a5:=ae b0 (by omega) k;have Hd:Hid (dec l (ak s) (8*s.size) p=some (rT l N X,p+N+1)):=by
       show dec l (ak s) (8*s.size) p=_;rw[ae HD];exact ao j k
      have hK:((P:Int)+((A:Int)*2+(D:Int))-(F:Int)*2)=((P+(X-2*F):Nat):Int):=(by omega);have ba:=ae be;obtain⟨g,o,rfl,hg,a3⟩:=ae al (by omega);have c0:=a3 (P+(X-2*F)) (by omega);rw[←ae bb]at c0;have cp:((P+(X-2*F):Nat):Int)<(sn:Int):=(by omega);generalize P+(X-2*F)=K,rT l N X=Z at *;have m:=af h;have H:=af i;have co:(0:Int)<=(K:Int):=(by omega);clear a3 d Q S L j q0 q1 g0 g1 g2 i h O R J k a5 ba;go_wp2
      go_ret2
      unfold oI;rw[ae Hd];exact⟨m,rfl,H⟩
     .
      have b7:¬ (A:Int)*2+(D:Int)<(F:Int)*2+(M:Int):=(by omega);have Hd:Hid (dec l (ak s) (8*s.size) p=pz l (ak s) (8*s.size) p (15-(N+1)) (N+1)):=by
       show dec l (ak s) (8*s.size) p=_;rw[ae HD,ae I j k,e14]
      have m:=af h;have H:=af i;have bc:=af d;have bl:Hid (Y<=X):=by show Y<=X;omega
      have eX:Hid ((A:Int)*2+(D:Int)=(X:Int)):=by show(A:Int)*2+(D:Int)=(X:Int);omega
      have eY:Hid ((F:Int)*2+(M:Int)=(Y:Int)):=by show(F:Int)*2+(M:Int)=(Y:Int);omega
      have eP:Hid ((P:Int)+(M:Int)=(P':Int)):=by show(P:Int)+(M:Int)=(P':Int);omega
      clear d Q S L j q0 q1 g0 g1 g2 i h O R J k al b6;go_wp2;go_roundw
      case rel=>exact⟨N+1,by omega,by go_num,by rw[ae eX,ae EX],by rw[ae eY,ae EY],by rw[ae eP,ae EP],by rw[ae EX,ae EY];exact bl,H,m,bc,Hd⟩
      case measure=>simp[intOf];omega
   .
    obtain rfl:N=15:=by omega
    have Hn:Hid (dec l (ak s) (8*s.size) p=none):=ae HD;go_wp2
    go_ret2
    unfold oI;rw[ae Hn];exact⟨ab,rfl⟩
end Go.Proofs.YtfannoajibacnaaGreatDoor.Bkx
namespace Go.Proofs.YtfannoajibacnaaGreatDoor
open Go.RowKit Corb
variable {V i n p:Nat}{l:List Int}
def Rdr.three{w:World}{b:Nat}{s:ByteArray}(h:Rdr w b s p)(a:8*s.size<p):Three w b (.string s) (.int .i64 (min p (8*s.size):Nat)) (.bool true):=by
 unfold Rdr at h;rwa[a0B a]at h
def bT(w:World)(b o:Nat)(u:Value)(d:o<3:=by omega):aw b w (w.setCell ⟨b,o,none⟩ u):=
 ⟨ai (a0c _ _) (a0a _) _,fun k _ a=>a0M w ⟨b,o,none⟩ u k a,fun j c=>⟨by rw[World.cell?_setCell_other _ _ _ _ (by simp only[ne_eq,a0A,a0Q,a1U];omega)],by simp⟩⟩
def Re(V n j:Nat)(h:j<n):V%2 ^ n/2 ^ j%2=V/2 ^ j%2:=by
 have a:V%2 ^ n/2 ^ j%2=V%2 ^ n%2 ^ (j+1)/2 ^ j:=by
  rw[a1x,a3u]
 have h2:V/2 ^ j%2=V%2 ^ (j+1)/2 ^ j:=by
  rw[a1x,a3u]
 rw[a,h2]
 congr 1
 apply Nat.mod_mod_of_dvd;exact Nat.pow_dvd_pow 2 (by omega)
def UV(n c j:Nat)(h:j<n):rv n c/2 ^ j%2=c/2 ^ (n-1-j)%2:=by
 have e:=Uq n c j;rw[Nat.testBit_eq_decide_div_mod_eq,Nat.testBit_eq_decide_div_mod_eq,a0B h,a29]at e;have a:=Nat.mod_two_eq_zero_or_one (rv n c/2 ^ j);have h2:=Nat.mod_two_eq_zero_or_one (c/2 ^ (n-1-j));rcases a with a|a<;>rcases h2 with h2|h2<;>rw[a,h2]at e ⊢ <;> simp at e
def Rj{c:Nat}(h:V/2 ^ p%2 ^ n=rv n c)(a:c<2 ^ n)(m:Nat)(b:m<=n):cd V p m=c/2 ^ (n-m):=by
 induction m with
 | zero=>simp only[cd];rw[a3g,a1Z a]
 | succ m ih=>
  simp only[cd];rw[ih (by omega)];have e:uI V (p+m)=c/2 ^ (n-1-m)%2:=by
   unfold uI;rw[a0T,←a1Y,←Re (V/2 ^ p) n m (by omega),h,UV n c m (by omega)]
  rw[e,show n-m=(n-1-m)+1 by omega,←mG,show n-(m+1)=n-1-m by omega];omega
def Pn{m:Nat}(b:l.getD i 0=(n:Int)+1)(c:m<=n):nx l m<=cz l i/2 ^ (n+1-m):=by
 have a:=Ss l m (n-m);rw[show m+(n-m)=n by omega]at a;have h2:2*nx l n<=cz l i:=by
  unfold cz;rw[b,show((n:Int)+1).toNat-1=n by omega];omega
 rw[Nat.le_div_iff_mul_le (a1p _),show n+1-m=(n-m)+1 by omega,a1x];unfold p2 at a;have:nx l m*(2 ^ (n-m)*2)=2*(nx l m*2 ^ (n-m)):=by rw[←a1R,a1j]
 omega
def Kl(d:ap l=true){sz:Nat}(g:i<l.length)(c:l.getD i 0=(n:Int)+1)(j:n<15)(h:V/2 ^ p%2 ^ (n+1)=rv (n+1) (cz l i))(o:p+n+1<=sz)(m f:Nat)(r:m<=n)(q:n<m+f):pz l V sz p f m=some ((i:Int),p+n+1):=by
 have b:=sC d g (by omega);rw[c,show((n:Int)+1).toNat=n+1 by omega]at b;induction f generalizing m with
 | zero=>omega
 | succ f ih=>
  have a:=Rj h b.1 (m+1) (by omega);by_cases e:m=n
  .
   subst e;rw[a3i,Nat.pow_zero,Nat.div_one]at a;rw[qU (by omega) (by rw[a];exact b.2),a];have k:rT l m (cz l i)=(i:Int):=by
    unfold rT;have e2:cz l i-2*nx l m=many l ((m:Int)+1) i:=by
     unfold cz;rw[c,show((m:Int)+1).toNat-1=m by omega];omega
    rw[e2];exact zR l 15 m i g c j
   rw[k]
  . rw[oP (by omega) (by rw[a];have:=Pn (m:=m+1) c (by omega);omega)];exact ih (m+1) (by omega) (by omega)
def NA(a:ap l=true){sz:Nat}(c:i<l.length)(d:l.getD i 0=(n:Int)+1)(h:V/2 ^ p%2 ^ (n+1)=rv (n+1) (cz l i))(b:p+n+1<=sz):dec l V sz p=some ((i:Int),p+n+1):=by
 have hb:=nX (io a) c;exact Kl a c d (by omega) h b 0 15 (a0g _) (by omega)
