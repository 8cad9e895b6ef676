/- Of what the proof is made: 5 texts, one behind the other. -/
import Derived.Test.YtkpfkgoiaicgbaaGreatDoorM13
import Derived.Test.YtkpfkgoiaicgbaaGreatDoorM9
import Derived.Test.YtkpfkgoiaicgbaaGreatDoorM10
set_option linter.unusedSimpArgs false
set_option linter.unusedVariables false
set_option maxHeartbeats 3200000
namespace Go.Proofs.YtkpfkgoiaicgbaaGreatDoor
open Go.RowKit Corb
def vI(V p:Nat):Nat:=V/2 ^ p%2
theorem AW(V p:Nat):vI V p<=1:=by unfold vI;omega
def cd(V p:Nat):Nat->Nat
 | 0=>0
 | n+1=>2*cd V p n+vI V (p+n)
theorem MA(V p n:Nat):cd V p n<p2 n:=by
 induction n with
 | zero=>simp[cd,p2]
 | succ n ih=>
  have:=AW V (p+n);simp only[cd];rw[jt];omega
def nO(l:List Int)(n c:Nat):Int:=(cF l 15).getD (pl l n+(c-2*nx l n)) 0
def mT(l:List Int)(V sz p:Nat):Nat->Nat->Option (Int×Nat)
 | 0,_=>none
 | f+1,n=>if sz<p+n+1 then none else if cd V p (n+1)<nx l (n+1)then some (nO l n (cd V p (n+1)),p+n+1)else mT l V sz p f (n+1)
def dec(l:List Int)(V sz p:Nat):Option (Int×Nat):=mT l V sz p 15 0
theorem EA{l:List Int}{n c:Nat}(hn:n<15)(h1:2*nx l n<=c)(h2:c<nx l (n+1)):∃i,i<l.length/\l.getD i 0=(n:Int)+1/\dV l i=c/\nO l n c=(i:Int):=by
 have e:nx l (n+1)=2*nx l n+many l ((n:Int)+1) l.length:=rfl;obtain⟨i,hi,hl,hm⟩:=Ku l ((n:Int)+1) l.length (c-2*nx l n) (by omega);refine⟨i,hi,hl,?_,?_⟩
 ·
  unfold dV;rw[hl,hm];have:((n:Int)+1).toNat-1=n:=by omega
  rw[this];omega
 · unfold nO;rw[←hm];exact ub l 15 n i hi hl hn
theorem MP(l:List Int)(N:Nat):pl l N<=N*l.length:=by rw[←nP];exact sf l N
theorem Lq{l:List Int}(hok:ap l=true)(N:Nat)(hN:N<=15):nx l N<=32768:=by
 have h:=Lr hok N hN;have h2:=xR N 15 hN;have h3:p2 15=32768:=rfl;omega
theorem Lp(V p n:Nat)(hn:n<=15):cd V p n<32768:=by
 have h:=MA V p n;have h2:=xR n 15 hn;have h3:p2 15=32768:=rfl;omega
theorem KL (l : List Int) : ∀ a b, a ≤ b → pl l a ≤ pl l b := by
  intro a b hab
  induction b with
  | zero => have : a = 0 := by omega
            rw [this]; exact Nat.le_refl _
  | succ b ihb =>
    by_cases e2 : a = b + 1
    · rw [e2]; exact Nat.le_refl _
    · have := ihb (by omega)
      simp only [pl]; omega
theorem Mn{l:List Int}{n c:Nat}(hn:n<15)(h1:2*nx l n<=c)(h2:c<nx l (n+1)):pl l n+(c-2*nx l n)<(cF l 15).length:=by
 have e:nx l (n+1)=2*nx l n+many l ((n:Int)+1) l.length:=rfl;have e2:pl l (n+1)=pl l n+many l ((n:Int)+1) l.length:=rfl;have:=KL l (n+1) 15 (by omega);rw[nP];omega
theorem ef.heap{w w':World}{b:Nat}{vl vc vs:Value}{m:Nat->Nat}(h:ef w b vl vc vs m)(he:w'.heap[b]?=w.heap[b]?)(hs:w.heap.size<=w'.heap.size):ef w' b vl vc vs m:=by
 obtain⟨c0,c1,c2,c3,f,hlt⟩:=h;exact⟨(World.cell?_of_block (a:=⟨b,0,none⟩) he).trans c0,(World.cell?_of_block (a:=⟨b,1,none⟩) he).trans c1,fun j hj=>(World.cell?_of_block (a:=⟨b,2+j,none⟩) he).trans (c2 j hj),(World.cell?_of_block (a:=⟨b,18,none⟩) he).trans c3,fun o=>(World.frozen?_of_block (a:=⟨b,o,none⟩) he).trans (f o),by omega⟩
theorem bC.keep{w w':World}{a:Option Addr}{b:Nat}{l:List Int}(h:bC w a l)(hk:ax b w w')(hg:∀g o,a=some ⟨g,o,none⟩->g≠b):bC w' a l:=by
 intro h0;obtain⟨g,o,e,hlt,hc⟩:=h h0;exact⟨g,o,e,Nat.lt_of_lt_of_le hlt hk.1.size,fun i hi=>(World.cell?_of_block (a:=⟨g,o+i,none⟩) (hk.2 g hlt (hg g o e))).trans (hc i hi)⟩
theorem qz{l:List Int}{V sz p f n:Nat}(h:sz<p+n+1):mT l V sz p (f+1) n=none:=by simp only[mT];rw[if_pos h]
theorem qy{l:List Int}{V sz p f n:Nat}(h:¬ sz<p+n+1)(h2:cd V p (n+1)<nx l (n+1)):mT l V sz p (f+1) n=some (nO l n (cd V p (n+1)),p+n+1):=by simp only[mT];rw[if_neg h,if_pos h2]
theorem oc{l:List Int}{V sz p f n:Nat}(h:¬ sz<p+n+1)(h2:¬ cd V p (n+1)<nx l (n+1)):mT l V sz p (f+1) n=mT l V sz p f (n+1):=by simp only[mT];rw[if_neg h,if_neg h2]
def kS(w:World)(b:Nat)(s:ByteArray)(d:Option (Int×Nat))(e:Ending)(w':World):Prop:=
 ax b w w'/\match d with
  | none=>e = .returned (.tuple #[.int .i64 0,.bool false])
  | some (i,q)=>e = .returned (.tuple #[.int .i64 i,.bool true])/\Rdr w' b s q
end Go.Proofs.YtkpfkgoiaicgbaaGreatDoor
namespace Go.Proofs.YtkpfkgoiaicgbaaGreatDoor.Bkx
open Go.Proofs.YtkpfkgoiaicgbaaGreatDoor
open Go.RowKit Corb
set_option maxRecDepth 100000
set_option linter.unusedSimpArgs false
theorem bookGet_any(B:BkI)(hB:Bks B)(a sa:Option Addr)(cap n sn sc b p:Nat)(vc:Value)(C:Array Value)(l:List Int)(s:ByteArray)(w:World)(hC:C=(aO (.slice a n cap) vc (.slice sa sn sc) (fi l 15)).toArray)(hok:ap l=true)(hsn:(cF l 15).length=sn)
  (hs:s.size<=2000000) (hr:Rdr w b s p) (hp:p<=8*s.size) (hrow:∀W,ax b w W->bC W sa (cF l 15)) :
  Calls Tryz.prog B.g #[.agg C,.pointer (some ⟨b,0,none⟩)] w (kS w b s (dec l (au s) (8*s.size) p)):=by
 have hbl:=hr.lt;have hB0:=vK w (.slice a n cap) vc (.slice sa sn sc) (fi l 15) B.T;rw[←hC]at hB0;have hk0:ax b w (w.alloc (.cells C B.T)):=(ax.refl b w).alloc (by omega) _;have hr0:=hr.alloc (.cells C B.T);have hsz0:w.heap.size<(w.alloc (.cells C B.T)).heap.size:=by simp
 have HS:=af hs;have HP:=af hp;have HOK:=af hok;have HSN:=af hsn;have hsnI:(sn:Int)<=4500:=by
  have h1:=sf l 15;have h2:=g9 hok;have h3:15*l.length<=15*300:=Nat.mul_le_mul_left _ h2;omega
 have hspI:(p:Int)<=16000000:=by omega
 have Hr:=af hrow;clear hC hr hs hp hok hsn hrow;obtain⟨w0,hw0⟩:∃x,w.alloc (.cells C B.T)=x:=⟨_,rfl⟩;rw[hw0]at hB0 hk0 hr0 hsz0;rcases hB with rfl|rfl|rfl;all_goals
  simp only[bkL,bkD,bkN]at hw0 ⊢;have HW0:=af hw0;clear hw0
  (first|go_enter Tryz.func224,Tryz.ntmps224|go_enter Tryz.func230,Tryz.ntmps230|go_enter Tryz.func228,Tryz.ntmps228)
  go_wp2_with fail;rw[ae HW0]
  go_loopw [4,5,6,7,8,9] (fun _ _ c f pc lg wr=>∃N:Nat,N<=15/\lg = .int .i64 ((N:Int)+1)/\c = .int .i64 (cd (au s) p N:Nat)/\f = .int .i64 (nx l N:Nat)/\pc = .int .i64 (pl l N:Nat)/\nx l N<=cd (au s) p N/\Rdr wr b s (p+N)/\ax b w wr/\ef wr w.heap.size (.slice a n cap) vc (.slice sa sn sc) (fi l 15)/\dec l (au s) (8*s.size) p=mT l (au s) (8*s.size) p (15-N) N) (fun _ _ _ _ _ lg _=>16-(intOf lg).toNat)
  case atStart=>exact⟨0,by omega,rfl,rfl,rfl,rfl,Nat.le_refl _,hr0,hk0,hB0,rfl⟩
  case round=>
   obtain⟨N,hN,rfl,rfl,rfl,rfl,hge,hrd,hkp,hbk,hdec⟩:=hrel;clear hr0 hk0 hB0 hsz0;have hNI:(N:Int)<=15:=by omega
   have c1:=af (Lp (au s) p N hN);have c2:=af (Lq (ae HOK) N hN);have cI:(cd (au s) p N:Int)<=32768:=by have:=ae c1;omega
   have nI:(nx l N:Int)<=32768:=by have:=ae c2;omega
   have HGE:=af hge;have HD:=af hdec;clear hge hdec;by_cases hlt:N<15
   ·
    have hN15:(N:Int)<15:=by omega
    have hd15:decide ((N:Int)+1<=15)=true:=decide_eq_true (by omega);have hbit:(au s/2 ^ (p+N)%2:Nat)=vI (au s) (p+N):=rfl;have hb1:=AW (au s) (p+N);have hcd:Hid (cd (au s) p (N+1)=2*cd (au s) p N+vI (au s) (p+N)):=rfl;have hcb:=af (Lp (au s) p (N+1) (by omega));have hnx:Hid (nx l (N+1)=2*nx l N+many l ((N:Int)+1) l.length):=rfl;have hpl:Hid (pl l (N+1)=pl l N+many l ((N:Int)+1) l.length):=rfl;have hnb:=af (Lq (ae HOK) (N+1) (by omega));have hpb:(pl l (N+1):Int)<=4500:=by
     have h1:=MP l (N+1);have h2:=g9 (ae HOK);have h3:(N+1)*l.length<=15*300:=Nat.mul_le_mul (by omega) h2;omega
    have hmm:Hid (fi l 15 (N+1)=many l ((N:Int)+1) l.length):=by
     show fi l 15 (N+1)=_;unfold fi;rw[if_pos ⟨by omega,by omega⟩]
     congr 1
    have hin:=af (fun h1 h2=>Mn (l:=l) (n:=N) (c:=cd (au s) p (N+1)) hlt h1 h2);have Hhit:=af (fun h1 h2=>qy (l:=l) (V:=au s) (sz:=8*s.size) (p:=p) (f:=14-N) (n:=N) h1 h2);have Hnext:=af (fun h1 h2=>oc (l:=l) (V:=au s) (sz:=8*s.size) (p:=p) (f:=14-N) (n:=N) h1 h2);have Hshort:=af (fun h1=>qz (l:=l) (V:=au s) (sz:=8*s.size) (p:=p) (f:=14-N) (n:=N) h1);have e15:15-N=(14-N)+1:=by omega
    have e14:14-N=15-(N+1):=by omega
    rw[e15]at HD;have hsym:Hid (nO l N (cd (au s) p (N+1))=(cF l 15).getD (pl l N+(cd (au s) p (N+1)-2*nx l N)) 0):=rfl;generalize many l ((N:Int)+1) l.length=M at *
    go_wp2_with fail;refine(oH b (p+N) s _ hrd (ae HS)).mono ?_;rintro e x1 ⟨rfl,hrd1,hk1⟩;rw[hbit];have hkp1:=hkp.trans hk1;have hbk1:=hbk.heap (hk1.2 _ (by have:=hbk.2.2.2.2.2;exact this) (by omega)) hk1.1.size;have hmc:=hbk1.2.2.1 (N+1) (by omega);rw[ae hmm]at hmc;have hsc:=hbk1.2.2.2.1;have hwl:=hbk1.2.2.2.2.2;have HIR:=af (ae Hr x1 hkp1);have hAF:=ae HGE;have hXB:=ae hcb;have hYB:=ae hnb;have hPP:=ae hpl;have hXX:=ae hcd;have hYY:=ae hnx;clear hrd hkp hk1 hbk hmm hbit Hr;generalize hX':cd (au s) p (N+1)=X at *
    have EX:=af hX';clear hX';generalize cd (au s) p N=A at *
    generalize vI (au s) (p+N)=D at *
    generalize hY':nx l (N+1)=Y at *
    have EY:=af hY';clear hY';generalize nx l N=F at *
    generalize hP':pl l (N+1)=P' at *
    have EP:=af hP';clear hP';generalize pl l N=P at *
    have hDI:(D:Int)<=1:=by omega
    have hMI:(M:Int)<=32768:=by omega
    have hPI:(P:Int)<=4500:=by omega
    have hrd2:=hrd1;obtain⟨q0,q1,q2,g0,g1,g2,hb3⟩:=hrd2;by_cases hsh:8*s.size<p+N+1
    ·
     rw[decide_eq_true (show 8*s.size<p+N+1 from hsh)]at q2;have Hn:Hid (dec l (au s) (8*s.size) p=none):=by
      show dec l (au s) (8*s.size) p=none;rw[ae HD];exact ae Hshort hsh
     have HKP:=af hkp1;clear hbk1 hXX hYY hPP hsh q0 q1 g0 g1 g2 hrd1 hkp1 hXB hYB hAF;go_wp2
     go_ret2
     unfold kS;rw[ae Hn];exact⟨ae HKP,rfl⟩
    ·
     rw[decide_eq_false (show ¬ 8*s.size<p+N+1 from hsh)]at q2;have HSH:=af hsh;by_cases hhit:X<Y
     ·
      have hxI:(A:Int)*2+(D:Int)<(F:Int)*2+(M:Int):=by omega
      have hin':=ae hin (by omega) hhit;have Hd:Hid (dec l (au s) (8*s.size) p=some (nO l N X,p+N+1)):=by
       show dec l (au s) (8*s.size) p=_;rw[ae HD];exact ae Hhit hsh hhit
      have hK:((P:Int)+((A:Int)*2+(D:Int))-(F:Int)*2)=((P+(X-2*F):Nat):Int):=by omega
      have hsn':=ae HSN;obtain⟨g,o,rfl,hg,hcc⟩:=ae HIR (by omega);have c0:=hcc (P+(X-2*F)) (by omega);rw[←ae hsym]at c0;have hKI:((P+(X-2*F):Nat):Int)<(sn:Int):=by omega
      generalize P+(X-2*F)=K at *
      generalize nO l N X=Z at *
      have HKP:=af hkp1;have HRD:=af hrd1;have hK0:(0:Int)<=(K:Int):=by omega
      clear hcc hbk1 hXX hYY hPP hsh q0 q1 g0 g1 g2 hrd1 hkp1 hXB hYB hAF hhit hin' hsn';go_wp2
      go_ret2
      unfold kS;rw[ae Hd];exact⟨ae HKP,rfl,ae HRD⟩
     ·
      have hxI:¬ (A:Int)*2+(D:Int)<(F:Int)*2+(M:Int):=by omega
      have Hd:Hid (dec l (au s) (8*s.size) p=mT l (au s) (8*s.size) p (15-(N+1)) (N+1)):=by
       show dec l (au s) (8*s.size) p=_;rw[ae HD,ae Hnext hsh hhit,e14]
      have HKP:=af hkp1;have HRD:=af hrd1;have HBK:=af hbk1;have HYX:Hid (Y<=X):=by show Y<=X;omega
      have eX:Hid ((A:Int)*2+(D:Int)=(X:Int)):=by show(A:Int)*2+(D:Int)=(X:Int);omega
      have eY:Hid ((F:Int)*2+(M:Int)=(Y:Int)):=by show(F:Int)*2+(M:Int)=(Y:Int);omega
      have eP:Hid ((P:Int)+(M:Int)=(P':Int)):=by show(P:Int)+(M:Int)=(P':Int);omega
      clear hbk1 hXX hYY hPP hsh q0 q1 g0 g1 g2 hrd1 hkp1 hXB hYB hAF hhit HIR hsc;go_wp2;go_roundw
      case rel=>exact⟨N+1,by omega,by go_num,by rw[ae eX,ae EX],by rw[ae eY,ae EY],by rw[ae eP,ae EP],by rw[ae EX,ae EY];exact ae HYX,ae HRD,ae HKP,ae HBK,ae Hd⟩
      case measure=>simp[intOf];omega
   ·
    obtain rfl:N=15:=by omega
    have Hn:Hid (dec l (au s) (8*s.size) p=none):=ae HD;go_wp2
    go_ret2
    unfold kS;rw[ae Hn];exact⟨hkp,rfl⟩
end Go.Proofs.YtkpfkgoiaicgbaaGreatDoor.Bkx
namespace Go.Proofs.YtkpfkgoiaicgbaaGreatDoor
open Go.RowKit Corb
theorem Rdr.three{w:World}{b p:Nat}{s:ByteArray}(h:Rdr w b s p)(hp:8*s.size<p):Three w b (.string s) (.int .i64 (min p (8*s.size):Nat)) (.bool true):=by
 unfold Rdr at h;rwa[decide_eq_true hp]at h
end Go.Proofs.YtkpfkgoiaicgbaaGreatDoor
namespace Go.Proofs.YtkpfkgoiaicgbaaGreatDoor
open Go.RowKit Corb
theorem JL(V n j:Nat)(h:j<n):V%2 ^ n/2 ^ j%2=V/2 ^ j%2:=by
 have h1:V%2 ^ n/2 ^ j%2=V%2 ^ n%2 ^ (j+1)/2 ^ j:=by
  rw[Nat.pow_succ,Nat.mod_mul_right_div_self]
 have h2:V/2 ^ j%2=V%2 ^ (j+1)/2 ^ j:=by
  rw[Nat.pow_succ,Nat.mod_mul_right_div_self]
 rw[h1,h2]
 congr 1
 apply Nat.mod_mod_of_dvd;exact Nat.pow_dvd_pow 2 (by omega)
theorem MW(n c j:Nat)(h:j<n):rv n c/2 ^ j%2=c/2 ^ (n-1-j)%2:=by
 have e:=Mg n c j;rw[Nat.testBit_eq_decide_div_mod_eq,Nat.testBit_eq_decide_div_mod_eq,decide_eq_true h,Bool.true_and]at e;have h1:=Nat.mod_two_eq_zero_or_one (rv n c/2 ^ j);have h2:=Nat.mod_two_eq_zero_or_one (c/2 ^ (n-1-j));rcases h1 with h1|h1<;>rcases h2 with h2|h2<;>rw[h1,h2]at e ⊢ <;> simp at e
theorem JO{V p n c:Nat}(h:V/2 ^ p%2 ^ n=rv n c)(hc:c<2 ^ n)(m:Nat)(hm:m<=n):cd V p m=c/2 ^ (n-m):=by
 induction m with
 | zero=>simp only[cd];rw[Nat.sub_zero,Nat.div_eq_of_lt hc]
 | succ m ih=>
  simp only[cd];rw[ih (by omega)];have e:vI V (p+m)=c/2 ^ (n-1-m)%2:=by
   unfold vI;rw[Nat.pow_add,←Nat.div_div_eq_div_mul,←JL (V/2 ^ p) n m (by omega),h,MW n c m (by omega)]
  rw[e,show n-m=(n-1-m)+1 by omega,←uD,show n-(m+1)=n-1-m by omega];omega
theorem Hg{l:List Int}{i n m:Nat}(hl:l.getD i 0=(n:Int)+1)(hm:m<=n):nx l m<=dV l i/2 ^ (n+1-m):=by
 have h1:=Kz l m (n-m);rw[show m+(n-m)=n by omega]at h1;have h2:2*nx l n<=dV l i:=by
  unfold dV;rw[hl,show((n:Int)+1).toNat-1=n by omega];omega
 rw[Nat.le_div_iff_mul_le (Nat.two_pow_pos _),show n+1-m=(n-m)+1 by omega,Nat.pow_succ];unfold p2 at h1;have:nx l m*(2 ^ (n-m)*2)=2*(nx l m*2 ^ (n-m)):=by rw[←Nat.mul_assoc,Nat.mul_comm]
 omega
theorem CG{l:List Int}(hok:ap l=true){V sz p i n:Nat}(hi:i<l.length)(hl:l.getD i 0=(n:Int)+1)(hn:n<15)(h:V/2 ^ p%2 ^ (n+1)=rv (n+1) (dV l i))(hsz:p+n+1<=sz)(m f:Nat)(hm:m<=n)(hf:n<m+f):mT l V sz p f m=some ((i:Int),p+n+1):=by
 have hlt:=sY hok hi (by omega);rw[hl,show((n:Int)+1).toNat=n+1 by omega]at hlt;induction f generalizing m with
 | zero=>omega
 | succ f ih=>
  have hcd:=JO h hlt.1 (m+1) (by omega);by_cases e:m=n
  ·
   subst e;rw[Nat.sub_self,Nat.pow_zero,Nat.div_one]at hcd;rw[qy (by omega) (by rw[hcd];exact hlt.2),hcd];have hs:nO l m (dV l i)=(i:Int):=by
    unfold nO;have e2:dV l i-2*nx l m=many l ((m:Int)+1) i:=by
     unfold dV;rw[hl,show((m:Int)+1).toNat-1=m by omega];omega
    rw[e2];exact ub l 15 m i hi hl hn
   rw[hs]
  · rw[oc (by omega) (by rw[hcd];have:=Hg (m:=m+1) hl (by omega);omega)];exact ih (m+1) (by omega) (by omega)
theorem FP{l:List Int}(hok:ap l=true){V sz p i n:Nat}(hi:i<l.length)(hl:l.getD i 0=(n:Int)+1)(h:V/2 ^ p%2 ^ (n+1)=rv (n+1) (dV l i))(hsz:p+n+1<=sz):dec l V sz p=some ((i:Int),p+n+1):=by
 have hb:=kk (eD hok) hi;exact CG hok hi hl (by omega) h hsz 0 15 (Nat.zero_le _) (by omega)
end Go.Proofs.YtkpfkgoiaicgbaaGreatDoor
