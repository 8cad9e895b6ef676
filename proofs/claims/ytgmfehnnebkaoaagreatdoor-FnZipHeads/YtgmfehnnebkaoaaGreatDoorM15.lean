/- Of what the proof is made: 3 texts, one behind the other. -/
import Derived.Test.YtgmfehnnebkaoaaGreatDoorM9
import Derived.Test.YtgmfehnnebkaoaaGreatDoorRb1
import Derived.Test.YtgmfehnnebkaoaaGreatDoorM3
set_option maxRecDepth 100000
set_option linter.unusedSimpArgs false
set_option linter.unusedVariables false
set_option maxHeartbeats 1600000
namespace Go.Proofs.YtgmfehnnebkaoaaGreatDoor
open Go.Proofs.Tryz
open Go.RowKit Corb
def rt:List Int:=[0,0,0,0,0,0,0,0,1,1,1,1,2,2,2,2,3,3,3,3,4,4,4,4,5,5,5,5]
def qU:List Int:=[0,0,0,0,1,1,2,2,3,3,4,4,5,5,6,6,7,7,8,8,9,9,10,10,11,11,12,12,13,13]
theorem ui{w:World}(a:Array Value)(n:Nat)(l:List Int)(b:l.map (Value.int .i64)=a.toList)(d:l.length=n)(c:n<=maxLen):al (w.alloc (.cells a 3)) w.heap.size (.slice (some ⟨w.heap.size,0,none⟩) n n) l:=by
 subst d;have f:a.size=l.length*1:=by
  have:=congrArg List.length b;simpa using this.symm
 have:=a0Y (base:=w.heap.size) (e:=3) (size:=1) w a l.length (a0a _) c f;show World.ownsRow _ _ _ _ _ _ _;rw[b];exact this
theorem yg(w:World) :
  Calls prog 227 #[] w fun e w'=>e = .returned (.slice (some ⟨w.heap.size,0,none⟩) 28 28)/\al w' w.heap.size (.slice (some ⟨w.heap.size,0,none⟩) 28 28) rt/\Below w.heap.size w w':=by
 go_enter func227,ntmps227;go_wp2;go_ret;exact⟨rfl,ui _ 28 rt rfl rfl (by unfold maxLen;omega),(a0c _ _).alloc (a0a _) _⟩
theorem xx(w:World) :
  Calls prog 228 #[] w fun e w'=>e = .returned (.slice (some ⟨w.heap.size,0,none⟩) 30 30)/\al w' w.heap.size (.slice (some ⟨w.heap.size,0,none⟩) 30 30) qU/\Below w.heap.size w w':=by
 go_enter func228,ntmps228;go_wp2;go_ret;exact⟨rfl,ui _ 30 qU rfl rfl (by unfold maxLen;omega),(a0c _ _).alloc (a0a _) _⟩
def nG(l:List Int)(f:Int):Nat->Int
 | 0=>f
 | k+1=>nG l f k+(p2 (l.getD k 0).toNat:Nat)
def ki(l:List Int)(f:Int)(k:Nat):List Int:=(List.range k).map (nG l f)
theorem pS(l:List Int)(f:Int)(k:Nat):(ki l f k).length=k:=by simp[ki]
theorem Cp(l:List Int)(f:Int)(k:Nat):ki l f (k+1)=ki l f k++[nG l f k]:=by simp[ki,a3w]
theorem tX(a:Option Addr)(cap n:Nat)(l:List Int)(f:Int)(w:World)(Q:l.length=n)(h:bo w a l)(hm:(n:Int)<=30)(hb:∀i,i<n->0<=l.getD i 0/\l.getD i 0<=16)(M:∀k,k<=n->0<=nG l f k/\nG l f k<=100000) :
  Calls prog 226 #[.slice a n cap,.int .i64 f] w fun e w'=>∃v,e = .returned v/\al w' w.heap.size v (ki l f n)/\Below w.heap.size w w':=by
 obtain⟨i0,hi,D,E,G⟩:=a0r Tryz.infoInt;have B:Hid (al (w.alloc (.cells #[] 3)) w.heap.size (.slice (some ⟨w.heap.size,0,none⟩) 0 0) (ki l f 0)):=al.lit _ _ (a0a _);have A:Hid (Below w.heap.size w (w.alloc (.cells #[] 3))):=(a0c _ _).alloc (a0a _) _;have I:=af h;have J:=af Q;have S:=af hb;have H:=af M;clear h Q hb M;go_enter func226,ntmps226;go_wp2_with fail
 go_loopw [1,5,6] (fun fr v i wr=>∃k:Nat,k<=n/\i = .int .i64 k/\fr = .int .i64 (nG l f k)/\al wr w.heap.size v (ki l f k)/\Below w.heap.size w wr) (fun _ _ i _=>n-(intOf i).toNat)
 case atStart=>exact⟨0,a0g _,rfl,rfl,ae B,ae A⟩
 case round=>
  obtain⟨k,N,rfl,rfl,hq,b⟩:=hrel;have d:Hid ((ki l f k).length=k):=pS l f k;obtain⟨va,vc,rfl⟩:=hq.formN (ae d);have ab:(k:Int)<=30:=by omega
  have HK:=af N;by_cases s:k<n
  .
   have O:(k:Int)<(n:Int):=by omega
   have C:Hid (ki l f k++[nG l f k]=ki l f (k+1)):=(Cp l f k).symm;have y:Hid (nG l f (k+1)=nG l f k+(p2 (l.getD k 0).toNat:Nat)):=rfl;have K:Hid (k+1<=maxLen/\(k+1)*8<=140737488355328):=by show _/\_;unfold maxLen;omega
   obtain⟨f0,f1⟩:=ae H k (by omega);obtain⟨f2,f3⟩:=ae H (k+1) (by omega);rw[ae y]at f2 f3;obtain⟨y0,y1⟩:=ae S k s;have x:=af (hq.own (ae d));have m:=af b;have r:=b.size;obtain⟨g,o,rfl,hg,L⟩:=(ae I) (by rw[ae J];omega);have c0:=L k (by rw[ae J];exact s);have T:Hid (∀W,Below w.heap.size w W->W.cell? ⟨g,o+k,none⟩=some (.int .i64 (l.getD k 0))):=fun W X=>(X.cell (p:=⟨g,o+k,none⟩) hg).trans c0;have y2:l.getD k 0<=60:=by omega
   have z:=af (fun W=>qx (l.getD k 0) W y2);clear hq b N L c0 I;generalize U:nG l f k=F at *
   generalize Z:l.getD k 0=Y at *
   clear U Z;generalize V:p2 Y.toNat=P at *
   clear V;go_wp2_with (first
    | (at_builtin;refine a0B _ rfl _ _ 97 rfl w.heap.size 3 i0 (.int .i64 0) 1 8 a0G hi D E G rfl (by decide) (.slice va k vc) _ _ rfl (a0m (ae x) _) ⟨wr.heap.size,0,none⟩ 1 1 [.int .i64 F] rfl rfl (dB _ _ rfl _ _) (ib _) (ae K).1 (ae K).2 (au r _) ?_;intro v' x2 j c t;clear t;have q:=aH (v:=.slice va k vc) c (ae x) (a0a _) r (ae m);have aa:=ae T x2 q;clear c)
    | (go_at_call 224;refine(ae z _).mono ?_;rintro e w' ⟨rfl,R⟩;rw[R];clear R))
   have u:=fR (ae d) j;rw[ae C]at u;clear j;go_roundw
   case rel=>exact⟨k+1,by omega,by go_num,by rw[ae y],u,q⟩
   case measure=>simp[intOf];omega
  .
   obtain rfl:k=n:=by omega
   go_wp2;go_ret;exact⟨_,rfl,hq,b⟩
def mP(l:List Int)(num:Int):Nat->Nat->Nat
 | 0,k=>k
 | f+1,k=>if k+1<l.length/\l.getD (k+1) 0<=num then mP l num f (k+1)else k
def Bz(l:List Int)(num:Int):Nat:=mP l num l.length 0
theorem Im{l:List Int}{num:Int}{f k:Nat}(h:¬ (k+1<l.length/\l.getD (k+1) 0<=num)):mP l num f k=k:=by
 cases f with
 | zero=>rfl
 | succ f=>simp only[mP];rw[a0e h]
theorem Il{l:List Int}{num:Int}{f k:Nat}(h:k+1<l.length/\l.getD (k+1) 0<=num):mP l num (f+1) k=mP l num f (k+1):=by simp only[mP];rw[a0d h]
theorem nh(a:Option Addr)(cap n:Nat)(l:List Int)(num:Int)(w:World)(q:l.length=n)(h:bo w a l)(B:(n:Int)<=30)(y:1<=n) :
  Calls prog 230 #[.slice a n cap,.int .i64 num] w fun e w'=>e = .returned (.int .i64 (Bz l num:Nat))/\w'=w:=by
 have b:=af (fun f k=>@Im l num f k);have j:=af (fun f k=>@Il l num f k);have s:Hid (Bz l num=mP l num n 0):=by show Bz l num=_;unfold Bz;rw[q]
 rw[q]at b j;obtain⟨g,o,rfl,z,u⟩:=h (by omega);have t:=af u;rw[q]at t;clear q h u;go_enter func230,ntmps230;go_wp2_with fail
 go_loop [5] (fun i=>∃k:Nat,k<n/\i = .int .i64 k/\mP l num n 0=mP l num (n-k) k) (fun i=>n-(intOf i).toNat)
 case atStart=>exact⟨0,by omega,rfl,rfl⟩
 case round=>
  obtain⟨k,A,rfl,v⟩:=hrel;have r:=af v;clear v;obtain⟨K,hK⟩:∃K:Int,(k:Int)+1=K:=⟨_,rfl⟩;by_cases c:k+1<n
  .
   have p:(k:Int)+1<(n:Int):=by omega
   have c0:=ae t (k+1) c;have x:(k:Int)+1<=30:=by omega
   by_cases m:l.getD (k+1) 0<=num
   .
    have d:Hid (mP l num n 0=mP l num (n-(k+1)) (k+1)):=by
     show mP l num n 0=_;rw[ae r,show n-k=(n-(k+1))+1 by omega];exact ae j _ _ ⟨c,m⟩
    generalize l.getD (k+1) 0=Y at *
    clear hK;go_wp2
    go_round
    case rel=>exact⟨k+1,by omega,by go_num,ae d⟩
    case measure=>simp[intOf];omega
   .
    have d:Hid (mP l num n 0=k):=by
     show mP l num n 0=_;rw[ae r];exact ae b _ _ (fun h=>m h.2)
    generalize l.getD (k+1) 0=Y at *
    clear hK;go_wp2;go_ret;exact⟨aJ (by rw[ae s,ae d]),rfl⟩
  .
   have p:¬ (k:Int)+1<(n:Int):=by omega
   have d:Hid (mP l num n 0=k):=by
    show mP l num n 0=_;rw[ae r];exact ae b _ _ (fun h=>c h.1)
   clear hK;go_wp2;go_ret;exact⟨aJ (by rw[ae s,ae d]),rfl⟩
def kC:List Int:=ki rt 3 28
def kh:List Int:=ki qU 1 30
theorem Kw:kC=(List.range 28).map (fun k=>((stF 3 4 k).1:Int)):=by decide +kernel
theorem I9:kh=(List.range 30).map (fun k=>((stF 1 2 k).1:Int)):=by decide +kernel
theorem Ky:rt=(List.range 28).map (fun k=>((stF 3 4 k).2:Int)):=by decide +kernel
theorem Jc:qU=(List.range 30).map (fun k=>((stF 1 2 k).2:Int)):=by decide +kernel
theorem GP:(List.range 61).all (fun y=>decide (y<3) || decide (Bz kC (y:Int)=fnd 3 4 y 27))=true:=by decide +kernel
theorem FH:(List.range 251).all (fun z=>decide (z<1) || decide (Bz kh (z:Int)=fnd 1 2 z 29))=true:=by decide +kernel
theorem Ay(y:Nat)(a:3<=y)(b:y<=60):Bz kC (y:Int)=fnd 3 4 y 27:=by
 have:=a03.1 GP y (List.mem_range.2 (by omega));simp only[a1f,a0p]at this;rcases this with h|h
 . omega
 . exact h
theorem yQ(z:Nat)(a:1<=z)(b:z<=250):Bz kh (z:Int)=fnd 1 2 z 29:=by
 have:=a03.1 FH z (List.mem_range.2 (by omega));simp only[a1f,a0p]at this;rcases this with h|h
 . omega
 . exact h
theorem lf(f:Nat->Int)(n k:Nat)(h:k<n):((List.range n).map f).getD k 0=f k:=by simp[List.getD,h]
theorem Kv(k:Nat)(h:k<28):kC.getD k 0=((stF 3 4 k).1:Int):=by rw[Kw];exact lf _ _ _ h
theorem I8(k:Nat)(h:k<30):kh.getD k 0=((stF 1 2 k).1:Int):=by rw[I9];exact lf _ _ _ h
theorem Kx(k:Nat)(h:k<28):rt.getD k 0=((stF 3 4 k).2:Int):=by rw[Ky];exact lf _ _ _ h
theorem Jb(k:Nat)(h:k<30):qU.getD k 0=((stF 1 2 k).2:Int):=by rw[Jc];exact lf _ _ _ h
theorem mt(a:Option Addr)(cap:Nat)(w:World)(h:bo w a rt) :
  Calls prog 226 #[.slice a 28 cap,.int .i64 3] w fun e w'=>∃v,e = .returned v/\al w' w.heap.size v kC/\Below w.heap.size w w':=
 tX a cap 28 rt 3 w rfl h (by omega) (by decide +kernel) (by decide +kernel)
theorem ms(a:Option Addr)(cap:Nat)(w:World)(h:bo w a qU) :
  Calls prog 226 #[.slice a 30 cap,.int .i64 1] w fun e w'=>∃v,e = .returned v/\al w' w.heap.size v kh/\Below w.heap.size w w':=
 tX a cap 30 qU 1 w rfl h (by omega) (by decide +kernel) (by decide +kernel)
def KV:List Int:=bB.map fun(i:Nat)=>(i:Int)
theorem KX:KV.length=19:=rfl
theorem KW(j:Nat)(h:j<19):KV.getD j 0=(bB.getD j 0:Nat):=by
 have a:j<bB.length:=h;unfold KV;simp[List.getD,a]
theorem Ah(w:World):Calls prog 235 #[] w fun e w'=>(∃g,e = .returned (.slice (some ⟨g,0,none⟩) 19 19)/\al w' w.heap.size (.slice (some ⟨g,0,none⟩) 19 19) KV)/\Below w.heap.size w w':=by
 go_enter func235,ntmps235;go_wp2;go_ret;exact⟨⟨_,rfl,ui _ 19 KV rfl rfl (by unfold maxLen;omega)⟩,(a0c _ _).alloc (a0a _) _⟩
end Go.Proofs.YtgmfehnnebkaoaaGreatDoor
