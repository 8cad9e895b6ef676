/- Texts. -/
import Derived.Test.YtckocaibjciplaaGreatDoorM9
set_option linter.all false
set_option maxRecDepth 100000
set_option maxHeartbeats 1600000
namespace Go.Proofs.YtckocaibjciplaaGreatDoor
open Go.Proofs.Tryz
open Go.RowKit Corb
def tC:List Int:=[0,0,0,0,0,0,0,0,1,1,1,1,2,2,2,2,3,3,3,3,4,4,4,4,5,5,5,5]
def sY:List Int:=[0,0,0,0,1,1,2,2,3,3,4,4,5,5,6,6,7,7,8,8,9,9,10,10,11,11,12,12,13,13]
def qM{w:World}(a:Array Value)(n:Nat)(l:List Int)(b:l.map (Value.int .i64)=a.toList)(d:l.length=n)(c:n<=maxLen):an (w.alloc (.cells a 3)) w.heap.size (.slice w.heap.size n n) l:=by
 subst d;have f:a.size=l.length*1:=by
  have:=congrArg List.length b;simpa using this.symm
 have:=a0S (base:=w.heap.size) (e:=3) (size:=1) w a l.length (a0a _) c f;show World.ownsRow _ _ _ _ _ _ _;rw[b];exact this
def jP(w:World) :
  Calls prog 220 #[] w fun e w'=>e = .returned (.slice w.heap.size 28 28)/\an w' w.heap.size (.slice w.heap.size 28 28) tC/\Below w.heap.size w w':=by
 go_enter func220,ntmps220;go_wp2;go_ret;exact⟨rfl,qM _ 28 tC rfl rfl (by unfold maxLen;omega),cC⟩
def jM(w:World) :
  Calls prog 221 #[] w fun e w'=>e = .returned (.slice w.heap.size 30 30)/\an w' w.heap.size (.slice w.heap.size 30 30) sY/\Below w.heap.size w w':=by
 go_enter func221,ntmps221;go_wp2;go_ret;exact⟨rfl,qM _ 30 sY rfl rfl (by unfold maxLen;omega),cC⟩
def oT(l:List Int)(f:Int):Nat->Int
 | 0=>f
 | k+1=>oT l f k+(p2 (l.getD k 0).toNat:Nat)
def lw(l:List Int)(f:Int)(k:Nat):List Int:=(List.range k).map (oT l f)
def lx(l:List Int)(f:Int)(k:Nat):(lw l f k).length=k:=by simp[lw]
def Fl(l:List Int)(f:Int)(k:Nat):lw l f (k+1)=lw l f k++[oT l f k]:=by simp[lw,a3N]
def vL(a:Option Addr)(cap n:Nat)(l:List Int)(f:Int)(w:World)(Q:l.length=n)(h:br w a l)(hm:(n:Int)<=30)(hb:∀i,i<n->0<=l.getD i 0/\l.getD i 0<=16)(M:∀k,k<=n->0<=oT l f k/\oT l f k<=100000) :
  Calls prog 219 #[.slice a n cap,f] w fun e w'=>∃v,e = .returned v/\an w' w.heap.size v (lw l f n)/\Below w.heap.size w w':=by
 obtain⟨i0,hi,D,E,G⟩:=a0s Tryz.infoInt;have B:Hid (an (w.alloc (.cells #[] 3)) w.heap.size (.slice w.heap.size 0 0) (lw l f 0)):=an.lit _ _ (a0a _);have A:Hid (Below w.heap.size w (w.alloc (.cells #[] 3))):=cC;have I:=af h;have J:=af Q;have S:=af hb;have H:=af M;clear h Q hb M;go_enter func219,ntmps219;go_wp2_with fail
 go_loopw [1,5,6] (fun fr v i wr=>∃k:Nat,k<=n/\i = .int .i64 k/\fr = .int .i64 (oT l f k)/\an wr w.heap.size v (lw l f k)/\Below w.heap.size w wr) (fun _ _ i _=>n-(intOf i).toNat)
 case atStart=>exact⟨0,a0g _,rfl,rfl,B,A⟩
 case round=>
  obtain⟨k,N,rfl,rfl,hq,b⟩:=hrel;have d:Hid ((lw l f k).length=k):=lx l f k;obtain⟨va,vc,rfl⟩:=hq.formN d;have ab:(k:Int)<=30:=by omega
  have HK:=af N;by_cases s:k<n
  .
   have O:(k:Int)<(n:Int):=(by omega);have C:Hid (lw l f k++[oT l f k]=lw l f (k+1)):=(Fl l f k).symm;have y:Hid (oT l f (k+1)=oT l f k+(p2 (l.getD k 0).toNat:Nat)):=rfl;have K:Hid (k+1<=maxLen/\(k+1)*8<=140737488355328):=by show _/\_;unfold maxLen;omega
   obtain⟨f0,f1⟩:=ae H k (by omega);obtain⟨f2,f3⟩:=ae H (k+1) (by omega);rw[ae y]at f2 f3;obtain⟨y0,y1⟩:=ae S k s;have x:=af (hq.own d);have m:=af b;have r:=b.size;obtain⟨g,o,rfl,hg,L⟩:=I (by rw[ae J];omega);have c0:=L k (by rw[ae J];exact s);have T:Hid (∀W,Below w.heap.size w W->W.cell? ⟨g,o+k,none⟩=some (.int .i64 (l.getD k 0))):=fun W X=>(X.cell (p:=⟨g,o+k,none⟩) hg).trans c0;have y2:l.getD k 0<=60:=(by omega);have z:=af (fun W=>fR (l.getD k 0) W y2);clear hq b N L c0 I;generalize U:oT l f k=F,Z:l.getD k 0=Y at *;clear U Z;generalize V:p2 Y.toNat=P at *;clear V;go_wp2_with (first
    | (at_builtin;refine a0w _ rfl _ _ 122 rfl w.heap.size 3 i0 (.int .i64 0) 1 8 a0F hi D E G rfl (by decide) (.slice va k vc) _ _ rfl (a0n x _) ⟨wr.heap.size,0,none⟩ 1 1 [.int .i64 F] rfl rfl (cw _ _ rfl _ _) (fj _) K.1 K.2 (au r _) ?_;intro v' x2 j c t;clear t;have q:=aJ (v:=.slice va k vc) c x (a0a _) r m;have aa:=ae T x2 q;clear c)
    | (go_at_call 217;apply(z _).mono;rintro e w'⟨rfl,R⟩;rw[R];clear R))
   have u:=du d j;rw[ae C]at u;clear j;go_roundw
   case rel=>exact⟨k+1,by omega,by go_num,by rw[ae y],u,q⟩
   case measure=>simp[intOf];omega
  .
   obtain rfl:k=n:=by omega
   go_wp2;go_ret;exact⟨_,rfl,hq,b⟩
def nX(l:List Int)(num:Int):Nat->Nat->Nat
 | 0,k=>k
 | f+1,k=>if k+1<l.length/\l.getD (k+1) 0<=num then nX l num f (k+1)else k
def Eu(l:List Int)(num:Int):Nat:=nX l num l.length 0
def Lh{l:List Int}{num:Int}{f k:Nat}(h:¬ (k+1<l.length/\l.getD (k+1) 0<=num)):nX l num f k=k:=by
 cases f with
 | zero=>rfl
 | succ f=>simp only[nX];rw[a0e h]
def Lg{l:List Int}{num:Int}{f k:Nat}(h:k+1<l.length/\l.getD (k+1) 0<=num):nX l num (f+1) k=nX l num f (k+1):=by simp only[nX];rw[a0d h]
def oz(a:Option Addr)(cap n:Nat)(l:List Int)(num:Int)(w:World)(q:l.length=n)(h:br w a l)(B:(n:Int)<=30)(y:1<=n) :
  Calls prog 223 #[.slice a n cap,num] w fun e w'=>e = .returned (.int .i64 (Eu l num:Nat))/\w'=w:=by
 have b:=af (fun f k=>@Lh l num f k);have j:=af (fun f k=>@Lg l num f k);have s:Hid (Eu l num=nX l num n 0):=by show Eu l num=_;unfold Eu;rw[q]
 rw[q]at b j;obtain⟨g,o,rfl,z,u⟩:=h (by omega);have t:=af u;rw[q]at t;clear q h u;go_enter func223,ntmps223;go_wp2_with fail
 go_loop [5] (fun i=>∃k:Nat,k<n/\i = .int .i64 k/\nX l num n 0=nX l num (n-k) k) (fun i=>n-(intOf i).toNat)
 case atStart=>exact⟨0,by omega,rfl,rfl⟩
 case round=>
  obtain⟨k,A,rfl,v⟩:=hrel;have r:=af v;clear v;obtain⟨K,hK⟩:∃K:Int,(k:Int)+1=K:=⟨_,rfl⟩;by_cases c:k+1<n
  .
   have p:(k:Int)+1<(n:Int):=(by omega);have c0:=ae t (k+1) c;have x:(k:Int)+1<=30:=(by omega);by_cases m:l.getD (k+1) 0<=num
   .
    have d:Hid (nX l num n 0=nX l num (n-(k+1)) (k+1)):=by
     show nX l num n 0=_;rw[ae r,show n-k=(n-(k+1))+1 by omega];exact j _ _ ⟨c,m⟩
    generalize l.getD (k+1) 0=Y at *;clear hK;go_wp2
    go_round
    case rel=>exact⟨k+1,by omega,by go_num,d⟩
    case measure=>simp[intOf];omega
   .
    have d:Hid (nX l num n 0=k):=by
     show nX l num n 0=_;rw[ae r];exact b _ _ (fun h=>m h.2)
    generalize l.getD (k+1) 0=Y at *;clear hK;go_wp2;go_ret;exact⟨aK (by rw[ae s,ae d]),rfl⟩
  .
   have p:¬ (k:Int)+1<(n:Int):=(by omega);have d:Hid (nX l num n 0=k):=by
    show nX l num n 0=_;rw[ae r];exact b _ _ (fun h=>c h.1)
   clear hK;go_wp2;go_ret;exact⟨aK (by rw[ae s,ae d]),rfl⟩
def kK:List Int:=lw tC 3 28
def kE:List Int:=lw sY 1 30
def NI:kK=(List.range 28).map (fun k=>((stF 3 4 k).1:Int)):=by decide +kernel
def Ma:kE=(List.range 30).map (fun k=>((stF 1 2 k).1:Int)):=by decide +kernel
def NJ:tC=(List.range 28).map (fun k=>((stF 3 4 k).2:Int)):=by decide +kernel
def Mb:sY=(List.range 30).map (fun k=>((stF 1 2 k).2:Int)):=by decide +kernel
def Kr:(List.range 61).all (fun y=>decide (y<3) || decide (Eu kK (y:Int)=fnd 3 4 y 27))=true:=by decide +kernel
def I9:(List.range 251).all (fun z=>decide (z<1) || decide (Eu kE (z:Int)=fnd 1 2 z 29))=true:=by decide +kernel
def Dz(y:Nat)(a:3<=y)(b:y<=60):Eu kK (y:Int)=fnd 3 4 y 27:=by
 have:=a08.1 Kr y (List.mem_range.2 (by omega));simp only[a1k,a0t]at this;rcases this with h|h
 . omega
 . exact h
def Bq(z:Nat)(a:1<=z)(b:z<=250):Eu kE (z:Int)=fnd 1 2 z 29:=by
 have:=a08.1 I9 z (List.mem_range.2 (by omega));simp only[a1k,a0t]at this;rcases this with h|h
 . omega
 . exact h
def me(f:Nat->Int)(n k:Nat)(h:k<n):((List.range n).map f).getD k 0=f k:=by simp[List.getD,h]
def Dx(k:Nat)(h:k<28):kK.getD k 0=((stF 3 4 k).1:Int):=by rw[NI];exact me _ _ _ h
def Bl(k:Nat)(h:k<30):kE.getD k 0=((stF 1 2 k).1:Int):=by rw[Ma];exact me _ _ _ h
def Dy(k:Nat)(h:k<28):tC.getD k 0=((stF 3 4 k).2:Int):=by rw[NJ];exact me _ _ _ h
def Bp(k:Nat)(h:k<30):sY.getD k 0=((stF 1 2 k).2:Int):=by rw[Mb];exact me _ _ _ h
def kg(a:Option Addr)(cap:Nat)(w:World)(h:br w a tC) :
  Calls prog 219 #[.slice a 28 cap,.int .i64 3] w fun e w'=>∃v,e = .returned v/\an w' w.heap.size v kK/\Below w.heap.size w w':=
 vL a cap 28 tC 3 w rfl h (by omega) (by decide +kernel) (by decide +kernel)
def kf(a:Option Addr)(cap:Nat)(w:World)(h:br w a sY) :
  Calls prog 219 #[.slice a 30 cap,.int .i64 1] w fun e w'=>∃v,e = .returned v/\an w' w.heap.size v kE/\Below w.heap.size w w':=
 vL a cap 30 sY 1 w rfl h (by omega) (by decide +kernel) (by decide +kernel)
def DT:List Int:=bC.map fun(i:Nat)=>(i:Int)
def DV:DT.length=19:=rfl
def DU(j:Nat)(h:j<19):DT.getD j 0=(bC.getD j 0:Nat):=by
 have a:j<bC.length:=h;unfold DT;simp[List.getD,a]
def Df(w:World):Calls prog 228 #[] w fun e w'=>(∃g,e = .returned (.slice (some ⟨g,0,none⟩) 19 19)/\an w' w.heap.size (.slice (some ⟨g,0,none⟩) 19 19) DT)/\Below w.heap.size w w':=by
 go_enter func228,ntmps228;go_wp2;go_ret;exact⟨⟨_,rfl,qM _ 19 DT rfl rfl (by unfold maxLen;omega)⟩,cC⟩
def Gd(w:World):Calls prog 228 #[] w fun e w'=>e = .returned (.slice w.heap.size 19 19)/\an w' w.heap.size (.slice w.heap.size 19 19) DT/\Below w.heap.size w w':=by
 go_enter func228,ntmps228;go_wp2;go_ret;exact⟨rfl,qM _ 19 DT rfl rfl (by unfold maxLen;omega),cC⟩
