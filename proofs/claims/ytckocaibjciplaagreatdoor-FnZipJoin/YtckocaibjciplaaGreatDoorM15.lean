/- Texts. -/
import Derived.Test.YtckocaibjciplaaGreatDoorM9
set_option linter.all false
set_option maxRecDepth 100000
set_option maxHeartbeats 1600000
namespace Go.Proofs.YtckocaibjciplaaGreatDoor
open Go.Proofs.Tryz
open Go.RowKit Corb
def sE:List Int:=[0,0,0,0,0,0,0,0,1,1,1,1,2,2,2,2,3,3,3,3,4,4,4,4,5,5,5,5]
def rW:List Int:=[0,0,0,0,1,1,2,2,3,3,4,4,5,5,6,6,7,7,8,8,9,9,10,10,11,11,12,12,13,13]
def pX{w:World}(a:Array Value)(n:Nat)(l:List Int)(b:l.map (Value.int .i64)=a.toList)(d:l.length=n)(c:n<=maxLen):an (w.alloc (.cells a 3)) w.heap.size (.slice w.heap.size n n) l:=by
 subst d;have f:a.size=l.length*1:=by
  have:=congrArg List.length b;simpa using this.symm
 have:=a0U (base:=w.heap.size) (e:=3) (size:=1) w a l.length (a0a _) c f;show World.ownsRow _ _ _ _ _ _ _;rw[b];exact this
def jA(w:World) :
  Calls prog 220 #[] w fun e w'=>e = .returned (.slice w.heap.size 28 28)/\an w' w.heap.size (.slice w.heap.size 28 28) sE/\Below w.heap.size w w':=by
 go_enter func220,ntmps220;go_wp2;go_ret;exact⟨rfl,pX _ 28 sE rfl rfl (by unfold maxLen;omega),cC⟩
def jv(w:World) :
  Calls prog 221 #[] w fun e w'=>e = .returned (.slice w.heap.size 30 30)/\an w' w.heap.size (.slice w.heap.size 30 30) rW/\Below w.heap.size w w':=by
 go_enter func221,ntmps221;go_wp2;go_ret;exact⟨rfl,pX _ 30 rW rfl rfl (by unfold maxLen;omega),cC⟩
def oq(l:List Int)(f:Int):Nat->Int
 | 0=>f
 | k+1=>oq l f k+(p2 (l.getD k 0).toNat:Nat)
def kY(l:List Int)(f:Int)(k:Nat):List Int:=(List.range k).map (oq l f)
def kZ(l:List Int)(f:Int)(k:Nat):(kY l f k).length=k:=by simp[kY]
def D5(l:List Int)(f:Int)(k:Nat):kY l f (k+1)=kY l f k++[oq l f k]:=by simp[kY,a3L]
def uQ(a:Option Addr)(cap n:Nat)(l:List Int)(f:Int)(w:World)(Q:l.length=n)(h:br w a l)(hm:(n:Int)<=30)(hb:∀i,i<n->0<=l.getD i 0/\l.getD i 0<=16)(M:∀k,k<=n->0<=oq l f k/\oq l f k<=100000) :
  Calls prog 219 #[.slice a n cap,f] w fun e w'=>∃v,e = .returned v/\an w' w.heap.size v (kY l f n)/\Below w.heap.size w w':=by
 obtain⟨i0,hi,D,E,G⟩:=a0r Tryz.infoInt;have B:Hid (an (w.alloc (.cells #[] 3)) w.heap.size (.slice w.heap.size 0 0) (kY l f 0)):=an.lit _ _ (a0a _);have A:Hid (Below w.heap.size w (w.alloc (.cells #[] 3))):=cC;have I:=af h;have J:=af Q;have S:=af hb;have H:=af M;clear h Q hb M;go_enter func219,ntmps219;go_wp2_with fail
 go_loopw [1,5,6] (fun fr v i wr=>∃k:Nat,k<=n/\i = .int .i64 k/\fr = .int .i64 (oq l f k)/\an wr w.heap.size v (kY l f k)/\Below w.heap.size w wr) (fun _ _ i _=>n-(intOf i).toNat)
 case atStart=>exact⟨0,a0g _,rfl,rfl,B,A⟩
 case round=>
  obtain⟨k,N,rfl,rfl,hq,b⟩:=hrel;have d:Hid ((kY l f k).length=k):=kZ l f k;obtain⟨va,vc,rfl⟩:=hq.formN d;have ab:(k:Int)<=30:=by omega
  have HK:=af N;by_cases s:k<n
  .
   have O:(k:Int)<(n:Int):=by omega
   have C:Hid (kY l f k++[oq l f k]=kY l f (k+1)):=(D5 l f k).symm;have y:Hid (oq l f (k+1)=oq l f k+(p2 (l.getD k 0).toNat:Nat)):=rfl;have K:Hid (k+1<=maxLen/\(k+1)*8<=140737488355328):=by show _/\_;unfold maxLen;omega
   obtain⟨f0,f1⟩:=ae H k (by omega);obtain⟨f2,f3⟩:=ae H (k+1) (by omega);rw[ae y]at f2 f3;obtain⟨y0,y1⟩:=ae S k s;have x:=af (hq.own d);have m:=af b;have r:=b.size;obtain⟨g,o,rfl,hg,L⟩:=I (by rw[ae J];omega);have c0:=L k (by rw[ae J];exact s);have T:Hid (∀W,Below w.heap.size w W->W.cell? ⟨g,o+k,none⟩=some (.int .i64 (l.getD k 0))):=fun W X=>(X.cell (p:=⟨g,o+k,none⟩) hg).trans c0;have y2:l.getD k 0<=60:=by omega
   have z:=af (fun W=>fF (l.getD k 0) W y2);clear hq b N L c0 I;generalize U:oq l f k=F at *
   generalize Z:l.getD k 0=Y at *
   clear U Z;generalize V:p2 Y.toNat=P at *
   clear V;go_wp2_with (first
    | (at_builtin;refine a0v _ rfl _ _ 122 rfl w.heap.size 3 i0 (.int .i64 0) 1 8 a0D hi D E G rfl (by decide) (.slice va k vc) _ _ rfl (a0n x _) ⟨wr.heap.size,0,none⟩ 1 1 [.int .i64 F] rfl rfl (ck _ _ rfl _ _) (eU _) K.1 K.2 (au r _) ?_;intro v' x2 j c t;clear t;have q:=aH (v:=.slice va k vc) c x (a0a _) r m;have aa:=ae T x2 q;clear c)
    | (go_at_call 217;refine(z _).mono ?_;rintro e w'⟨rfl,R⟩;rw[R];clear R))
   have u:=dp d j;rw[ae C]at u;clear j;go_roundw
   case rel=>exact⟨k+1,by omega,by go_num,by rw[ae y],u,q⟩
   case measure=>simp[intOf];omega
  .
   obtain rfl:k=n:=by omega
   go_wp2;go_ret;exact⟨_,rfl,hq,b⟩
def nj(l:List Int)(num:Int):Nat->Nat->Nat
 | 0,k=>k
 | f+1,k=>if k+1<l.length/\l.getD (k+1) 0<=num then nj l num f (k+1)else k
def Dh(l:List Int)(num:Int):Nat:=nj l num l.length 0
def JN{l:List Int}{num:Int}{f k:Nat}(h:¬ (k+1<l.length/\l.getD (k+1) 0<=num)):nj l num f k=k:=by
 cases f with
 | zero=>rfl
 | succ f=>simp only[nj];rw[a0e h]
def JM{l:List Int}{num:Int}{f k:Nat}(h:k+1<l.length/\l.getD (k+1) 0<=num):nj l num (f+1) k=nj l num f (k+1):=by simp only[nj];rw[a0d h]
def nQ(a:Option Addr)(cap n:Nat)(l:List Int)(num:Int)(w:World)(q:l.length=n)(h:br w a l)(B:(n:Int)<=30)(y:1<=n) :
  Calls prog 223 #[.slice a n cap,num] w fun e w'=>e = .returned (.int .i64 (Dh l num:Nat))/\w'=w:=by
 have b:=af (fun f k=>@JN l num f k);have j:=af (fun f k=>@JM l num f k);have s:Hid (Dh l num=nj l num n 0):=by show Dh l num=_;unfold Dh;rw[q]
 rw[q]at b j;obtain⟨g,o,rfl,z,u⟩:=h (by omega);have t:=af u;rw[q]at t;clear q h u;go_enter func223,ntmps223;go_wp2_with fail
 go_loop [5] (fun i=>∃k:Nat,k<n/\i = .int .i64 k/\nj l num n 0=nj l num (n-k) k) (fun i=>n-(intOf i).toNat)
 case atStart=>exact⟨0,by omega,rfl,rfl⟩
 case round=>
  obtain⟨k,A,rfl,v⟩:=hrel;have r:=af v;clear v;obtain⟨K,hK⟩:∃K:Int,(k:Int)+1=K:=⟨_,rfl⟩;by_cases c:k+1<n
  .
   have p:(k:Int)+1<(n:Int):=by omega
   have c0:=ae t (k+1) c;have x:(k:Int)+1<=30:=by omega
   by_cases m:l.getD (k+1) 0<=num
   .
    have d:Hid (nj l num n 0=nj l num (n-(k+1)) (k+1)):=by
     show nj l num n 0=_;rw[ae r,show n-k=(n-(k+1))+1 by omega];exact j _ _ ⟨c,m⟩
    generalize l.getD (k+1) 0=Y at *
    clear hK;go_wp2
    go_round
    case rel=>exact⟨k+1,by omega,by go_num,d⟩
    case measure=>simp[intOf];omega
   .
    have d:Hid (nj l num n 0=k):=by
     show nj l num n 0=_;rw[ae r];exact b _ _ (fun h=>m h.2)
    generalize l.getD (k+1) 0=Y at *
    clear hK;go_wp2;go_ret;exact⟨aI (by rw[ae s,ae d]),rfl⟩
  .
   have p:¬ (k:Int)+1<(n:Int):=by omega
   have d:Hid (nj l num n 0=k):=by
    show nj l num n 0=_;rw[ae r];exact b _ _ (fun h=>c h.1)
   clear hK;go_wp2;go_ret;exact⟨aI (by rw[ae s,ae d]),rfl⟩
def ko:List Int:=kY sE 3 28
def j9:List Int:=kY rW 1 30
def Mo:ko=(List.range 28).map (fun k=>((stF 3 4 k).1:Int)):=by decide +kernel
def KE:j9=(List.range 30).map (fun k=>((stF 1 2 k).1:Int)):=by decide +kernel
def Mp:sE=(List.range 28).map (fun k=>((stF 3 4 k).2:Int)):=by decide +kernel
def KF:rW=(List.range 30).map (fun k=>((stF 1 2 k).2:Int)):=by decide +kernel
def I8:(List.range 61).all (fun y=>decide (y<3) || decide (Dh ko (y:Int)=fnd 3 4 y 27))=true:=by decide +kernel
def Ha:(List.range 251).all (fun z=>decide (z<1) || decide (Dh j9 (z:Int)=fnd 1 2 z 29))=true:=by decide +kernel
def BR(y:Nat)(a:3<=y)(b:y<=60):Dh ko (y:Int)=fnd 3 4 y 27:=by
 have:=a1b.1 I8 y (List.mem_range.2 (by omega));simp only[a1k,a0t]at this;rcases this with h|h
 . omega
 . exact h
def zU(z:Nat)(a:1<=z)(b:z<=250):Dh j9 (z:Int)=fnd 1 2 z 29:=by
 have:=a1b.1 Ha z (List.mem_range.2 (by omega));simp only[a1k,a0t]at this;rcases this with h|h
 . omega
 . exact h
def lK(f:Nat->Int)(n k:Nat)(h:k<n):((List.range n).map f).getD k 0=f k:=by simp[List.getD,h]
def BP(k:Nat)(h:k<28):ko.getD k 0=((stF 3 4 k).1:Int):=by rw[Mo];exact lK _ _ _ h
def zR(k:Nat)(h:k<30):j9.getD k 0=((stF 1 2 k).1:Int):=by rw[KE];exact lK _ _ _ h
def BQ(k:Nat)(h:k<28):sE.getD k 0=((stF 3 4 k).2:Int):=by rw[Mp];exact lK _ _ _ h
def zT(k:Nat)(h:k<30):rW.getD k 0=((stF 1 2 k).2:Int):=by rw[KF];exact lK _ _ _ h
def jR(a:Option Addr)(cap:Nat)(w:World)(h:br w a sE) :
  Calls prog 219 #[.slice a 28 cap,.int .i64 3] w fun e w'=>∃v,e = .returned v/\an w' w.heap.size v ko/\Below w.heap.size w w':=
 uQ a cap 28 sE 3 w rfl h (by omega) (by decide +kernel) (by decide +kernel)
def jQ(a:Option Addr)(cap:Nat)(w:World)(h:br w a rW) :
  Calls prog 219 #[.slice a 30 cap,.int .i64 1] w fun e w'=>∃v,e = .returned v/\an w' w.heap.size v j9/\Below w.heap.size w w':=
 uQ a cap 30 rW 1 w rfl h (by omega) (by decide +kernel) (by decide +kernel)
def Cf:List Int:=bC.map fun(i:Nat)=>(i:Int)
def Ch:Cf.length=19:=rfl
def Cg(j:Nat)(h:j<19):Cf.getD j 0=(bC.getD j 0:Nat):=by
 have a:j<bC.length:=h;unfold Cf;simp[List.getD,a]
def Bv(w:World):Calls prog 228 #[] w fun e w'=>(∃g,e = .returned (.slice (some ⟨g,0,none⟩) 19 19)/\an w' w.heap.size (.slice (some ⟨g,0,none⟩) 19 19) Cf)/\Below w.heap.size w w':=by
 go_enter func228,ntmps228;go_wp2;go_ret;exact⟨⟨_,rfl,pX _ 19 Cf rfl rfl (by unfold maxLen;omega)⟩,cC⟩
def ET(w:World):Calls prog 228 #[] w fun e w'=>e = .returned (.slice w.heap.size 19 19)/\an w' w.heap.size (.slice w.heap.size 19 19) Cf/\Below w.heap.size w w':=by
 go_enter func228,ntmps228;go_wp2;go_ret;exact⟨rfl,pX _ 19 Cf rfl rfl (by unfold maxLen;omega),cC⟩
