/- Texts. -/
import Derived.Test.YtfannoajibacnaaGreatDoorM9
set_option linter.all false
set_option maxRecDepth 100000
set_option maxHeartbeats 1600000
namespace Go.Proofs.YtfannoajibacnaaGreatDoor
open Go.Proofs.Tryz
open Go.RowKit Corb
def ul:List Int:=[0,0,0,0,0,0,0,0,1,1,1,1,2,2,2,2,3,3,3,3,4,4,4,4,5,5,5,5]
def tR:List Int:=[0,0,0,0,1,1,2,2,3,3,4,4,5,5,6,6,7,7,8,8,9,9,10,10,11,11,12,12,13,13]
def rB{w:World}(a:Array Value)(n:Nat)(l:List Int)(b:l.map (Value.int .i64)=a.toList)(d:l.length=n)(c:n<=maxLen):an (w.alloc (.cells a 3)) w.heap.size (.slice w.heap.size n n) l:=by
 subst d;have f:a.size=l.length*1:=by
  have:=congrArg List.length b;simpa using this.symm
 have:=a0S (base:=w.heap.size) (e:=3) (size:=1) w a l.length (a0a _) c f;show World.ownsRow _ _ _ _ _ _ _;rw[b];exact this
def kp(w:World) :
  Calls prog 234 #[] w fun e w'=>e = .returned (.slice w.heap.size 28 28)/\an w' w.heap.size (.slice w.heap.size 28 28) ul/\Below w.heap.size w w':=by
 go_enter func234,ntmps234;go_wp2;go_ret;exact⟨rfl,rB _ 28 ul rfl rfl (by unfold maxLen;omega),cC⟩
def kh(w:World) :
  Calls prog 235 #[] w fun e w'=>e = .returned (.slice w.heap.size 30 30)/\an w' w.heap.size (.slice w.heap.size 30 30) tR/\Below w.heap.size w w':=by
 go_enter func235,ntmps235;go_wp2;go_ret;exact⟨rfl,rB _ 30 tR rfl rfl (by unfold maxLen;omega),cC⟩
def pE(l:List Int)(f:Int):Nat->Int
 | 0=>f
 | k+1=>pE l f k+(p2 (l.getD k 0).toNat:Nat)
def lX(l:List Int)(f:Int)(k:Nat):List Int:=(List.range k).map (pE l f)
def lY(l:List Int)(f:Int)(k:Nat):(lX l f k).length=k:=by simp[lX]
def Gd(l:List Int)(f:Int)(k:Nat):lX l f (k+1)=lX l f k++[pE l f k]:=by simp[lX,a3T]
def wI(a:Option Addr)(cap n:Nat)(l:List Int)(f:Int)(w:World)(Q:l.length=n)(h:bE w a l)(hm:(n:Int)<=30)(hb:∀i,i<n->0<=l.getD i 0/\l.getD i 0<=16)(M:∀k,k<=n->0<=pE l f k/\pE l f k<=100000) :
  Calls prog 233 #[.slice a n cap,f] w fun e w'=>∃v,e = .returned v/\an w' w.heap.size v (lX l f n)/\Below w.heap.size w w':=by
 obtain⟨i0,hi,D,E,G⟩:=a0p Tryz.infoInt;have B:Hid (an (w.alloc (.cells #[] 3)) w.heap.size (.slice w.heap.size 0 0) (lX l f 0)):=an.lit _ _ (a0a _);have A:Hid (Below w.heap.size w (w.alloc (.cells #[] 3))):=cC;have I:=af h;have J:=af Q;have S:=af hb;have H:=af M;clear h Q hb M;go_enter func233,ntmps233;go_wp2_with fail
 go_loopw [1,5,6] (fun fr v i wr=>∃k:Nat,k<=n/\i = .int .i64 k/\fr = .int .i64 (pE l f k)/\an wr w.heap.size v (lX l f k)/\Below w.heap.size w wr) (fun _ _ i _=>n-(intOf i).toNat)
 case atStart=>exact⟨0,a0g _,rfl,rfl,B,A⟩
 case round=>
  obtain⟨k,N,rfl,rfl,hq,b⟩:=hrel;have d:Hid ((lX l f k).length=k):=lY l f k;obtain⟨va,vc,rfl⟩:=hq.formN d;have ab:(k:Int)<=30:=by omega
  have HK:=af N;by_cases s:k<n
  .
   have O:(k:Int)<(n:Int):=(by omega);have C:Hid (lX l f k++[pE l f k]=lX l f (k+1)):=(Gd l f k).symm;have y:Hid (pE l f (k+1)=pE l f k+(p2 (l.getD k 0).toNat:Nat)):=rfl;have K:Hid (k+1<=maxLen/\(k+1)*8<=140737488355328):=by show _/\_;unfold maxLen;omega
   obtain⟨f0,f1⟩:=ae H k (by omega);obtain⟨f2,f3⟩:=ae H (k+1) (by omega);rw[ae y]at f2 f3;obtain⟨y0,y1⟩:=ae S k s;have x:=af (hq.own d);have m:=af b;have r:=b.size;obtain⟨g,o,rfl,hg,L⟩:=I (by rw[ae J];omega);have c0:=L k (by rw[ae J];exact s);have T:Hid (∀W,Below w.heap.size w W->W.cell? ⟨g,o+k,none⟩=some (.int .i64 (l.getD k 0))):=fun W X=>(X.cell (p:=⟨g,o+k,none⟩) hg).trans c0;have y2:l.getD k 0<=60:=(by omega);have z:=af (fun W=>gi (l.getD k 0) W y2);clear hq b N L c0 I;generalize U:pE l f k=F,Z:l.getD k 0=Y at *;clear U Z;generalize V:p2 Y.toNat=P at *;clear V;go_wp2_with (first
    | (at_builtin;refine a0w _ rfl _ _ 129 rfl w.heap.size 3 i0 (.int .i64 0) 1 8 a0F hi D E G rfl (by decide) (.slice va k vc) _ _ rfl (a0o x _) ⟨wr.heap.size,0,none⟩ 1 1 [.int .i64 F] rfl rfl (cK _ _ rfl _ _) (fD _) K.1 K.2 (ar r _) ?_;intro v' x2 j c t;clear t;have q:=aH (v:=.slice va k vc) c x (a0a _) r m;have aa:=ae T x2 q;clear c)
    | (go_at_call 231;apply(z _).mono;rintro e w'⟨rfl,R⟩;rw[R];clear R))
   have u:=dN d j;rw[ae C]at u;clear j;go_roundw
   case rel=>exact⟨k+1,by omega,by go_num,by rw[ae y],u,q⟩
   case measure=>simp[intOf];omega
  .
   obtain rfl:k=n:=by omega
   go_wp2;go_ret;exact⟨_,rfl,hq,b⟩
def oG(l:List Int)(num:Int):Nat->Nat->Nat
 | 0,k=>k
 | f+1,k=>if k+1<l.length/\l.getD (k+1) 0<=num then oG l num f (k+1)else k
def Fu(l:List Int)(num:Int):Nat:=oG l num l.length 0
def Ml{l:List Int}{num:Int}{f k:Nat}(h:¬ (k+1<l.length/\l.getD (k+1) 0<=num)):oG l num f k=k:=by
 cases f with
 | zero=>rfl
 | succ f=>simp only[oG];rw[a0e h]
def Mk{l:List Int}{num:Int}{f k:Nat}(h:k+1<l.length/\l.getD (k+1) 0<=num):oG l num (f+1) k=oG l num f (k+1):=by simp only[oG];rw[a0d h]
def pa(a:Option Addr)(cap n:Nat)(l:List Int)(num:Int)(w:World)(q:l.length=n)(h:bE w a l)(B:(n:Int)<=30)(y:1<=n) :
  Calls prog 237 #[.slice a n cap,num] w fun e w'=>e = .returned (.int .i64 (Fu l num:Nat))/\w'=w:=by
 have b:=af (fun f k=>@Ml l num f k);have j:=af (fun f k=>@Mk l num f k);have s:Hid (Fu l num=oG l num n 0):=by show Fu l num=_;unfold Fu;rw[q]
 rw[q]at b j;obtain⟨g,o,rfl,z,u⟩:=h (by omega);have t:=af u;rw[q]at t;clear q h u;go_enter func237,ntmps237;go_wp2_with fail
 go_loop [5] (fun i=>∃k:Nat,k<n/\i = .int .i64 k/\oG l num n 0=oG l num (n-k) k) (fun i=>n-(intOf i).toNat)
 case atStart=>exact⟨0,by omega,rfl,rfl⟩
 case round=>
  obtain⟨k,A,rfl,v⟩:=hrel;have r:=af v;clear v;obtain⟨K,hK⟩:∃K:Int,(k:Int)+1=K:=⟨_,rfl⟩;by_cases c:k+1<n
  .
   have p:(k:Int)+1<(n:Int):=(by omega);have c0:=ae t (k+1) c;have x:(k:Int)+1<=30:=(by omega);by_cases m:l.getD (k+1) 0<=num
   .
    have d:Hid (oG l num n 0=oG l num (n-(k+1)) (k+1)):=by
     show oG l num n 0=_;rw[ae r,show n-k=(n-(k+1))+1 by omega];exact j _ _ ⟨c,m⟩
    generalize l.getD (k+1) 0=Y at *;clear hK;go_wp2
    go_round
    case rel=>exact⟨k+1,by omega,by go_num,d⟩
    case measure=>simp[intOf];omega
   .
    have d:Hid (oG l num n 0=k):=by
     show oG l num n 0=_;rw[ae r];exact b _ _ (fun h=>m h.2)
    generalize l.getD (k+1) 0=Y at *;clear hK;go_wp2;go_ret;exact⟨aJ (by rw[ae s,ae d]),rfl⟩
  .
   have p:¬ (k:Int)+1<(n:Int):=(by omega);have d:Hid (oG l num n 0=k):=by
    show oG l num n 0=_;rw[ae r];exact b _ _ (fun h=>c h.1)
   clear hK;go_wp2;go_ret;exact⟨aJ (by rw[ae s,ae d]),rfl⟩
def lp:List Int:=lX ul 3 28
def lh:List Int:=lX tR 1 30
def OT:lp=(List.range 28).map (fun k=>((stF 3 4 k).1:Int)):=by decide +kernel
def M8:lh=(List.range 30).map (fun k=>((stF 1 2 k).1:Int)):=by decide +kernel
def OU:ul=(List.range 28).map (fun k=>((stF 3 4 k).2:Int)):=by decide +kernel
def M9:tR=(List.range 30).map (fun k=>((stF 1 2 k).2:Int)):=by decide +kernel
def Ls:(List.range 61).all (fun y=>decide (y<3) || decide (Fu lp (y:Int)=fnd 3 4 y 27))=true:=by decide +kernel
def J0:(List.range 251).all (fun z=>decide (z<1) || decide (Fu lh (z:Int)=fnd 1 2 z 29))=true:=by decide +kernel
def Er(y:Nat)(a:3<=y)(b:y<=60):Fu lp (y:Int)=fnd 3 4 y 27:=by
 have:=a1c.1 Ls y (List.mem_range.2 (by omega));simp only[a1m,a0v]at this;rcases this with h|h
 . omega
 . exact h
def Cp(z:Nat)(a:1<=z)(b:z<=250):Fu lh (z:Int)=fnd 1 2 z 29:=by
 have:=a1c.1 J0 z (List.mem_range.2 (by omega));simp only[a1m,a0v]at this;rcases this with h|h
 . omega
 . exact h
def mN(f:Nat->Int)(n k:Nat)(h:k<n):((List.range n).map f).getD k 0=f k:=by simp[List.getD,h]
def Eo(k:Nat)(h:k<28):lp.getD k 0=((stF 3 4 k).1:Int):=by rw[OT];exact mN _ _ _ h
def Cm(k:Nat)(h:k<30):lh.getD k 0=((stF 1 2 k).1:Int):=by rw[M8];exact mN _ _ _ h
def Ep(k:Nat)(h:k<28):ul.getD k 0=((stF 3 4 k).2:Int):=by rw[OU];exact mN _ _ _ h
def Co(k:Nat)(h:k<30):tR.getD k 0=((stF 1 2 k).2:Int):=by rw[M9];exact mN _ _ _ h
def kM(a:Option Addr)(cap:Nat)(w:World)(h:bE w a ul) :
  Calls prog 233 #[.slice a 28 cap,.int .i64 3] w fun e w'=>∃v,e = .returned v/\an w' w.heap.size v lp/\Below w.heap.size w w':=
 wI a cap 28 ul 3 w rfl h (by omega) (by decide +kernel) (by decide +kernel)
def kK(a:Option Addr)(cap:Nat)(w:World)(h:bE w a tR) :
  Calls prog 233 #[.slice a 30 cap,.int .i64 1] w fun e w'=>∃v,e = .returned v/\an w' w.heap.size v lh/\Below w.heap.size w w':=
 wI a cap 30 tR 1 w rfl h (by omega) (by decide +kernel) (by decide +kernel)
def EF:List Int:=bK.map fun(i:Nat)=>(i:Int)
def EH:EF.length=19:=rfl
def EG(j:Nat)(h:j<19):EF.getD j 0=(bK.getD j 0:Nat):=by
 have a:j<bK.length:=h;unfold EF;simp[List.getD,a]
def D8(w:World):Calls prog 242 #[] w fun e w'=>(∃g,e = .returned (.slice (some ⟨g,0,none⟩) 19 19)/\an w' w.heap.size (.slice (some ⟨g,0,none⟩) 19 19) EF)/\Below w.heap.size w w':=by
 go_enter func242,ntmps242;go_wp2;go_ret;exact⟨⟨_,rfl,rB _ 19 EF rfl rfl (by unfold maxLen;omega)⟩,cC⟩
def G3(w:World):Calls prog 242 #[] w fun e w'=>e = .returned (.slice w.heap.size 19 19)/\an w' w.heap.size (.slice w.heap.size 19 19) EF/\Below w.heap.size w w':=by
 go_enter func242,ntmps242;go_wp2;go_ret;exact⟨rfl,rB _ 19 EF rfl rfl (by unfold maxLen;omega),cC⟩
