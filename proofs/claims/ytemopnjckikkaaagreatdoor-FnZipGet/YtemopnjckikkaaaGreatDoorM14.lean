/- Texts. -/
import Derived.Test.YtemopnjckikkaaaGreatDoorM9
set_option linter.all false
set_option maxRecDepth 100000
set_option maxHeartbeats 1600000
namespace Go.Proofs.YtemopnjckikkaaaGreatDoor
open Go.Proofs.Tryz
open Go.RowKit Corb
def sg:List Int:=[0,0,0,0,0,0,0,0,1,1,1,1,2,2,2,2,3,3,3,3,4,4,4,4,5,5,5,5]
def rM:List Int:=[0,0,0,0,1,1,2,2,3,3,4,4,5,5,6,6,7,7,8,8,9,9,10,10,11,11,12,12,13,13]
def pM{w:World}(a:Array Value)(n:Nat)(l:List Int)(b:l.map (Value.int .i64)=a.toList)(d:l.length=n)(c:n<=maxLen):ap (w.alloc (.cells a 3)) w.heap.size (.slice w.heap.size n n) l:=by
 subst d;have f:a.size=l.length*1:=by
  have:=congrArg List.length b;simpa using this.symm
 have:=a0R (base:=w.heap.size) (e:=3) (size:=1) w a l.length (a0a _) c f;show World.ownsRow _ _ _ _ _ _ _;rw[b];exact this
def jv(w:World) :
  Calls prog 210 #[] w fun e w'=>e = .returned (.slice w.heap.size 28 28)/\ap w' w.heap.size (.slice w.heap.size 28 28) sg/\Below w.heap.size w w':=by
 go_enter func210,ntmps210;go_wp2;go_ret;exact⟨rfl,pM _ 28 sg rfl rfl (by unfold maxLen;omega),bx⟩
def js(w:World) :
  Calls prog 211 #[] w fun e w'=>e = .returned (.slice w.heap.size 30 30)/\ap w' w.heap.size (.slice w.heap.size 30 30) rM/\Below w.heap.size w w':=by
 go_enter func211,ntmps211;go_wp2;go_ret;exact⟨rfl,pM _ 30 rM rfl rfl (by unfold maxLen;omega),bx⟩
def od(l:List Int)(f:Int):Nat->Int
 | 0=>f
 | k+1=>od l f k+(p2 (l.getD k 0).toNat:Nat)
def kU(l:List Int)(f:Int)(k:Nat):List Int:=(List.range k).map (od l f)
def kV(l:List Int)(f:Int)(k:Nat):(kU l f k).length=k:=by simp[kU]
def DL(l:List Int)(f:Int)(k:Nat):kU l f (k+1)=kU l f k++[od l f k]:=by simp[kU,a26]
def uD(a:Option Addr)(cap n:Nat)(l:List Int)(f:Int)(w:World)(Q:l.length=n)(h:br w a l)(hm:(n:Int)<=30)(hb:∀i,i<n->0<=l.getD i 0/\l.getD i 0<=16)(M:∀k,k<=n->0<=od l f k/\od l f k<=100000) :
  Calls prog 209 #[.slice a n cap,f] w fun e w'=>∃v,e = .returned v/\ap w' w.heap.size v (kU l f n)/\Below w.heap.size w w':=by
 obtain⟨i0,hi,D,E,G⟩:=a0p Tryz.infoInt;have B:Hid (ap (w.alloc (.cells #[] 3)) w.heap.size (.slice w.heap.size 0 0) (kU l f 0)):=ap.lit _ _ (a0a _);have A:Hid (Below w.heap.size w (w.alloc (.cells #[] 3))):=bx;have I:=af h;have J:=af Q;have S:=af hb;have H:=af M;clear h Q hb M;go_enter func209,ntmps209;go_wp2_with fail
 go_loopw [1,5,6] (fun fr v i wr=>∃k:Nat,k<=n/\i = .int .i64 k/\fr = .int .i64 (od l f k)/\ap wr w.heap.size v (kU l f k)/\Below w.heap.size w wr) (fun _ _ i _=>n-(intOf i).toNat)
 case atStart=>exact⟨0,a0f _,rfl,rfl,B,A⟩
 case round=>
  obtain⟨k,N,rfl,rfl,hq,b⟩:=hrel;have d:Hid ((kU l f k).length=k):=kV l f k;obtain⟨va,vc,rfl⟩:=hq.formN d;have ab:(k:Int)<=30:=by omega
  have HK:=af N;by_cases s:k<n
  .
   have O:(k:Int)<(n:Int):=by omega
   have C:Hid (kU l f k++[od l f k]=kU l f (k+1)):=(DL l f k).symm;have y:Hid (od l f (k+1)=od l f k+(p2 (l.getD k 0).toNat:Nat)):=rfl;have K:Hid (k+1<=maxLen/\(k+1)*8<=140737488355328):=by show _/\_;unfold maxLen;omega
   obtain⟨f0,f1⟩:=ae H k (by omega);obtain⟨f2,f3⟩:=ae H (k+1) (by omega);rw[ae y]at f2 f3;obtain⟨y0,y1⟩:=ae S k s;have x:=af (hq.own d);have m:=af b;have r:=b.size;obtain⟨g,o,rfl,hg,L⟩:=I (by rw[ae J];omega);have c0:=L k (by rw[ae J];exact s);have T:Hid (∀W,Below w.heap.size w W->W.cell? ⟨g,o+k,none⟩=some (.int .i64 (l.getD k 0))):=fun W X=>(X.cell (p:=⟨g,o+k,none⟩) hg).trans c0;have y2:l.getD k 0<=60:=by omega
   have z:=af (fun W=>fC (l.getD k 0) W y2);clear hq b N L c0 I;generalize U:od l f k=F at *
   generalize Z:l.getD k 0=Y at *
   clear U Z;generalize V:p2 Y.toNat=P at *
   clear V;go_wp2_with (first
    | (at_builtin;refine a0u _ rfl _ _ 99 rfl w.heap.size 3 i0 (.int .i64 0) 1 8 underlying99 hi D E G rfl (by decide) (.slice va k vc) _ _ rfl (a0m x _) ⟨wr.heap.size,0,none⟩ 1 1 [.int .i64 F] rfl rfl (ck _ _ rfl _ _) (eR _) K.1 K.2 (av r _) ?_;intro v' x2 j c t;clear t;have q:=aI (v:=.slice va k vc) c x (a0a _) r m;have aa:=ae T x2 q;clear c)
    | (go_at_call 197;refine(z _).mono ?_;rintro e w'⟨rfl,R⟩;rw[R];clear R))
   have u:=dr d j;rw[ae C]at u;clear j;go_roundw
   case rel=>exact⟨k+1,by omega,by go_num,by rw[ae y],u,q⟩
   case measure=>simp[intOf];omega
  .
   obtain rfl:k=n:=by omega
   go_wp2;go_ret;exact⟨_,rfl,hq,b⟩
def nh(l:List Int)(num:Int):Nat->Nat->Nat
 | 0,k=>k
 | f+1,k=>if k+1<l.length/\l.getD (k+1) 0<=num then nh l num f (k+1)else k
def Cu(l:List Int)(num:Int):Nat:=nh l num l.length 0
def Jr{l:List Int}{num:Int}{f k:Nat}(h:¬ (k+1<l.length/\l.getD (k+1) 0<=num)):nh l num f k=k:=by
 cases f with
 | zero=>rfl
 | succ f=>simp only[nh];rw[a0d h]
def Jq{l:List Int}{num:Int}{f k:Nat}(h:k+1<l.length/\l.getD (k+1) 0<=num):nh l num (f+1) k=nh l num f (k+1):=by simp only[nh];rw[a0c h]
def nJ(a:Option Addr)(cap n:Nat)(l:List Int)(num:Int)(w:World)(q:l.length=n)(h:br w a l)(B:(n:Int)<=30)(y:1<=n) :
  Calls prog 213 #[.slice a n cap,num] w fun e w'=>e = .returned (.int .i64 (Cu l num:Nat))/\w'=w:=by
 have b:=af (fun f k=>@Jr l num f k);have j:=af (fun f k=>@Jq l num f k);have s:Hid (Cu l num=nh l num n 0):=by show Cu l num=_;unfold Cu;rw[q]
 rw[q]at b j;obtain⟨g,o,rfl,z,u⟩:=h (by omega);have t:=af u;rw[q]at t;clear q h u;go_enter func213,ntmps213;go_wp2_with fail
 go_loop [5] (fun i=>∃k:Nat,k<n/\i = .int .i64 k/\nh l num n 0=nh l num (n-k) k) (fun i=>n-(intOf i).toNat)
 case atStart=>exact⟨0,by omega,rfl,rfl⟩
 case round=>
  obtain⟨k,A,rfl,v⟩:=hrel;have r:=af v;clear v;obtain⟨K,hK⟩:∃K:Int,(k:Int)+1=K:=⟨_,rfl⟩;by_cases c:k+1<n
  .
   have p:(k:Int)+1<(n:Int):=by omega
   have c0:=ae t (k+1) c;have x:(k:Int)+1<=30:=by omega
   by_cases m:l.getD (k+1) 0<=num
   .
    have d:Hid (nh l num n 0=nh l num (n-(k+1)) (k+1)):=by
     show nh l num n 0=_;rw[ae r,show n-k=(n-(k+1))+1 by omega];exact j _ _ ⟨c,m⟩
    generalize l.getD (k+1) 0=Y at *
    clear hK;go_wp2
    go_round
    case rel=>exact⟨k+1,by omega,by go_num,d⟩
    case measure=>simp[intOf];omega
   .
    have d:Hid (nh l num n 0=k):=by
     show nh l num n 0=_;rw[ae r];exact b _ _ (fun h=>m h.2)
    generalize l.getD (k+1) 0=Y at *
    clear hK;go_wp2;go_ret;exact⟨aJ (by rw[ae s,ae d]),rfl⟩
  .
   have p:¬ (k:Int)+1<(n:Int):=by omega
   have d:Hid (nh l num n 0=k):=by
    show nh l num n 0=_;rw[ae r];exact b _ _ (fun h=>c h.1)
   clear hK;go_wp2;go_ret;exact⟨aJ (by rw[ae s,ae d]),rfl⟩
def kg:List Int:=kU sg 3 28
def jZ:List Int:=kU rM 1 30
def LX:kg=(List.range 28).map (fun k=>((stF 3 4 k).1:Int)):=by decide +kernel
def Kg:jZ=(List.range 30).map (fun k=>((stF 1 2 k).1:Int)):=by decide +kernel
def LY:sg=(List.range 28).map (fun k=>((stF 3 4 k).2:Int)):=by decide +kernel
def Kh:rM=(List.range 30).map (fun k=>((stF 1 2 k).2:Int)):=by decide +kernel
def IM:(List.range 61).all (fun y=>decide (y<3) || decide (Cu kg (y:Int)=fnd 3 4 y 27))=true:=by decide +kernel
def GJ:(List.range 251).all (fun z=>decide (z<1) || decide (Cu jZ (z:Int)=fnd 1 2 z 29))=true:=by decide +kernel
def Bz(y:Nat)(a:3<=y)(b:y<=60):Cu kg (y:Int)=fnd 3 4 y 27:=by
 have:=a08.1 IM y (List.mem_range.2 (by omega));simp only[a1e,a0s]at this;rcases this with h|h
 . omega
 . exact h
def zF(z:Nat)(a:1<=z)(b:z<=250):Cu jZ (z:Int)=fnd 1 2 z 29:=by
 have:=a08.1 GJ z (List.mem_range.2 (by omega));simp only[a1e,a0s]at this;rcases this with h|h
 . omega
 . exact h
def lH(f:Nat->Int)(n k:Nat)(h:k<n):((List.range n).map f).getD k 0=f k:=by simp[List.getD,h]
def Bv(k:Nat)(h:k<28):kg.getD k 0=((stF 3 4 k).1:Int):=by rw[LX];exact lH _ _ _ h
def zC(k:Nat)(h:k<30):jZ.getD k 0=((stF 1 2 k).1:Int):=by rw[Kg];exact lH _ _ _ h
def Bw(k:Nat)(h:k<28):sg.getD k 0=((stF 3 4 k).2:Int):=by rw[LY];exact lH _ _ _ h
def zE(k:Nat)(h:k<30):rM.getD k 0=((stF 1 2 k).2:Int):=by rw[Kh];exact lH _ _ _ h
def jN(a:Option Addr)(cap:Nat)(w:World)(h:br w a sg) :
  Calls prog 209 #[.slice a 28 cap,.int .i64 3] w fun e w'=>∃v,e = .returned v/\ap w' w.heap.size v kg/\Below w.heap.size w w':=
 uD a cap 28 sg 3 w rfl h (by omega) (by decide +kernel) (by decide +kernel)
def jM(a:Option Addr)(cap:Nat)(w:World)(h:br w a rM) :
  Calls prog 209 #[.slice a 30 cap,.int .i64 1] w fun e w'=>∃v,e = .returned v/\ap w' w.heap.size v jZ/\Below w.heap.size w w':=
 uD a cap 30 rM 1 w rfl h (by omega) (by decide +kernel) (by decide +kernel)
def BN:List Int:=bC.map fun(i:Nat)=>(i:Int)
def BP:BN.length=19:=rfl
def BO(j:Nat)(h:j<19):BN.getD j 0=(bC.getD j 0:Nat):=by
 have a:j<bC.length:=h;unfold BN;simp[List.getD,a]
def Ba(w:World):Calls prog 201 #[] w fun e w'=>(∃g,e = .returned (.slice (some ⟨g,0,none⟩) 19 19)/\ap w' w.heap.size (.slice (some ⟨g,0,none⟩) 19 19) BN)/\Below w.heap.size w w':=by
 go_enter func201,ntmps201;go_wp2;go_ret;exact⟨⟨_,rfl,pM _ 19 BN rfl rfl (by unfold maxLen;omega)⟩,bx⟩
def EC(w:World):Calls prog 201 #[] w fun e w'=>e = .returned (.slice w.heap.size 19 19)/\ap w' w.heap.size (.slice w.heap.size 19 19) BN/\Below w.heap.size w w':=by
 go_enter func201,ntmps201;go_wp2;go_ret;exact⟨rfl,pM _ 19 BN rfl rfl (by unfold maxLen;omega),bx⟩
