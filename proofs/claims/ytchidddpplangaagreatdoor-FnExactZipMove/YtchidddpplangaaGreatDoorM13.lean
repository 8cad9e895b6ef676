/- Of what the proof is made: 3 texts, one behind the other. -/
import Derived.Test.YtchidddpplangaaGreatDoorM9
import Derived.Test.YtchidddpplangaaGreatDoorRb1
import Derived.Test.YtchidddpplangaaGreatDoorM3
set_option maxRecDepth 100000
set_option linter.unusedSimpArgs false
set_option linter.unusedVariables false
set_option maxHeartbeats 1600000
namespace Go.Proofs.YtchidddpplangaaGreatDoor
open Go.Proofs.Tryz
open Go.RowKit Corb
def rz:List Int:=[0,0,0,0,0,0,0,0,1,1,1,1,2,2,2,2,3,3,3,3,4,4,4,4,5,5,5,5]
def qY:List Int:=[0,0,0,0,1,1,2,2,3,3,4,4,5,5,6,6,7,7,8,8,9,9,10,10,11,11,12,12,13,13]
theorem pj{w:World}(a:Array Value)(n:Nat)(l:List Int)(b:l.map (Value.int .i64)=a.toList)(d:l.length=n)(c:n<=maxLen):am (w.alloc (.cells a 3)) w.heap.size (.slice (some ⟨w.heap.size,0,none⟩) n n) l:=by
 subst d;have f:a.size=l.length*1:=by
  have:=congrArg List.length b;simpa using this.symm
 have:=a05 (base:=w.heap.size) (e:=3) (size:=1) w a l.length (a0a _) c f;show World.ownsRow _ _ _ _ _ _ _;rw[b];exact this
theorem je(w:World) :
  Calls prog 166 #[] w fun e w'=>e = .returned (.slice (some ⟨w.heap.size,0,none⟩) 28 28)/\am w' w.heap.size (.slice (some ⟨w.heap.size,0,none⟩) 28 28) rz/\Below w.heap.size w w':=by
 go_enter func166,ntmps166;go_wp2;go_ret;exact⟨rfl,pj _ 28 rz rfl rfl (by unfold maxLen;omega),(a0c _ _).alloc (a0a _) _⟩
theorem jb(w:World) :
  Calls prog 167 #[] w fun e w'=>e = .returned (.slice (some ⟨w.heap.size,0,none⟩) 30 30)/\am w' w.heap.size (.slice (some ⟨w.heap.size,0,none⟩) 30 30) qY/\Below w.heap.size w w':=by
 go_enter func167,ntmps167;go_wp2;go_ret;exact⟨rfl,pj _ 30 qY rfl rfl (by unfold maxLen;omega),(a0c _ _).alloc (a0a _) _⟩
def nG(l:List Int)(f:Int):Nat->Int
 | 0=>f
 | k+1=>nG l f k+(p2 (l.getD k 0).toNat:Nat)
def kp(l:List Int)(f:Int)(k:Nat):List Int:=(List.range k).map (nG l f)
theorem kv(l:List Int)(f:Int)(k:Nat):(kp l f k).length=k:=by simp[kp]
theorem Co(l:List Int)(f:Int)(k:Nat):kp l f (k+1)=kp l f k++[nG l f k]:=by simp[kp,a3I]
theorem tS(a:Option Addr)(cap n:Nat)(l:List Int)(f:Int)(w:World)(Q:l.length=n)(h:aZ w a l)(hm:(n:Int)<=30)(hb:∀i,i<n->0<=l.getD i 0/\l.getD i 0<=16)(M:∀k,k<=n->0<=nG l f k/\nG l f k<=100000) :
  Calls prog 165 #[.slice a n cap,.int .i64 f] w fun e w'=>∃v,e = .returned v/\am w' w.heap.size v (kp l f n)/\Below w.heap.size w w':=by
 obtain⟨i0,hi,D,E,G⟩:=a0o Tryz.infoInt;have B:Hid (am (w.alloc (.cells #[] 3)) w.heap.size (.slice (some ⟨w.heap.size,0,none⟩) 0 0) (kp l f 0)):=am.lit _ _ (a0a _);have A:Hid (Below w.heap.size w (w.alloc (.cells #[] 3))):=(a0c _ _).alloc (a0a _) _;have I:=ae h;have J:=ae Q;have S:=ae hb;have H:=ae M;clear h Q hb M;go_enter func165,ntmps165;go_wp2_with fail
 go_loopw [1,5,6] (fun fr v i wr=>∃k:Nat,k<=n/\i = .int .i64 k/\fr = .int .i64 (nG l f k)/\am wr w.heap.size v (kp l f k)/\Below w.heap.size w wr) (fun _ _ i _=>n-(intOf i).toNat)
 case atStart=>exact⟨0,a0g _,rfl,rfl,ab B,ab A⟩
 case round=>
  obtain⟨k,N,rfl,rfl,hq,b⟩:=hrel;have d:Hid ((kp l f k).length=k):=kv l f k;obtain⟨va,vc,rfl⟩:=hq.formN (ab d);have ac:(k:Int)<=30:=by omega
  have HK:=ae N;by_cases s:k<n
  .
   have O:(k:Int)<(n:Int):=by omega
   have C:Hid (kp l f k++[nG l f k]=kp l f (k+1)):=(Co l f k).symm;have y:Hid (nG l f (k+1)=nG l f k+(p2 (l.getD k 0).toNat:Nat)):=rfl;have K:Hid (k+1<=maxLen/\(k+1)*8<=140737488355328):=by show _/\_;unfold maxLen;omega
   obtain⟨f0,f1⟩:=ab H k (by omega);obtain⟨f2,f3⟩:=ab H (k+1) (by omega);rw[ab y]at f2 f3;obtain⟨y0,y1⟩:=ab S k s;have x:=ae (hq.own (ab d));have m:=ae b;have r:=b.size;obtain⟨g,o,rfl,hg,L⟩:=(ab I) (by rw[ab J];omega);have c0:=L k (by rw[ab J];exact s);have T:Hid (∀W,Below w.heap.size w W->W.cell? ⟨g,o+k,none⟩=some (.int .i64 (l.getD k 0))):=fun W X=>(X.cell (p:=⟨g,o+k,none⟩) hg).trans c0;have y2:l.getD k 0<=60:=by omega
   have z:=ae (fun W=>fu (l.getD k 0) W y2);clear hq b N L c0 I;generalize U:nG l f k=F at *
   generalize Z:l.getD k 0=Y at *
   clear U Z;generalize V:p2 Y.toNat=P at *
   clear V;go_wp2_with (first
    | (at_builtin;refine a0r _ rfl _ _ 137 rfl w.heap.size 3 i0 (.int .i64 0) 1 8 a0C hi D E G rfl (by decide) (.slice va k vc) _ _ rfl (a0k (ab x) _) ⟨wr.heap.size,0,none⟩ 1 1 [.int .i64 F] rfl rfl (bE _ _ rfl _ _) (eO _) (ab K).1 (ab K).2 (ao r _) ?_;intro v' x2 j c t;clear t;have q:=aC (v:=.slice va k vc) c (ab x) (a0a _) r (ab m);have aa:=ab T x2 q;clear c)
    | (go_at_call 163;refine(ab z _).mono ?_;rintro e w' ⟨rfl,R⟩;rw[R];clear R))
   have u:=de (ab d) j;rw[ab C]at u;clear j;go_roundw
   case rel=>exact⟨k+1,by omega,by go_num,by rw[ab y],u,q⟩
   case measure=>simp[intOf];omega
  .
   obtain rfl:k=n:=by omega
   go_wp2;go_ret;exact⟨_,rfl,hq,b⟩
def mN(l:List Int)(num:Int):Nat->Nat->Nat
 | 0,k=>k
 | f+1,k=>if k+1<l.length/\l.getD (k+1) 0<=num then mN l num f (k+1)else k
def Bv(l:List Int)(num:Int):Nat:=mN l num l.length 0
theorem Ie{l:List Int}{num:Int}{f k:Nat}(h:¬ (k+1<l.length/\l.getD (k+1) 0<=num)):mN l num f k=k:=by
 cases f with
 | zero=>rfl
 | succ f=>simp only[mN];rw[a0d h]
theorem Ic{l:List Int}{num:Int}{f k:Nat}(h:k+1<l.length/\l.getD (k+1) 0<=num):mN l num (f+1) k=mN l num f (k+1):=by simp only[mN];rw[a0e h]
theorem nf(a:Option Addr)(cap n:Nat)(l:List Int)(num:Int)(w:World)(q:l.length=n)(h:aZ w a l)(B:(n:Int)<=30)(y:1<=n) :
  Calls prog 169 #[.slice a n cap,.int .i64 num] w fun e w'=>e = .returned (.int .i64 (Bv l num:Nat))/\w'=w:=by
 have b:=ae (fun f k=>@Ie l num f k);have j:=ae (fun f k=>@Ic l num f k);have s:Hid (Bv l num=mN l num n 0):=by show Bv l num=_;unfold Bv;rw[q]
 rw[q]at b j;obtain⟨g,o,rfl,z,u⟩:=h (by omega);have t:=ae u;rw[q]at t;clear q h u;go_enter func169,ntmps169;go_wp2_with fail
 go_loop [5] (fun i=>∃k:Nat,k<n/\i = .int .i64 k/\mN l num n 0=mN l num (n-k) k) (fun i=>n-(intOf i).toNat)
 case atStart=>exact⟨0,by omega,rfl,rfl⟩
 case round=>
  obtain⟨k,A,rfl,v⟩:=hrel;have r:=ae v;clear v;obtain⟨K,hK⟩:∃K:Int,(k:Int)+1=K:=⟨_,rfl⟩;by_cases c:k+1<n
  .
   have p:(k:Int)+1<(n:Int):=by omega
   have c0:=ab t (k+1) c;have x:(k:Int)+1<=30:=by omega
   by_cases m:l.getD (k+1) 0<=num
   .
    have d:Hid (mN l num n 0=mN l num (n-(k+1)) (k+1)):=by
     show mN l num n 0=_;rw[ab r,show n-k=(n-(k+1))+1 by omega];exact ab j _ _ ⟨c,m⟩
    generalize l.getD (k+1) 0=Y at *
    clear hK;go_wp2
    go_round
    case rel=>exact⟨k+1,by omega,by go_num,ab d⟩
    case measure=>simp[intOf];omega
   .
    have d:Hid (mN l num n 0=k):=by
     show mN l num n 0=_;rw[ab r];exact ab b _ _ (fun h=>m h.2)
    generalize l.getD (k+1) 0=Y at *
    clear hK;go_wp2;go_ret;exact⟨aH (by rw[ab s,ab d]),rfl⟩
  .
   have p:¬ (k:Int)+1<(n:Int):=by omega
   have d:Hid (mN l num n 0=k):=by
    show mN l num n 0=_;rw[ab r];exact ab b _ _ (fun h=>c h.1)
   clear hK;go_wp2;go_ret;exact⟨aH (by rw[ab s,ab d]),rfl⟩
def jQ:List Int:=kp rz 3 28
def jK:List Int:=kp qY 1 30
theorem Kb:jQ=(List.range 28).map (fun k=>((stF 3 4 k).1:Int)):=by decide +kernel
theorem IX:jK=(List.range 30).map (fun k=>((stF 1 2 k).1:Int)):=by decide +kernel
theorem Kc:rz=(List.range 28).map (fun k=>((stF 3 4 k).2:Int)):=by decide +kernel
theorem IY:qY=(List.range 30).map (fun k=>((stF 1 2 k).2:Int)):=by decide +kernel
theorem GI:(List.range 61).all (fun y=>decide (y<3) || decide (Bv jQ (y:Int)=fnd 3 4 y 27))=true:=by decide +kernel
theorem FF:(List.range 251).all (fun z=>decide (z<1) || decide (Bv jK (z:Int)=fnd 1 2 z 29))=true:=by decide +kernel
theorem As(y:Nat)(a:3<=y)(b:y<=60):Bv jQ (y:Int)=fnd 3 4 y 27:=by
 have:=a1a.1 GI y (List.mem_range.2 (by omega));simp only[a1y,a0w]at this;rcases this with h|h
 . omega
 . exact h
theorem yP(z:Nat)(a:1<=z)(b:z<=250):Bv jK (z:Int)=fnd 1 2 z 29:=by
 have:=a1a.1 FF z (List.mem_range.2 (by omega));simp only[a1y,a0w]at this;rcases this with h|h
 . omega
 . exact h
theorem lh(f:Nat->Int)(n k:Nat)(h:k<n):((List.range n).map f).getD k 0=f k:=by simp[List.getD,h]
theorem Aq(k:Nat)(h:k<28):jQ.getD k 0=((stF 3 4 k).1:Int):=by rw[Kb];exact lh _ _ _ h
theorem yM(k:Nat)(h:k<30):jK.getD k 0=((stF 1 2 k).1:Int):=by rw[IX];exact lh _ _ _ h
theorem Ar(k:Nat)(h:k<28):rz.getD k 0=((stF 3 4 k).2:Int):=by rw[Kc];exact lh _ _ _ h
theorem yO(k:Nat)(h:k<30):qY.getD k 0=((stF 1 2 k).2:Int):=by rw[IY];exact lh _ _ _ h
theorem ju(a:Option Addr)(cap:Nat)(w:World)(h:aZ w a rz) :
  Calls prog 165 #[.slice a 28 cap,.int .i64 3] w fun e w'=>∃v,e = .returned v/\am w' w.heap.size v jQ/\Below w.heap.size w w':=
 tS a cap 28 rz 3 w rfl h (by omega) (by decide +kernel) (by decide +kernel)
theorem jt(a:Option Addr)(cap:Nat)(w:World)(h:aZ w a qY) :
  Calls prog 165 #[.slice a 30 cap,.int .i64 1] w fun e w'=>∃v,e = .returned v/\am w' w.heap.size v jK/\Below w.heap.size w w':=
 tS a cap 30 qY 1 w rfl h (by omega) (by decide +kernel) (by decide +kernel)
def AG:List Int:=bY.map fun(i:Nat)=>(i:Int)
theorem AL:AG.length=19:=rfl
theorem AJ(j:Nat)(h:j<19):AG.getD j 0=(bY.getD j 0:Nat):=by
 have a:j<bY.length:=h;unfold AG;simp[List.getD,a]
theorem zX(w:World):Calls prog 174 #[] w fun e w'=>(∃g,e = .returned (.slice (some ⟨g,0,none⟩) 19 19)/\am w' w.heap.size (.slice (some ⟨g,0,none⟩) 19 19) AG)/\Below w.heap.size w w':=by
 go_enter func174,ntmps174;go_wp2;go_ret;exact⟨⟨_,rfl,pj _ 19 AG rfl rfl (by unfold maxLen;omega)⟩,(a0c _ _).alloc (a0a _) _⟩
theorem Dt(w:World):Calls prog 174 #[] w fun e w'=>e = .returned (.slice (some ⟨w.heap.size,0,none⟩) 19 19)/\am w' w.heap.size (.slice (some ⟨w.heap.size,0,none⟩) 19 19) AG/\Below w.heap.size w w':=by
 go_enter func174,ntmps174;go_wp2;go_ret;exact⟨rfl,pj _ 19 AG rfl rfl (by unfold maxLen;omega),(a0c _ _).alloc (a0a _) _⟩
end Go.Proofs.YtchidddpplangaaGreatDoor
