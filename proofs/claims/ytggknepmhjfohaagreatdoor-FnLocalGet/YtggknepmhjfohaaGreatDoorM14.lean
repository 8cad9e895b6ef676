/- Of what the proof is made: 3 texts, one behind the other. -/
import Derived.Test.YtggknepmhjfohaaGreatDoorM8
import Derived.Test.YtggknepmhjfohaaGreatDoorRb1
import Derived.Test.YtggknepmhjfohaaGreatDoorM3
set_option maxRecDepth 100000
set_option linter.unusedSimpArgs false
set_option linter.unusedVariables false
set_option maxHeartbeats 1600000
namespace Go.Proofs.YtggknepmhjfohaaGreatDoor
open Go.Proofs.Tryz
open Go.RowKit Corb
def qD:List Int:=[0,0,0,0,0,0,0,0,1,1,1,1,2,2,2,2,3,3,3,3,4,4,4,4,5,5,5,5]
def qm:List Int:=[0,0,0,0,1,1,2,2,3,3,4,4,5,5,6,6,7,7,8,8,9,9,10,10,11,11,12,12,13,13]
theorem ov{w:World}(a:Array Value)(n:Nat)(l:List Int)(b:l.map (Value.int .i64)=a.toList)(d:l.length=n)(c:n<=maxLen):ak (w.alloc (.cells a 3)) w.heap.size (.slice (some ⟨w.heap.size,0,none⟩) n n) l:=by
 subst d;have f:a.size=l.length*1:=by
  have:=congrArg List.length b;simpa using this.symm
 have:=a04 (base:=w.heap.size) (e:=3) (size:=1) w a l.length (a0a _) c f;show World.ownsRow _ _ _ _ _ _ _;rw[b];exact this
theorem iI(w:World) :
  Calls prog 174 #[] w fun e w'=>e = .returned (.slice (some ⟨w.heap.size,0,none⟩) 28 28)/\ak w' w.heap.size (.slice (some ⟨w.heap.size,0,none⟩) 28 28) qD/\Below w.heap.size w w':=by
 go_enter func174,ntmps174;go_wp2;go_ret;exact⟨rfl,ov _ 28 qD rfl rfl (by unfold maxLen;omega),(a0c _ _).alloc (a0a _) _⟩
theorem iE(w:World) :
  Calls prog 175 #[] w fun e w'=>e = .returned (.slice (some ⟨w.heap.size,0,none⟩) 30 30)/\ak w' w.heap.size (.slice (some ⟨w.heap.size,0,none⟩) 30 30) qm/\Below w.heap.size w w':=by
 go_enter func175,ntmps175;go_wp2;go_ret;exact⟨rfl,ov _ 30 qm rfl rfl (by unfold maxLen;omega),(a0c _ _).alloc (a0a _) _⟩
def mP(l:List Int)(f:Int):Nat->Int
 | 0=>f
 | k+1=>mP l f k+(p2 (l.getD k 0).toNat:Nat)
def jQ(l:List Int)(f:Int)(k:Nat):List Int:=(List.range k).map (mP l f)
theorem jR(l:List Int)(f:Int)(k:Nat):(jQ l f k).length=k:=by simp[jQ]
theorem Ap(l:List Int)(f:Int)(k:Nat):jQ l f (k+1)=jQ l f k++[mP l f k]:=by simp[jQ,List.range_succ]
theorem sM(a:Option Addr)(cap n:Nat)(l:List Int)(f:Int)(w:World)(Q:l.length=n)(h:bp w a l)(hm:(n:Int)<=30)(hb:∀i,i<n->0<=l.getD i 0/\l.getD i 0<=16)(M:∀k,k<=n->0<=mP l f k/\mP l f k<=100000) :
  Calls prog 173 #[.slice a n cap,.int .i64 f] w fun e w'=>∃v,e = .returned v/\ak w' w.heap.size v (jQ l f n)/\Below w.heap.size w w':=by
 obtain⟨i0,hi,D,E,G⟩:=a0t Tryz.infoInt;have B:Hid (ak (w.alloc (.cells #[] 3)) w.heap.size (.slice (some ⟨w.heap.size,0,none⟩) 0 0) (jQ l f 0)):=ak.lit _ _ (a0a _);have A:Hid (Below w.heap.size w (w.alloc (.cells #[] 3))):=(a0c _ _).alloc (a0a _) _;have I:=af h;have J:=af Q;have S:=af hb;have H:=af M;clear h Q hb M;go_enter func173,ntmps173;go_wp2_with fail
 go_loopw [1,5,6] (fun fr v i wr=>∃k:Nat,k<=n/\i = .int .i64 k/\fr = .int .i64 (mP l f k)/\ak wr w.heap.size v (jQ l f k)/\Below w.heap.size w wr) (fun _ _ i _=>n-(intOf i).toNat)
 case atStart=>exact⟨0,a0g _,rfl,rfl,ae B,ae A⟩
 case round=>
  obtain⟨k,N,rfl,rfl,hq,b⟩:=hrel;have d:Hid ((jQ l f k).length=k):=jR l f k;obtain⟨va,vc,rfl⟩:=hq.formN (ae d);have ab:(k:Int)<=30:=by omega
  have HK:=af N;by_cases s:k<n
  .
   have O:(k:Int)<(n:Int):=by omega
   have C:Hid (jQ l f k++[mP l f k]=jQ l f (k+1)):=(Ap l f k).symm;have y:Hid (mP l f (k+1)=mP l f k+(p2 (l.getD k 0).toNat:Nat)):=rfl;have K:Hid (k+1<=maxLen/\(k+1)*8<=140737488355328):=by show _/\_;unfold maxLen;omega
   obtain⟨f0,f1⟩:=ae H k (by omega);obtain⟨f2,f3⟩:=ae H (k+1) (by omega);rw[ae y]at f2 f3;obtain⟨y0,y1⟩:=ae S k s;have x:=af (hq.own (ae d));have m:=af b;have r:=b.size;obtain⟨g,o,rfl,hg,L⟩:=(ae I) (by rw[ae J];omega);have c0:=L k (by rw[ae J];exact s);have T:Hid (∀W,Below w.heap.size w W->W.cell? ⟨g,o+k,none⟩=some (.int .i64 (l.getD k 0))):=fun W X=>(X.cell (p:=⟨g,o+k,none⟩) hg).trans c0;have y2:l.getD k 0<=60:=by omega
   have z:=af (fun W=>eU (l.getD k 0) W y2);clear hq b N L c0 I;generalize U:mP l f k=F at *
   generalize Z:l.getD k 0=Y at *
   clear U Z;generalize V:p2 Y.toNat=P at *
   clear V;go_wp2_with (first
    | (at_builtin;refine a0x _ rfl _ _ 56 rfl w.heap.size 3 i0 (.int .i64 0) 1 8 a0D hi D E G rfl (by decide) (.slice va k vc) _ _ rfl (a0r (ae x) _) ⟨wr.heap.size,0,none⟩ 1 1 [.int .i64 F] rfl rfl (bD _ _ rfl _ _) (en _) (ae K).1 (ae K).2 (ax r _) ?_;intro v' x2 j c t;clear t;have q:=aG (v:=.slice va k vc) c (ae x) (a0a _) r (ae m);have aa:=ae T x2 q;clear c)
    | (go_at_call 171;refine(ae z _).mono ?_;rintro e w' ⟨rfl,R⟩;rw[R];clear R))
   have u:=de (ae d) j;rw[ae C]at u;clear j;go_roundw
   case rel=>exact⟨k+1,by omega,by go_num,by rw[ae y],u,q⟩
   case measure=>simp[intOf];omega
  .
   obtain rfl:k=n:=by omega
   go_wp2;go_ret;exact⟨_,rfl,hq,b⟩
def l8(l:List Int)(num:Int):Nat->Nat->Nat
 | 0,k=>k
 | f+1,k=>if k+1<l.length/\l.getD (k+1) 0<=num then l8 l num f (k+1)else k
def zK(l:List Int)(num:Int):Nat:=l8 l num l.length 0
theorem Fx{l:List Int}{num:Int}{f k:Nat}(h:¬ (k+1<l.length/\l.getD (k+1) 0<=num)):l8 l num f k=k:=by
 cases f with
 | zero=>rfl
 | succ f=>simp only[l8];rw[a0e h]
theorem Fw{l:List Int}{num:Int}{f k:Nat}(h:k+1<l.length/\l.getD (k+1) 0<=num):l8 l num (f+1) k=l8 l num f (k+1):=by simp only[l8];rw[a0d h]
theorem my(a:Option Addr)(cap n:Nat)(l:List Int)(num:Int)(w:World)(q:l.length=n)(h:bp w a l)(B:(n:Int)<=30)(y:1<=n) :
  Calls prog 177 #[.slice a n cap,.int .i64 num] w fun e w'=>e = .returned (.int .i64 (zK l num:Nat))/\w'=w:=by
 have b:=af (fun f k=>@Fx l num f k);have j:=af (fun f k=>@Fw l num f k);have s:Hid (zK l num=l8 l num n 0):=by show zK l num=_;unfold zK;rw[q]
 rw[q]at b j;obtain⟨g,o,rfl,z,u⟩:=h (by omega);have t:=af u;rw[q]at t;clear q h u;go_enter func177,ntmps177;go_wp2_with fail
 go_loop [5] (fun i=>∃k:Nat,k<n/\i = .int .i64 k/\l8 l num n 0=l8 l num (n-k) k) (fun i=>n-(intOf i).toNat)
 case atStart=>exact⟨0,by omega,rfl,rfl⟩
 case round=>
  obtain⟨k,A,rfl,v⟩:=hrel;have r:=af v;clear v;obtain⟨K,hK⟩:∃K:Int,(k:Int)+1=K:=⟨_,rfl⟩;by_cases c:k+1<n
  .
   have p:(k:Int)+1<(n:Int):=by omega
   have c0:=ae t (k+1) c;have x:(k:Int)+1<=30:=by omega
   by_cases m:l.getD (k+1) 0<=num
   .
    have d:Hid (l8 l num n 0=l8 l num (n-(k+1)) (k+1)):=by
     show l8 l num n 0=_;rw[ae r,show n-k=(n-(k+1))+1 by omega];exact ae j _ _ ⟨c,m⟩
    generalize l.getD (k+1) 0=Y at *
    clear hK;go_wp2
    go_round
    case rel=>exact⟨k+1,by omega,by go_num,ae d⟩
    case measure=>simp[intOf];omega
   .
    have d:Hid (l8 l num n 0=k):=by
     show l8 l num n 0=_;rw[ae r];exact ae b _ _ (fun h=>m h.2)
    generalize l.getD (k+1) 0=Y at *
    clear hK;go_wp2;go_ret;exact⟨aE (by rw[ae s,ae d]),rfl⟩
  .
   have p:¬ (k:Int)+1<(n:Int):=by omega
   have d:Hid (l8 l num n 0=k):=by
    show l8 l num n 0=_;rw[ae r];exact ae b _ _ (fun h=>c h.1)
   clear hK;go_wp2;go_ret;exact⟨aE (by rw[ae s,ae d]),rfl⟩
def jo:List Int:=jQ qD 3 28
def jh:List Int:=jQ qm 1 30
theorem G6:jo=(List.range 28).map (fun k=>((stF 3 4 k).1:Int)):=by decide +kernel
theorem FZ:jh=(List.range 30).map (fun k=>((stF 1 2 k).1:Int)):=by decide +kernel
theorem G8:qD=(List.range 28).map (fun k=>((stF 3 4 k).2:Int)):=by decide +kernel
theorem F1:qm=(List.range 30).map (fun k=>((stF 1 2 k).2:Int)):=by decide +kernel
theorem EN:(List.range 61).all (fun y=>decide (y<3) || decide (zK jo (y:Int)=fnd 3 4 y 27))=true:=by decide +kernel
theorem DR:(List.range 251).all (fun z=>decide (z<1) || decide (zK jh (z:Int)=fnd 1 2 z 29))=true:=by decide +kernel
theorem yT(y:Nat)(a:3<=y)(b:y<=60):zK jo (y:Int)=fnd 3 4 y 27:=by
 have:=a1m.1 EN y (List.mem_range.2 (by omega));simp only[a1h,a0u]at this;rcases this with h|h
 . omega
 . exact h
theorem w8(z:Nat)(a:1<=z)(b:z<=250):zK jh (z:Int)=fnd 1 2 z 29:=by
 have:=a1m.1 DR z (List.mem_range.2 (by omega));simp only[a1h,a0u]at this;rcases this with h|h
 . omega
 . exact h
theorem kC(f:Nat->Int)(n k:Nat)(h:k<n):((List.range n).map f).getD k 0=f k:=by simp[List.getD,h]
theorem yR(k:Nat)(h:k<28):jo.getD k 0=((stF 3 4 k).1:Int):=by rw[G6];exact kC _ _ _ h
theorem wX(k:Nat)(h:k<30):jh.getD k 0=((stF 1 2 k).1:Int):=by rw[FZ];exact kC _ _ _ h
theorem yS(k:Nat)(h:k<28):qD.getD k 0=((stF 3 4 k).2:Int):=by rw[G8];exact kC _ _ _ h
theorem wZ(k:Nat)(h:k<30):qm.getD k 0=((stF 1 2 k).2:Int):=by rw[F1];exact kC _ _ _ h
theorem iV(a:Option Addr)(cap:Nat)(w:World)(h:bp w a qD) :
  Calls prog 173 #[.slice a 28 cap,.int .i64 3] w fun e w'=>∃v,e = .returned v/\ak w' w.heap.size v jo/\Below w.heap.size w w':=
 sM a cap 28 qD 3 w rfl h (by omega) (by decide +kernel) (by decide +kernel)
theorem iU(a:Option Addr)(cap:Nat)(w:World)(h:bp w a qm) :
  Calls prog 173 #[.slice a 30 cap,.int .i64 1] w fun e w'=>∃v,e = .returned v/\ak w' w.heap.size v jh/\Below w.heap.size w w':=
 sM a cap 30 qm 1 w rfl h (by omega) (by decide +kernel) (by decide +kernel)
def zb:List Int:=br.map fun(i:Nat)=>(i:Int)
theorem zd:zb.length=19:=rfl
theorem zc(j:Nat)(h:j<19):zb.getD j 0=(br.getD j 0:Nat):=by
 have a:j<br.length:=h;unfold zb;simp[List.getD,a]
theorem yB(w:World):Calls prog 182 #[] w fun e w'=>(∃g,e = .returned (.slice (some ⟨g,0,none⟩) 19 19)/\ak w' w.heap.size (.slice (some ⟨g,0,none⟩) 19 19) zb)/\Below w.heap.size w w':=by
 go_enter func182,ntmps182;go_wp2;go_ret;exact⟨⟨_,rfl,ov _ 19 zb rfl rfl (by unfold maxLen;omega)⟩,(a0c _ _).alloc (a0a _) _⟩
theorem Bp(w:World):Calls prog 182 #[] w fun e w'=>e = .returned (.slice (some ⟨w.heap.size,0,none⟩) 19 19)/\ak w' w.heap.size (.slice (some ⟨w.heap.size,0,none⟩) 19 19) zb/\Below w.heap.size w w':=by
 go_enter func182,ntmps182;go_wp2;go_ret;exact⟨rfl,ov _ 19 zb rfl rfl (by unfold maxLen;omega),(a0c _ _).alloc (a0a _) _⟩
end Go.Proofs.YtggknepmhjfohaaGreatDoor
