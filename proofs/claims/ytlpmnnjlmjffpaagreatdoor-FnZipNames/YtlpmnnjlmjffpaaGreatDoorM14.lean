/- Of what the proof is made: 3 texts, one behind the other. -/
import Derived.Test.YtlpmnnjlmjffpaaGreatDoorM9
import Derived.Test.YtlpmnnjlmjffpaaGreatDoorM3
set_option maxRecDepth 100000
set_option linter.unusedSimpArgs false
set_option linter.unusedVariables false
set_option maxHeartbeats 1600000
namespace Go.Proofs.YtlpmnnjlmjffpaaGreatDoor
open Go.Proofs.Tryz
open Go.RowKit Corb
def qF:List Int:=[0,0,0,0,0,0,0,0,1,1,1,1,2,2,2,2,3,3,3,3,4,4,4,4,5,5,5,5]
def ql:List Int:=[0,0,0,0,1,1,2,2,3,3,4,4,5,5,6,6,7,7,8,8,9,9,10,10,11,11,12,12,13,13]
theorem oG{w:World}(a:Array Value)(n:Nat)(l:List Int)(b:l.map (Value.int .i64)=a.toList)(d:l.length=n)(c:n<=maxLen):ay (w.alloc (.cells a 3)) w.heap.size (.slice (some ⟨w.heap.size,0,none⟩) n n) l:=by
 subst d;have f:a.size=l.length*1:=by
  have:=congrArg List.length b;simpa using this.symm
 have:=a0Y (base:=w.heap.size) (e:=3) (size:=1) w a l.length (a0a _) c f;show World.ownsRow _ _ _ _ _ _ _;rw[b];exact this
theorem iy(w:World) :
  Calls prog 267 #[] w fun e w'=>e = .returned (.slice (some ⟨w.heap.size,0,none⟩) 28 28)/\ay w' w.heap.size (.slice (some ⟨w.heap.size,0,none⟩) 28 28) qF/\Below w.heap.size w w':=by
 go_enter func267,ntmps267;go_wp2;go_ret;exact⟨rfl,oG _ 28 qF rfl rfl (by unfold maxLen;omega),(a0c _ _).alloc (a0a _) _⟩
theorem iq(w:World) :
  Calls prog 268 #[] w fun e w'=>e = .returned (.slice (some ⟨w.heap.size,0,none⟩) 30 30)/\ay w' w.heap.size (.slice (some ⟨w.heap.size,0,none⟩) 30 30) ql/\Below w.heap.size w w':=by
 go_enter func268,ntmps268;go_wp2;go_ret;exact⟨rfl,oG _ 30 ql rfl rfl (by unfold maxLen;omega),(a0c _ _).alloc (a0a _) _⟩
def mU(l:List Int)(f:Int):Nat->Int
 | 0=>f
 | k+1=>mU l f k+(p2 (l.getD k 0).toNat:Nat)
def jR(l:List Int)(f:Int)(k:Nat):List Int:=(List.range k).map (mU l f)
theorem jS(l:List Int)(f:Int)(k:Nat):(jR l f k).length=k:=by simp[jR]
theorem Bl(l:List Int)(f:Int)(k:Nat):jR l f (k+1)=jR l f k++[mU l f k]:=by simp[jR,List.range_succ]
theorem sS(a:Option Addr)(cap n:Nat)(l:List Int)(f:Int)(w:World)(Q:l.length=n)(h:bu w a l)(hm:(n:Int)<=30)(hb:∀i,i<n->0<=l.getD i 0/\l.getD i 0<=16)(M:∀k,k<=n->0<=mU l f k/\mU l f k<=100000) :
  Calls prog 266 #[.slice a n cap,.int .i64 f] w fun e w'=>∃v,e = .returned v/\ay w' w.heap.size v (jR l f n)/\Below w.heap.size w w':=by
 obtain⟨i0,hi,D,E,G⟩:=a0w Tryz.infoInt;have B:Hid (ay (w.alloc (.cells #[] 3)) w.heap.size (.slice (some ⟨w.heap.size,0,none⟩) 0 0) (jR l f 0)):=ay.lit _ _ (a0a _);have A:Hid (Below w.heap.size w (w.alloc (.cells #[] 3))):=(a0c _ _).alloc (a0a _) _;have I:=af h;have J:=af Q;have S:=af hb;have H:=af M;clear h Q hb M;go_enter func266,ntmps266;go_wp2_with fail
 go_loopw [1,5,6] (fun fr v i wr=>∃k:Nat,k<=n/\i = .int .i64 k/\fr = .int .i64 (mU l f k)/\ay wr w.heap.size v (jR l f k)/\Below w.heap.size w wr) (fun _ _ i _=>n-(intOf i).toNat)
 case atStart=>exact⟨0,a0g _,rfl,rfl,ae B,ae A⟩
 case round=>
  obtain⟨k,N,rfl,rfl,hq,b⟩:=hrel;have d:Hid ((jR l f k).length=k):=jS l f k;obtain⟨va,vc,rfl⟩:=hq.formN (ae d);have ab:(k:Int)<=30:=by omega
  have HK:=af N;by_cases s:k<n
  .
   have O:(k:Int)<(n:Int):=by omega
   have C:Hid (jR l f k++[mU l f k]=jR l f (k+1)):=(Bl l f k).symm;have y:Hid (mU l f (k+1)=mU l f k+(p2 (l.getD k 0).toNat:Nat)):=rfl;have K:Hid (k+1<=maxLen/\(k+1)*8<=140737488355328):=by show _/\_;unfold maxLen;omega
   obtain⟨f0,f1⟩:=ae H k (by omega);obtain⟨f2,f3⟩:=ae H (k+1) (by omega);rw[ae y]at f2 f3;obtain⟨y0,y1⟩:=ae S k s;have x:=af (hq.own (ae d));have m:=af b;have r:=b.size;obtain⟨g,o,rfl,hg,L⟩:=(ae I) (by rw[ae J];omega);have c0:=L k (by rw[ae J];exact s);have T:Hid (∀W,Below w.heap.size w W->W.cell? ⟨g,o+k,none⟩=some (.int .i64 (l.getD k 0))):=fun W X=>(X.cell (p:=⟨g,o+k,none⟩) hg).trans c0;have y2:l.getD k 0<=60:=by omega
   have z:=af (fun W=>eR (l.getD k 0) W y2);clear hq b N L c0 I;generalize U:mU l f k=F at *
   generalize Z:l.getD k 0=Y at *
   clear U Z;generalize V:p2 Y.toNat=P at *
   clear V;go_wp2_with (first
    | (at_builtin;refine a0x _ rfl _ _ 65 rfl w.heap.size 3 i0 (.int .i64 0) 1 8 a0I hi D E G rfl (by decide) (.slice va k vc) _ _ rfl (a0n (ae x) _) ⟨wr.heap.size,0,none⟩ 1 1 [.int .i64 F] rfl rfl (bh _ _ rfl _ _) (fE _) (ae K).1 (ae K).2 (an r _) ?_;intro v' x2 j c t;clear t;have q:=aE (v:=.slice va k vc) c (ae x) (a0a _) r (ae m);have aa:=ae T x2 q;clear c)
    | (go_at_call 249;refine(ae z _).mono ?_;rintro e w' ⟨rfl,R⟩;rw[R];clear R))
   have u:=db (ae d) j;rw[ae C]at u;clear j;go_roundw
   case rel=>exact⟨k+1,by omega,by go_num,by rw[ae y],u,q⟩
   case measure=>simp[intOf];omega
  .
   obtain rfl:k=n:=by omega
   go_wp2;go_ret;exact⟨_,rfl,hq,b⟩
def lU(l:List Int)(num:Int):Nat->Nat->Nat
 | 0,k=>k
 | f+1,k=>if k+1<l.length/\l.getD (k+1) 0<=num then lU l num f (k+1)else k
def Am(l:List Int)(num:Int):Nat:=lU l num l.length 0
theorem GP{l:List Int}{num:Int}{f k:Nat}(h:¬ (k+1<l.length/\l.getD (k+1) 0<=num)):lU l num f k=k:=by
 cases f with
 | zero=>rfl
 | succ f=>simp only[lU];rw[a0d h]
theorem GN{l:List Int}{num:Int}{f k:Nat}(h:k+1<l.length/\l.getD (k+1) 0<=num):lU l num (f+1) k=lU l num f (k+1):=by simp only[lU];rw[a0e h]
theorem mx(a:Option Addr)(cap n:Nat)(l:List Int)(num:Int)(w:World)(q:l.length=n)(h:bu w a l)(B:(n:Int)<=30)(y:1<=n) :
  Calls prog 270 #[.slice a n cap,.int .i64 num] w fun e w'=>e = .returned (.int .i64 (Am l num:Nat))/\w'=w:=by
 have b:=af (fun f k=>@GP l num f k);have j:=af (fun f k=>@GN l num f k);have s:Hid (Am l num=lU l num n 0):=by show Am l num=_;unfold Am;rw[q]
 rw[q]at b j;obtain⟨g,o,rfl,z,u⟩:=h (by omega);have t:=af u;rw[q]at t;clear q h u;go_enter func270,ntmps270;go_wp2_with fail
 go_loop [5] (fun i=>∃k:Nat,k<n/\i = .int .i64 k/\lU l num n 0=lU l num (n-k) k) (fun i=>n-(intOf i).toNat)
 case atStart=>exact⟨0,by omega,rfl,rfl⟩
 case round=>
  obtain⟨k,A,rfl,v⟩:=hrel;have r:=af v;clear v;obtain⟨K,hK⟩:∃K:Int,(k:Int)+1=K:=⟨_,rfl⟩;by_cases c:k+1<n
  .
   have p:(k:Int)+1<(n:Int):=by omega
   have c0:=ae t (k+1) c;have x:(k:Int)+1<=30:=by omega
   by_cases m:l.getD (k+1) 0<=num
   .
    have d:Hid (lU l num n 0=lU l num (n-(k+1)) (k+1)):=by
     show lU l num n 0=_;rw[ae r,show n-k=(n-(k+1))+1 by omega];exact ae j _ _ ⟨c,m⟩
    generalize l.getD (k+1) 0=Y at *
    clear hK;go_wp2
    go_round
    case rel=>exact⟨k+1,by omega,by go_num,ae d⟩
    case measure=>simp[intOf];omega
   .
    have d:Hid (lU l num n 0=k):=by
     show lU l num n 0=_;rw[ae r];exact ae b _ _ (fun h=>m h.2)
    generalize l.getD (k+1) 0=Y at *
    clear hK;go_wp2;go_ret;exact⟨aP (by rw[ae s,ae d]),rfl⟩
  .
   have p:¬ (k:Int)+1<(n:Int):=by omega
   have d:Hid (lU l num n 0=k):=by
    show lU l num n 0=_;rw[ae r];exact ae b _ _ (fun h=>c h.1)
   clear hK;go_wp2;go_ret;exact⟨aP (by rw[ae s,ae d]),rfl⟩
def jt:List Int:=jR qF 3 28
def jm:List Int:=jR ql 1 30
theorem JI:jt=(List.range 28).map (fun k=>((stF 3 4 k).1:Int)):=by decide +kernel
theorem Ip:jm=(List.range 30).map (fun k=>((stF 1 2 k).1:Int)):=by decide +kernel
theorem JJ:qF=(List.range 28).map (fun k=>((stF 3 4 k).2:Int)):=by decide +kernel
theorem Iq:ql=(List.range 30).map (fun k=>((stF 1 2 k).2:Int)):=by decide +kernel
theorem Gd:(List.range 61).all (fun y=>decide (y<3) || decide (Am jt (y:Int)=fnd 3 4 y 27))=true:=by decide +kernel
theorem EU:(List.range 251).all (fun z=>decide (z<1) || decide (Am jm (z:Int)=fnd 1 2 z 29))=true:=by decide +kernel
theorem zi(y:Nat)(a:3<=y)(b:y<=60):Am jt (y:Int)=fnd 3 4 y 27:=by
 have:=a05.1 Gd y (List.mem_range.2 (by omega));simp only[a1B,a0o]at this;rcases this with h|h
 . omega
 . exact h
theorem xA(z:Nat)(a:1<=z)(b:z<=250):Am jm (z:Int)=fnd 1 2 z 29:=by
 have:=a05.1 EU z (List.mem_range.2 (by omega));simp only[a1B,a0o]at this;rcases this with h|h
 . omega
 . exact h
theorem kC(f:Nat->Int)(n k:Nat)(h:k<n):((List.range n).map f).getD k 0=f k:=by simp[List.getD,h]
theorem zf(k:Nat)(h:k<28):jt.getD k 0=((stF 3 4 k).1:Int):=by rw[JI];exact kC _ _ _ h
theorem xw(k:Nat)(h:k<30):jm.getD k 0=((stF 1 2 k).1:Int):=by rw[Ip];exact kC _ _ _ h
theorem zh(k:Nat)(h:k<28):qF.getD k 0=((stF 3 4 k).2:Int):=by rw[JJ];exact kC _ _ _ h
theorem xz(k:Nat)(h:k<30):ql.getD k 0=((stF 1 2 k).2:Int):=by rw[Iq];exact kC _ _ _ h
theorem iS(a:Option Addr)(cap:Nat)(w:World)(h:bu w a qF) :
  Calls prog 266 #[.slice a 28 cap,.int .i64 3] w fun e w'=>∃v,e = .returned v/\ay w' w.heap.size v jt/\Below w.heap.size w w':=
 sS a cap 28 qF 3 w rfl h (by omega) (by decide +kernel) (by decide +kernel)
theorem iR(a:Option Addr)(cap:Nat)(w:World)(h:bu w a ql) :
  Calls prog 266 #[.slice a 30 cap,.int .i64 1] w fun e w'=>∃v,e = .returned v/\ay w' w.heap.size v jm/\Below w.heap.size w w':=
 sS a cap 30 ql 1 w rfl h (by omega) (by decide +kernel) (by decide +kernel)
def zC:List Int:=bp.map fun(i:Nat)=>(i:Int)
theorem zE:zC.length=19:=rfl
theorem zD(j:Nat)(h:j<19):zC.getD j 0=(bp.getD j 0:Nat):=by
 have a:j<bp.length:=h;unfold zC;simp[List.getD,a]
theorem yU(w:World):Calls prog 253 #[] w fun e w'=>(∃g,e = .returned (.slice (some ⟨g,0,none⟩) 19 19)/\ay w' w.heap.size (.slice (some ⟨g,0,none⟩) 19 19) zC)/\Below w.heap.size w w':=by
 go_enter func253,ntmps253;go_wp2;go_ret;exact⟨⟨_,rfl,oG _ 19 zC rfl rfl (by unfold maxLen;omega)⟩,(a0c _ _).alloc (a0a _) _⟩
theorem Ce(w:World):Calls prog 253 #[] w fun e w'=>e = .returned (.slice (some ⟨w.heap.size,0,none⟩) 19 19)/\ay w' w.heap.size (.slice (some ⟨w.heap.size,0,none⟩) 19 19) zC/\Below w.heap.size w w':=by
 go_enter func253,ntmps253;go_wp2;go_ret;exact⟨rfl,oG _ 19 zC rfl rfl (by unfold maxLen;omega),(a0c _ _).alloc (a0a _) _⟩
end Go.Proofs.YtlpmnnjlmjffpaaGreatDoor
