/- Of what the proof is made: 3 texts, one behind the other. -/
import Derived.Test.YtkdlcomfpffhhaaGreatDoorM8
import Derived.Test.YtkdlcomfpffhhaaGreatDoorM3
set_option maxRecDepth 100000
set_option linter.unusedSimpArgs false
set_option linter.unusedVariables false
set_option maxHeartbeats 1600000
namespace Go.Proofs.YtkdlcomfpffhhaaGreatDoor
open Go.Proofs.Tryz
open Go.RowKit Corb
def pY:List Int:=[0,0,0,0,0,0,0,0,1,1,1,1,2,2,2,2,3,3,3,3,4,4,4,4,5,5,5,5]
def pH:List Int:=[0,0,0,0,1,1,2,2,3,3,4,4,5,5,6,6,7,7,8,8,9,9,10,10,11,11,12,12,13,13]
theorem nP{w:World}(a:Array Value)(n:Nat)(l:List Int)(b:l.map (Value.int .i64)=a.toList)(d:l.length=n)(c:n<=maxLen):ax (w.alloc (.cells a 3)) w.heap.size (.slice (some ⟨w.heap.size,0,none⟩) n n) l:=by
 subst d;have f:a.size=l.length*1:=by
  have:=congrArg List.length b;simpa using this.symm
 have:=a0P (base:=w.heap.size) (e:=3) (size:=1) w a l.length (a0a _) c f;show World.ownsRow _ _ _ _ _ _ _;rw[b];exact this
theorem gV(w:World) :
  Calls prog 260 #[] w fun e w'=>e = .returned (.slice (some ⟨w.heap.size,0,none⟩) 28 28)/\ax w' w.heap.size (.slice (some ⟨w.heap.size,0,none⟩) 28 28) pY/\Below w.heap.size w w':=by
 go_enter func260,ntmps260;go_wp2;go_ret;exact⟨rfl,nP _ 28 pY rfl rfl (by unfold maxLen;omega),(a0c _ _).alloc (a0a _) _⟩
theorem gR(w:World) :
  Calls prog 261 #[] w fun e w'=>e = .returned (.slice (some ⟨w.heap.size,0,none⟩) 30 30)/\ax w' w.heap.size (.slice (some ⟨w.heap.size,0,none⟩) 30 30) pH/\Below w.heap.size w w':=by
 go_enter func261,ntmps261;go_wp2;go_ret;exact⟨rfl,nP _ 30 pH rfl rfl (by unfold maxLen;omega),(a0c _ _).alloc (a0a _) _⟩
def lZ(l:List Int)(f:Int):Nat->Int
 | 0=>f
 | k+1=>lZ l f k+(p2 (l.getD k 0).toNat:Nat)
def je(l:List Int)(f:Int)(k:Nat):List Int:=(List.range k).map (lZ l f)
theorem jf(l:List Int)(f:Int)(k:Nat):(je l f k).length=k:=by simp[je]
theorem Aj(l:List Int)(f:Int)(k:Nat):je l f (k+1)=je l f k++[lZ l f k]:=by simp[je,List.range_succ]
theorem rV(a:Option Addr)(cap n:Nat)(l:List Int)(f:Int)(w:World)(Q:l.length=n)(h:bn w a l)(hm:(n:Int)<=30)(hb:∀i,i<n->0<=l.getD i 0/\l.getD i 0<=16)(M:∀k,k<=n->0<=lZ l f k/\lZ l f k<=100000) :
  Calls prog 259 #[.slice a n cap,.int .i64 f] w fun e w'=>∃v,e = .returned v/\ax w' w.heap.size v (je l f n)/\Below w.heap.size w w':=by
 obtain⟨i0,hi,D,E,G⟩:=a0s Tryz.infoInt;have B:Hid (ax (w.alloc (.cells #[] 3)) w.heap.size (.slice (some ⟨w.heap.size,0,none⟩) 0 0) (je l f 0)):=ax.lit _ _ (a0a _);have A:Hid (Below w.heap.size w (w.alloc (.cells #[] 3))):=(a0c _ _).alloc (a0a _) _;have I:=af h;have J:=af Q;have S:=af hb;have H:=af M;clear h Q hb M;go_enter func259,ntmps259;go_wp2_with fail
 go_loopw [1,5,6] (fun fr v i wr=>∃k:Nat,k<=n/\i = .int .i64 k/\fr = .int .i64 (lZ l f k)/\ax wr w.heap.size v (je l f k)/\Below w.heap.size w wr) (fun _ _ i _=>n-(intOf i).toNat)
 case atStart=>exact⟨0,a0h _,rfl,rfl,ae B,ae A⟩
 case round=>
  obtain⟨k,N,rfl,rfl,hq,b⟩:=hrel;have d:Hid ((je l f k).length=k):=jf l f k;obtain⟨va,vc,rfl⟩:=hq.formN (ae d);have ab:(k:Int)<=30:=by omega
  have HK:=af N;by_cases s:k<n
  .
   have O:(k:Int)<(n:Int):=by omega
   have C:Hid (je l f k++[lZ l f k]=je l f (k+1)):=(Aj l f k).symm;have y:Hid (lZ l f (k+1)=lZ l f k+(p2 (l.getD k 0).toNat:Nat)):=rfl;have K:Hid (k+1<=maxLen/\(k+1)*8<=140737488355328):=by show _/\_;unfold maxLen;omega
   obtain⟨f0,f1⟩:=ae H k (by omega);obtain⟨f2,f3⟩:=ae H (k+1) (by omega);rw[ae y]at f2 f3;obtain⟨y0,y1⟩:=ae S k s;have x:=af (hq.own (ae d));have m:=af b;have r:=b.size;obtain⟨g,o,rfl,hg,L⟩:=(ae I) (by rw[ae J];omega);have c0:=L k (by rw[ae J];exact s);have T:Hid (∀W,Below w.heap.size w W->W.cell? ⟨g,o+k,none⟩=some (.int .i64 (l.getD k 0))):=fun W X=>(X.cell (p:=⟨g,o+k,none⟩) hg).trans c0;have y2:l.getD k 0<=60:=by omega
   have z:=af (fun W=>ej (l.getD k 0) W y2);clear hq b N L c0 I;generalize U:lZ l f k=F at *
   generalize Z:l.getD k 0=Y at *
   clear U Z;generalize V:p2 Y.toNat=P at *
   clear V;go_wp2_with (first
    | (at_builtin;refine a0v _ rfl _ _ 146 rfl w.heap.size 3 i0 (.int .i64 0) 1 8 a0L hi D E G rfl (by decide) (.slice va k vc) _ _ rfl (a0k (ae x) _) ⟨wr.heap.size,0,none⟩ 1 1 [.int .i64 F] rfl rfl (bo _ _ rfl _ _) (eZ _) (ae K).1 (ae K).2 (av r _) ?_;intro v' x2 j c t;clear t;have q:=aI (v:=.slice va k vc) c (ae x) (a0a _) r (ae m);have aa:=ae T x2 q;clear c)
    | (go_at_call 252;refine(ae z _).mono ?_;rintro e w' ⟨rfl,R⟩;rw[R];clear R))
   have u:=cF (ae d) j;rw[ae C]at u;clear j;go_roundw
   case rel=>exact⟨k+1,by omega,by go_num,by rw[ae y],u,q⟩
   case measure=>simp[intOf];omega
  .
   obtain rfl:k=n:=by omega
   go_wp2;go_ret;exact⟨_,rfl,hq,b⟩
def ll(l:List Int)(num:Int):Nat->Nat->Nat
 | 0,k=>k
 | f+1,k=>if k+1<l.length/\l.getD (k+1) 0<=num then ll l num f (k+1)else k
def zr(l:List Int)(num:Int):Nat:=ll l num l.length 0
theorem FT{l:List Int}{num:Int}{f k:Nat}(h:¬ (k+1<l.length/\l.getD (k+1) 0<=num)):ll l num f k=k:=by
 cases f with
 | zero=>rfl
 | succ f=>simp only[ll];rw[a0d h]
theorem FR{l:List Int}{num:Int}{f k:Nat}(h:k+1<l.length/\l.getD (k+1) 0<=num):ll l num (f+1) k=ll l num f (k+1):=by simp only[ll];rw[a0e h]
theorem lE(a:Option Addr)(cap n:Nat)(l:List Int)(num:Int)(w:World)(q:l.length=n)(h:bn w a l)(B:(n:Int)<=30)(y:1<=n) :
  Calls prog 263 #[.slice a n cap,.int .i64 num] w fun e w'=>e = .returned (.int .i64 (zr l num:Nat))/\w'=w:=by
 have b:=af (fun f k=>@FT l num f k);have j:=af (fun f k=>@FR l num f k);have s:Hid (zr l num=ll l num n 0):=by show zr l num=_;unfold zr;rw[q]
 rw[q]at b j;obtain⟨g,o,rfl,z,u⟩:=h (by omega);have t:=af u;rw[q]at t;clear q h u;go_enter func263,ntmps263;go_wp2_with fail
 go_loop [5] (fun i=>∃k:Nat,k<n/\i = .int .i64 k/\ll l num n 0=ll l num (n-k) k) (fun i=>n-(intOf i).toNat)
 case atStart=>exact⟨0,by omega,rfl,rfl⟩
 case round=>
  obtain⟨k,A,rfl,v⟩:=hrel;have r:=af v;clear v;obtain⟨K,hK⟩:∃K:Int,(k:Int)+1=K:=⟨_,rfl⟩;by_cases c:k+1<n
  .
   have p:(k:Int)+1<(n:Int):=by omega
   have c0:=ae t (k+1) c;have x:(k:Int)+1<=30:=by omega
   by_cases m:l.getD (k+1) 0<=num
   .
    have d:Hid (ll l num n 0=ll l num (n-(k+1)) (k+1)):=by
     show ll l num n 0=_;rw[ae r,show n-k=(n-(k+1))+1 by omega];exact ae j _ _ ⟨c,m⟩
    generalize l.getD (k+1) 0=Y at *
    clear hK;go_wp2
    go_round
    case rel=>exact⟨k+1,by omega,by go_num,ae d⟩
    case measure=>simp[intOf];omega
   .
    have d:Hid (ll l num n 0=k):=by
     show ll l num n 0=_;rw[ae r];exact ae b _ _ (fun h=>m h.2)
    generalize l.getD (k+1) 0=Y at *
    clear hK;go_wp2;go_ret;exact⟨aO (by rw[ae s,ae d]),rfl⟩
  .
   have p:¬ (k:Int)+1<(n:Int):=by omega
   have d:Hid (ll l num n 0=k):=by
    show ll l num n 0=_;rw[ae r];exact ae b _ _ (fun h=>c h.1)
   clear hK;go_wp2;go_ret;exact⟨aO (by rw[ae s,ae d]),rfl⟩
def iQ:List Int:=je pY 3 28
def iK:List Int:=je pH 1 30
theorem IK:iQ=(List.range 28).map (fun k=>((stF 3 4 k).1:Int)):=by decide +kernel
theorem GH:iK=(List.range 30).map (fun k=>((stF 1 2 k).1:Int)):=by decide +kernel
theorem IL:pY=(List.range 28).map (fun k=>((stF 3 4 k).2:Int)):=by decide +kernel
theorem GI:pH=(List.range 30).map (fun k=>((stF 1 2 k).2:Int)):=by decide +kernel
theorem E9:(List.range 61).all (fun y=>decide (y<3) || decide (zr iQ (y:Int)=fnd 3 4 y 27))=true:=by decide +kernel
theorem DV:(List.range 251).all (fun z=>decide (z<1) || decide (zr iK (z:Int)=fnd 1 2 z 29))=true:=by decide +kernel
theorem yu(y:Nat)(a:3<=y)(b:y<=60):zr iQ (y:Int)=fnd 3 4 y 27:=by
 have:=a06.1 E9 y (List.mem_range.2 (by omega));simp only[a1U,a0E]at this;rcases this with h|h
 . omega
 . exact h
theorem wP(z:Nat)(a:1<=z)(b:z<=250):zr iK (z:Int)=fnd 1 2 z 29:=by
 have:=a06.1 DV z (List.mem_range.2 (by omega));simp only[a1U,a0E]at this;rcases this with h|h
 . omega
 . exact h
theorem jJ(f:Nat->Int)(n k:Nat)(h:k<n):((List.range n).map f).getD k 0=f k:=by simp[List.getD,h]
theorem ys(k:Nat)(h:k<28):iQ.getD k 0=((stF 3 4 k).1:Int):=by rw[IK];exact jJ _ _ _ h
theorem wM(k:Nat)(h:k<30):iK.getD k 0=((stF 1 2 k).1:Int):=by rw[GH];exact jJ _ _ _ h
theorem yt(k:Nat)(h:k<28):pY.getD k 0=((stF 3 4 k).2:Int):=by rw[IL];exact jJ _ _ _ h
theorem wO(k:Nat)(h:k<30):pH.getD k 0=((stF 1 2 k).2:Int):=by rw[GI];exact jJ _ _ _ h
theorem iv(a:Option Addr)(cap:Nat)(w:World)(h:bn w a pY) :
  Calls prog 259 #[.slice a 28 cap,.int .i64 3] w fun e w'=>∃v,e = .returned v/\ax w' w.heap.size v iQ/\Below w.heap.size w w':=
 rV a cap 28 pY 3 w rfl h (by omega) (by decide +kernel) (by decide +kernel)
theorem iu(a:Option Addr)(cap:Nat)(w:World)(h:bn w a pH) :
  Calls prog 259 #[.slice a 30 cap,.int .i64 1] w fun e w'=>∃v,e = .returned v/\ax w' w.heap.size v iK/\Below w.heap.size w w':=
 rV a cap 30 pH 1 w rfl h (by omega) (by decide +kernel) (by decide +kernel)
def yI:List Int:=bS.map fun(i:Nat)=>(i:Int)
theorem yK:yI.length=19:=rfl
theorem yJ(j:Nat)(h:j<19):yI.getD j 0=(bS.getD j 0:Nat):=by
 have a:j<bS.length:=h;unfold yI;simp[List.getD,a]
theorem yd(w:World):Calls prog 256 #[] w fun e w'=>(∃g,e = .returned (.slice (some ⟨g,0,none⟩) 19 19)/\ax w' w.heap.size (.slice (some ⟨g,0,none⟩) 19 19) yI)/\Below w.heap.size w w':=by
 go_enter func256,ntmps256;go_wp2;go_ret;exact⟨⟨_,rfl,nP _ 19 yI rfl rfl (by unfold maxLen;omega)⟩,(a0c _ _).alloc (a0a _) _⟩
theorem Be(w:World):Calls prog 256 #[] w fun e w'=>e = .returned (.slice (some ⟨w.heap.size,0,none⟩) 19 19)/\ax w' w.heap.size (.slice (some ⟨w.heap.size,0,none⟩) 19 19) yI/\Below w.heap.size w w':=by
 go_enter func256,ntmps256;go_wp2;go_ret;exact⟨rfl,nP _ 19 yI rfl rfl (by unfold maxLen;omega),(a0c _ _).alloc (a0a _) _⟩
end Go.Proofs.YtkdlcomfpffhhaaGreatDoor
