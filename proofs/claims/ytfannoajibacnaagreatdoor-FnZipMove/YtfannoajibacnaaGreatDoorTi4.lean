/- A token laid behind a text, the program's: all that is no row of bytes is kept. -/
import Derived.Test.YtfannoajibacnaaGreatDoorTi1
set_option linter.all false
set_option maxRecDepth 100000
set_option maxHeartbeats 3200000
namespace Go.Proofs.YtfannoajibacnaaGreatDoor.U
open Go.Proofs.Tryz
open Go.Proofs.YtfannoajibacnaaGreatDoor
open Go.RowKit
def Ia(base n cap:Nat)(a:Option Addr)(s:List UInt8)(x:Int)(w:World)(l:s.length=n)(h:bC w base (.slice a n cap) s)(p:n<=100000)(hb:base<=w.heap.size)(x0:0<=x)(x1:x<=255) :
  Calls prog 275 #[.slice a n cap,.iface 246 (.int .u8 x)] w fun e w'=>∃v,e = .returned (.tuple #[v,.bool (decide (n+1<=300))])/\bC w' base v (if n+1<=300 then s++[gt x]else [])/\eo base w w':=by
 obtain⟨i0,A,q,r,t⟩:=info_parts Tryz.infoU8;have B:(n:Int)<=100000:=by omega
 have m1:=Ey;have t1:=pT;have y:=af (And.intro l p);by_cases f:n+1<=300
 .
  obtain⟨N,hN⟩:∃N:Int,(n:Int)+1=N:=⟨_,rfl⟩;have g:¬ (300:Int)<N:=by omega
  have z:decide ((300:Int)<N)=false:=decide_eq_false g;have o:Hid (x=((gt x).toNat:Int)):=(kw x0 x1).symm;have u:Hid (n+1<=maxLen/\(n+1)*1<=140737488355328):=by show _/\_;unfold maxLen;omega
  have k:=af (h.own l);rw[decide_eq_true f,if_pos f];clear l h p f;go_enter func275,ntmps275;go_wp2_with fail;apply(mB x w).mono;rintro e w'⟨rfl,d⟩;rw[d];clear d w';go_wp2_with (at_builtin;refine wpList_append_own _ rfl _ _ 22 rfl base 5 i0 (.int .u8 0) 1 1 underlying22 A q r t rfl (by decide) _ _ _ rfl (World.ownsRow.alloc k _) ⟨w.heap.size,0,none⟩ 1 1 [.int .u8 x] rfl rfl (cK _ _ rfl _ _) (one_byte _) u.1 u.2 (ar hb _) ?_;intro v' x2 c b i;clear i);have m:eo base w x2:=jA (v:=.slice a n cap) b k (Nat.le_refl _) hb (eo.refl _ _);rw[ae o]at c;have j:=f9 y.1 c;obtain⟨va,vc,rfl⟩:=j.form;clear c b;go_wp2
  go_ret2
  exact⟨_,rfl,j,m⟩
 .
  obtain⟨N,hN⟩:∃N:Int,(n:Int)+1=N:=⟨_,rfl⟩;have g:(300:Int)<N:=by omega
  rw[decide_eq_false f,if_neg f];clear l h p f;go_enter func275,ntmps275;go_wp2_with fail;apply(mB x w).mono;rintro e w'⟨rfl,d⟩;rw[d];clear d w';go_wp2
  go_ret2
  exact⟨_,rfl,bC.nil _ _,eo.refl _ _⟩
def H9(base n cap Y Z:Nat)(a:Option Addr)(s:List UInt8)(w:World)(H:s.length=n)(h:bC w base (.slice a n cap) s)(G:n<=100000)(hb:base<=w.heap.size)(y1:Y<=60)(z0:1<=Z)(z1:Z<=250) :
  Calls prog 275 #[.slice a n cap,.iface 248 (.agg #[Y,Z])] w fun e w'=>∃v,e = .returned (.tuple #[v,.bool (decide (n+Y<=300/\Z<=n))])/\bC w' base v (if n+Y<=300/\Z<=n then rep s Z Y else [])/\eo base w w':=by
 obtain⟨i0,hi,Q,R,S⟩:=info_parts Tryz.infoU8;have al:(n:Int)<=100000:=by omega
 have X:(Y:Int)<=60:=by omega
 have ab:(Z:Int)<=250:=by omega
 have aa:(1:Int)<=(Z:Int):=by omega
 have m1:=Ex;have t1:=sr;have t2:=pS;have F:=af (And.intro H (And.intro G z0));have J:=af (qO (Y:Nat) (Z:Nat) w);have o:eo base w (w.alloc (.cells #[Y,Z] 248)):=(eo.refl _ _).alloc hb _;by_cases y:n+Y<=300
 .
  have O:¬ (300:Int)<(n:Int)+(Y:Int):=by omega
  by_cases u:Z<=n
  .
   have N:¬ (n:Int)<(Z:Int):=(by omega);have M:decide (n<Z)=false:=decide_eq_false (by omega);rw[decide_eq_true ⟨y,u⟩,if_pos ⟨y,u⟩];have K:=af u;have D:bC ((w.alloc (.cells #[Y,Z] 248)).alloc (.cells #[Y,Z] 248)) base (.slice a n cap) s:=(h.later ((Below.refl w.heap.size w).alloc (Nat.le_refl _) _) (Nat.le_refl _)).later ((Below.refl _ _).alloc (Nat.le_refl _) _) (Nat.le_refl _);have q:eo base w ((w.alloc (.cells #[Y,Z] 248)).alloc (.cells #[Y,Z] 248)):=o.alloc (by simp;omega) _;have B:((w.alloc (.cells #[Y,Z] 248)).alloc (.cells #[Y,Z] 248)).heap[w.heap.size+1]?=some (Obj.cells #[Y,Z] 248):=by
    have e:(w.alloc (.cells #[Y,Z] 248)).heap.size=w.heap.size+1:=(by simp);rw[←e];exact alloc_at _ _
   have I:=af (And.intro D (And.intro q B));clear H h G y u y1 z0 z1 D q B o;go_enter func275,ntmps275;go_wp2_with fail;apply J.mono;rintro e w'⟨rfl,l⟩;rw[l];clear l w';go_wp2_with fail
   go_loopw [0,32] (fun v i wr=>∃k:Nat,k<=Y/\i = .int .i64 k/\bC wr base v (rep s Z k)/\wr.heap[w.heap.size+1]?=some (Obj.cells #[Y,Z] 248)/\eo base w wr) (fun _ i _=>Y-(intOf i).toNat)
   case atStart=>exact⟨0,Nat.zero_le _,rfl,I.1,I.2.2,I.2.1⟩
   case round=>
    obtain⟨k,U,rfl,hq,d,c⟩:=hrel;obtain⟨c0,c1,ad⟩:=ea d;have f:Hid ((rep s Z k).length=n+k):=by show _=_;rw[rL,F.1]
    obtain⟨va,vc,rfl⟩:=hq.formN f;have V:=af U;by_cases ac:k<Y
    .
     obtain⟨g,rfl⟩:=hq.somes (by rw[ae f];have:=ae K;have:=F.2.2;omega);obtain⟨p,hp⟩:∃p,n+k-Z=p:=⟨_,rfl⟩;have ao:((n:Int)+(k:Int))-(Z:Int)=(p:Int):=by have:=ae K;omega
     obtain⟨d0,_,_⟩:=hq.at (j:=p) f (by have:=ae K;have:=F.2.2;omega);have P:Hid (rep s Z (k+1)=rep s Z k++[(rep s Z k).getD p 0]):=by
      show _=_;simp only[rep];rw[ae f,hp]
     have A:=Nat.le_trans hb c.size;have T:Hid (n+k+1<=maxLen/\(n+k+1)*1<=140737488355328):=by show _/\_;have:=F.2.1;unfold maxLen;omega
     have a0:(p:Int)<(n:Int)+(k:Int):=(by omega);have W:=af (And.intro hq (And.intro d c));have z:=af (hq.own f);have Hp:=af hp;clear hq d c U hp;generalize (rep s Z k).getD p 0=b at *;go_wp2_with (at_builtin;refine wpList_append_own _ rfl _ _ 22 rfl base 5 i0 (.int .u8 0) 1 1 underlying22 hi Q R S rfl (by decide) _ _ _ rfl (World.ownsRow.alloc z _) ⟨wr.heap.size,0,none⟩ 1 1 [.int .u8 (b.toNat:Int)] rfl rfl (cK _ _ rfl _ _) (one_byte _) T.1 T.2 (ar A _) ?_;intro v' x2 r m C;clear C);obtain⟨hq,d,c⟩:=ae W;have L:=jA (v:=.slice g (n+k) vc) m z (Nat.le_refl _) A c;have E:=f9 f r;rw[←ae P]at E;have t:=((bR.refl 248 wr).alloc (.cells #[.int .u8 (b.toNat:Int)] 5)).grown (World.ownsRow.alloc z _) (by decide) m _ _ _ d;clear r m hq d c;go_wp2;go_roundw
     case rel=>exact⟨k+1,by have:=ae V;omega,by go_num,E,t,L⟩
     case measure=>simp[intOf];omega
    .
     obtain rfl:k=Y:=by omega
     go_wp2
     go_ret2
     exact⟨_,rfl,hq,c⟩
  .
   have N:(n:Int)<(Z:Int):=(by omega);have M:decide (n<Z)=true:=decide_eq_true (by omega);have q:eo base w ((w.alloc (.cells #[Y,Z] 248)).alloc (.cells #[Y,Z] 248)):=o.alloc (by simp;omega) _;rw[decide_eq_false (fun x=>u x.2),if_neg (fun x=>u x.2)];clear H h G y u y1 z0 z1;go_enter func275,ntmps275;go_wp2_with fail;apply J.mono;rintro e w'⟨rfl,l⟩;rw[l];clear l w';go_wp2
   go_ret2
   exact⟨_,rfl,bC.nil _ _,q⟩
 .
  have O:(300:Int)<(n:Int)+(Y:Int):=by omega
  rw[decide_eq_false (fun x=>y x.1),if_neg (fun x=>y x.1)];clear H h G y y1 z0 z1;go_enter func275,ntmps275;go_wp2_with fail;apply J.mono;rintro e w'⟨rfl,l⟩;rw[l];clear l w';go_wp2
  go_ret2
  exact⟨_,rfl,bC.nil _ _,o⟩
def lzLay_any(base n cap:Nat)(a:Option Addr)(s:List UInt8)(t:Tk)(w:World)(g:s.length=n)(h:bC w base (.slice a n cap) s)(r:n<=100000)(hb:base<=w.heap.size)(p:okT t=true) :
  Calls prog 275 #[.slice a n cap,hH t] w fun e w'=>∃v,e = .returned (.tuple #[v,.bool (fX s t).isSome])/\bC w' base v ((fX s t).getD [])/\eo base w w':=by
 cases f:isB t
 .
  have m:isK t=true:=by simpa[okT,f]using p
  rw[tM m];have j:=m;simp only[isK,Bool.and_eq_true,decide_eq_true_eq]at j;obtain⟨⟨_,u⟩,x⟩:=j;obtain⟨y1,y2⟩:=aI.1 u;obtain⟨z1,z2⟩:=aI.1 x;obtain⟨Y,o⟩:=Int.eq_ofNat_of_zero_le (show 0<=t.2.1 by omega);obtain⟨Z,l⟩:=Int.eq_ofNat_of_zero_le (show 0<=t.2.2 by omega);rw[o,l];have k:yK t=Y:=by unfold yK;rw[f,o];simp
  apply(H9 base n cap Y Z a s w g h r hb (by omega) (by omega) (by omega)).mono;rintro e w'⟨v,rfl,hq,b⟩;by_cases d:n+Y<=300/\Z<=n
  . have c:=qK (s:=s) p (fun _=>by rw[l,g];omega) (by rw[k,g];exact d.1);rw[f,o,l]at c;simp only[Bool.false_eq_true,if_false,Int.toNat_natCast]at c;rw[if_pos d]at hq;rw[c,decide_eq_true d];exact⟨v,rfl,hq,b⟩
  .
   have c:fX s t=none:=by
    by_cases y:n+Y<=300
    . exact ML m (by rw[l,g];omega)
    . exact yR (by rw[k,g];omega)
   rw[if_neg d]at hq;rw[c,decide_eq_false d];exact⟨v,rfl,hq,b⟩
 .
  rw[oH f];have i:=f;simp only[isB,Bool.and_eq_true,decide_eq_true_eq]at i;obtain⟨x1,x2⟩:=aI.1 i.2.1;have k:yK t=1:=by unfold yK;rw[f];rfl
  apply(Ia base n cap a s t.1 w g h r hb x1 x2).mono;rintro e w'⟨v,rfl,hq,b⟩;by_cases d:n+1<=300
  . have c:=qK (s:=s) p (fun q=>by rw[D2 f]at q;cases q) (by rw[k,g];exact d);rw[f]at c;simp only[if_true]at c;rw[if_pos d]at hq;rw[c,decide_eq_true d];exact⟨v,rfl,hq,b⟩
  . have c:fX s t=none:=yR (by rw[k,g];omega);rw[if_neg d]at hq;rw[c,decide_eq_false d];exact⟨v,rfl,hq,b⟩
end Go.Proofs.YtfannoajibacnaaGreatDoor.U
