/- Of what the proof is made: 2 texts, one behind the other. -/
import Derived.Test.YtggknepmhjfohaaGreatDoorTi1
import Derived.Test.YtggknepmhjfohaaGreatDoorM8
set_option maxRecDepth 100000
set_option linter.unusedSimpArgs false
set_option linter.unusedVariables false
set_option maxHeartbeats 3200000
namespace Go.Proofs.YtggknepmhjfohaaGreatDoor
open Go.Proofs.Tryz
open Go.RowKit
theorem nt(base n cap:Nat)(a:Option Addr)(s:List UInt8)(x:Int)(w:World)(l:s.length=n)(h:aO w base (.slice a n cap) s)(p:n<=100000)(hb:base<=w.heap.size)(x0:0<=x)(x1:x<=255) :
  Calls prog 203 #[.slice a n cap,.iface 174 (.int .u8 x)] w fun e w'=>∃v,e = .returned (.tuple #[v,.bool (decide (n+1<=300))])/\aO w' base v (if n+1<=300 then s++[db x]else [])/\Below base w w':=by
 obtain⟨i0,A,q,r,t⟩:=a0t Tryz.infoU8;have B:(n:Int)<=100000:=by omega
 have m1:=tf;have t1:=km;have y:=af (a0b l p);by_cases f:n+1<=300
 .
  obtain⟨N,hN⟩:∃N:Int,(n:Int)+1=N:=⟨_,rfl⟩;have g:¬ (300:Int)<N:=by omega
  have z:decide ((300:Int)<N)=false:=a0j g;have o:Hid (x=((db x).toNat:Int)):=(dX x0 x1).symm;have u:Hid (n+1<=maxLen/\(n+1)*1<=140737488355328):=by show _/\_;unfold maxLen;omega
  have k:=af (h.own l);rw[a0v f,a0d f];clear l h p f;go_enter a1H,a1I;go_wp2_with fail;refine(fV x w).mono ?_;rintro e w' ⟨rfl,d⟩;rw[d];clear d w';go_wp2_with (at_builtin;refine a0x _ rfl _ _ 22 rfl base 5 i0 (.int .u8 0) 1 1 a0O A q r t rfl (by decide) _ _ _ rfl (a0r (ae k) _) ⟨w.heap.size,0,none⟩ 1 1 [.int .u8 x] rfl rfl (bD _ _ rfl _ _) (one_byte _) (ae u).1 (ae u).2 (ax hb _) ?_;intro v' x2 c b i;clear i);have m:Below base w x2:=aG (v:=.slice a n cap) b (ae k) (a0a _) hb (a0c _ _);rw[ae o]at c;have j:=cm (ae y).1 c;obtain⟨va,vc,rfl⟩:=j.form;clear c b;go_wp2
  go_ret2
  exact⟨_,rfl,j,m⟩
 .
  obtain⟨N,hN⟩:∃N:Int,(n:Int)+1=N:=⟨_,rfl⟩;have g:(300:Int)<N:=by omega
  rw[a0j f,a0e f];clear l h p f;go_enter a1H,a1I;go_wp2_with fail;refine(fV x w).mono ?_;rintro e w' ⟨rfl,d⟩;rw[d];clear d w';go_wp2
  go_ret2
  exact⟨_,rfl,aO.nil _ _,a0c _ _⟩
theorem nr(base n cap Y Z:Nat)(a:Option Addr)(s:List UInt8)(w:World)(H:s.length=n)(h:aO w base (.slice a n cap) s)(G:n<=100000)(hb:base<=w.heap.size)(y1:Y<=60)(z0:1<=Z)(z1:Z<=250) :
  Calls prog 203 #[.slice a n cap,.iface 176 (.agg #[.int .i64 (Y:Nat),.int .i64 (Z:Nat)])] w fun e w'=>∃v,e = .returned (.tuple #[v,.bool (decide (n+Y<=300/\Z<=n))])/\aO w' base v (if n+Y<=300/\Z<=n then rep s Z Y else [])/\Below base w w':=by
 obtain⟨i0,hi,P,Q,R⟩:=a0t Tryz.infoU8;have al:(n:Int)<=100000:=by omega
 have W:(Y:Int)<=60:=by omega
 have aa:(Z:Int)<=250:=by omega
 have X:(1:Int)<=(Z:Int):=by omega
 have m1:=td;have t1:=mf;have t2:=kj;have F:=af (a0b H (a0b G z0));have J:=af (kp (Y:Nat) (Z:Nat) w);have o:Below base w (w.alloc (.cells #[.int .i64 (Y:Nat),.int .i64 (Z:Nat)] 176)):=(a0c _ _).alloc hb _;by_cases y:n+Y<=300
 .
  have N:¬ (300:Int)<(n:Int)+(Y:Int):=by omega
  by_cases u:Z<=n
  .
   have M:¬ (n:Int)<(Z:Int):=by omega
   have ab:decide (n<Z)=false:=a0j (by omega);rw[a0v ⟨y,u⟩,a0d ⟨y,u⟩];have K:=af u;have D:aO ((w.alloc (.cells #[.int .i64 (Y:Nat),.int .i64 (Z:Nat)] 176)).alloc (.cells #[.int .i64 (Y:Nat),.int .i64 (Z:Nat)] 176)) base (.slice a n cap) s:=(h.later ((a0c w.heap.size w).alloc (a0a _) _) (a0a _)).later ((a0c _ _).alloc (a0a _) _) (a0a _);have q:Below base w ((w.alloc (.cells #[.int .i64 (Y:Nat),.int .i64 (Z:Nat)] 176)).alloc (.cells #[.int .i64 (Y:Nat),.int .i64 (Z:Nat)] 176)):=o.alloc (by simp;omega) _;have B:((w.alloc (.cells #[.int .i64 (Y:Nat),.int .i64 (Z:Nat)] 176)).alloc (.cells #[.int .i64 (Y:Nat),.int .i64 (Z:Nat)] 176)).heap[w.heap.size+1]?=some (Obj.cells #[.int .i64 (Y:Nat),.int .i64 (Z:Nat)] 176):=by
    have e:(w.alloc (.cells #[.int .i64 (Y:Nat),.int .i64 (Z:Nat)] 176)).heap.size=w.heap.size+1:=by simp
    rw[←e];exact alloc_at _ _
   have I:=af (a0b D (a0b q B));clear H h G y u y1 z0 z1 D q B o;go_enter a1H,a1I;go_wp2_with fail;refine(ae J).mono ?_;rintro e w' ⟨rfl,l⟩;rw[l];clear l w';go_wp2_with fail
   go_loopw [0,32] (fun v i wr=>∃k:Nat,k<=Y/\i = .int .i64 k/\aO wr base v (rep s Z k)/\wr.heap[w.heap.size+1]?=some (Obj.cells #[.int .i64 (Y:Nat),.int .i64 (Z:Nat)] 176)/\Below base w wr) (fun _ i _=>Y-(intOf i).toNat)
   case atStart=>exact⟨0,a0g _,rfl,(ae I).1,(ae I).2.2,(ae I).2.1⟩
   case round=>
    obtain⟨k,T,rfl,hq,d,c⟩:=hrel;obtain⟨c0,c1,ad⟩:=df d;have f:Hid ((rep s Z k).length=n+k):=by show _=_;rw[kQ,(ae F).1]
    obtain⟨va,vc,rfl⟩:=hq.formN (ae f);have U:=af T;by_cases ac:k<Y
    .
     obtain⟨g,rfl⟩:=hq.somes (by rw[ae f];have:=ae K;have:=(ae F).2.2;omega);obtain⟨p,hp⟩:∃p,n+k-Z=p:=⟨_,rfl⟩;have an:((n:Int)+(k:Int))-(Z:Int)=(p:Int):=by have:=ae K;omega
     obtain⟨d0,_,_⟩:=hq.at (j:=p) (ae f) (by have:=ae K;have:=(ae F).2.2;omega);have O:Hid (rep s Z (k+1)=rep s Z k++[(rep s Z k).getD p 0]):=by
      show _=_;simp only[rep];rw[ae f,hp]
     have A:=a0z hb c.size;have S:Hid (n+k+1<=maxLen/\(n+k+1)*1<=140737488355328):=by show _/\_;have:=(ae F).2.1;unfold maxLen;omega
     have ao:(p:Int)<(n:Int)+(k:Int):=by omega
     have V:=af (a0b hq (a0b d c));have z:=af (hq.own (ae f));clear hq d c T hp;generalize (rep s Z k).getD p 0=b at *
     go_wp2_with (at_builtin;refine a0x _ rfl _ _ 22 rfl base 5 i0 (.int .u8 0) 1 1 a0O hi P Q R rfl (by decide) _ _ _ rfl (a0r (ae z) _) ⟨wr.heap.size,0,none⟩ 1 1 [.int .u8 (b.toNat:Int)] rfl rfl (bD _ _ rfl _ _) (one_byte _) (ae S).1 (ae S).2 (ax A _) ?_;intro v' x2 r m C;clear C);obtain⟨hq,d,c⟩:=ae V;have L:=aG (v:=.slice (some ⟨g,0,none⟩) (n+k) vc) m (ae z) (a0a _) A c;have E:=cm (ae f) r;rw[←ae O]at E;have t:=((bj.refl 176 wr).alloc (.cells #[.int .u8 (b.toNat:Int)] 5)).grown (a0r (ae z) _) (by decide) m _ _ _ d;clear r m hq d c;go_wp2;go_roundw
     case rel=>exact⟨k+1,by have:=ae U;omega,by go_num,E,t,L⟩
     case measure=>simp[intOf];omega
    .
     obtain rfl:k=Y:=by omega
     go_wp2
     go_ret2
     exact⟨_,rfl,hq,c⟩
  .
   have M:(n:Int)<(Z:Int):=by omega
   have q:Below base w ((w.alloc (.cells #[.int .i64 (Y:Nat),.int .i64 (Z:Nat)] 176)).alloc (.cells #[.int .i64 (Y:Nat),.int .i64 (Z:Nat)] 176)):=o.alloc (by simp;omega) _;rw[a0j (fun x=>u x.2),a0e (fun x=>u x.2)];clear H h G y u y1 z0 z1;go_enter a1H,a1I;go_wp2_with fail;refine(ae J).mono ?_;rintro e w' ⟨rfl,l⟩;rw[l];clear l w';go_wp2
   go_ret2
   exact⟨_,rfl,aO.nil _ _,q⟩
 .
  have N:(300:Int)<(n:Int)+(Y:Int):=by omega
  rw[a0j (fun x=>y x.1),a0e (fun x=>y x.1)];clear H h G y y1 z0 z1;go_enter a1H,a1I;go_wp2_with fail;refine(ae J).mono ?_;rintro e w' ⟨rfl,l⟩;rw[l];clear l w';go_wp2
  go_ret2
  exact⟨_,rfl,aO.nil _ _,o⟩
theorem lzLay_any(base n cap:Nat)(a:Option Addr)(s:List UInt8)(t:Tk)(w:World)(g:s.length=n)(h:aO w base (.slice a n cap) s)(r:n<=100000)(hb:base<=w.heap.size)(p:okT t=true) :
  Calls prog 203 #[.slice a n cap,fs t] w fun e w'=>∃v,e = .returned (.tuple #[v,.bool (dR s t).isSome])/\aO w' base v ((dR s t).getD [])/\Below base w w':=by
 cases f:isB t
 .
  have m:isK t=true:=by simpa[okT,f]using p
  rw[nM m];have j:=m;simp only[isK,a0l,a0u]at j;obtain⟨⟨_,u⟩,x⟩:=j;obtain⟨y1,y2⟩:=aC.1 u;obtain⟨z1,z2⟩:=aC.1 x;obtain⟨Y,o⟩:=a0n (show 0<=t.2.1 by omega);obtain⟨Z,l⟩:=a0n (show 0<=t.2.2 by omega);rw[o,l];have k:oN t=Y:=by unfold oN;rw[f,o];simp
  refine(nr base n cap Y Z a s w g h r hb (by omega) (by omega) (by omega)).mono ?_;rintro e w' ⟨v,rfl,hq,b⟩;by_cases d:n+Y<=300/\Z<=n
  . have c:=jO (s:=s) p (fun _=>by rw[l,g];omega) (by rw[k,g];exact d.1);rw[f,o,l]at c;simp only[a0Y,a0Z,a0p]at c;rw[a0d d]at hq;rw[c,a0v d];exact⟨v,rfl,hq,b⟩
  .
   have c:dR s t=none:=by
    by_cases y:n+Y<=300
    . exact wW m (by rw[l,g];omega)
    . exact me (by rw[k,g];omega)
   rw[a0e d]at hq;rw[c,a0j d];exact⟨v,rfl,hq,b⟩
 .
  rw[kU f];have i:=f;simp only[isB,a0l,a0u]at i;obtain⟨x1,x2⟩:=aC.1 i.2.1;have k:oN t=1:=by unfold oN;rw[f];rfl
  refine(nt base n cap a s t.1 w g h r hb x1 x2).mono ?_;rintro e w' ⟨v,rfl,hq,b⟩;by_cases d:n+1<=300
  . have c:=jO (s:=s) p (fun q=>by rw[uL f]at q;cases q) (by rw[k,g];exact d);rw[f]at c;simp only[a0T]at c;rw[a0d d]at hq;rw[c,a0v d];exact⟨v,rfl,hq,b⟩
  . have c:dR s t=none:=me (by rw[k,g];omega);rw[a0e d]at hq;rw[c,a0j d];exact⟨v,rfl,hq,b⟩
end Go.Proofs.YtggknepmhjfohaaGreatDoor
namespace Go.Proofs.YtggknepmhjfohaaGreatDoor.U
open Go.Proofs.Tryz
open Go.Proofs.YtggknepmhjfohaaGreatDoor
open Go.RowKit
theorem nt(base n cap:Nat)(a:Option Addr)(s:List UInt8)(x:Int)(w:World)(l:s.length=n)(h:aO w base (.slice a n cap) s)(p:n<=100000)(hb:base<=w.heap.size)(x0:0<=x)(x1:x<=255) :
  Calls prog 203 #[.slice a n cap,.iface 174 (.int .u8 x)] w fun e w'=>∃v,e = .returned (.tuple #[v,.bool (decide (n+1<=300))])/\aO w' base v (if n+1<=300 then s++[db x]else [])/\cK base w w':=by
 obtain⟨i0,A,q,r,t⟩:=info_parts Tryz.infoU8;have B:(n:Int)<=100000:=by omega
 have m1:=tf;have t1:=km;have y:=af (And.intro l p);by_cases f:n+1<=300
 .
  obtain⟨N,hN⟩:∃N:Int,(n:Int)+1=N:=⟨_,rfl⟩;have g:¬ (300:Int)<N:=by omega
  have z:decide ((300:Int)<N)=false:=decide_eq_false g;have o:Hid (x=((db x).toNat:Int)):=(dX x0 x1).symm;have u:Hid (n+1<=maxLen/\(n+1)*1<=140737488355328):=by show _/\_;unfold maxLen;omega
  have k:=af (h.own l);rw[decide_eq_true f,if_pos f];clear l h p f;go_enter func203,ntmps203;go_wp2_with fail;refine(fV x w).mono ?_;rintro e w' ⟨rfl,d⟩;rw[d];clear d w';go_wp2_with (at_builtin;refine wpList_append_own _ rfl _ _ 22 rfl base 5 i0 (.int .u8 0) 1 1 underlying22 A q r t rfl (by decide) _ _ _ rfl (World.ownsRow.alloc (ae k) _) ⟨w.heap.size,0,none⟩ 1 1 [.int .u8 x] rfl rfl (bD _ _ rfl _ _) (one_byte _) (ae u).1 (ae u).2 (ax hb _) ?_;intro v' x2 c b i;clear i);have m:cK base w x2:=gZ (v:=.slice a n cap) b (ae k) (Nat.le_refl _) hb (cK.refl _ _);rw[ae o]at c;have j:=cm (ae y).1 c;obtain⟨va,vc,rfl⟩:=j.form;clear c b;go_wp2
  go_ret2
  exact⟨_,rfl,j,m⟩
 .
  obtain⟨N,hN⟩:∃N:Int,(n:Int)+1=N:=⟨_,rfl⟩;have g:(300:Int)<N:=by omega
  rw[decide_eq_false f,if_neg f];clear l h p f;go_enter func203,ntmps203;go_wp2_with fail;refine(fV x w).mono ?_;rintro e w' ⟨rfl,d⟩;rw[d];clear d w';go_wp2
  go_ret2
  exact⟨_,rfl,aO.nil _ _,cK.refl _ _⟩
theorem nr(base n cap Y Z:Nat)(a:Option Addr)(s:List UInt8)(w:World)(H:s.length=n)(h:aO w base (.slice a n cap) s)(G:n<=100000)(hb:base<=w.heap.size)(y1:Y<=60)(z0:1<=Z)(z1:Z<=250) :
  Calls prog 203 #[.slice a n cap,.iface 176 (.agg #[.int .i64 (Y:Nat),.int .i64 (Z:Nat)])] w fun e w'=>∃v,e = .returned (.tuple #[v,.bool (decide (n+Y<=300/\Z<=n))])/\aO w' base v (if n+Y<=300/\Z<=n then rep s Z Y else [])/\cK base w w':=by
 obtain⟨i0,hi,Q,R,S⟩:=info_parts Tryz.infoU8;have al:(n:Int)<=100000:=by omega
 have X:(Y:Int)<=60:=by omega
 have ab:(Z:Int)<=250:=by omega
 have aa:(1:Int)<=(Z:Int):=by omega
 have m1:=td;have t1:=mf;have t2:=kj;have F:=af (And.intro H (And.intro G z0));have J:=af (kp (Y:Nat) (Z:Nat) w);have o:cK base w (w.alloc (.cells #[.int .i64 (Y:Nat),.int .i64 (Z:Nat)] 176)):=(cK.refl _ _).alloc hb _;by_cases y:n+Y<=300
 .
  have O:¬ (300:Int)<(n:Int)+(Y:Int):=by omega
  by_cases u:Z<=n
  .
   have N:¬ (n:Int)<(Z:Int):=by omega
   have M:decide (n<Z)=false:=decide_eq_false (by omega);rw[decide_eq_true ⟨y,u⟩,if_pos ⟨y,u⟩];have K:=af u;have D:aO ((w.alloc (.cells #[.int .i64 (Y:Nat),.int .i64 (Z:Nat)] 176)).alloc (.cells #[.int .i64 (Y:Nat),.int .i64 (Z:Nat)] 176)) base (.slice a n cap) s:=(h.later ((Below.refl w.heap.size w).alloc (Nat.le_refl _) _) (Nat.le_refl _)).later ((Below.refl _ _).alloc (Nat.le_refl _) _) (Nat.le_refl _);have q:cK base w ((w.alloc (.cells #[.int .i64 (Y:Nat),.int .i64 (Z:Nat)] 176)).alloc (.cells #[.int .i64 (Y:Nat),.int .i64 (Z:Nat)] 176)):=o.alloc (by simp;omega) _;have B:((w.alloc (.cells #[.int .i64 (Y:Nat),.int .i64 (Z:Nat)] 176)).alloc (.cells #[.int .i64 (Y:Nat),.int .i64 (Z:Nat)] 176)).heap[w.heap.size+1]?=some (Obj.cells #[.int .i64 (Y:Nat),.int .i64 (Z:Nat)] 176):=by
    have e:(w.alloc (.cells #[.int .i64 (Y:Nat),.int .i64 (Z:Nat)] 176)).heap.size=w.heap.size+1:=by simp
    rw[←e];exact alloc_at _ _
   have I:=af (And.intro D (And.intro q B));clear H h G y u y1 z0 z1 D q B o;go_enter func203,ntmps203;go_wp2_with fail;refine(ae J).mono ?_;rintro e w' ⟨rfl,l⟩;rw[l];clear l w';go_wp2_with fail
   go_loopw [0,32] (fun v i wr=>∃k:Nat,k<=Y/\i = .int .i64 k/\aO wr base v (rep s Z k)/\wr.heap[w.heap.size+1]?=some (Obj.cells #[.int .i64 (Y:Nat),.int .i64 (Z:Nat)] 176)/\cK base w wr) (fun _ i _=>Y-(intOf i).toNat)
   case atStart=>exact⟨0,Nat.zero_le _,rfl,(ae I).1,(ae I).2.2,(ae I).2.1⟩
   case round=>
    obtain⟨k,U,rfl,hq,d,c⟩:=hrel;obtain⟨c0,c1,ad⟩:=df d;have f:Hid ((rep s Z k).length=n+k):=by show _=_;rw[kQ,(ae F).1]
    obtain⟨va,vc,rfl⟩:=hq.formN (ae f);have V:=af U;by_cases ac:k<Y
    .
     obtain⟨g,rfl⟩:=hq.somes (by rw[ae f];have:=ae K;have:=(ae F).2.2;omega);obtain⟨p,hp⟩:∃p,n+k-Z=p:=⟨_,rfl⟩;have an:((n:Int)+(k:Int))-(Z:Int)=(p:Int):=by have:=ae K;omega
     obtain⟨d0,_,_⟩:=hq.at (j:=p) (ae f) (by have:=ae K;have:=(ae F).2.2;omega);have P:Hid (rep s Z (k+1)=rep s Z k++[(rep s Z k).getD p 0]):=by
      show _=_;simp only[rep];rw[ae f,hp]
     have A:=Nat.le_trans hb c.size;have T:Hid (n+k+1<=maxLen/\(n+k+1)*1<=140737488355328):=by show _/\_;have:=(ae F).2.1;unfold maxLen;omega
     have ao:(p:Int)<(n:Int)+(k:Int):=by omega
     have W:=af (And.intro hq (And.intro d c));have z:=af (hq.own (ae f));have Hp:=af hp;clear hq d c U hp;generalize (rep s Z k).getD p 0=b at *
     go_wp2_with (at_builtin;refine wpList_append_own _ rfl _ _ 22 rfl base 5 i0 (.int .u8 0) 1 1 underlying22 hi Q R S rfl (by decide) _ _ _ rfl (World.ownsRow.alloc (ae z) _) ⟨wr.heap.size,0,none⟩ 1 1 [.int .u8 (b.toNat:Int)] rfl rfl (bD _ _ rfl _ _) (one_byte _) (ae T).1 (ae T).2 (ax A _) ?_;intro v' x2 r m C;clear C);obtain⟨hq,d,c⟩:=ae W;have L:=gZ (v:=.slice (some ⟨g,0,none⟩) (n+k) vc) m (ae z) (Nat.le_refl _) A c;have E:=cm (ae f) r;rw[←ae P]at E;have t:=((bj.refl 176 wr).alloc (.cells #[.int .u8 (b.toNat:Int)] 5)).grown (World.ownsRow.alloc (ae z) _) (by decide) m _ _ _ d;clear r m hq d c;go_wp2;go_roundw
     case rel=>exact⟨k+1,by have:=ae V;omega,by go_num,E,t,L⟩
     case measure=>simp[intOf];omega
    .
     obtain rfl:k=Y:=by omega
     go_wp2
     go_ret2
     exact⟨_,rfl,hq,c⟩
  .
   have N:(n:Int)<(Z:Int):=by omega
   have M:decide (n<Z)=true:=decide_eq_true (by omega);have q:cK base w ((w.alloc (.cells #[.int .i64 (Y:Nat),.int .i64 (Z:Nat)] 176)).alloc (.cells #[.int .i64 (Y:Nat),.int .i64 (Z:Nat)] 176)):=o.alloc (by simp;omega) _;rw[decide_eq_false (fun x=>u x.2),if_neg (fun x=>u x.2)];clear H h G y u y1 z0 z1;go_enter func203,ntmps203;go_wp2_with fail;refine(ae J).mono ?_;rintro e w' ⟨rfl,l⟩;rw[l];clear l w';go_wp2
   go_ret2
   exact⟨_,rfl,aO.nil _ _,q⟩
 .
  have O:(300:Int)<(n:Int)+(Y:Int):=by omega
  rw[decide_eq_false (fun x=>y x.1),if_neg (fun x=>y x.1)];clear H h G y y1 z0 z1;go_enter func203,ntmps203;go_wp2_with fail;refine(ae J).mono ?_;rintro e w' ⟨rfl,l⟩;rw[l];clear l w';go_wp2
  go_ret2
  exact⟨_,rfl,aO.nil _ _,o⟩
theorem lzLay_any(base n cap:Nat)(a:Option Addr)(s:List UInt8)(t:Tk)(w:World)(g:s.length=n)(h:aO w base (.slice a n cap) s)(r:n<=100000)(hb:base<=w.heap.size)(p:okT t=true) :
  Calls prog 203 #[.slice a n cap,fs t] w fun e w'=>∃v,e = .returned (.tuple #[v,.bool (dR s t).isSome])/\aO w' base v ((dR s t).getD [])/\cK base w w':=by
 cases f:isB t
 .
  have m:isK t=true:=by simpa[okT,f]using p
  rw[nM m];have j:=m;simp only[isK,Bool.and_eq_true,decide_eq_true_eq]at j;obtain⟨⟨_,u⟩,x⟩:=j;obtain⟨y1,y2⟩:=aC.1 u;obtain⟨z1,z2⟩:=aC.1 x;obtain⟨Y,o⟩:=Int.eq_ofNat_of_zero_le (show 0<=t.2.1 by omega);obtain⟨Z,l⟩:=Int.eq_ofNat_of_zero_le (show 0<=t.2.2 by omega);rw[o,l];have k:oN t=Y:=by unfold oN;rw[f,o];simp
  refine(nr base n cap Y Z a s w g h r hb (by omega) (by omega) (by omega)).mono ?_;rintro e w' ⟨v,rfl,hq,b⟩;by_cases d:n+Y<=300/\Z<=n
  . have c:=jO (s:=s) p (fun _=>by rw[l,g];omega) (by rw[k,g];exact d.1);rw[f,o,l]at c;simp only[Bool.false_eq_true,if_false,Int.toNat_natCast]at c;rw[if_pos d]at hq;rw[c,decide_eq_true d];exact⟨v,rfl,hq,b⟩
  .
   have c:dR s t=none:=by
    by_cases y:n+Y<=300
    . exact wW m (by rw[l,g];omega)
    . exact me (by rw[k,g];omega)
   rw[if_neg d]at hq;rw[c,decide_eq_false d];exact⟨v,rfl,hq,b⟩
 .
  rw[kU f];have i:=f;simp only[isB,Bool.and_eq_true,decide_eq_true_eq]at i;obtain⟨x1,x2⟩:=aC.1 i.2.1;have k:oN t=1:=by unfold oN;rw[f];rfl
  refine(nt base n cap a s t.1 w g h r hb x1 x2).mono ?_;rintro e w' ⟨v,rfl,hq,b⟩;by_cases d:n+1<=300
  . have c:=jO (s:=s) p (fun q=>by rw[uL f]at q;cases q) (by rw[k,g];exact d);rw[f]at c;simp only[if_true]at c;rw[if_pos d]at hq;rw[c,decide_eq_true d];exact⟨v,rfl,hq,b⟩
  . have c:dR s t=none:=me (by rw[k,g];omega);rw[if_neg d]at hq;rw[c,decide_eq_false d];exact⟨v,rfl,hq,b⟩
end Go.Proofs.YtggknepmhjfohaaGreatDoor.U
