/- A token added to a text, the model's: all that is no row of bytes is kept. -/
import Derived.Test.YtfannoajibacnaaGreatDoorM11
set_option linter.all false
set_option maxRecDepth 100000
set_option maxHeartbeats 3200000
namespace Go.Proofs.YtfannoajibacnaaGreatDoor.U
open Go.Proofs.Tryz
open Go.Proofs.YtfannoajibacnaaGreatDoor
open Go.RowKit
def i7{W x1:World}{v u:Value}{k o:Nat}(b:W.grownBy x1 v.ownBlock)(c:∀g,v.ownBlock=some g->g<k)(a:W.cell? ⟨k,o,none⟩=some u):x1.cell? ⟨k,o,none⟩=some u:=
 b.cell a (fun e=>by have:=c k e.symm;omega)
def Mb{w:World}{base size n:Nat}{e:TypeId}{v:Value}{xs:List Value}(h:w.ownsRow base e size v n xs):∀g,v.ownBlock=some g->g<w.heap.size:=fun g a=>(World.ownsRow.lt h g a).2
def GZ(base n cap:Nat)(a:Option Addr)(s:List UInt8)(t:Tk)(w:World)(K:s.length=n)(h:bC w base (.slice a n cap) s)(S:n<=100000)(hb:base<=w.heap.size)(O:t.2.1=0) :
  Calls prog 273 #[.slice a n cap,.agg #[.int .i64 t.1,.int .i64 t.2.1,.int .i64 t.2.2]] w fun e w'=>∃v x,e = .returned (.tuple #[v,.bool (isB t)])/\bC w' base v x/\(isB t=true->x=s++[gt t.1])/\eo base w w':=by
 obtain⟨i0,M,B,C,D⟩:=info_parts Tryz.infoU8;obtain⟨x,y,z⟩:=t;simp only at O;subst O;simp only;have T:(n:Int)<=100000:=by omega
 have Q:∃X:Int,IntKind.u8.wrap x=X:=⟨_,rfl⟩;obtain⟨X,P⟩:=Q;have p:0<=X/\X<=255:=by rw[←P];simp[IntKind.wrap,IntKind.bits,IntKind.signed];omega
 have A:Hid (isB (x,0,z)=true->(gt X)=gt x):=by
  intro u;simp only[isB,Bool.and_eq_true,decide_eq_true_eq]at u;have:=aI.1 u.2.1;have e:X=x:=by rw[←P];simp[IntKind.wrap,IntKind.bits,IntKind.signed];omega
  rw[e]
 have k:Hid (isB (x,0,z)=(inB x 0 255&&decide (z=0))):=by show _=_;simp[isB]
 have L:=af K;have r:World.ownsRow ((w.alloc (.cells #[x,.int .i64 0,z] 309)).alloc (.cells #[.int .u8 X] 5)).drew base 5 1 (.slice a n cap) n (dD s):=World.ownsRow.alloc (World.ownsRow.alloc (h.own K) _) _;have o:=af (cK (w.alloc (.cells #[x,.int .i64 0,z] 309)) (w.heap.size+1) (by simp) (.int .u8 X) 5);have i:eo base w ((w.alloc (.cells #[x,.int .i64 0,z] 309)).alloc (.cells #[.int .u8 X] 5)).drew:=((((eo.refl base w).alloc hb _).alloc (by simp;omega) _)).drew;have f:∀g,(Value.slice a n cap).ownBlock=some g->g<w.heap.size:=Mb (h.own K);have E:Hid (n+1<=maxLen/\(n+1)*1<=140737488355328):=by show _/\_;unfold maxLen;omega
 have F:(w.alloc (.cells #[x,.int .i64 0,z] 309)).drew.cell? ⟨w.heap.size,0,none⟩=some (.int .i64 x):=by show(w.alloc (.cells #[x,.int .i64 0,z] 309)).cell? ⟨w.heap.size,0,none⟩=some (.int .i64 x);simp
 have G:(w.alloc (.cells #[x,.int .i64 0,z] 309)).drew.cell? ⟨w.heap.size,2,none⟩=some (.int .i64 z):=by show(w.alloc (.cells #[x,.int .i64 0,z] 309)).cell? ⟨w.heap.size,2,none⟩=some (.int .i64 z);simp
 have e00:((w.alloc (.cells #[x,.int .i64 0,z] 309)).alloc (.cells #[.int .u8 X] 5)).drew.cell? ⟨w.heap.size,0,none⟩=some (.int .i64 x):=by show((w.alloc (.cells #[x,.int .i64 0,z] 309)).alloc (.cells #[.int .u8 X] 5)).cell? ⟨w.heap.size,0,none⟩=some (.int .i64 x);simp
 have e02:((w.alloc (.cells #[x,.int .i64 0,z] 309)).alloc (.cells #[.int .u8 X] 5)).drew.cell? ⟨w.heap.size,2,none⟩=some (.int .i64 z):=by show((w.alloc (.cells #[x,.int .i64 0,z] 309)).alloc (.cells #[.int .u8 X] 5)).cell? ⟨w.heap.size,2,none⟩=some (.int .i64 z);simp
 have q:=And.intro F G;have d:=And.intro e00 e02;clear h K S F G e00 e02;cases I:inB x 0 255
 .
  rw[I]at k;go_enter func273,ntmps273;go_wp2_with fail;first|(go_region_law (first|(refine aL rfl (.tmp 10) (.tmp 14) 22 rfl base 5 i0 (.int .u8 0) 1 1 underlying22 M B C D rfl (Nat.zero_lt_succ 0) (.slice a n cap) _ _ rfl r ⟨w.heap.size+1,0,none⟩ 1 1 [.int .u8 X] rfl rfl o (one_byte _) E.1 E.2 (Nat.le_trans hb i.size) ?_;intro v' x5 c b l;clear l;have H:=i7 b f d.1;have R:=i7 b f d.2)|(go_simp;go_at_call 54;apply(aU _ _ _ _).mono;rintro e y5⟨rfl,m⟩;rw[m,I];clear m)))|fail
  all_goals
   clear o q d;have j:eo base w x5:=i.grown b (Nat.le_trans hb i.size) (fun g J=>(World.ownsRow.lt r g J).1) (Ij r);have hq:bC x5 base v' (s++[gt X]):=f9 L (by rw[kw p.1 p.2];exact c);obtain⟨va,vc,rfl⟩:=hq.form;clear c b;go_wp2
   go_ret2
   exact⟨_,_,by rw[ae k];rfl,hq,fun u=>by rw[ae A u],j⟩
 .
  rw[I]at k;by_cases N:z=0
  .
   subst N;go_enter func273,ntmps273;go_wp2_with fail;first|(go_region_held3 (fun W=>W.cell? ⟨w.heap.size,0,none⟩=some (.int .i64 x)/\W.cell? ⟨w.heap.size,2,none⟩=some (.int .i64 0)) (first|exact q|assumption|exact d) (first
    | (go_at_call 54;apply(aU _ _ _ _).mono;rintro e y5⟨rfl,m⟩;rw[m,I];clear m)
    | (refine aL rfl (.tmp 10) (.tmp 14) 22 rfl base 5 i0 (.int .u8 0) 1 1 underlying22 M B C D rfl (Nat.zero_lt_succ 0) (.slice a n cap) _ _ rfl r ⟨w.heap.size+1,0,none⟩ 1 1 [.int .u8 X] rfl rfl o (one_byte _) E.1 E.2 (Nat.le_trans hb i.size) ?_;intro v' x5 c b l;clear l;have H:=And.intro (i7 b f d.1) (i7 b f d.2))))|fail
   clear o q d;have j:eo base w x5:=i.grown b (Nat.le_trans hb i.size) (fun g J=>(World.ownsRow.lt r g J).1) (Ij r);have hq:bC x5 base v' (s++[gt X]):=f9 L (by rw[kw p.1 p.2];exact c);obtain⟨va,vc,rfl⟩:=hq.form;clear c b;go_wp2
   go_ret2
   exact⟨_,_,by rw[ae k];rfl,hq,fun u=>by rw[ae A u],j⟩
  .
   have U:(z == 0)=false:=by simpa using N
   go_enter func273,ntmps273;go_wp2_with fail;first|(go_region_held3 (fun W=>W.cell? ⟨w.heap.size,0,none⟩=some (.int .i64 x)/\W.cell? ⟨w.heap.size,2,none⟩=some (.int .i64 z)) (first|exact q|assumption|exact d) (first
    | (go_at_call 54;apply(aU _ _ _ _).mono;rintro e y5⟨rfl,m⟩;rw[m,I];clear m)
    | (refine aL rfl (.tmp 10) (.tmp 14) 22 rfl base 5 i0 (.int .u8 0) 1 1 underlying22 M B C D rfl (Nat.zero_lt_succ 0) (.slice a n cap) _ _ rfl r ⟨w.heap.size+1,0,none⟩ 1 1 [.int .u8 X] rfl rfl o (one_byte _) E.1 E.2 (Nat.le_trans hb i.size) ?_;intro v' x5 c b l;clear l;have H:=And.intro (i7 b f d.1) (i7 b f d.2))))|fail
   clear o q d;have j:eo base w x5:=i.grown b (Nat.le_trans hb i.size) (fun g J=>(World.ownsRow.lt r g J).1) (Ij r);have hq:bC x5 base v' (s++[gt X]):=f9 L (by rw[kw p.1 p.2];exact c);obtain⟨va,vc,rfl⟩:=hq.form;clear c b;go_wp2
   go_ret2
   exact⟨_,_,by rw[ae k];simp[N],hq,fun u=>by rw[ae A u],j⟩
def Oy{t:Tk}(h:t.2.1≠0):isB t=false:=by simp[isB,h]
def GY(base n cap:Nat)(a:Option Addr)(s:List UInt8)(t:Tk)(w:World)(U:s.length=n)(h:bC w base (.slice a n cap) s)(T:n<=100000)(hb:base<=w.heap.size)(P:t.2.1≠0) :
  Calls prog 273 #[.slice a n cap,.agg #[.int .i64 t.1,.int .i64 t.2.1,.int .i64 t.2.2]] w fun e w'=>∃v x,e = .returned (.tuple #[v,.bool (isK t&&decide (t.2.2<=(n:Int)))])/\bC w' base v x/\((isK t&&decide (t.2.2<=(n:Int)))=true->x=rep s t.2.2.toNat t.2.1.toNat)/\eo base w w':=by
 obtain⟨i0,hi,K,L,M⟩:=info_parts Tryz.infoU8;obtain⟨x,y,z⟩:=t;simp only at P ⊢;have ac:(n:Int)<=100000:=by omega
 have a0:(y == 0)=false:=by simpa using P
 have D:eo base w (w.alloc (.cells #[x,y,z] 309)):=(eo.refl base w).alloc hb _;have Q:bC (w.alloc (.cells #[x,y,z] 309)) base (.slice a n cap) s:=h.later ((Below.refl w.heap.size w).alloc (Nat.le_refl _) _) (Nat.le_refl _);have N:=af (And.intro U T);have q:=af (And.intro Q D);clear U T h Q D;by_cases J:x=0
 .
  subst J;cases B:inB y 3 60
  .
   have m:Hid ((isK (0,y,z)&&decide (z<=(n:Int)))=false):=by show _=false;simp[isK,B]
   go_enter func273,ntmps273;go_wp2_with (go_at_call 54;apply(aU _ _ _ _).mono;rintro e w'⟨rfl,c⟩;rw[c,B];clear c w')
   go_ret2
   rw[ae m];exact⟨_,s,rfl,q.1,(fun h=>by cases h),q.2⟩
  .
   cases C:inB z 1 250
   .
    have m:Hid ((isK (0,y,z)&&decide (z<=(n:Int)))=false):=by show _=false;simp[isK,C]
    go_enter func273,ntmps273;go_wp2_with fail;apply(aU _ _ _ _).mono;rintro e w'⟨rfl,c⟩;rw[c,B];clear c w';go_wp2_with fail;apply(aU _ _ _ _).mono;rintro e w'⟨rfl,c⟩;rw[c,C];clear c w';go_wp2
    go_ret2
    rw[ae m];exact⟨_,s,rfl,q.1,(fun h=>by cases h),q.2⟩
   .
    obtain⟨y1,y2⟩:=aI.1 B;obtain⟨z1,z2⟩:=aI.1 C;by_cases R:z<=(n:Int)
    .
     have m:Hid ((isK (0,y,z)&&decide (z<=(n:Int)))=true):=by show _=true;simp[isK,B,C,R]
     obtain⟨Y,rfl⟩:=Int.eq_ofNat_of_zero_le (show 0<=y by omega);obtain⟨Z,rfl⟩:=Int.eq_ofNat_of_zero_le (show 0<=z by omega);have X:decide (n<Z)=false:=decide_eq_false (by omega);go_enter func273,ntmps273;go_wp2_with fail;apply(aU _ _ _ _).mono;rintro e w'⟨rfl,c⟩;rw[c,B];clear c w';go_wp2_with fail;apply(aU _ _ _ _).mono;rintro e w'⟨rfl,c⟩;rw[c,C];clear c w';go_wp2_with fail
     go_loopw [0,6] (fun v i wr=>∃k:Nat,k<=Y/\i = .int .i64 k/\bC wr base v (rep s Z k)/\wr.heap[w.heap.size]?=some (Obj.cells #[.int .i64 0,.int .i64 (Y:Int),.int .i64 (Z:Int)] 309)/\eo base w wr) (fun _ i _=>Y-(intOf i).toNat)
     case atStart=>exact⟨0,Nat.zero_le _,rfl,q.1,alloc_at _ _,q.2⟩
     case round=>
      obtain⟨k,S,rfl,hq,f,d⟩:=hrel;obtain⟨c0,c1,c2,ab⟩:=wu f;have l:Hid ((rep s Z k).length=n+k):=by show _=_;rw[rL,N.1]
      obtain⟨va,vc,rfl⟩:=hq.formN l;have V:=af S;by_cases aa:k<Y
      .
       obtain⟨g,rfl⟩:=hq.somes (by rw[ae l];omega);obtain⟨p,hp⟩:∃p,n+k-Z=p:=⟨_,rfl⟩;have ad:((n:Int)+(k:Int))-(Z:Int)=(p:Int):=(by omega);obtain⟨d0,_,_⟩:=hq.at (j:=p) l (by omega);have I:Hid (rep s Z (k+1)=rep s Z k++[(rep s Z k).getD p 0]):=by
        show _=_;simp only[rep];rw[ae l,hp]
       have E:=Nat.le_trans hb d.size;have O:Hid (n+k+1<=maxLen/\(n+k+1)*1<=140737488355328):=by show _/\_;have:=N.2;unfold maxLen;omega
       have al:(p:Int)<(n:Int)+(k:Int):=(by omega);have W:=af (And.intro hq (And.intro f d));have A:=af (hq.own l);have Hp:=af hp;clear hq f d S hp;generalize (rep s Z k).getD p 0=b at *;go_wp2_with (at_builtin;refine wpList_append_own _ rfl _ _ 22 rfl base 5 i0 (.int .u8 0) 1 1 underlying22 hi K L M rfl (by decide) _ _ _ rfl (World.ownsRow.alloc A _) ⟨wr.heap.size,0,none⟩ 1 1 [.int .u8 (b.toNat:Int)] rfl rfl (cK _ _ rfl _ _) (one_byte _) O.1 O.2 (ar E _) ?_;intro v' x2 r o F;clear F);obtain⟨hq,f,d⟩:=ae W;have H:=jA (v:=.slice g (n+k) vc) o A (Nat.le_refl _) E d;have G:=f9 l r;rw[←ae I]at G;have u:=((bR.refl 309 wr).alloc (.cells #[.int .u8 (b.toNat:Int)] 5)).grown (World.ownsRow.alloc A _) (by decide) o _ _ _ f;clear r o hq f d;go_wp2;go_roundw
       case rel=>exact⟨k+1,by have:=ae V;omega,by go_num,G,u,H⟩
       case measure=>simp[intOf];omega
      .
       obtain rfl:k=Y:=by omega
       go_wp2
       go_ret2
       rw[ae m];exact⟨_,_,rfl,hq,(fun _=>by simp),d⟩
    .
     have m:Hid ((isK (0,y,z)&&decide (z<=(n:Int)))=false):=by show _=false;simp[R]
     go_enter func273,ntmps273;go_wp2_with fail;apply(aU _ _ _ _).mono;rintro e w'⟨rfl,c⟩;rw[c,B];clear c w';go_wp2_with fail;apply(aU _ _ _ _).mono;rintro e w'⟨rfl,c⟩;rw[c,C];clear c w';go_wp2
     go_ret2
     rw[ae m];exact⟨_,s,rfl,q.1,(fun h=>by cases h),q.2⟩
 .
  have ao:(x == 0)=false:=by simpa using J
  have m:Hid ((isK (x,y,z)&&decide (z<=(n:Int)))=false):=by show _=false;simp[isK,J]
  go_enter func273,ntmps273;go_wp2
  go_ret2
  rw[ae m];exact⟨_,s,rfl,q.1,(fun h=>by cases h),q.2⟩
def l4Add_any(base n cap:Nat)(a:Option Addr)(s:List UInt8)(t:Tk)(w:World)(i:s.length=n)(h:bC w base (.slice a n cap) s)(j:n<=100000)(hb:base<=w.heap.size) :
  Calls prog 273 #[.slice a n cap,.agg #[.int .i64 t.1,.int .i64 t.2.1,.int .i64 t.2.2]] w fun e w'=>∃v x,e = .returned (.tuple #[v,.bool (lC s t).isSome])/\bC w' base v x/\((lC s t).isSome=true->lC s t=some x)/\eo base w w':=by
 by_cases g:t.2.1=0
 .
  have k:isK t=false:=by
   have:inB t.2.1 3 60=false:=fs.2 (by omega);simp[isK,this]
  have e:lC s t=if isB t then some (s++[gt t.1])else none:=by unfold lC;rw[k];rfl
  apply(GZ base n cap a s t w i h j hb g).mono;rintro e1 w'⟨v,x,rfl,f,c,b⟩;cases d:isB t
  . rw[d]at e c;exact⟨v,x,by rw[e];rfl,f,(fun h=>by rw[e]at h;cases h),b⟩
  . rw[d]at e c;exact⟨v,x,by rw[e];rfl,f,(fun _=>by rw[e,c rfl];rfl),b⟩
 .
  have e:lC s t=if isK t&&decide (t.2.2<=(n:Int))then some (rep s t.2.2.toNat t.2.1.toNat)else none:=by unfold lC;rw[Oy g,i];rfl
  apply(GY base n cap a s t w i h j hb g).mono;rintro e1 w'⟨v,x,rfl,f,c,b⟩;cases d:isK t&&decide (t.2.2<=(n:Int))
  . rw[d]at e c;exact⟨v,x,by rw[e];rfl,f,(fun h=>by rw[e]at h;cases h),b⟩
  . rw[d]at e c;exact⟨v,x,by rw[e];rfl,f,(fun _=>by rw[e,c rfl];rfl),b⟩
end Go.Proofs.YtfannoajibacnaaGreatDoor.U
