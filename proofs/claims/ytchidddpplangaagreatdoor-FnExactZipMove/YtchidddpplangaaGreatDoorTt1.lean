/- Contracts of the model's texts that tokens make, over this seat's program. -/
import Derived.Test.YtchidddpplangaaGreatDoorM11
import Derived.Test.YtchidddpplangaaGreatDoorM9
import Derived.Test.YtchidddpplangaaGreatDoorM3
import Derived.Deep.RegionHeld3
import Derived.Deep.RegionLawGrows
import Derived.Test.YtchidddpplangaaGreatDoorM2
set_option maxRecDepth 100000
set_option linter.unusedSimpArgs false
set_option linter.unusedVariables false
set_option maxHeartbeats 3200000
namespace Go.Proofs.YtchidddpplangaaGreatDoor
open Go.RowKit
theorem ct{W x1:World}{v u:Value}{k o:Nat}(b:W.grownBy x1 v.ownBlock)(c:∀g,v.ownBlock=some g->g<k)(a:W.cell? ⟨k,o,none⟩=some u):x1.cell? ⟨k,o,none⟩=some u:=
 b.cell a (fun e=>by have:=c k e.symm;omega)
theorem qH{w:World}{base size n:Nat}{e:TypeId}{v:Value}{xs:List Value}(h:w.ownsRow base e size v n xs):∀g,v.ownBlock=some g->g<w.heap.size:=fun g a=>(a0y h g a).2
theorem oe(base n cap:Nat)(a:Option Addr)(s:List UInt8)(t:Tk)(w:World)(K:s.length=n)(h:aQ w base (.slice a n cap) s)(S:n<=100000)(hb:base<=w.heap.size)(O:t.2.1=0) :
  Calls Tryz.prog 224 #[.slice a n cap,.agg #[.int .i64 t.1,.int .i64 t.2.1,.int .i64 t.2.2]] w fun e w'=>∃v x,e = .returned (.tuple #[v,.bool (isB t)])/\aQ w' base v x/\(isB t=true->x=s++[dz t.1])/\Below base w w':=by
 obtain⟨i0,M,A,B,C⟩:=a0o Tryz.infoU8;obtain⟨x,y,z⟩:=t;simp only at O;subst O;simp only;have Q:∃X:Int,IntKind.u8.wrap x=X:=⟨_,rfl⟩;obtain⟨X,P⟩:=Q;have p:0<=X/\X<=255:=by rw[←P];simp[IntKind.wrap,IntKind.bits,IntKind.signed];omega
 have u:Hid (isB (x,0,z)=true->(dz X)=dz x):=by
  intro r;simp only[isB,a0n,a0w]at r;have:=aB.1 r.2.1;have e:X=x:=by rw[←P];simp[IntKind.wrap,IntKind.bits,IntKind.signed];omega
  rw[e]
 have k:Hid (isB (x,0,z)=(inB x 0 255&&decide (z=0))):=by show _=_;simp[isB]
 have L:=ae K;have E:World.ownsRow ((w.alloc (.cells #[.int .i64 x,.int .i64 0,.int .i64 z] 229)).alloc (.cells #[.int .u8 X] 5)).drew base 5 1 (.slice a n cap) n (da s):=a0k (a0k (h.own K) _) _;have o:=ae (bE (w.alloc (.cells #[.int .i64 x,.int .i64 0,.int .i64 z] 229)) (w.heap.size+1) (by simp) (.int .u8 X) 5);have i:Below base w ((w.alloc (.cells #[.int .i64 x,.int .i64 0,.int .i64 z] 229)).alloc (.cells #[.int .u8 X] 5)).drew:=((((a0c base w).alloc hb _).alloc (by simp;omega) _)).drew;have f:∀g,(Value.slice a n cap).ownBlock=some g->g<w.heap.size:=qH (h.own K);have D:Hid (n+1<=maxLen/\(n+1)*1<=140737488355328):=by show _/\_;unfold maxLen;omega
 have F:(w.alloc (.cells #[.int .i64 x,.int .i64 0,.int .i64 z] 229)).drew.cell? ⟨w.heap.size,0,none⟩=some (.int .i64 x):=by show(w.alloc (.cells #[.int .i64 x,.int .i64 0,.int .i64 z] 229)).cell? ⟨w.heap.size,0,none⟩=some (.int .i64 x);simp
 have G:(w.alloc (.cells #[.int .i64 x,.int .i64 0,.int .i64 z] 229)).drew.cell? ⟨w.heap.size,2,none⟩=some (.int .i64 z):=by show(w.alloc (.cells #[.int .i64 x,.int .i64 0,.int .i64 z] 229)).cell? ⟨w.heap.size,2,none⟩=some (.int .i64 z);simp
 have e00:((w.alloc (.cells #[.int .i64 x,.int .i64 0,.int .i64 z] 229)).alloc (.cells #[.int .u8 X] 5)).drew.cell? ⟨w.heap.size,0,none⟩=some (.int .i64 x):=by show((w.alloc (.cells #[.int .i64 x,.int .i64 0,.int .i64 z] 229)).alloc (.cells #[.int .u8 X] 5)).cell? ⟨w.heap.size,0,none⟩=some (.int .i64 x);simp
 have e02:((w.alloc (.cells #[.int .i64 x,.int .i64 0,.int .i64 z] 229)).alloc (.cells #[.int .u8 X] 5)).drew.cell? ⟨w.heap.size,2,none⟩=some (.int .i64 z):=by show((w.alloc (.cells #[.int .i64 x,.int .i64 0,.int .i64 z] 229)).alloc (.cells #[.int .u8 X] 5)).cell? ⟨w.heap.size,2,none⟩=some (.int .i64 z);simp
 have q:=a0b F G;have d:=a0b e00 e02;clear h K S F G e00 e02;cases I:inB x 0 255
 .
  rw[I]at k;go_enter a1e,a1f;go_wp2_with fail;first|(go_region_law (first|(refine aL rfl (.tmp 10) (.tmp 14) 103 rfl base 5 i0 (.int .u8 0) 1 1 a0Q M A B C rfl (a1O 0) (.slice a n cap) _ _ rfl E ⟨w.heap.size+1,0,none⟩ 1 1 [.int .u8 X] rfl rfl (ab o) (one_byte _) (ab D).1 (ab D).2 (a0E hb i.size) ?_;intro v' x5 c b l;clear l;have H:=ct b f d.1;have R:=ct b f d.2)|(go_simp;go_at_call 24;refine(aG _ _ _ _).mono ?_;rintro e y5 ⟨rfl,m⟩;rw[m,I];clear m)))|fail
  all_goals
   clear o q d;have j:Below base w x5:=i.grown b (a0E hb i.size) (fun g J=>(a0y E g J).1);have hq:aQ x5 base v' (s++[dz X]):=cq (ab L) (by rw[ew p.1 p.2];exact c);obtain⟨va,vc,rfl⟩:=hq.form;clear c b;go_wp2
   go_ret2
   exact⟨_,_,by rw[ab k];rfl,hq,fun r=>by rw[ab u r],j⟩
 .
  rw[I]at k;by_cases N:z=0
  .
   subst N;go_enter a1e,a1f;go_wp2_with fail;first|(go_region_held3 (fun W=>W.cell? ⟨w.heap.size,0,none⟩=some (.int .i64 x)/\W.cell? ⟨w.heap.size,2,none⟩=some (.int .i64 0)) (first|exact q|assumption|exact d) (first
    | (go_at_call 24;refine(aG _ _ _ _).mono ?_;rintro e y5 ⟨rfl,m⟩;rw[m,I];clear m)
    | (refine aL rfl (.tmp 10) (.tmp 14) 103 rfl base 5 i0 (.int .u8 0) 1 1 a0Q M A B C rfl (a1O 0) (.slice a n cap) _ _ rfl E ⟨w.heap.size+1,0,none⟩ 1 1 [.int .u8 X] rfl rfl (ab o) (one_byte _) (ab D).1 (ab D).2 (a0E hb i.size) ?_;intro v' x5 c b l;clear l;have H:=a0b (ct b f d.1) (ct b f d.2))))|fail
   clear o q d;have j:Below base w x5:=i.grown b (a0E hb i.size) (fun g J=>(a0y E g J).1);have hq:aQ x5 base v' (s++[dz X]):=cq (ab L) (by rw[ew p.1 p.2];exact c);obtain⟨va,vc,rfl⟩:=hq.form;clear c b;go_wp2
   go_ret2
   exact⟨_,_,by rw[ab k];rfl,hq,fun r=>by rw[ab u r],j⟩
  .
   have T:(z == 0)=false:=by simpa using N
   go_enter a1e,a1f;go_wp2_with fail;first|(go_region_held3 (fun W=>W.cell? ⟨w.heap.size,0,none⟩=some (.int .i64 x)/\W.cell? ⟨w.heap.size,2,none⟩=some (.int .i64 z)) (first|exact q|assumption|exact d) (first
    | (go_at_call 24;refine(aG _ _ _ _).mono ?_;rintro e y5 ⟨rfl,m⟩;rw[m,I];clear m)
    | (refine aL rfl (.tmp 10) (.tmp 14) 103 rfl base 5 i0 (.int .u8 0) 1 1 a0Q M A B C rfl (a1O 0) (.slice a n cap) _ _ rfl E ⟨w.heap.size+1,0,none⟩ 1 1 [.int .u8 X] rfl rfl (ab o) (one_byte _) (ab D).1 (ab D).2 (a0E hb i.size) ?_;intro v' x5 c b l;clear l;have H:=a0b (ct b f d.1) (ct b f d.2))))|fail
   clear o q d;have j:Below base w x5:=i.grown b (a0E hb i.size) (fun g J=>(a0y E g J).1);have hq:aQ x5 base v' (s++[dz X]):=cq (ab L) (by rw[ew p.1 p.2];exact c);obtain⟨va,vc,rfl⟩:=hq.form;clear c b;go_wp2
   go_ret2
   exact⟨_,_,by rw[ab k];simp[N],hq,fun r=>by rw[ab u r],j⟩
end Go.Proofs.YtchidddpplangaaGreatDoor
