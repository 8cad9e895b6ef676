/- Contracts of the model's texts that tokens make, over this seat's program. -/
import Derived.Test.YtkdlcomfpffhhaaGreatDoorM10
import Derived.Test.YtkdlcomfpffhhaaGreatDoorM8
import Derived.Test.YtkdlcomfpffhhaaGreatDoorM3
import Derived.Deep.RegionHeld3
import Derived.Deep.RegionLawGrows
import Derived.Test.YtkdlcomfpffhhaaGreatDoorM2
set_option maxRecDepth 100000
set_option linter.unusedSimpArgs false
set_option linter.unusedVariables false
set_option maxHeartbeats 3200000
namespace Go.Proofs.YtkdlcomfpffhhaaGreatDoor
open Go.RowKit
theorem bQ{W x1:World}{v u:Value}{k o:Nat}(b:W.grownBy x1 v.ownBlock)(c:∀g,v.ownBlock=some g->g<k)(a:W.cell? ⟨k,o,none⟩=some u):x1.cell? ⟨k,o,none⟩=some u:=
 b.cell a (fun e=>by have:=c k e.symm;omega)
theorem pi{w:World}{base size n:Nat}{e:TypeId}{v:Value}{xs:List Value}(h:w.ownsRow base e size v n xs):∀g,v.ownBlock=some g->g<w.heap.size:=fun g a=>(a0p h g a).2
theorem mJ(base n cap:Nat)(a:Option Addr)(s:List UInt8)(t:Tk)(w:World)(K:s.length=n)(h:aK w base (.slice a n cap) s)(S:n<=100000)(hb:base<=w.heap.size)(O:t.2.1=0) :
  Calls Tryz.prog 275 #[.slice a n cap,.agg #[.int .i64 t.1,.int .i64 t.2.1,.int .i64 t.2.2]] w fun e w'=>∃v x,e = .returned (.tuple #[v,.bool (isB t)])/\aK w' base v x/\(isB t=true->x=s++[cU t.1])/\Below base w w':=by
 obtain⟨i0,M,A,B,C⟩:=a0s Tryz.infoU8;obtain⟨x,y,z⟩:=t;simp only at O;subst O;simp only;have Q:∃X:Int,IntKind.u8.wrap x=X:=⟨_,rfl⟩;obtain⟨X,P⟩:=Q;have p:0<=X/\X<=255:=by rw[←P];simp[IntKind.wrap,IntKind.bits,IntKind.signed];omega
 have u:Hid (isB (x,0,z)=true->(cU X)=cU x):=by
  intro r;simp only[isB,a0n,a0E]at r;have:=aG.1 r.2.1;have e:X=x:=by rw[←P];simp[IntKind.wrap,IntKind.bits,IntKind.signed];omega
  rw[e]
 have k:Hid (isB (x,0,z)=(inB x 0 255&&decide (z=0))):=by show _=_;simp[isB]
 have L:=af K;have E:World.ownsRow ((w.alloc (.cells #[.int .i64 x,.int .i64 0,.int .i64 z] 343)).alloc (.cells #[.int .u8 X] 5)).drew base 5 1 (.slice a n cap) n (bW s):=a0k (a0k (h.own K) _) _;have o:=af (bo (w.alloc (.cells #[.int .i64 x,.int .i64 0,.int .i64 z] 343)) (w.heap.size+1) (by simp) (.int .u8 X) 5);have i:Below base w ((w.alloc (.cells #[.int .i64 x,.int .i64 0,.int .i64 z] 343)).alloc (.cells #[.int .u8 X] 5)).drew:=((((a0c base w).alloc hb _).alloc (by simp;omega) _)).drew;have f:∀g,(Value.slice a n cap).ownBlock=some g->g<w.heap.size:=pi (h.own K);have D:Hid (n+1<=maxLen/\(n+1)*1<=140737488355328):=by show _/\_;unfold maxLen;omega
 have F:(w.alloc (.cells #[.int .i64 x,.int .i64 0,.int .i64 z] 343)).drew.cell? ⟨w.heap.size,0,none⟩=some (.int .i64 x):=by show(w.alloc (.cells #[.int .i64 x,.int .i64 0,.int .i64 z] 343)).cell? ⟨w.heap.size,0,none⟩=some (.int .i64 x);simp
 have G:(w.alloc (.cells #[.int .i64 x,.int .i64 0,.int .i64 z] 343)).drew.cell? ⟨w.heap.size,2,none⟩=some (.int .i64 z):=by show(w.alloc (.cells #[.int .i64 x,.int .i64 0,.int .i64 z] 343)).cell? ⟨w.heap.size,2,none⟩=some (.int .i64 z);simp
 have e00:((w.alloc (.cells #[.int .i64 x,.int .i64 0,.int .i64 z] 343)).alloc (.cells #[.int .u8 X] 5)).drew.cell? ⟨w.heap.size,0,none⟩=some (.int .i64 x):=by show((w.alloc (.cells #[.int .i64 x,.int .i64 0,.int .i64 z] 343)).alloc (.cells #[.int .u8 X] 5)).cell? ⟨w.heap.size,0,none⟩=some (.int .i64 x);simp
 have e02:((w.alloc (.cells #[.int .i64 x,.int .i64 0,.int .i64 z] 343)).alloc (.cells #[.int .u8 X] 5)).drew.cell? ⟨w.heap.size,2,none⟩=some (.int .i64 z):=by show((w.alloc (.cells #[.int .i64 x,.int .i64 0,.int .i64 z] 343)).alloc (.cells #[.int .u8 X] 5)).cell? ⟨w.heap.size,2,none⟩=some (.int .i64 z);simp
 have q:=a0b F G;have d:=a0b e00 e02;clear h K S F G e00 e02;cases I:inB x 0 255
 .
  rw[I]at k;go_enter a1n,a1o;go_wp2_with fail;first|(go_region_law (first|(refine ak rfl (.tmp 10) (.tmp 14) 22 rfl base 5 i0 (.int .u8 0) 1 1 a0S M A B C rfl (a1V 0) (.slice a n cap) _ _ rfl E ⟨w.heap.size+1,0,none⟩ 1 1 [.int .u8 X] rfl rfl (ae o) (one_byte _) (ae D).1 (ae D).2 (a0G hb i.size) ?_;intro v' x5 c b l;clear l;have H:=bQ b f d.1;have R:=bQ b f d.2)|(go_simp;go_at_call 58;refine(aE _ _ _ _).mono ?_;rintro e y5 ⟨rfl,m⟩;rw[m,I];clear m)))|fail
  all_goals
   clear o q d;have j:Below base w x5:=i.grown b (a0G hb i.size) (fun g J=>(a0p E g J).1);have hq:aK x5 base v' (s++[cU X]):=bO (ae L) (by rw[dJ p.1 p.2];exact c);obtain⟨va,vc,rfl⟩:=hq.form;clear c b;go_wp2
   go_ret2
   exact⟨_,_,by rw[ae k];rfl,hq,fun r=>by rw[ae u r],j⟩
 .
  rw[I]at k;by_cases N:z=0
  .
   subst N;go_enter a1n,a1o;go_wp2_with fail;first|(go_region_held3 (fun W=>W.cell? ⟨w.heap.size,0,none⟩=some (.int .i64 x)/\W.cell? ⟨w.heap.size,2,none⟩=some (.int .i64 0)) (first|exact q|assumption|exact d) (first
    | (go_at_call 58;refine(aE _ _ _ _).mono ?_;rintro e y5 ⟨rfl,m⟩;rw[m,I];clear m)
    | (refine ak rfl (.tmp 10) (.tmp 14) 22 rfl base 5 i0 (.int .u8 0) 1 1 a0S M A B C rfl (a1V 0) (.slice a n cap) _ _ rfl E ⟨w.heap.size+1,0,none⟩ 1 1 [.int .u8 X] rfl rfl (ae o) (one_byte _) (ae D).1 (ae D).2 (a0G hb i.size) ?_;intro v' x5 c b l;clear l;have H:=a0b (bQ b f d.1) (bQ b f d.2))))|fail
   clear o q d;have j:Below base w x5:=i.grown b (a0G hb i.size) (fun g J=>(a0p E g J).1);have hq:aK x5 base v' (s++[cU X]):=bO (ae L) (by rw[dJ p.1 p.2];exact c);obtain⟨va,vc,rfl⟩:=hq.form;clear c b;go_wp2
   go_ret2
   exact⟨_,_,by rw[ae k];rfl,hq,fun r=>by rw[ae u r],j⟩
  .
   have T:(z == 0)=false:=by simpa using N
   go_enter a1n,a1o;go_wp2_with fail;first|(go_region_held3 (fun W=>W.cell? ⟨w.heap.size,0,none⟩=some (.int .i64 x)/\W.cell? ⟨w.heap.size,2,none⟩=some (.int .i64 z)) (first|exact q|assumption|exact d) (first
    | (go_at_call 58;refine(aE _ _ _ _).mono ?_;rintro e y5 ⟨rfl,m⟩;rw[m,I];clear m)
    | (refine ak rfl (.tmp 10) (.tmp 14) 22 rfl base 5 i0 (.int .u8 0) 1 1 a0S M A B C rfl (a1V 0) (.slice a n cap) _ _ rfl E ⟨w.heap.size+1,0,none⟩ 1 1 [.int .u8 X] rfl rfl (ae o) (one_byte _) (ae D).1 (ae D).2 (a0G hb i.size) ?_;intro v' x5 c b l;clear l;have H:=a0b (bQ b f d.1) (bQ b f d.2))))|fail
   clear o q d;have j:Below base w x5:=i.grown b (a0G hb i.size) (fun g J=>(a0p E g J).1);have hq:aK x5 base v' (s++[cU X]):=bO (ae L) (by rw[dJ p.1 p.2];exact c);obtain⟨va,vc,rfl⟩:=hq.form;clear c b;go_wp2
   go_ret2
   exact⟨_,_,by rw[ae k];simp[N],hq,fun r=>by rw[ae u r],j⟩
end Go.Proofs.YtkdlcomfpffhhaaGreatDoor
