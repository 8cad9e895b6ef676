/- Contracts of the program's tokens: what a token is, what it lays, over this seat's program. -/
import Derived.Test.YtlpmnnjlmjffpaaGreatDoorTt2
set_option linter.unusedSimpArgs false
set_option linter.unusedVariables false
set_option maxHeartbeats 1600000
namespace Go.Proofs.YtlpmnnjlmjffpaaGreatDoor
open Go.Proofs.Tryz
open Go.RowKit
def lV(t:Tk):Value:=if isB t then .iface 266 (.int .u8 t.1)else if isK t then .iface 268 (.agg #[.int .i64 t.2.1,.int .i64 t.2.2])else Value.nilIface
theorem tV{t:Tk}(h:isB t=true):lV t = .iface 266 (.int .u8 t.1):=by unfold lV;rw[h];rfl
theorem Dq{t:Tk}(h:isK t=true):lV t = .iface 268 (.agg #[.int .i64 t.2.1,.int .i64 t.2.2]):=by
 have a:isB t=false:=by
  cases hb:isB t
  . rfl
  . rw[uZ hb]at h;cases h
 unfold lV;rw[a,h];rfl
theorem vT{x:Int}(a:0<=x)(b:x<=255):IntKind.u8.wrap x=x:=by simp[IntKind.wrap,IntKind.bits,IntKind.signed];omega
theorem JP(t:Tk)(w:World) :
  CD 296 #[.agg #[.int .i64 t.1,.int .i64 t.2.1,.int .i64 t.2.2]] w (.tuple #[lV t,.bool (okT t)]):=by
 cases a:isB t
 .
  cases b:isK t
  .
   have c:Hid (lV t=Value.nilIface/\okT t=false):=by
    refine⟨?_,?_⟩
    . unfold lV;rw[a,b];rfl
    . unfold okT;rw[a,b];rfl
   rw[(ae c).1,(ae c).2];obtain⟨x,y,z⟩:=t;simp only[isB,isK,inB,Bool.and_eq_false_iff,decide_eq_false_iff_not]at a b;clear c;simp only;by_cases y0:y=0
   .
    subst y0;by_cases z0:z=0
    .
     subst z0;by_cases x0:0<=x
     .
      have x1:¬ x<=255:=by omega
      have xn:(x == 0)=false:=by simp;omega
      clear a b;go_enter a1J,a1K;go_wp2
      go_ret2
      exact⟨rfl,(a0c _ _).alloc (a0a _) _⟩
     .
      have xn:(x == 0)=false:=by simp;omega
      clear a b;go_enter a1J,a1K;go_wp2
      go_ret2
      exact⟨rfl,(a0c _ _).alloc (a0a _) _⟩
    .
     have zn:(z == 0)=false:=by simpa using z0
     by_cases x0:x=0
     .
      subst x0;clear a b;go_enter a1J,a1K;go_wp2
      go_ret2
      exact⟨rfl,(a0c _ _).alloc (a0a _) _⟩
     .
      have xn:(x == 0)=false:=by simpa using x0
      clear a b;go_enter a1J,a1K;go_wp2
      go_ret2
      exact⟨rfl,(a0c _ _).alloc (a0a _) _⟩
   .
    have yn:(y == 0)=false:=by simpa using y0
    by_cases x0:x=0
    .
     subst x0;by_cases y1:3<=y
     .
      by_cases y2:y<=60
      .
       by_cases z1:1<=z
       .
        have z2:¬ z<=250:=by omega
        clear a b;go_enter a1J,a1K;go_wp2
        go_ret2
        exact⟨rfl,(a0c _ _).alloc (a0a _) _⟩
       .
        clear a b;go_enter a1J,a1K;go_wp2
        go_ret2
        exact⟨rfl,(a0c _ _).alloc (a0a _) _⟩
      .
       clear a b;go_enter a1J,a1K;go_wp2
       go_ret2
       exact⟨rfl,(a0c _ _).alloc (a0a _) _⟩
     .
      clear a b;go_enter a1J,a1K;go_wp2
      go_ret2
      exact⟨rfl,(a0c _ _).alloc (a0a _) _⟩
    .
     have xn:(x == 0)=false:=by simpa using x0
     clear a b;go_enter a1J,a1K;go_wp2
     go_ret2
     exact⟨rfl,(a0c _ _).alloc (a0a _) _⟩
  .
   rw[Dq b,show okT t=true by unfold okT;rw[b];simp];obtain⟨x,y,z⟩:=t;simp only[isK,a0h,a0o]at b;obtain⟨⟨x0,e⟩,f⟩:=b;obtain⟨y1,y2⟩:=aI.1 e;obtain⟨z1,z2⟩:=aI.1 f;simp only at x0 y1 y2 z1 z2 ⊢;subst x0;have yn:(y == 0)=false:=by simp;omega
   clear a e f;go_enter a1J,a1K;go_wp2
   go_ret2
   exact⟨rfl,(a0c _ _).alloc (a0a _) _⟩
 .
  rw[tV a,show okT t=true by unfold okT;rw[a];rfl];obtain⟨x,y,z⟩:=t;simp only[isB,a0h,a0o]at a;obtain⟨y0,d,z0⟩:=a;obtain⟨x1,x2⟩:=aI.1 d;simp only at y0 z0 x1 x2 ⊢;subst y0 z0;have g:=vT x1 x2;clear d;go_enter a1J,a1K;go_wp2
  go_ret2
  exact⟨rfl,(a0c _ _).alloc (a0a _) _⟩
theorem ir(x:Int)(w:World) :
  Calls prog 338 #[.int .u8 x] w fun e w'=>e = .returned (.int .i64 1)/\w'=w:=by
 go_enter func338,ntmps338;go_wp2;go_ret;exact⟨rfl,rfl⟩
theorem oj(y z:Int)(w:World) :
  Calls prog 339 #[.agg #[.int .i64 y,.int .i64 z]] w fun e w'=>e = .returned (.int .i64 y)/\w'=w.alloc (.cells #[.int .i64 y,.int .i64 z] 268):=by
 go_enter func339,ntmps339;go_wp2;go_ret;exact⟨rfl,rfl⟩
theorem zq(v:Value)(w:World):(method 499 266 v "loop.example/corbel/impl.size").run prog w = .ok (338,v) w:=by kernel_rfl
theorem zo(v:Value)(w:World):(method 499 268 v "loop.example/corbel/impl.size").run prog w = .ok (339,v) w:=by kernel_rfl
theorem rO(v:Value)(w:World):(Instr.typeAssert (.iface 266 v) 263 266 true).run prog w = .ok (.tuple #[v,.bool true]) w:=by kernel_rfl
theorem uC(v:Value)(w:World):(Instr.typeAssert (.iface 268 v) 263 266 true).run prog w = .ok (.tuple #[.int .u8 0,.bool false]) w:=by kernel_rfl
theorem rN(v:Value)(w:World):(Instr.typeAssert (.iface 268 v) 263 268 true).run prog w = .ok (.tuple #[v,.bool true]) w:=by kernel_rfl
end Go.Proofs.YtlpmnnjlmjffpaaGreatDoor
