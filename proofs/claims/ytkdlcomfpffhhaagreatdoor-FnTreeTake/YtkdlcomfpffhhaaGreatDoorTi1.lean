/- Contracts of the program's tokens: what a token is, what it lays, over this seat's program. -/
import Derived.Test.YtkdlcomfpffhhaaGreatDoorTt2
set_option linter.unusedSimpArgs false
set_option linter.unusedVariables false
set_option maxHeartbeats 1600000
namespace Go.Proofs.YtkdlcomfpffhhaaGreatDoor
open Go.Proofs.Tryz
open Go.RowKit
def lm(t:Tk):Value:=if isB t then .iface 247 (.int .u8 t.1)else if isK t then .iface 249 (.agg #[.int .i64 t.2.1,.int .i64 t.2.2])else Value.nilIface
theorem tg{t:Tk}(h:isB t=true):lm t = .iface 247 (.int .u8 t.1):=by unfold lm;rw[h];rfl
theorem Cc{t:Tk}(h:isK t=true):lm t = .iface 249 (.agg #[.int .i64 t.2.1,.int .i64 t.2.2]):=by
 have a:isB t=false:=by
  cases hb:isB t
  . rfl
  . rw[Db hb]at h;cases h
 unfold lm;rw[a,h];rfl
theorem vm{x:Int}(a:0<=x)(b:x<=255):IntKind.u8.wrap x=x:=by simp[IntKind.wrap,IntKind.bits,IntKind.signed];omega
theorem IR(t:Tk)(w:World) :
  CD 289 #[.agg #[.int .i64 t.1,.int .i64 t.2.1,.int .i64 t.2.2]] w (.tuple #[lm t,.bool (okT t)]):=by
 cases a:isB t
 .
  cases b:isK t
  .
   have c:Hid (lm t=Value.nilIface/\okT t=false):=by
    refine⟨?_,?_⟩
    . unfold lm;rw[a,b];rfl
    . unfold okT;rw[a,b];rfl
   rw[(ae c).1,(ae c).2];obtain⟨x,y,z⟩:=t;simp only[isB,isK,inB,Bool.and_eq_false_iff,decide_eq_false_iff_not]at a b;clear c;simp only;by_cases y0:y=0
   .
    subst y0;by_cases z0:z=0
    .
     subst z0;by_cases x0:0<=x
     .
      have x1:¬ x<=255:=by omega
      have xn:(x == 0)=false:=by simp;omega
      clear a b;go_enter a1K,a1L;go_wp2
      go_ret2
      exact⟨rfl,(a0c _ _).alloc (a0a _) _⟩
     .
      have xn:(x == 0)=false:=by simp;omega
      clear a b;go_enter a1K,a1L;go_wp2
      go_ret2
      exact⟨rfl,(a0c _ _).alloc (a0a _) _⟩
    .
     have zn:(z == 0)=false:=by simpa using z0
     by_cases x0:x=0
     .
      subst x0;clear a b;go_enter a1K,a1L;go_wp2
      go_ret2
      exact⟨rfl,(a0c _ _).alloc (a0a _) _⟩
     .
      have xn:(x == 0)=false:=by simpa using x0
      clear a b;go_enter a1K,a1L;go_wp2
      go_ret2
      exact⟨rfl,(a0c _ _).alloc (a0a _) _⟩
   .
    have yn:(y == 0)=false:=by simpa using y0
    by_cases x0:x=0
    .
     subst x0;by_cases y1:3<=y
     .
      by_cases y2:y<=60
      .
       by_cases z1:1<=z
       .
        have z2:¬ z<=250:=by omega
        clear a b;go_enter a1K,a1L;go_wp2
        go_ret2
        exact⟨rfl,(a0c _ _).alloc (a0a _) _⟩
       .
        clear a b;go_enter a1K,a1L;go_wp2
        go_ret2
        exact⟨rfl,(a0c _ _).alloc (a0a _) _⟩
      .
       clear a b;go_enter a1K,a1L;go_wp2
       go_ret2
       exact⟨rfl,(a0c _ _).alloc (a0a _) _⟩
     .
      clear a b;go_enter a1K,a1L;go_wp2
      go_ret2
      exact⟨rfl,(a0c _ _).alloc (a0a _) _⟩
    .
     have xn:(x == 0)=false:=by simpa using x0
     clear a b;go_enter a1K,a1L;go_wp2
     go_ret2
     exact⟨rfl,(a0c _ _).alloc (a0a _) _⟩
  .
   rw[Cc b,show okT t=true by unfold okT;rw[b];simp];obtain⟨x,y,z⟩:=t;simp only[isK,a0n,a0E]at b;obtain⟨⟨x0,e⟩,f⟩:=b;obtain⟨y1,y2⟩:=aG.1 e;obtain⟨z1,z2⟩:=aG.1 f;simp only at x0 y1 y2 z1 z2 ⊢;subst x0;have yn:(y == 0)=false:=by simp;omega
   clear a e f;go_enter a1K,a1L;go_wp2
   go_ret2
   exact⟨rfl,(a0c _ _).alloc (a0a _) _⟩
 .
  rw[tg a,show okT t=true by unfold okT;rw[a];rfl];obtain⟨x,y,z⟩:=t;simp only[isB,a0n,a0E]at a;obtain⟨y0,d,z0⟩:=a;obtain⟨x1,x2⟩:=aG.1 d;simp only at y0 z0 x1 x2 ⊢;subst y0 z0;have g:=vm x1 x2;clear d;go_enter a1K,a1L;go_wp2
  go_ret2
  exact⟨rfl,(a0c _ _).alloc (a0a _) _⟩
theorem gT(x:Int)(w:World) :
  Calls prog 330 #[.int .u8 x] w fun e w'=>e = .returned (.int .i64 1)/\w'=w:=by
 go_enter func330,ntmps330;go_wp2;go_ret;exact⟨rfl,rfl⟩
theorem nt(y z:Int)(w:World) :
  Calls prog 331 #[.agg #[.int .i64 y,.int .i64 z]] w fun e w'=>e = .returned (.int .i64 y)/\w'=w.alloc (.cells #[.int .i64 y,.int .i64 z] 249):=by
 go_enter func331,ntmps331;go_wp2;go_ret;exact⟨rfl,rfl⟩
theorem yB(v:Value)(w:World):(method 500 247 v "loop.example/corbel/impl.size").run prog w = .ok (330,v) w:=by kernel_rfl
theorem yA(v:Value)(w:World):(method 500 249 v "loop.example/corbel/impl.size").run prog w = .ok (331,v) w:=by kernel_rfl
theorem q9(v:Value)(w:World):(Instr.typeAssert (.iface 247 v) 244 247 true).run prog w = .ok (.tuple #[v,.bool true]) w:=by kernel_rfl
theorem tW(v:Value)(w:World):(Instr.typeAssert (.iface 249 v) 244 247 true).run prog w = .ok (.tuple #[.int .u8 0,.bool false]) w:=by kernel_rfl
theorem q7(v:Value)(w:World):(Instr.typeAssert (.iface 249 v) 244 249 true).run prog w = .ok (.tuple #[v,.bool true]) w:=by kernel_rfl
end Go.Proofs.YtkdlcomfpffhhaaGreatDoor
