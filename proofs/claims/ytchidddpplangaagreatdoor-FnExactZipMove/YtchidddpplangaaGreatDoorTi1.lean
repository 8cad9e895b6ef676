/- Contracts of the program's tokens: what a token is, what it lays, over this seat's program. -/
import Derived.Test.YtchidddpplangaaGreatDoorTt2
set_option linter.unusedSimpArgs false
set_option linter.unusedVariables false
set_option maxHeartbeats 1600000
namespace Go.Proofs.YtchidddpplangaaGreatDoor
open Go.Proofs.Tryz
open Go.RowKit
def fG(t:Tk):Value:=if isB t then .iface 257 (.int .u8 t.1)else if isK t then .iface 259 (.agg #[.int .i64 t.2.1,.int .i64 t.2.2])else Value.nilIface
theorem lB{t:Tk}(h:isB t=true):fG t = .iface 257 (.int .u8 t.1):=by unfold fG;rw[h];rfl
theorem oH{t:Tk}(h:isK t=true):fG t = .iface 259 (.agg #[.int .i64 t.2.1,.int .i64 t.2.2]):=by
 have a:isB t=false:=by
  cases hb:isB t
  . rfl
  . rw[EO hb]at h;cases h
 unfold fG;rw[a,h];rfl
theorem BS{x:Int}(a:0<=x)(b:x<=255):IntKind.u8.wrap x=x:=by simp[IntKind.wrap,IntKind.bits,IntKind.signed];omega
theorem Kg(t:Tk)(w:World) :
  Ds 253 #[.agg #[.int .i64 t.1,.int .i64 t.2.1,.int .i64 t.2.2]] w (.tuple #[fG t,.bool (okT t)]):=by
 cases a:isB t
 .
  cases b:isK t
  .
   have c:Hid (fG t=Value.nilIface/\okT t=false):=by
    refine⟨?_,?_⟩
    . unfold fG;rw[a,b];rfl
    . unfold okT;rw[a,b];rfl
   rw[(ab c).1,(ab c).2];obtain⟨x,y,z⟩:=t;simp only[isB,isK,inB,a2K,a2L]at a b;clear c;simp only;by_cases y0:y=0
   .
    subst y0;by_cases z0:z=0
    .
     subst z0;by_cases x0:0<=x
     .
      have x1:¬ x<=255:=by omega
      have xn:(x == 0)=false:=by simp;omega
      clear a b;go_enter a1A,a1B;go_wp2
      go_ret2
      exact⟨rfl,(a0c _ _).alloc (a0a _) _⟩
     .
      have xn:(x == 0)=false:=by simp;omega
      clear a b;go_enter a1A,a1B;go_wp2
      go_ret2
      exact⟨rfl,(a0c _ _).alloc (a0a _) _⟩
    .
     have zn:(z == 0)=false:=by simpa using z0
     by_cases x0:x=0
     .
      subst x0;clear a b;go_enter a1A,a1B;go_wp2
      go_ret2
      exact⟨rfl,(a0c _ _).alloc (a0a _) _⟩
     .
      have xn:(x == 0)=false:=by simpa using x0
      clear a b;go_enter a1A,a1B;go_wp2
      go_ret2
      exact⟨rfl,(a0c _ _).alloc (a0a _) _⟩
   .
    have yn:(y == 0)=false:=by simpa using y0
    by_cases x0:x=0
    .
     subst x0;by_cases y1:3<=y
     .
      by_cases y2:y<=60
      .
       by_cases z1:1<=z
       .
        have z2:¬ z<=250:=by omega
        clear a b;go_enter a1A,a1B;go_wp2
        go_ret2
        exact⟨rfl,(a0c _ _).alloc (a0a _) _⟩
       .
        clear a b;go_enter a1A,a1B;go_wp2
        go_ret2
        exact⟨rfl,(a0c _ _).alloc (a0a _) _⟩
      .
       clear a b;go_enter a1A,a1B;go_wp2
       go_ret2
       exact⟨rfl,(a0c _ _).alloc (a0a _) _⟩
     .
      clear a b;go_enter a1A,a1B;go_wp2
      go_ret2
      exact⟨rfl,(a0c _ _).alloc (a0a _) _⟩
    .
     have xn:(x == 0)=false:=by simpa using x0
     clear a b;go_enter a1A,a1B;go_wp2
     go_ret2
     exact⟨rfl,(a0c _ _).alloc (a0a _) _⟩
  .
   rw[oH b,show okT t=true by unfold okT;rw[b];simp];obtain⟨x,y,z⟩:=t;simp only[isK,a0n,a0w]at b;obtain⟨⟨x0,e⟩,f⟩:=b;obtain⟨y1,y2⟩:=aB.1 e;obtain⟨z1,z2⟩:=aB.1 f;simp only at x0 y1 y2 z1 z2 ⊢;subst x0;have yn:(y == 0)=false:=by simp;omega
   clear a e f;go_enter a1A,a1B;go_wp2
   go_ret2
   exact⟨rfl,(a0c _ _).alloc (a0a _) _⟩
 .
  rw[lB a,show okT t=true by unfold okT;rw[a];rfl];obtain⟨x,y,z⟩:=t;simp only[isB,a0n,a0w]at a;obtain⟨y0,d,z0⟩:=a;obtain⟨x1,x2⟩:=aB.1 d;simp only at y0 z0 x1 x2 ⊢;subst y0 z0;have g:=BS x1 x2;clear d;go_enter a1A,a1B;go_wp2
  go_ret2
  exact⟨rfl,(a0c _ _).alloc (a0a _) _⟩
theorem gj(x:Int)(w:World) :
  Calls prog 294 #[.int .u8 x] w fun e w'=>e = .returned (.int .i64 1)/\w'=w:=by
 go_enter func294,ntmps294;go_wp2;go_ret;exact⟨rfl,rfl⟩
theorem kW(y z:Int)(w:World) :
  Calls prog 295 #[.agg #[.int .i64 y,.int .i64 z]] w fun e w'=>e = .returned (.int .i64 y)/\w'=w.alloc (.cells #[.int .i64 y,.int .i64 z] 259):=by
 go_enter func295,ntmps295;go_wp2;go_ret;exact⟨rfl,rfl⟩
theorem um(v:Value)(w:World):(method 471 257 v "loop.example/corbel/impl.size").run prog w = .ok (294,v) w:=by kernel_rfl
theorem uk(v:Value)(w:World):(method 471 259 v "loop.example/corbel/impl.size").run prog w = .ok (295,v) w:=by kernel_rfl
theorem kU(v:Value)(w:World):(Instr.typeAssert (.iface 257 v) 254 257 true).run prog w = .ok (.tuple #[v,.bool true]) w:=by kernel_rfl
theorem mS(v:Value)(w:World):(Instr.typeAssert (.iface 259 v) 254 257 true).run prog w = .ok (.tuple #[.int .u8 0,.bool false]) w:=by kernel_rfl
theorem kT(v:Value)(w:World):(Instr.typeAssert (.iface 259 v) 254 259 true).run prog w = .ok (.tuple #[v,.bool true]) w:=by kernel_rfl
end Go.Proofs.YtchidddpplangaaGreatDoor
