/- Contracts of the program's tokens: what a token is, what it lays, over this seat's program. -/
import Derived.Test.YtckocaibjciplaaGreatDoorM11
set_option linter.all false
set_option maxHeartbeats 1600000
namespace Go.Proofs.YtckocaibjciplaaGreatDoor
open Go.Proofs.Tryz
open Go.RowKit
def gF(t:Tk):Value:=if isB t then .iface 237 (.int .u8 t.1)else if isK t then .iface 239 (.agg #[.int .i64 t.2.1,.int .i64 t.2.2])else Value.nilIface
def nY{t:Tk}(h:isB t=true):gF t = .iface 237 (.int .u8 t.1):=by unfold gF;rw[h];rfl
def sT{t:Tk}(h:isK t=true):gF t = .iface 239 (.agg #[.int .i64 t.2.1,.int .i64 t.2.2]):=by
 have a:isB t=false:=by
  cases hb:isB t
  . rfl
  . rw[CO hb]at h;cases h
 unfold gF;rw[a,h];rfl
def zg{x:Int}(a:0<=x)(b:x<=255):IntKind.u8.wrap x=x:=by simp[IntKind.wrap,IntKind.bits,IntKind.signed];omega
def NQ(t:Tk)(w:World) :
  Ds 275 #[.agg #[.int .i64 t.1,.int .i64 t.2.1,.int .i64 t.2.2]] w (.tuple #[gF t,.bool (okT t)]):=by
 cases a:isB t
 .
  cases b:isK t
  .
   have c:Hid (gF t=Value.nilIface/\okT t=false):=by
    refine⟨?_,?_⟩
    . unfold gF;rw[a,b];rfl
    . unfold okT;rw[a,b];rfl
   rw[c.1,c.2];obtain⟨x,y,z⟩:=t;simp only[isB,isK,inB,a2Q,a2R]at a b;clear c;simp only;by_cases y0:y=0
   .
    subst y0;by_cases z0:z=0
    .
     subst z0;by_cases x0:0<=x
     .
      have x1:¬ x<=255:=(by omega);have xn:(x == 0)=false:=by simp;omega
      clear a b;go_enter a1J,a1K;go_wp2
      go_ret2
      exact⟨rfl,cC⟩
     .
      have xn:(x == 0)=false:=by simp;omega
      clear a b;go_enter a1J,a1K;go_wp2
      go_ret2
      exact⟨rfl,cC⟩
    .
     have zn:(z == 0)=false:=by simpa using z0
     by_cases x0:x=0
     .
      subst x0;clear a b;go_enter a1J,a1K;go_wp2
      go_ret2
      exact⟨rfl,cC⟩
     .
      have xn:(x == 0)=false:=by simpa using x0
      clear a b;go_enter a1J,a1K;go_wp2
      go_ret2
      exact⟨rfl,cC⟩
   .
    have yn:(y == 0)=false:=by simpa using y0
    by_cases x0:x=0
    .
     subst x0;by_cases y1:3<=y
     .
      by_cases y2:y<=60
      .
       by_cases z1:1<=z
       .
        have z2:¬ z<=250:=(by omega);clear a b;go_enter a1J,a1K;go_wp2
        go_ret2
        exact⟨rfl,cC⟩
       .
        clear a b;go_enter a1J,a1K;go_wp2
        go_ret2
        exact⟨rfl,cC⟩
      .
       clear a b;go_enter a1J,a1K;go_wp2
       go_ret2
       exact⟨rfl,cC⟩
     .
      clear a b;go_enter a1J,a1K;go_wp2
      go_ret2
      exact⟨rfl,cC⟩
    .
     have xn:(x == 0)=false:=by simpa using x0
     clear a b;go_enter a1J,a1K;go_wp2
     go_ret2
     exact⟨rfl,cC⟩
  .
   rw[sT b,show okT t=true by unfold okT;rw[b];simp];obtain⟨x,y,z⟩:=t;simp only[isK,a0l,a0t]at b;obtain⟨⟨x0,e⟩,f⟩:=b;obtain⟨y1,y2⟩:=aI.1 e;obtain⟨z1,z2⟩:=aI.1 f;simp only at x0 y1 y2 z1 z2 ⊢;subst x0;have yn:(y == 0)=false:=by simp;omega
   clear a e f;go_enter a1J,a1K;go_wp2
   go_ret2
   exact⟨rfl,cC⟩
 .
  rw[nY a,show okT t=true by unfold okT;rw[a];rfl];obtain⟨x,y,z⟩:=t;simp only[isB,a0l,a0t]at a;obtain⟨y0,d,z0⟩:=a;obtain⟨x1,x2⟩:=aI.1 d;simp only at y0 z0 x1 x2 ⊢;subst y0 z0;have g:=zg x1 x2;clear d;go_enter a1J,a1K;go_wp2
  go_ret2
  exact⟨rfl,cC⟩
def lU(x:Int)(w:World) :
  Calls prog 316 #[.int .u8 x] w fun e w'=>e = .returned (.int .i64 1)/\w'=w:=by
 go_enter func316,ntmps316;go_wp2;go_ret;exact⟨rfl,rfl⟩
def qf(y z:Int)(w:World) :
  Calls prog 317 #[.agg #[y,z]] w fun e w'=>e = .returned (.int .i64 y)/\w'=w.alloc (.cells #[y,z] 239):=by
 go_enter func317,ntmps317;go_wp2;go_ret;exact⟨rfl,rfl⟩
def DK(v:Value)(w:World):(method 480 237 v "loop.example/corbel/impl.size").run prog w = .ok (316,v) w:=by kernel_rfl
def DJ(v:Value)(w:World):(method 480 239 v "loop.example/corbel/impl.size").run prog w = .ok (317,v) w:=by kernel_rfl
def pn(v:Value)(w:World):(Instr.typeAssert (.iface 237 v) 234 237 true).run prog w = .ok (.tuple #[v,.bool true]) w:=by kernel_rfl
def rC(v:Value)(w:World):(Instr.typeAssert (.iface 239 v) 234 237 true).run prog w = .ok (.tuple #[.int .u8 0,.bool false]) w:=by kernel_rfl
def pm(v:Value)(w:World):(Instr.typeAssert (.iface 239 v) 234 239 true).run prog w = .ok (.tuple #[v,.bool true]) w:=by kernel_rfl
