/- Contracts of the program's tokens: what a token is, what it lays, over this seat's program. -/
import Derived.Test.YtfannoajibacnaaGreatDoorM11
set_option linter.all false
set_option maxHeartbeats 1600000
namespace Go.Proofs.YtfannoajibacnaaGreatDoor
open Go.Proofs.Tryz
open Go.RowKit
def hH(t:Tk):Value:=if isB t then .iface 246 (.int .u8 t.1)else if isK t then .iface 248 (.agg #[.int .i64 t.2.1,.int .i64 t.2.2])else Value.nilIface
def oH{t:Tk}(h:isB t=true):hH t = .iface 246 (.int .u8 t.1):=by unfold hH;rw[h];rfl
def tM{t:Tk}(h:isK t=true):hH t = .iface 248 (.agg #[.int .i64 t.2.1,.int .i64 t.2.2]):=by
 have a:isB t=false:=by
  cases hb:isB t
  . rfl
  . rw[D2 hb]at h;cases h
 unfold hH;rw[a,h];rfl
def Ab{x:Int}(a:0<=x)(b:x<=255):IntKind.u8.wrap x=x:=by simp[IntKind.wrap,IntKind.bits,IntKind.signed];omega
def Pa(t:Tk)(w:World) :
  Ds 284 #[.agg #[.int .i64 t.1,.int .i64 t.2.1,.int .i64 t.2.2]] w (.tuple #[hH t,.bool (okT t)]):=by
 cases a:isB t
 .
  cases b:isK t
  .
   have c:Hid (hH t=Value.nilIface/\okT t=false):=by
    refine⟨?_,?_⟩
    . unfold hH;rw[a,b];rfl
    . unfold okT;rw[a,b];rfl
   rw[c.1,c.2];obtain⟨x,y,z⟩:=t;simp only[isB,isK,inB,a2U,a2V]at a b;clear c;simp only;by_cases y0:y=0
   .
    subst y0;by_cases z0:z=0
    .
     subst z0;by_cases x0:0<=x
     .
      have x1:¬ x<=255:=(by omega);have xn:(x == 0)=false:=by simp;omega
      clear a b;go_enter a1N,a1O;go_wp2
      go_ret2
      exact⟨rfl,cC⟩
     .
      have xn:(x == 0)=false:=by simp;omega
      clear a b;go_enter a1N,a1O;go_wp2
      go_ret2
      exact⟨rfl,cC⟩
    .
     have zn:(z == 0)=false:=by simpa using z0
     by_cases x0:x=0
     .
      subst x0;clear a b;go_enter a1N,a1O;go_wp2
      go_ret2
      exact⟨rfl,cC⟩
     .
      have xn:(x == 0)=false:=by simpa using x0
      clear a b;go_enter a1N,a1O;go_wp2
      go_ret2
      exact⟨rfl,cC⟩
   .
    have yn:(y == 0)=false:=by simpa using y0
    by_cases x0:x=0
    .
     subst x0;by_cases y1:3<=y
     .
      by_cases y2:y<=60
      .
       by_cases z1:1<=z
       .
        have z2:¬ z<=250:=(by omega);clear a b;go_enter a1N,a1O;go_wp2
        go_ret2
        exact⟨rfl,cC⟩
       .
        clear a b;go_enter a1N,a1O;go_wp2
        go_ret2
        exact⟨rfl,cC⟩
      .
       clear a b;go_enter a1N,a1O;go_wp2
       go_ret2
       exact⟨rfl,cC⟩
     .
      clear a b;go_enter a1N,a1O;go_wp2
      go_ret2
      exact⟨rfl,cC⟩
    .
     have xn:(x == 0)=false:=by simpa using x0
     clear a b;go_enter a1N,a1O;go_wp2
     go_ret2
     exact⟨rfl,cC⟩
  .
   rw[tM b,show okT t=true by unfold okT;rw[b];simp];obtain⟨x,y,z⟩:=t;simp only[isK,a0k,a0v]at b;obtain⟨⟨x0,e⟩,f⟩:=b;obtain⟨y1,y2⟩:=aI.1 e;obtain⟨z1,z2⟩:=aI.1 f;simp only at x0 y1 y2 z1 z2 ⊢;subst x0;have yn:(y == 0)=false:=by simp;omega
   clear a e f;go_enter a1N,a1O;go_wp2
   go_ret2
   exact⟨rfl,cC⟩
 .
  rw[oH a,show okT t=true by unfold okT;rw[a];rfl];obtain⟨x,y,z⟩:=t;simp only[isB,a0k,a0v]at a;obtain⟨y0,d,z0⟩:=a;obtain⟨x1,x2⟩:=aI.1 d;simp only at y0 z0 x1 x2 ⊢;subst y0 z0;have g:=Ab x1 x2;clear d;go_enter a1N,a1O;go_wp2
  go_ret2
  exact⟨rfl,cC⟩
def mB(x:Int)(w:World) :
  Calls prog 325 #[.int .u8 x] w fun e w'=>e = .returned (.int .i64 1)/\w'=w:=by
 go_enter func325,ntmps325;go_wp2;go_ret;exact⟨rfl,rfl⟩
def qO(y z:Int)(w:World) :
  Calls prog 326 #[.agg #[y,z]] w fun e w'=>e = .returned (.int .i64 y)/\w'=w.alloc (.cells #[y,z] 248):=by
 go_enter func326,ntmps326;go_wp2;go_ret;exact⟨rfl,rfl⟩
def Ey(v:Value)(w:World):(method 487 246 v "loop.example/corbel/impl.size").run prog w = .ok (325,v) w:=by kernel_rfl
def Ex(v:Value)(w:World):(method 487 248 v "loop.example/corbel/impl.size").run prog w = .ok (326,v) w:=by kernel_rfl
def pT(v:Value)(w:World):(Instr.typeAssert (.iface 246 v) 243 246 true).run prog w = .ok (.tuple #[v,.bool true]) w:=by kernel_rfl
def sr(v:Value)(w:World):(Instr.typeAssert (.iface 248 v) 243 246 true).run prog w = .ok (.tuple #[.int .u8 0,.bool false]) w:=by kernel_rfl
def pS(v:Value)(w:World):(Instr.typeAssert (.iface 248 v) 243 248 true).run prog w = .ok (.tuple #[v,.bool true]) w:=by kernel_rfl
