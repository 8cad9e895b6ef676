/- Contracts of the program's tokens: what a token is, what it lays, over this seat's program. -/
import Derived.Test.YtemopnjckikkaaaGreatDoorM11
set_option linter.all false
set_option maxHeartbeats 1600000
namespace Go.Proofs.YtemopnjckikkaaaGreatDoor
open Go.Proofs.Tryz
open Go.RowKit
def gi(t:Tk):Value:=if isB t then .iface 225 (.int .u8 t.1)else if isK t then .iface 227 (.agg #[.int .i64 t.2.1,.int .i64 t.2.2])else Value.nilIface
def ni{t:Tk}(h:isB t=true):gi t = .iface 225 (.int .u8 t.1):=by unfold gi;rw[h];rfl
def rG{t:Tk}(h:isK t=true):gi t = .iface 227 (.agg #[.int .i64 t.2.1,.int .i64 t.2.2]):=by
 have a:isB t=false:=by
  cases hb:isB t
  . rfl
  . rw[AR hb]at h;cases h
 unfold gi;rw[a,h];rfl
def xS{x:Int}(a:0<=x)(b:x<=255):IntKind.u8.wrap x=x:=by simp[IntKind.wrap,IntKind.bits,IntKind.signed];omega
def Ma(t:Tk)(w:World) :
  CD 248 #[.agg #[.int .i64 t.1,.int .i64 t.2.1,.int .i64 t.2.2]] w (.tuple #[gi t,.bool (okT t)]):=by
 cases a:isB t
 .
  cases b:isK t
  .
   have c:Hid (gi t=Value.nilIface/\okT t=false):=by
    refine⟨?_,?_⟩
    . unfold gi;rw[a,b];rfl
    . unfold okT;rw[a,b];rfl
   rw[c.1,c.2];obtain⟨x,y,z⟩:=t;simp only[isB,isK,inB,a2v,a2w]at a b;clear c;simp only;by_cases y0:y=0
   .
    subst y0;by_cases z0:z=0
    .
     subst z0;by_cases x0:0<=x
     .
      have x1:¬ x<=255:=by omega
      have xn:(x == 0)=false:=by simp;omega
      clear a b;go_enter func248,ntmps248;go_wp2
      go_ret2
      exact⟨rfl,bx⟩
     .
      have xn:(x == 0)=false:=by simp;omega
      clear a b;go_enter func248,ntmps248;go_wp2
      go_ret2
      exact⟨rfl,bx⟩
    .
     have zn:(z == 0)=false:=by simpa using z0
     by_cases x0:x=0
     .
      subst x0;clear a b;go_enter func248,ntmps248;go_wp2
      go_ret2
      exact⟨rfl,bx⟩
     .
      have xn:(x == 0)=false:=by simpa using x0
      clear a b;go_enter func248,ntmps248;go_wp2
      go_ret2
      exact⟨rfl,bx⟩
   .
    have yn:(y == 0)=false:=by simpa using y0
    by_cases x0:x=0
    .
     subst x0;by_cases y1:3<=y
     .
      by_cases y2:y<=60
      .
       by_cases z1:1<=z
       .
        have z2:¬ z<=250:=by omega
        clear a b;go_enter func248,ntmps248;go_wp2
        go_ret2
        exact⟨rfl,bx⟩
       .
        clear a b;go_enter func248,ntmps248;go_wp2
        go_ret2
        exact⟨rfl,bx⟩
      .
       clear a b;go_enter func248,ntmps248;go_wp2
       go_ret2
       exact⟨rfl,bx⟩
     .
      clear a b;go_enter func248,ntmps248;go_wp2
      go_ret2
      exact⟨rfl,bx⟩
    .
     have xn:(x == 0)=false:=by simpa using x0
     clear a b;go_enter func248,ntmps248;go_wp2
     go_ret2
     exact⟨rfl,bx⟩
  .
   rw[rG b,show okT t=true by unfold okT;rw[b];simp];obtain⟨x,y,z⟩:=t;simp only[isK,a0k,a0s]at b;obtain⟨⟨x0,e⟩,f⟩:=b;obtain⟨y1,y2⟩:=aH.1 e;obtain⟨z1,z2⟩:=aH.1 f;simp only at x0 y1 y2 z1 z2 ⊢;subst x0;have yn:(y == 0)=false:=by simp;omega
   clear a e f;go_enter func248,ntmps248;go_wp2
   go_ret2
   exact⟨rfl,bx⟩
 .
  rw[ni a,show okT t=true by unfold okT;rw[a];rfl];obtain⟨x,y,z⟩:=t;simp only[isB,a0k,a0s]at a;obtain⟨y0,d,z0⟩:=a;obtain⟨x1,x2⟩:=aH.1 d;simp only at y0 z0 x1 x2 ⊢;subst y0 z0;have g:=xS x1 x2;clear d;go_enter func248,ntmps248;go_wp2
  go_ret2
  exact⟨rfl,bx⟩
def lz(x:Int)(w:World) :
  Calls prog 290 #[.int .u8 x] w fun e w'=>e = .returned (.int .i64 1)/\w'=w:=by
 go_enter func290,ntmps290;go_wp2;go_ret;exact⟨rfl,rfl⟩
def pn(y z:Int)(w:World) :
  Calls prog 291 #[.agg #[y,z]] w fun e w'=>e = .returned (.int .i64 y)/\w'=w.alloc (.cells #[y,z] 227):=by
 go_enter func291,ntmps291;go_wp2;go_ret;exact⟨rfl,rfl⟩
def BH(v:Value)(w:World):(method 463 225 v "loop.example/corbel/impl.size").run prog w = .ok (290,v) w:=by kernel_rfl
def BG(v:Value)(w:World):(method 463 227 v "loop.example/corbel/impl.size").run prog w = .ok (291,v) w:=by kernel_rfl
def oA(v:Value)(w:World):(Instr.typeAssert (.iface 225 v) 222 225 true).run prog w = .ok (.tuple #[v,.bool true]) w:=by kernel_rfl
def qw(v:Value)(w:World):(Instr.typeAssert (.iface 227 v) 222 225 true).run prog w = .ok (.tuple #[.int .u8 0,.bool false]) w:=by kernel_rfl
def oz(v:Value)(w:World):(Instr.typeAssert (.iface 227 v) 222 227 true).run prog w = .ok (.tuple #[v,.bool true]) w:=by kernel_rfl
