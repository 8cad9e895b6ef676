/- Contracts of the program's tokens: what a token is, what it lays, over this seat's program. -/
import Derived.Deep.RegionHeld3
import Derived.Deep.RegionLawGrows
import Derived.Test.YtfhdadkcophoaaaGreatDoorM11
import Derived.Test.YtfhdadkcophoaaaGreatDoorM9
import Derived.Test.YtfhdadkcophoaaaGreatDoorM3
import Derived.Test.YtfhdadkcophoaaaGreatDoorM2
set_option linter.unusedSimpArgs false
set_option linter.unusedVariables false
set_option maxHeartbeats 1600000
namespace Go.Proofs.YtfhdadkcophoaaaGreatDoor
open Go.RowKit
def dW(t:Tk):Value:=if isB t then .iface 213 (.int .u8 t.1)else if isK t then .iface 215 (.agg #[.int .i64 t.2.1,.int .i64 t.2.2])else Value.nilIface
theorem jF{t:Tk}(h:isB t=true):dW t = .iface 213 (.int .u8 t.1):=by unfold dW;rw[h];rfl
theorem my{t:Tk}(h:isK t=true):dW t = .iface 215 (.agg #[.int .i64 t.2.1,.int .i64 t.2.2]):=by
 have hB:isB t=false:=by
  cases hb:isB t
  · rfl
  · rw[sY hb]at h;cases h
 unfold dW;rw[hB,h];rfl
theorem IU{x:Int}(h0:0<=x)(h1:x<=255):IntKind.u8.wrap x=x:=by simp[IntKind.wrap,IntKind.bits,IntKind.signed];omega
theorem GC(t:Tk)(w:World) :
  Calls Tryz.prog 214 #[.agg #[.int .i64 t.1,.int .i64 t.2.1,.int .i64 t.2.2]] w fun e w'=>e = .returned (.tuple #[dW t,.bool (okT t)])/\Below w.heap.size w w':=by
 cases hB:isB t
 ·
  cases hK:isK t
  ·
   have hV:Hid (dW t=Value.nilIface/\okT t=false):=by
    refine⟨?_,?_⟩
    · unfold dW;rw[hB,hK];rfl
    · unfold okT;rw[hB,hK];rfl
   rw[(ae hV).1,(ae hV).2];obtain⟨x,y,z⟩:=t;simp only[isB,isK,inB,a2y,a2z]at hB hK;clear hV;simp only;by_cases y0:y=0
   ·
    subst y0;by_cases z0:z=0
    ·
     subst z0;by_cases x0:0<=x
     ·
      have x1:¬ x<=255:=by omega
      have xn:(x == 0)=false:=by simp;omega
      clear hB hK;go_enter a1p,a1q;go_wp2
      go_ret2
      exact⟨rfl,(a0b _ _).alloc (a0a _) _⟩
     ·
      have xn:(x == 0)=false:=by simp;omega
      clear hB hK;go_enter a1p,a1q;go_wp2
      go_ret2
      exact⟨rfl,(a0b _ _).alloc (a0a _) _⟩
    ·
     have zn:(z == 0)=false:=by simpa using z0
     by_cases x0:x=0
     ·
      subst x0;clear hB hK;go_enter a1p,a1q;go_wp2
      go_ret2
      exact⟨rfl,(a0b _ _).alloc (a0a _) _⟩
     ·
      have xn:(x == 0)=false:=by simpa using x0
      clear hB hK;go_enter a1p,a1q;go_wp2
      go_ret2
      exact⟨rfl,(a0b _ _).alloc (a0a _) _⟩
   ·
    have yn:(y == 0)=false:=by simpa using y0
    by_cases x0:x=0
    ·
     subst x0;by_cases y1:3<=y
     ·
      by_cases y2:y<=60
      ·
       by_cases z1:1<=z
       ·
        have z2:¬ z<=250:=by omega
        clear hB hK;go_enter a1p,a1q;go_wp2
        go_ret2
        exact⟨rfl,(a0b _ _).alloc (a0a _) _⟩
       ·
        clear hB hK;go_enter a1p,a1q;go_wp2
        go_ret2
        exact⟨rfl,(a0b _ _).alloc (a0a _) _⟩
      ·
       clear hB hK;go_enter a1p,a1q;go_wp2
       go_ret2
       exact⟨rfl,(a0b _ _).alloc (a0a _) _⟩
     ·
      clear hB hK;go_enter a1p,a1q;go_wp2
      go_ret2
      exact⟨rfl,(a0b _ _).alloc (a0a _) _⟩
    ·
     have xn:(x == 0)=false:=by simpa using x0
     clear hB hK;go_enter a1p,a1q;go_wp2
     go_ret2
     exact⟨rfl,(a0b _ _).alloc (a0a _) _⟩
  ·
   rw[my hK,show okT t=true by unfold okT;rw[hK];simp];obtain⟨x,y,z⟩:=t;simp only[isK,a0j,a0o]at hK;obtain⟨⟨x0,hy⟩,hz⟩:=hK;obtain⟨y1,y2⟩:=aB.1 hy;obtain⟨z1,z2⟩:=aB.1 hz;simp only at x0 y1 y2 z1 z2 ⊢;subst x0;have yn:(y == 0)=false:=by simp;omega
   clear hB hy hz;go_enter a1p,a1q;go_wp2
   go_ret2
   exact⟨rfl,(a0b _ _).alloc (a0a _) _⟩
 ·
  rw[jF hB,show okT t=true by unfold okT;rw[hB];rfl];obtain⟨x,y,z⟩:=t;simp only[isB,a0j,a0o]at hB;obtain⟨y0,hx,z0⟩:=hB;obtain⟨x1,x2⟩:=aB.1 hx;simp only at y0 z0 x1 x2 ⊢;subst y0 z0;have hw:=IU x1 x2;clear hx;go_enter a1p,a1q;go_wp2
  go_ret2
  exact⟨rfl,(a0b _ _).alloc (a0a _) _⟩
theorem eQ(x:Int)(w:World) :
  Calls Tryz.prog 255 #[.int .u8 x] w fun e w'=>e = .returned (.int .i64 1)/\w'=w:=by
 go_enter Tryz.func255,Tryz.ntmps255;go_wp2;go_ret;exact⟨rfl,rfl⟩
theorem jl(y z:Int)(w:World) :
  Calls Tryz.prog 256 #[.agg #[.int .i64 y,.int .i64 z]] w fun e w'=>e = .returned (.int .i64 y)/\w'=w.alloc (.cells #[.int .i64 y,.int .i64 z] 215):=by
 go_enter Tryz.func256,Tryz.ntmps256;go_wp2;go_ret;exact⟨rfl,rfl⟩
theorem rh(v:Value)(w:World):(method 438 213 v "loop.example/corbel/impl.size").run Tryz.prog w = .ok (255,v) w:=by kernel_rfl
theorem re(v:Value)(w:World):(method 438 215 v "loop.example/corbel/impl.size").run Tryz.prog w = .ok (256,v) w:=by kernel_rfl
theorem jk(v:Value)(w:World):(Instr.typeAssert (.iface 213 v) 210 213 true).run Tryz.prog w = .ok (.tuple #[v,.bool true]) w:=by kernel_rfl
theorem kY(v:Value)(w:World):(Instr.typeAssert (.iface 215 v) 210 213 true).run Tryz.prog w = .ok (.tuple #[.int .u8 0,.bool false]) w:=by kernel_rfl
theorem jj(v:Value)(w:World):(Instr.typeAssert (.iface 215 v) 210 215 true).run Tryz.prog w = .ok (.tuple #[v,.bool true]) w:=by kernel_rfl
end Go.Proofs.YtfhdadkcophoaaaGreatDoor
