/- Contracts of the program's tokens: what a token is, what it lays, over this seat's program. -/
import Derived.Deep.RegionHeld3
import Derived.Deep.RegionLawGrows
import Derived.Test.YtkdlcomfpffhhaaGreatDoorM10
import Derived.Test.YtkdlcomfpffhhaaGreatDoorM8
import Derived.Test.YtkdlcomfpffhhaaGreatDoorM3
import Derived.Test.YtkdlcomfpffhhaaGreatDoorM2
set_option linter.unusedSimpArgs false
set_option linter.unusedVariables false
set_option maxHeartbeats 1600000
namespace Go.Proofs.YtkdlcomfpffhhaaGreatDoor
open Go.RowKit
def dY(t:Tk):Value:=if isB t then .iface 247 (.int .u8 t.1)else if isK t then .iface 249 (.agg #[.int .i64 t.2.1,.int .i64 t.2.2])else Value.nilIface
theorem jv{t:Tk}(h:isB t=true):dY t = .iface 247 (.int .u8 t.1):=by unfold dY;rw[h];rfl
theorem ms{t:Tk}(h:isK t=true):dY t = .iface 249 (.agg #[.int .i64 t.2.1,.int .i64 t.2.2]):=by
 have hB:isB t=false:=by
  cases hb:isB t
  · rfl
  · rw[s9 hb]at h;cases h
 unfold dY;rw[hB,h];rfl
theorem I3{x:Int}(h0:0<=x)(h1:x<=255):IntKind.u8.wrap x=x:=by simp[IntKind.wrap,IntKind.bits,IntKind.signed];omega
theorem GD(t:Tk)(w:World) :
  Calls Tryz.prog 289 #[.agg #[.int .i64 t.1,.int .i64 t.2.1,.int .i64 t.2.2]] w fun e w'=>e = .returned (.tuple #[dY t,.bool (okT t)])/\Below w.heap.size w w':=by
 cases hB:isB t
 ·
  cases hK:isK t
  ·
   have hV:Hid (dY t=Value.nilIface/\okT t=false):=by
    refine⟨?_,?_⟩
    · unfold dY;rw[hB,hK];rfl
    · unfold okT;rw[hB,hK];rfl
   rw[(ae hV).1,(ae hV).2];obtain⟨x,y,z⟩:=t;simp only[isB,isK,inB,a2M,a2N]at hB hK;clear hV;simp only;by_cases y0:y=0
   ·
    subst y0;by_cases z0:z=0
    ·
     subst z0;by_cases x0:0<=x
     ·
      have x1:¬ x<=255:=by omega
      have xn:(x == 0)=false:=by simp;omega
      clear hB hK;go_enter a1y,a1z;go_wp2
      go_ret2
      exact⟨rfl,(a0c _ _).alloc (a0a _) _⟩
     ·
      have xn:(x == 0)=false:=by simp;omega
      clear hB hK;go_enter a1y,a1z;go_wp2
      go_ret2
      exact⟨rfl,(a0c _ _).alloc (a0a _) _⟩
    ·
     have zn:(z == 0)=false:=by simpa using z0
     by_cases x0:x=0
     ·
      subst x0;clear hB hK;go_enter a1y,a1z;go_wp2
      go_ret2
      exact⟨rfl,(a0c _ _).alloc (a0a _) _⟩
     ·
      have xn:(x == 0)=false:=by simpa using x0
      clear hB hK;go_enter a1y,a1z;go_wp2
      go_ret2
      exact⟨rfl,(a0c _ _).alloc (a0a _) _⟩
   ·
    have yn:(y == 0)=false:=by simpa using y0
    by_cases x0:x=0
    ·
     subst x0;by_cases y1:3<=y
     ·
      by_cases y2:y<=60
      ·
       by_cases z1:1<=z
       ·
        have z2:¬ z<=250:=by omega
        clear hB hK;go_enter a1y,a1z;go_wp2
        go_ret2
        exact⟨rfl,(a0c _ _).alloc (a0a _) _⟩
       ·
        clear hB hK;go_enter a1y,a1z;go_wp2
        go_ret2
        exact⟨rfl,(a0c _ _).alloc (a0a _) _⟩
      ·
       clear hB hK;go_enter a1y,a1z;go_wp2
       go_ret2
       exact⟨rfl,(a0c _ _).alloc (a0a _) _⟩
     ·
      clear hB hK;go_enter a1y,a1z;go_wp2
      go_ret2
      exact⟨rfl,(a0c _ _).alloc (a0a _) _⟩
    ·
     have xn:(x == 0)=false:=by simpa using x0
     clear hB hK;go_enter a1y,a1z;go_wp2
     go_ret2
     exact⟨rfl,(a0c _ _).alloc (a0a _) _⟩
  ·
   rw[ms hK,show okT t=true by unfold okT;rw[hK];simp];obtain⟨x,y,z⟩:=t;simp only[isK,a0i,a0q]at hK;obtain⟨⟨x0,hy⟩,hz⟩:=hK;obtain⟨y1,y2⟩:=aD.1 hy;obtain⟨z1,z2⟩:=aD.1 hz;simp only at x0 y1 y2 z1 z2 ⊢;subst x0;have yn:(y == 0)=false:=by simp;omega
   clear hB hy hz;go_enter a1y,a1z;go_wp2
   go_ret2
   exact⟨rfl,(a0c _ _).alloc (a0a _) _⟩
 ·
  rw[jv hB,show okT t=true by unfold okT;rw[hB];rfl];obtain⟨x,y,z⟩:=t;simp only[isB,a0i,a0q]at hB;obtain⟨y0,hx,z0⟩:=hB;obtain⟨x1,x2⟩:=aD.1 hx;simp only at y0 z0 x1 x2 ⊢;subst y0 z0;have hw:=I3 x1 x2;clear hx;go_enter a1y,a1z;go_wp2
  go_ret2
  exact⟨rfl,(a0c _ _).alloc (a0a _) _⟩
theorem eQ(x:Int)(w:World) :
  Calls Tryz.prog 330 #[.int .u8 x] w fun e w'=>e = .returned (.int .i64 1)/\w'=w:=by
 go_enter Tryz.func330,Tryz.ntmps330;go_wp2;go_ret;exact⟨rfl,rfl⟩
theorem iZ(y z:Int)(w:World) :
  Calls Tryz.prog 331 #[.agg #[.int .i64 y,.int .i64 z]] w fun e w'=>e = .returned (.int .i64 y)/\w'=w.alloc (.cells #[.int .i64 y,.int .i64 z] 249):=by
 go_enter Tryz.func331,Tryz.ntmps331;go_wp2;go_ret;exact⟨rfl,rfl⟩
theorem rj(v:Value)(w:World):(method 500 247 v "loop.example/corbel/impl.size").run Tryz.prog w = .ok (330,v) w:=by kernel_rfl
theorem rh(v:Value)(w:World):(method 500 249 v "loop.example/corbel/impl.size").run Tryz.prog w = .ok (331,v) w:=by kernel_rfl
theorem iY(v:Value)(w:World):(Instr.typeAssert (.iface 247 v) 244 247 true).run Tryz.prog w = .ok (.tuple #[v,.bool true]) w:=by kernel_rfl
theorem kS(v:Value)(w:World):(Instr.typeAssert (.iface 249 v) 244 247 true).run Tryz.prog w = .ok (.tuple #[.int .u8 0,.bool false]) w:=by kernel_rfl
theorem iX(v:Value)(w:World):(Instr.typeAssert (.iface 249 v) 244 249 true).run Tryz.prog w = .ok (.tuple #[v,.bool true]) w:=by kernel_rfl
end Go.Proofs.YtkdlcomfpffhhaaGreatDoor
