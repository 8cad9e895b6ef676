/- Contracts of the program's tokens: what a token is, what it lays, over this seat's program. -/
import Derived.Deep.RegionHeld3
import Derived.Deep.RegionLawGrows
import Derived.Test.YtkpfkgoiaicgbaaGreatDoorM11
import Derived.Test.YtkpfkgoiaicgbaaGreatDoorM9
import Derived.Test.YtkpfkgoiaicgbaaGreatDoorM5
import Derived.Test.YtkpfkgoiaicgbaaGreatDoorM2
set_option linter.unusedSimpArgs false
set_option linter.unusedVariables false
set_option maxHeartbeats 1600000
namespace Go.Proofs.YtkpfkgoiaicgbaaGreatDoor
open Go.RowKit
def dX(t:Tk):Value:=if isB t then .iface 252 (.int .u8 t.1)else if isK t then .iface 254 (.agg #[.int .i64 t.2.1,.int .i64 t.2.2])else Value.nilIface
theorem jB{t:Tk}(h:isB t=true):dX t = .iface 252 (.int .u8 t.1):=by unfold dX;rw[h];rfl
theorem mF{t:Tk}(h:isK t=true):dX t = .iface 254 (.agg #[.int .i64 t.2.1,.int .i64 t.2.2]):=by
 have hB:isB t=false:=by
  cases hb:isB t
  · rfl
  · rw[tz hb]at h;cases h
 unfold dX;rw[hB,h];rfl
theorem Jg{x:Int}(h0:0<=x)(h1:x<=255):IntKind.u8.wrap x=x:=by simp[IntKind.wrap,IntKind.bits,IntKind.signed];omega
theorem GV(t:Tk)(w:World) :
  Calls Tryz.prog 227 #[.agg #[.int .i64 t.1,.int .i64 t.2.1,.int .i64 t.2.2]] w fun e w'=>e = .returned (.tuple #[dX t,.bool (okT t)])/\Below w.heap.size w w':=by
 cases hB:isB t
 ·
  cases hK:isK t
  ·
   have hV:Hid (dX t=Value.nilIface/\okT t=false):=by
    refine⟨?_,?_⟩
    · unfold dX;rw[hB,hK];rfl
    · unfold okT;rw[hB,hK];rfl
   rw[(ae hV).1,(ae hV).2];obtain⟨x,y,z⟩:=t;simp only[isB,isK,inB,Bool.and_eq_false_iff,decide_eq_false_iff_not]at hB hK;clear hV;simp only;by_cases y0:y=0
   ·
    subst y0;by_cases z0:z=0
    ·
     subst z0;by_cases x0:0<=x
     ·
      have x1:¬ x<=255:=by omega
      have xn:(x == 0)=false:=by simp;omega
      clear hB hK;go_enter Tryz.func227,Tryz.ntmps227;go_wp2
      go_ret2
      exact⟨rfl,(Below.refl _ _).alloc (Nat.le_refl _) _⟩
     ·
      have xn:(x == 0)=false:=by simp;omega
      clear hB hK;go_enter Tryz.func227,Tryz.ntmps227;go_wp2
      go_ret2
      exact⟨rfl,(Below.refl _ _).alloc (Nat.le_refl _) _⟩
    ·
     have zn:(z == 0)=false:=by simpa using z0
     by_cases x0:x=0
     ·
      subst x0;clear hB hK;go_enter Tryz.func227,Tryz.ntmps227;go_wp2
      go_ret2
      exact⟨rfl,(Below.refl _ _).alloc (Nat.le_refl _) _⟩
     ·
      have xn:(x == 0)=false:=by simpa using x0
      clear hB hK;go_enter Tryz.func227,Tryz.ntmps227;go_wp2
      go_ret2
      exact⟨rfl,(Below.refl _ _).alloc (Nat.le_refl _) _⟩
   ·
    have yn:(y == 0)=false:=by simpa using y0
    by_cases x0:x=0
    ·
     subst x0;by_cases y1:3<=y
     ·
      by_cases y2:y<=60
      ·
       by_cases z1:1<=z
       ·
        have z2:¬ z<=250:=by omega
        clear hB hK;go_enter Tryz.func227,Tryz.ntmps227;go_wp2
        go_ret2
        exact⟨rfl,(Below.refl _ _).alloc (Nat.le_refl _) _⟩
       ·
        clear hB hK;go_enter Tryz.func227,Tryz.ntmps227;go_wp2
        go_ret2
        exact⟨rfl,(Below.refl _ _).alloc (Nat.le_refl _) _⟩
      ·
       clear hB hK;go_enter Tryz.func227,Tryz.ntmps227;go_wp2
       go_ret2
       exact⟨rfl,(Below.refl _ _).alloc (Nat.le_refl _) _⟩
     ·
      clear hB hK;go_enter Tryz.func227,Tryz.ntmps227;go_wp2
      go_ret2
      exact⟨rfl,(Below.refl _ _).alloc (Nat.le_refl _) _⟩
    ·
     have xn:(x == 0)=false:=by simpa using x0
     clear hB hK;go_enter Tryz.func227,Tryz.ntmps227;go_wp2
     go_ret2
     exact⟨rfl,(Below.refl _ _).alloc (Nat.le_refl _) _⟩
  ·
   rw[mF hK,show okT t=true by unfold okT;rw[hK];simp];obtain⟨x,y,z⟩:=t;simp only[isK,Bool.and_eq_true,decide_eq_true_eq]at hK;obtain⟨⟨x0,hy⟩,hz⟩:=hK;obtain⟨y1,y2⟩:=aD.1 hy;obtain⟨z1,z2⟩:=aD.1 hz;simp only at x0 y1 y2 z1 z2 ⊢;subst x0;have yn:(y == 0)=false:=by simp;omega
   clear hB hy hz;go_enter Tryz.func227,Tryz.ntmps227;go_wp2
   go_ret2
   exact⟨rfl,(Below.refl _ _).alloc (Nat.le_refl _) _⟩
 ·
  rw[jB hB,show okT t=true by unfold okT;rw[hB];rfl];obtain⟨x,y,z⟩:=t;simp only[isB,Bool.and_eq_true,decide_eq_true_eq]at hB;obtain⟨y0,hx,z0⟩:=hB;obtain⟨x1,x2⟩:=aD.1 hx;simp only at y0 z0 x1 x2 ⊢;subst y0 z0;have hw:=Jg x1 x2;clear hx;go_enter Tryz.func227,Tryz.ntmps227;go_wp2
  go_ret2
  exact⟨rfl,(Below.refl _ _).alloc (Nat.le_refl _) _⟩
theorem eQ(x:Int)(w:World) :
  Calls Tryz.prog 268 #[.int .u8 x] w fun e w'=>e = .returned (.int .i64 1)/\w'=w:=by
 go_enter Tryz.func268,Tryz.ntmps268;go_wp2;go_ret;exact⟨rfl,rfl⟩
theorem je(y z:Int)(w:World) :
  Calls Tryz.prog 269 #[.agg #[.int .i64 y,.int .i64 z]] w fun e w'=>e = .returned (.int .i64 y)/\w'=w.alloc (.cells #[.int .i64 y,.int .i64 z] 254):=by
 go_enter Tryz.func269,Tryz.ntmps269;go_wp2;go_ret;exact⟨rfl,rfl⟩
theorem rC(v:Value)(w:World):(method 476 252 v "loop.example/corbel/impl.size").run Tryz.prog w = .ok (268,v) w:=by kernel_rfl
theorem rz(v:Value)(w:World):(method 476 254 v "loop.example/corbel/impl.size").run Tryz.prog w = .ok (269,v) w:=by kernel_rfl
theorem jd(v:Value)(w:World):(Instr.typeAssert (.iface 252 v) 249 252 true).run Tryz.prog w = .ok (.tuple #[v,.bool true]) w:=by kernel_rfl
theorem kU(v:Value)(w:World):(Instr.typeAssert (.iface 254 v) 249 252 true).run Tryz.prog w = .ok (.tuple #[.int .u8 0,.bool false]) w:=by kernel_rfl
theorem jc(v:Value)(w:World):(Instr.typeAssert (.iface 254 v) 249 254 true).run Tryz.prog w = .ok (.tuple #[v,.bool true]) w:=by kernel_rfl
end Go.Proofs.YtkpfkgoiaicgbaaGreatDoor
