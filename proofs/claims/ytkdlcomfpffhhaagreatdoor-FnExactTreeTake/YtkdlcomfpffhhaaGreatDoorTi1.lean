/- Contracts of the program's tokens: what a token is, what it lays, over this seat's program. -/
import Derived.Deep.RegionHeld3
import Derived.Deep.RegionLawGrows
import Derived.Test.YtkdlcomfpffhhaaGreatDoorM10
import Derived.Test.YtkdlcomfpffhhaaGreatDoorM8
import Derived.Test.YtkdlcomfpffhhaaGreatDoorM3
import Derived.Test.YtkdlcomfpffhhaaGreatDoorM2
namespace Go.Proofs.YtkdlcomfpffhhaaGreatDoor
open Go.RowKit
def tokV (t:Tk):Value:=if isB t then .iface 247 (.int .u8 t.1) else if isK t then .iface 249 (.agg #[.int .i64 t.2.1,.int .i64 t.2.2]) else Value.nilIface
theorem tokV_B {t:Tk} (h:isB t=true):tokV t = .iface 247 (.int .u8 t.1):=by unfold tokV; rw [h]; rfl
theorem tokV_K {t:Tk} (h:isK t=true):tokV t = .iface 249 (.agg #[.int .i64 t.2.1,.int .i64 t.2.2]):=by
 have hB:isB t=false:=by
  cases hb:isB t
  ·
   rfl
  ·
   rw [isB_K hb] at h; cases h
 unfold tokV; rw [hB,h]; rfl
theorem u8_id {x:Int} (h0:0≤x) (h1:x≤255):IntKind.u8.wrap x=x:=by simp [IntKind.wrap,IntKind.bits,IntKind.signed]; omega
set_option maxHeartbeats 1600000 in
theorem lzOf_any (t:Tk) (w:World) :
  Calls Tryz.prog 289 #[.agg #[.int .i64 t.1,.int .i64 t.2.1,.int .i64 t.2.2]] w fun e w'=>e = .returned (.tuple #[tokV t,.bool (okT t)])∧Below w.heap.size w w':=by
 cases hB:isB t
 ·
  cases hK:isK t
  ·
   have hV:Hid (tokV t=Value.nilIface∧okT t=false):=by
    refine ⟨?_,?_⟩
    ·
     unfold tokV; rw [hB,hK]; rfl
    ·
     unfold okT; rw [hB,hK]; rfl
   rw [(unhide hV).1,(unhide hV).2]
   obtain ⟨x,y,z⟩:=t
   simp only [isB,isK,inB,Bool.and_eq_false_iff,decide_eq_false_iff_not] at hB hK
   clear hV
   simp only
   by_cases y0:y=0
   ·
    subst y0
    by_cases z0:z=0
    ·
     subst z0
     by_cases x0:0≤x
     ·
      have x1:¬ x≤255:=by omega
      have xn:(x == 0)=false:=by simp; omega
      clear hB hK
      go_enter Tryz.func289,Tryz.ntmps289
      go_wp2
      go_ret2
      exact ⟨rfl,(Below.refl _ _).alloc (Nat.le_refl _) _⟩
     ·
      have xn:(x == 0)=false:=by simp; omega
      clear hB hK
      go_enter Tryz.func289,Tryz.ntmps289
      go_wp2
      go_ret2
      exact ⟨rfl,(Below.refl _ _).alloc (Nat.le_refl _) _⟩
    ·
     have zn:(z == 0)=false:=by simpa using z0
     by_cases x0:x=0
     ·
      subst x0
      clear hB hK
      go_enter Tryz.func289,Tryz.ntmps289
      go_wp2
      go_ret2
      exact ⟨rfl,(Below.refl _ _).alloc (Nat.le_refl _) _⟩
     ·
      have xn:(x == 0)=false:=by simpa using x0
      clear hB hK
      go_enter Tryz.func289,Tryz.ntmps289
      go_wp2
      go_ret2
      exact ⟨rfl,(Below.refl _ _).alloc (Nat.le_refl _) _⟩
   ·
    have yn:(y == 0)=false:=by simpa using y0
    by_cases x0:x=0
    ·
     subst x0
     by_cases y1:3≤y
     ·
      by_cases y2:y≤60
      ·
       by_cases z1:1≤z
       ·
        have z2:¬ z≤250:=by omega
        clear hB hK
        go_enter Tryz.func289,Tryz.ntmps289
        go_wp2
        go_ret2
        exact ⟨rfl,(Below.refl _ _).alloc (Nat.le_refl _) _⟩
       ·
        clear hB hK
        go_enter Tryz.func289,Tryz.ntmps289
        go_wp2
        go_ret2
        exact ⟨rfl,(Below.refl _ _).alloc (Nat.le_refl _) _⟩
      ·
       clear hB hK
       go_enter Tryz.func289,Tryz.ntmps289
       go_wp2
       go_ret2
       exact ⟨rfl,(Below.refl _ _).alloc (Nat.le_refl _) _⟩
     ·
      clear hB hK
      go_enter Tryz.func289,Tryz.ntmps289
      go_wp2
      go_ret2
      exact ⟨rfl,(Below.refl _ _).alloc (Nat.le_refl _) _⟩
    ·
     have xn:(x == 0)=false:=by simpa using x0
     clear hB hK
     go_enter Tryz.func289,Tryz.ntmps289
     go_wp2
     go_ret2
     exact ⟨rfl,(Below.refl _ _).alloc (Nat.le_refl _) _⟩
  ·
   rw [tokV_K hK,show okT t=true by unfold okT; rw [hK]; simp]
   obtain ⟨x,y,z⟩:=t
   simp only [isK,Bool.and_eq_true,decide_eq_true_eq] at hK
   obtain ⟨⟨x0,hy⟩,hz⟩:=hK
   obtain ⟨y1,y2⟩:=inB_true.1 hy
   obtain ⟨z1,z2⟩:=inB_true.1 hz
   simp only at x0 y1 y2 z1 z2 ⊢
   subst x0
   have yn:(y == 0)=false:=by simp; omega
   clear hB hy hz
   go_enter Tryz.func289,Tryz.ntmps289
   go_wp2
   go_ret2
   exact ⟨rfl,(Below.refl _ _).alloc (Nat.le_refl _) _⟩
 ·
  rw [tokV_B hB,show okT t=true by unfold okT; rw [hB]; rfl]
  obtain ⟨x,y,z⟩:=t
  simp only [isB,Bool.and_eq_true,decide_eq_true_eq] at hB
  obtain ⟨y0,hx,z0⟩:=hB
  obtain ⟨x1,x2⟩:=inB_true.1 hx
  simp only at y0 z0 x1 x2 ⊢
  subst y0 z0
  have hw:=u8_id x1 x2
  clear hx
  go_enter Tryz.func289,Tryz.ntmps289
  go_wp2
  go_ret2
  exact ⟨rfl,(Below.refl _ _).alloc (Nat.le_refl _) _⟩
theorem byteSize_any (x:Int) (w:World) :
  Calls Tryz.prog 330 #[.int .u8 x] w fun e w'=>e = .returned (.int .i64 1)∧w'=w:=by
 go_enter Tryz.func330,Tryz.ntmps330
 go_wp2
 go_ret
 exact ⟨rfl,rfl⟩
theorem backSize_any (y z:Int) (w:World) :
  Calls Tryz.prog 331 #[.agg #[.int .i64 y,.int .i64 z]] w fun e w'=>e = .returned (.int .i64 y)∧w'=w.alloc (.cells #[.int .i64 y,.int .i64 z] 249):=by
 go_enter Tryz.func331,Tryz.ntmps331
 go_wp2
 go_ret
 exact ⟨rfl,rfl⟩
theorem methByte (v:Value) (w:World):(method 500 247 v "loop.example/corbel/impl.size").run Tryz.prog w = .ok (330,v) w:=by kernel_rfl
theorem methBack (v:Value) (w:World):(method 500 249 v "loop.example/corbel/impl.size").run Tryz.prog w = .ok (331,v) w:=by kernel_rfl
theorem asByte_yes (v:Value) (w:World):(Instr.typeAssert (.iface 247 v) 244 247 true).run Tryz.prog w = .ok (.tuple #[v,.bool true]) w:=by kernel_rfl
theorem asByte_no (v:Value) (w:World):(Instr.typeAssert (.iface 249 v) 244 247 true).run Tryz.prog w = .ok (.tuple #[.int .u8 0,.bool false]) w:=by kernel_rfl
theorem asBack_yes (v:Value) (w:World):(Instr.typeAssert (.iface 249 v) 244 249 true).run Tryz.prog w = .ok (.tuple #[v,.bool true]) w:=by kernel_rfl
end Go.Proofs.YtkdlcomfpffhhaaGreatDoor
