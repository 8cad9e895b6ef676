/- Contracts of the program's tokens: what a token is, what it lays, over this seat's program. -/
import Derived.Deep.RegionHeld3
import Derived.Deep.RegionLawGrows
import Derived.Test.YtbacpebljannfaaGreatDoorM8
import Derived.Test.YtbacpebljannfaaGreatDoorM6
import Derived.Test.YtbacpebljannfaaGreatDoorM2
import Derived.Test.YtbacpebljannfaaGreatDoorStepLaw
namespace Go.Proofs.YtbacpebljannfaaGreatDoor
open Go.RowKit
def tokV (t : Tk) : Value := if isB t then .iface 187 (.int .u8 t.1) else if isK t then .iface 189 (.agg #[.int .i64 t.2.1, .int .i64 t.2.2]) else Value.nilIface
theorem tokV_B {t : Tk} (h : isB t = true) : tokV t = .iface 187 (.int .u8 t.1) := by unfold tokV; rw [h]; rfl
theorem tokV_K {t : Tk} (h : isK t = true) : tokV t = .iface 189 (.agg #[.int .i64 t.2.1, .int .i64 t.2.2]) := by
  have hB : isB t = false := by
    cases hb : isB t
    · rfl
    · rw [isB_K hb] at h; cases h
  unfold tokV; rw [hB, h]; rfl
theorem byteSize_any (x : Int) (w : World) :
    Calls Tryz.prog 254 #[.int .u8 x] w fun e w' => e = .returned (.int .i64 1) ∧ w' = w := by
  go_enter Tryz.func254, Tryz.ntmps254
  go_wp2
  go_ret
  exact ⟨rfl, rfl⟩
theorem backSize_any (y z : Int) (w : World) :
    Calls Tryz.prog 255 #[.agg #[.int .i64 y, .int .i64 z]] w fun e w' => e = .returned (.int .i64 y) ∧ w' = w.alloc (.cells #[.int .i64 y, .int .i64 z] 189) := by
  go_enter Tryz.func255, Tryz.ntmps255
  go_wp2
  go_ret
  exact ⟨rfl, rfl⟩
theorem methByte (v : Value) (w : World) : (method 398 187 v "loop.example/corbel/impl.size").run Tryz.prog w = .ok (254, v) w := by kernel_rfl
theorem methBack (v : Value) (w : World) : (method 398 189 v "loop.example/corbel/impl.size").run Tryz.prog w = .ok (255, v) w := by kernel_rfl
theorem asByte_yes (v : Value) (w : World) : (Instr.typeAssert (.iface 187 v) 184 187 true).run Tryz.prog w = .ok (.tuple #[v, .bool true]) w := by kernel_rfl
theorem asByte_no (v : Value) (w : World) : (Instr.typeAssert (.iface 189 v) 184 187 true).run Tryz.prog w = .ok (.tuple #[.int .u8 0, .bool false]) w := by kernel_rfl
theorem asBack_yes (v : Value) (w : World) : (Instr.typeAssert (.iface 189 v) 184 189 true).run Tryz.prog w = .ok (.tuple #[v, .bool true]) w := by kernel_rfl
end Go.Proofs.YtbacpebljannfaaGreatDoor