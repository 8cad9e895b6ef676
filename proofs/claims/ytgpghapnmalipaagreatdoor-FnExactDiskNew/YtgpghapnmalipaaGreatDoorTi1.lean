/- Contracts of the program's tokens: what a token is, what it lays, over this seat's program. -/
import Derived.Deep.RegionHeld3
import Derived.Deep.RegionLawGrows
import Derived.Test.YtgpghapnmalipaaGreatDoorM8
import Derived.Test.YtgpghapnmalipaaGreatDoorM6
import Derived.Test.YtgpghapnmalipaaGreatDoorM2
import Derived.Test.YtgpghapnmalipaaGreatDoorStepLaw
namespace Go.Proofs.YtgpghapnmalipaaGreatDoor
open Go.RowKit
def tokV (t : Tk) : Value := if isB t then .iface 172 (.int .u8 t.1) else if isK t then .iface 174 (.agg #[.int .i64 t.2.1, .int .i64 t.2.2]) else Value.nilIface
theorem tokV_B {t : Tk} (h : isB t = true) : tokV t = .iface 172 (.int .u8 t.1) := by unfold tokV; rw [h]; rfl
theorem tokV_K {t : Tk} (h : isK t = true) : tokV t = .iface 174 (.agg #[.int .i64 t.2.1, .int .i64 t.2.2]) := by
  have hB : isB t = false := by
    cases hb : isB t
    · rfl
    · rw [isB_K hb] at h; cases h
  unfold tokV; rw [hB, h]; rfl
theorem byteSize_any (x : Int) (w : World) :
    Calls Tryz.prog 222 #[.int .u8 x] w fun e w' => e = .returned (.int .i64 1) ∧ w' = w := by
  go_enter Tryz.func222, Tryz.ntmps222
  go_wp2
  go_ret
  exact ⟨rfl, rfl⟩
theorem backSize_any (y z : Int) (w : World) :
    Calls Tryz.prog 223 #[.agg #[.int .i64 y, .int .i64 z]] w fun e w' => e = .returned (.int .i64 y) ∧ w' = w.alloc (.cells #[.int .i64 y, .int .i64 z] 174) := by
  go_enter Tryz.func223, Tryz.ntmps223
  go_wp2
  go_ret
  exact ⟨rfl, rfl⟩
theorem methByte (v : Value) (w : World) : (method 397 172 v "loop.example/corbel/impl.size").run Tryz.prog w = .ok (222, v) w := by kernel_rfl
theorem methBack (v : Value) (w : World) : (method 397 174 v "loop.example/corbel/impl.size").run Tryz.prog w = .ok (223, v) w := by kernel_rfl
theorem asByte_yes (v : Value) (w : World) : (Instr.typeAssert (.iface 172 v) 169 172 true).run Tryz.prog w = .ok (.tuple #[v, .bool true]) w := by kernel_rfl
theorem asByte_no (v : Value) (w : World) : (Instr.typeAssert (.iface 174 v) 169 172 true).run Tryz.prog w = .ok (.tuple #[.int .u8 0, .bool false]) w := by kernel_rfl
theorem asBack_yes (v : Value) (w : World) : (Instr.typeAssert (.iface 174 v) 169 174 true).run Tryz.prog w = .ok (.tuple #[v, .bool true]) w := by kernel_rfl
end Go.Proofs.YtgpghapnmalipaaGreatDoor