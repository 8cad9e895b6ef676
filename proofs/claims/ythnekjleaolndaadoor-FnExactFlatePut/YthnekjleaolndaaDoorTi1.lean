/- Contracts of the program's tokens: what a token is, what it lays, over this seat's program. -/
import Derived.Test.YthnekjleaolndaaDoorTt2
namespace Go.Proofs.YthnekjleaolndaaDoor
open Go.RowKit

/-- A token as the program has it. -/
def tokV (t : Tk) : Value := if isB t then .iface 66 (.int .u8 t.1) else if isK t then .iface 68 (.agg #[.int .i64 t.2.1, .int .i64 t.2.2]) else Value.nilIface
theorem tokV_B {t : Tk} (h : isB t = true) : tokV t = .iface 66 (.int .u8 t.1) := by unfold tokV; rw [h]; rfl
theorem tokV_K {t : Tk} (h : isK t = true) : tokV t = .iface 68 (.agg #[.int .i64 t.2.1, .int .i64 t.2.2]) := by
  have hB : isB t = false := by
    cases hb : isB t
    · rfl
    · rw [isB_K hb] at h; cases h
  unfold tokV; rw [hB, h]; rfl
theorem u8_id {x : Int} (h0 : 0 ≤ x) (h1 : x ≤ 255) : IntKind.u8.wrap x = x := by simp [IntKind.wrap, IntKind.bits, IntKind.signed]; omega


theorem byteSize_any (x : Int) (w : World) :
    Calls Tryd.prog 109 #[.int .u8 x] w fun e w' => e = .returned (.int .i64 1) ∧ w' = w := by
  go_enter Tryd.func109, Tryd.ntmps109
  go_wp2
  go_ret
  exact ⟨rfl, rfl⟩
theorem backSize_any (y z : Int) (w : World) :
    Calls Tryd.prog 110 #[.agg #[.int .i64 y, .int .i64 z]] w fun e w' => e = .returned (.int .i64 y) ∧ w' = w.alloc (.cells #[.int .i64 y, .int .i64 z] 68) := by
  go_enter Tryd.func110, Tryd.ntmps110
  go_wp2
  go_ret
  exact ⟨rfl, rfl⟩
theorem methByte (v : Value) (w : World) : (method 266 66 v "loop.example/corbel/impl.size").run Tryd.prog w = .ok (109, v) w := by kernel_rfl
theorem methBack (v : Value) (w : World) : (method 266 68 v "loop.example/corbel/impl.size").run Tryd.prog w = .ok (110, v) w := by kernel_rfl

theorem asByte_yes (v : Value) (w : World) : (Instr.typeAssert (.iface 66 v) 65 66 true).run Tryd.prog w = .ok (.tuple #[v, .bool true]) w := by kernel_rfl
theorem asByte_no (v : Value) (w : World) : (Instr.typeAssert (.iface 68 v) 65 66 true).run Tryd.prog w = .ok (.tuple #[.int .u8 0, .bool false]) w := by kernel_rfl
theorem asBack_yes (v : Value) (w : World) : (Instr.typeAssert (.iface 68 v) 65 68 true).run Tryd.prog w = .ok (.tuple #[v, .bool true]) w := by kernel_rfl

end Go.Proofs.YthnekjleaolndaaDoor
