/- Contracts of the program's tokens: what a token is, what it lays, over this seat's program. -/
import Derived.Test.YtpiacpoablkfpaaTt2
namespace Go.Proofs.Ytpiacpoablkfpaa
open Go.RowKit

/-- A token as the program has it. -/
def tokV (t : Tk) : Value := if isB t then .iface 87 (.int .u8 t.1) else if isK t then .iface 89 (.agg #[.int .i64 t.2.1, .int .i64 t.2.2]) else Value.nilIface
theorem tokV_B {t : Tk} (h : isB t = true) : tokV t = .iface 87 (.int .u8 t.1) := by unfold tokV; rw [h]; rfl
theorem tokV_K {t : Tk} (h : isK t = true) : tokV t = .iface 89 (.agg #[.int .i64 t.2.1, .int .i64 t.2.2]) := by
  have hB : isB t = false := by
    cases hb : isB t
    · rfl
    · rw [isB_K hb] at h; cases h
  unfold tokV; rw [hB, h]; rfl
theorem u8_id {x : Int} (h0 : 0 ≤ x) (h1 : x ≤ 255) : IntKind.u8.wrap x = x := by simp [IntKind.wrap, IntKind.bits, IntKind.signed]; omega


theorem byteSize_any (x : Int) (w : World) :
    Calls Try.prog 70 #[.int .u8 x] w fun e w' => e = .returned (.int .i64 1) ∧ w' = w := by
  go_enter Try.func70, Try.ntmps70
  go_wp2
  go_ret
  exact ⟨rfl, rfl⟩
theorem backSize_any (y z : Int) (w : World) :
    Calls Try.prog 71 #[.agg #[.int .i64 y, .int .i64 z]] w fun e w' => e = .returned (.int .i64 y) ∧ w' = w.alloc (.cells #[.int .i64 y, .int .i64 z] 89) := by
  go_enter Try.func71, Try.ntmps71
  go_wp2
  go_ret
  exact ⟨rfl, rfl⟩
theorem methByte (v : Value) (w : World) : (method 226 87 v "loop.example/corbel/impl.size").run Try.prog w = .ok (70, v) w := by kernel_rfl
theorem methBack (v : Value) (w : World) : (method 226 89 v "loop.example/corbel/impl.size").run Try.prog w = .ok (71, v) w := by kernel_rfl

theorem asByte_yes (v : Value) (w : World) : (Instr.typeAssert (.iface 87 v) 65 87 true).run Try.prog w = .ok (.tuple #[v, .bool true]) w := by kernel_rfl
theorem asByte_no (v : Value) (w : World) : (Instr.typeAssert (.iface 89 v) 65 87 true).run Try.prog w = .ok (.tuple #[.int .u8 0, .bool false]) w := by kernel_rfl
theorem asBack_yes (v : Value) (w : World) : (Instr.typeAssert (.iface 89 v) 65 89 true).run Try.prog w = .ok (.tuple #[v, .bool true]) w := by kernel_rfl

end Go.Proofs.Ytpiacpoablkfpaa
