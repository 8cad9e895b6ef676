/- Unpacking, the program's: what is thrown is caught. -/
import Derived.Test.YtbacpebljannfaaGreatDoorGq1
import Derived.Defers
import Derived.Recover
namespace Go.Proofs.YtbacpebljannfaaGreatDoor
open Go.RowKit Corb
theorem catch_idle (w : World) :
    CallsD Tryz.prog 153 #[] .returning w fun e u' w' => e = .returned (.tuple #[]) ∧ u' = .returning ∧ w' = w := by
  refine callsD_of_wpS Tryz.func153 rfl fun c₀ cs hu => ?_
  apply wpS_seq
  apply wpS_region
  simp [wpOpsS, go_sem, recoverD, hu, Tryz.ntmps153, Exit.thenS]
  refine wpS_of_wp ?_
  go_wp2_with fail
  cases c₀
  simp_all [bodyPostS, results, Tryz.results153]
set_option maxRecDepth 100000 in
theorem catch_fault (w : World) :
    CallsD Tryz.prog 153 #[] (.panicking [{ v := .iface 210 (.agg #[]), recovered := false }]) w fun e u' w' => e = .returned (.tuple #[]) ∧ u' = .panicking [{ v := .iface 210 (.agg #[]), recovered := true }] ∧ Below w.heap.size w w' := by
  refine callsD_of_wpS Tryz.func153 rfl fun c₀ cs hu => ?_
  apply wpS_seq
  apply wpS_region
  simp [wpOpsS, go_sem, recoverD, hu, Tryz.ntmps153, Exit.thenS]
  have hAs : (Instr.typeAssert (.iface 210 (.agg #[])) 20 210 true).run Tryz.prog w = .ok (.tuple #[.agg #[], .bool true]) w := by kernel_rfl
  refine wpS_of_wp ?_
  go_wp2_with fail
  simp [bodyPostS, results, Tryz.results153]
  exact (Below.refl _ _).alloc (Nat.le_refl _) _
def UnP (w : World) (b : Nat) (s : ByteArray) (d : Option (List UInt8 × Nat)) (e : Ending) (w' : World) : Prop :=
  KU b w w' ∧ match d with
    | none => e = .returned (.bool false)
    | some (T, q) => e = .returned (.bool true) ∧ Sou w' b s q T
set_option maxRecDepth 100000 in
theorem unpacked_any (b p : Nat) (s : ByteArray) (T : List UInt8) (w : World) (h : Sou w b s p T) (hT : T.length ≤ 300) (hp : p ≤ 8 * s.size) (hs : s.size ≤ 2000000) (hO : OrdC w) (hb : 0 < b) :
    Calls Tryz.prog 120 #[.pointer (some ⟨b, 0, none⟩)] w (UnP w b s (wholeG (numB s) (8 * s.size) p T)) := by
  have HP := hide (parts_any b p s T w h hT hp hs hO hb)
  have hlt := h.lt
  clear h hT hp hs hO hb
  generalize wholeG (numB s) (8 * s.size) p T = d at *
  have hmf : ∀ (fn : Fn) (first cap : Array Value) (w : World), (Instr.makeFunc fn first cap).run Tryz.prog w = .ok (.func fn first cap) w := fun _ _ _ _ => rfl
  unfold LayP at HP
  unfold UnP
  rcases d with _ | ⟨T', q⟩
  · go_enter_defers Tryz.func120, Tryz.ntmps120
    go_wp2_with fail
    refine (unhide HP).mono ?_
    rintro e x1 ⟨k1, rfl⟩
    have HY := hide (And.intro k1 (show b < x1.heap.size from Nat.lt_of_lt_of_le hlt k1.1.size))
    clear k1 HP
    unfold faultE
    refine leaves_cons (f := 153) (args := #[]) (by simp) (by simp [go_sem]) ?_
    refine (catch_fault x1).mono ?_
    rintro e u' w'' ⟨rfl, rfl, b2⟩
    have hk := (unhide HY).1.later b2 (unhide HY).2
    simp [Leaves, settle, results, Tryz.results120, go_sem]
    exact hk
  · go_enter_defers Tryz.func120, Tryz.ntmps120
    go_wp2_with fail
    refine (unhide HP).mono ?_
    rintro e x1 ⟨k1, rfl, s1⟩
    have HY := hide (And.intro k1 s1)
    clear k1 s1 HP
    go_wp2_with fail
    refine leaves_cons (f := 153) (args := #[]) (by simp) (by simp [go_sem]) ?_
    refine (catch_idle x1).mono ?_
    rintro e u' w'' ⟨rfl, rfl, rfl⟩
    simp [Leaves, settle, results, Tryz.results120, go_sem]
    exact unhide HY
end Go.Proofs.YtbacpebljannfaaGreatDoor