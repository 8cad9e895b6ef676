/- A file, read as data. -/
import Derived.Test.YtgpghapnmalipaaGreatDoorSx6
import Derived.Deep.Strs
import Derived.ShutString
namespace Go.Proofs.YtgpghapnmalipaaGreatDoor
open Go.ChangeShapes Go.WideShapes Go.ChangeAt Go.RowKit
open Go.ChangeMaps (open_string shut_string)
theorem entry_down {H : Type} {enc : TypeId × Value → H} {w : World} {base : Nat} {spare : Nat → Bool} {held : Bool} {fuel : Nat} {c0 c1 c2 c3 c4 c5 c6 c7 : Value} {x : DataW H × List MemPlace}
    (h : DataW.trod enc Tryz.prog w base spare held fuel 38 [c0, c1, c2, c3, c4, c5, c6, c7] = some x) :
    ∃ (e0 e1 : ByteArray) (a0 a1 a2 a3 a4 a5 : Int), (c0 = .string e0 ∧ c1 = .int .i64 a0 ∧ c2 = .int .i64 a1 ∧ c3 = .int .i64 a2 ∧ c4 = .int .i64 a3 ∧ c5 = .int .i64 a4 ∧ c6 = .int .i64 a5 ∧ c7 = .string e1) ∧
      ((e0.size ≤ maxLen ∧ e1.size ≤ maxLen) ∧ ((Lit.int .i64 a0).wf = true ∧ (Lit.int .i64 a1).wf = true ∧ (Lit.int .i64 a2).wf = true ∧ (Lit.int .i64 a3).wf = true ∧ (Lit.int .i64 a4).wf = true ∧ (Lit.int .i64 a5).wf = true)) ∧
      x = (.agg [.lit (.string e0.data.toList), .agg [.lit (.int .i64 a0), .lit (.int .i64 a1), .lit (.int .i64 a2), .lit (.int .i64 a3), .lit (.int .i64 a4), .lit (.int .i64 a5)], .lit (.string e1.data.toList)], []) := by
  have cS : Tryz.prog.cellsOf 9 = 1 := by kernel_rfl
  have cT : Tryz.prog.cellsOf 36 = 6 := by kernel_rfl
  obtain ⟨y0, y1, y2, k, rfl, _, g0, g1, g2⟩ := Go.Deep.trod_struct3 Tryz.underlying38 h
  simp only [cS, cT, List.drop, List.take] at g0 g1 g2
  obtain ⟨e0, h0, rfl, k0⟩ := DataW.trod_string Tryz.underlying9 g0
  obtain ⟨e1, h1, rfl, k1⟩ := DataW.trod_string Tryz.underlying9 g2
  simp only [List.cons.injEq, and_true] at h0 h1
  obtain ⟨a0, a1, a2, a3, a4, a5, ⟨rfl, rfl, rfl, rfl, rfl, rfl⟩, kk, rfl⟩ := stamp_down (Tryz.underlying36.trans Tryz.underlying40.symm) g1
  exact ⟨e0, e1, a0, a1, a2, a3, a4, a5, ⟨h0, rfl, rfl, rfl, rfl, rfl, rfl, h1⟩, ⟨⟨k0, k1⟩, kk⟩, by simp⟩
end Go.Proofs.YtgpghapnmalipaaGreatDoor