/- (Value).Set at the program's own fault. -/
import Derived.Test.YthlmoakigdlboaaDoorAs2
namespace Go.Proofs.YthlmoakigdlboaaDoor
open Go.RowKit Go.Extern.Stop Go.Stop Go.Extern

theorem asSet (tb b : Nat) (c : Int) (old : Value) (W : World) (hb : W.cell? ⟨b, 0, none⟩ = some (.int .i64 c)) (ht : W.cell? ⟨tb, 0, none⟩ = some old) (hf : W.frozen? ⟨tb, 0, none⟩ = false) :
    (ReflectliteValue.set #[.agg #[.pointer (some ⟨4, 50, none⟩), .pointer (some ⟨tb, 0, none⟩), .int .u64 409], .agg #[.pointer (some ⟨4, 50, none⟩), .pointer (some ⟨b, 0, none⟩), .int .u64 153]]).run Tryd.prog W
      = .ok (.tuple #[]) (W.setCell ⟨tb, 0, none⟩ (.int .i64 c)) := by
  show (Bind.bind (ReflectliteValue.parts _) _ : Sem Value).run Tryd.prog W = _
  simp only [Array.getLit, List.getElem_toArray, List.getElem_cons_zero, List.getElem_cons_succ, Sem.run_bind, asPartsEa, asPartsE, Result.andThen]
  have hl : (loadCells ⟨b, 0, none⟩ 1).run Tryd.prog W = .ok #[.int .i64 c] W := by simp [loadCells, loadCellsFrom, go_sem, hb]
  simp [ReflectliteValue.flagAddr, loadVar, isAgg, underlying, Tryd.underlying50, Result.andThen, asDirect, storeVar, Value.cells, hl]
  simp [storeCells, Addr.add]
  rw [run_store Tryd.prog W ⟨tb, 0, none⟩ _ _ (by rfl)]
  simp [ht, hf]

end Go.Proofs.YthlmoakigdlboaaDoor
