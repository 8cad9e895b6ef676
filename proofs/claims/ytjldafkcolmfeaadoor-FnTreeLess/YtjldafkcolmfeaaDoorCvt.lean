/- A text's bytes as a row of their own. -/
import Derived.Test.YtjldafkcolmfeaaDoorIi1
import Derived.Laws.IdiomStrings
namespace Go.Proofs.YtjldafkcolmfeaaDoor
open Go.RowKit

theorem convB_text (s : ByteArray) (w : World) : ∃ (c : Nat) (x : World) (cs : Array Value) (f : Nat × Nat), (convert 9 22 (.string s)).run Tryd.prog w = .ok (.slice (some ⟨w.heap.size, 0, none⟩) s.size c) x ∧ Below w.heap.size w x ∧ x.heap[w.heap.size]? = some (.cells cs 5 f) ∧ ∀ i (h : i < s.size), cs[i]? = some (.int .u8 (s[i].toNat : Int)) := by
  refine ⟨_, _, bytesRow s (grownCap w s.size 0 5), ((bytesRow s (grownCap w s.size 0 5)).size, (bytesRow s (grownCap w s.size 0 5)).size + 1), run_bytes_of_string w _ _ _ s Tryd.underlying9 Tryd.underlying22 Tryd.underlying5, ?_, ?_, ?_⟩
  · exact ((Below.refl _ w).drew).alloc (by simp) _
  · exact Array.getElem?_push_size
  · intro i h
    exact bytesRow_at s (grownCap w s.size 0 5) i h
theorem rowB_cell {w : World} {b i : Nat} {cs : Array Value} {t : TypeId} {f : Nat × Nat} {v : Value} (h : w.heap[b]? = some (.cells cs t f)) (hc : cs[i]? = some v) : w.cell? ⟨b, i, none⟩ = some v := by
  unfold World.cell?
  rw [h]
  exact hc

end Go.Proofs.YtjldafkcolmfeaaDoor
