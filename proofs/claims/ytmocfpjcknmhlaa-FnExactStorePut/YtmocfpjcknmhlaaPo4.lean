/- The contract of the model's BitsPut, whole, over this seat's program. -/
import Derived.Test.YtmocfpjcknmhlaaPo3
namespace Go.Proofs.Ytmocfpjcknmhlaa
open Go.RowKit Corb

theorem ret_str {a b : List UInt8} (h : a = b) : Ending.returned (.string ⟨a.toArray⟩) = .returned (.string ⟨b.toArray⟩) := by rw [h]

theorem conv_bytes {w : World} {b : Nat} {v : Value} {l : List UInt8} (h : Bys w b v l) :
    (convert 28 9 v).run Try.prog w = .ok (.string ⟨l.toArray⟩) w := by
  rcases h.2 with ⟨e, h0⟩ | ⟨g, cap, _, e, _⟩
  · subst e
    have hl : l = [] := List.eq_nil_of_length_eq_zero h0
    subst hl
    rw [run_convert_bytes_string w _ _ _ none 0 0 Try.underlying28 Try.underlying5 Try.underlying9]
    rfl
  · subst e
    exact run_convert_bytes_back w _ _ _ ⟨g, 0, none⟩ cap l Try.underlying28 Try.underlying5 Try.underlying9 (fun j hj => by
      have := h.cells (g := g) rfl j (.int .u8 (l[j].toNat : Int)) (by simp [bcells, hj])
      exact this)

theorem PRow.below {w w' : World} {a : Option Addr} {l : List (Int × Int)} {B : Nat} (h : PRow w a l) (hB : w.heap.size ≤ B) (hb : Below B w w') : PRow w' a l := h.later (hb.mono hB)


end Go.Proofs.Ytmocfpjcknmhlaa
