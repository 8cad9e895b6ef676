/- Rows of texts of the call's own, over this seat's program. -/
import Derived.Test.YtjldafkcolmfeaaDoorIi1
import Derived.Laws.OwnMore
namespace Go.Proofs.YtjldafkcolmfeaaDoor
open Go.RowKit

/-- Texts as cells. -/
def scells (l : List ByteArray) : List Value := l.map Value.string
def SOwn (w : World) (base : Nat) (v : Value) (l : List ByteArray) : Prop := w.ownsRow base 9 1 v l.length (scells l)
theorem SOwn.form {w : World} {base : Nat} {v : Value} {l : List ByteArray} (h : SOwn w base v l) : ∃ a cap, v = .slice a l.length cap := by
  rcases h.2 with ⟨e, h0⟩ | ⟨g, cap, _, e, _⟩
  · exact ⟨none, 0, by rw [e, h0]⟩
  · exact ⟨_, cap, e⟩
theorem SOwn.formN {w : World} {base n : Nat} {v : Value} {l : List ByteArray} (hn : l.length = n) (h : SOwn w base v l) : ∃ a cap, v = .slice a n cap := by
  subst hn; exact h.form
theorem SOwn.own {w : World} {base n : Nat} {v : Value} {l : List ByteArray} (hn : l.length = n) (h : SOwn w base v l) : w.ownsRow base 9 1 v n (scells l) := by
  subst hn; exact h
theorem SOwn.at {w : World} {base n : Nat} {a : Option Addr} {cap : Nat} {l : List ByteArray} (hn : l.length = n) (h : SOwn w base (.slice a n cap) l) (h0 : 0 < n) :
    ∃ g, a = some ⟨g, 0, none⟩ ∧ g < w.heap.size ∧ ∀ j, j < n → w.cell? ⟨g, j, none⟩ = some (.string (l.getD j ByteArray.empty)) := by
  subst hn
  rcases h.2 with ⟨_, e⟩ | ⟨g, cap', cur, e, _⟩
  · omega
  · simp only [Value.slice.injEq] at e
    obtain ⟨rfl, _, rfl⟩ := e
    refine ⟨g, rfl, (World.ownsRow.lt h g rfl).2, fun j hj => ?_⟩
    rw [World.ownsRow.cellAt h j (by omega)]
    simp [scells, hj, List.getD]
theorem SOwn.lit (w : World) (base : Nat) (hb : base ≤ w.heap.size) : SOwn (w.alloc (.cells #[] 9)) base (.slice (some ⟨w.heap.size, 0, none⟩) 0 0) [] := World.ownsRow_lit w #[] 0 hb (by unfold maxLen; omega) rfl
theorem sown_snoc {x : World} {base n : Nat} {v : Value} {l : List ByteArray} {b : ByteArray} (hn : l.length = n) (h : x.ownsRow base 9 1 v (n + 1) (scells l ++ [.string b])) : SOwn x base v (l ++ [b]) := by
  subst hn
  show World.ownsRow _ _ _ _ _ (l ++ [b]).length _
  simpa [scells] using h
theorem Tryd.infoStr : (Tryd.prog.info? 9).map (fun i => (i.zero, i.size, i.bytes)) = some (some (.string ByteArray.empty), 1, 16) := by kernel_rfl
theorem one_str (x : ByteArray) : ∀ u ∈ [Value.string x], u.oneCell' = true := by
  intro u hu
  simp at hu
  subst hu
  rfl
theorem one_newS (w : World) (t : TypeId) (x : ByteArray) : ∀ (j : Nat) (u : Value), [Value.string x][j]? = some u → (w.alloc (.cells #[.string x] t)).cell? (Addr.add ⟨w.heap.size, 0, none⟩ j) = some u := by
  intro j u hj
  match j, hj with
  | 0, hj => simp at hj; subst hj; simp [Addr.add]

end Go.Proofs.YtjldafkcolmfeaaDoor
