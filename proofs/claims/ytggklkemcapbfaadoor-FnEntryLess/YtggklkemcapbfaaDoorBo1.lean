/- Rows of bytes of the call's own, and texts that are made of them, over this seat's program. -/
import Derived.Test.YtggklkemcapbfaaDoorIi1
import Derived.Laws.IdiomStrings
import Derived.Laws.OwnMore
namespace Go.Proofs.YtggklkemcapbfaaDoor
open Go.RowKit

/-- Bytes as cells. -/
def bcells (l : List UInt8) : List Value := l.map fun x => Value.int .u8 (x.toNat : Int)
def BOwn (w : World) (base : Nat) (v : Value) (l : List UInt8) : Prop := w.ownsRow base 5 1 v l.length (bcells l)
theorem BOwn.form {w : World} {base : Nat} {v : Value} {l : List UInt8} (h : BOwn w base v l) : ∃ a cap, v = .slice a l.length cap := by
  rcases h.2 with ⟨e, h0⟩ | ⟨g, cap, _, e, _⟩
  · exact ⟨none, 0, by rw [e, h0]⟩
  · exact ⟨_, cap, e⟩
theorem BOwn.formN {w : World} {base n : Nat} {v : Value} {l : List UInt8} (hn : l.length = n) (h : BOwn w base v l) : ∃ a cap, v = .slice a n cap := by
  subst hn; exact h.form
theorem BOwn.own {w : World} {base n : Nat} {v : Value} {l : List UInt8} (hn : l.length = n) (h : BOwn w base v l) : w.ownsRow base 5 1 v n (bcells l) := by
  subst hn; exact h
theorem BOwn.later {w w' : World} {base B : Nat} {v : Value} {l : List UInt8} (h : BOwn w base v l) (hb : Below B w w') (hB : w.heap.size ≤ B) : BOwn w' base v l :=
  World.ownsRow.kept h (row := none) ⟨hb.os, hb.tape, hb.output, hb.size, fun k hk _ => hb.block k (by omega)⟩ (by
    cases hv : v.ownBlock with
    | none => exact .inl rfl
    | some k => exact .inr (by simp))
theorem BOwn.mono {w : World} {base base' : Nat} {v : Value} {l : List UInt8} (h : BOwn w base v l) (hb : base' ≤ base) : BOwn w base' v l := by
  refine ⟨h.1, ?_⟩
  rcases h.2 with hn | ⟨g, cap, cur, e, hbg, rest⟩
  · exact .inl hn
  · exact .inr ⟨g, cap, cur, e, Nat.le_trans hb hbg, rest⟩
theorem BOwn.somes {w : World} {base cap n : Nat} {a : Option Addr} {l : List UInt8} (h : BOwn w base (.slice a n cap) l) (hl : 0 < l.length) : ∃ g, a = some ⟨g, 0, none⟩ := by
  rcases h.2 with ⟨_, e⟩ | ⟨g, cap', cur, e, _⟩
  · omega
  · simp only [Value.slice.injEq] at e
    exact ⟨g, e.1⟩
theorem BOwn.at {w : World} {base g cap n j : Nat} {l : List UInt8} (hn : l.length = n) (h : BOwn w base (.slice (some ⟨g, 0, none⟩) n cap) l) (hj : j < n) :
    w.cell? ⟨g, j, none⟩ = some (.int .u8 ((l.getD j 0).toNat : Int)) ∧ base ≤ g ∧ g < w.heap.size := by
  subst hn
  refine ⟨?_, World.ownsRow.lt h g rfl⟩
  rw [World.ownsRow.cellAt h j (by omega)]
  simp [bcells, hj, List.getD]
theorem BOwn.nil (w : World) (base : Nat) : BOwn w base (.slice none 0 0) [] := World.ownsRow_nil _ _ _ _
theorem BOwn.lit (w : World) (base : Nat) (hb : base ≤ w.heap.size) : BOwn (w.alloc (.cells #[] 5)) base (.slice (some ⟨w.heap.size, 0, none⟩) 0 0) [] := World.ownsRow_lit w #[] 0 hb (by unfold maxLen; omega) rfl
theorem bown_snoc {x : World} {base n : Nat} {v : Value} {l : List UInt8} {b : UInt8} (hn : l.length = n) (h : x.ownsRow base 5 1 v (n + 1) (bcells l ++ [.int .u8 (b.toNat : Int)])) : BOwn x base v (l ++ [b]) := by
  subst hn
  show World.ownsRow _ _ _ _ _ (l ++ [b]).length _
  simpa [bcells] using h
theorem Tryd.infoU8 : (Tryd.prog.info? 5).map (fun i => (i.zero, i.size, i.bytes)) = some (some (.int .u8 0), 1, 1) := by kernel_rfl
theorem one_byte (x : Int) : ∀ u ∈ [Value.int .u8 x], u.oneCell' = true := by
  intro u hu
  simp at hu
  subst hu
  rfl
/-- A text made of bytes. -/
theorem BOwn.text {w : World} {base : Nat} {v : Value} {l : List UInt8} (h : BOwn w base v l) :
    (convert 34 9 v).run Tryd.prog w = .ok (.string ⟨l.toArray⟩) w := by
  rcases h.2 with ⟨e, h0⟩ | ⟨g, cap, cur, e, _⟩
  · have hl : l = [] := List.eq_nil_of_length_eq_zero h0
    subst hl
    rw [e]
    rw [run_convert_bytes_string w _ _ _ none 0 0 Tryd.underlying34 Tryd.underlying5 Tryd.underlying9]
    rfl
  · rw [e]
    exact run_convert_bytes_back w _ _ _ ⟨g, 0, none⟩ cap l Tryd.underlying34 Tryd.underlying5 Tryd.underlying9 (fun j hj => by
      have := World.ownsRow.cells h (g := g) (by rw [e]; rfl) j (.int .u8 (l[j].toNat : Int)) (by simp [bcells, hj])
      exact this)

end Go.Proofs.YtggklkemcapbfaaDoor
