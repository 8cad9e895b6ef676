/- Rows of pieces: where they lie, those of the call's own, held against each other, over this seat's program. -/
import Derived.Test.YtmocfpjcknmhlaaIi1
import Derived.Deep.RegionWith
namespace Go.Proofs.Ytmocfpjcknmhlaa
open Go.RowKit

/-- Pieces in memory, two cells each. -/
def PRow (w : World) (a : Option Addr) (l : List (Int × Int)) : Prop :=
  0 < l.length → ∃ g o, a = some ⟨g, o, none⟩ ∧ g < w.heap.size ∧ ∀ i, i < l.length → w.cell? ⟨g, o + i * 2, none⟩ = some (.int .i64 (l.getD i (0, 0)).1) ∧ w.cell? ⟨g, o + i * 2 + 1, none⟩ = some (.int .i64 (l.getD i (0, 0)).2)
theorem PRow.later {w w' : World} {a : Option Addr} {l : List (Int × Int)} (h : PRow w a l) (hb : Below w.heap.size w w') : PRow w' a l := by
  intro h0
  obtain ⟨g, o, e, hlt, hc⟩ := h h0
  refine ⟨g, o, e, Nat.lt_of_lt_of_le hlt hb.size, fun i hi => ⟨?_, ?_⟩⟩
  · exact (hb.cell (p := ⟨g, o + i * 2, none⟩) hlt).trans (hc i hi).1
  · exact (hb.cell (p := ⟨g, o + i * 2 + 1, none⟩) hlt).trans (hc i hi).2
/-- The cells of pieces. -/
def pcells : List (Int × Int) → List Value
  | [] => []
  | p :: l => .int .i64 p.1 :: .int .i64 p.2 :: pcells l
theorem pcells_len (l : List (Int × Int)) : (pcells l).length = l.length * 2 := by
  induction l with
  | nil => rfl
  | cons p l ih => simp only [pcells, List.length_cons, ih]; omega
theorem pcells_append (l m : List (Int × Int)) : pcells (l ++ m) = pcells l ++ pcells m := by
  induction l with
  | nil => rfl
  | cons p l ih => simp [pcells, ih]
theorem pcells_get (l : List (Int × Int)) (i : Nat) (h : i < l.length) : (pcells l)[i * 2]? = some (.int .i64 (l.getD i (0, 0)).1) ∧ (pcells l)[i * 2 + 1]? = some (.int .i64 (l.getD i (0, 0)).2) := by
  induction l generalizing i with
  | nil => simp at h
  | cons p l ih =>
    cases i with
    | zero => simp [pcells]
    | succ i =>
      have := ih i (by simpa using h)
      rw [show (i + 1) * 2 = i * 2 + 1 + 1 by omega]
      simpa [pcells] using this
/-- Pieces of the call's own. -/
def Pcs (w : World) (base : Nat) (v : Value) (l : List (Int × Int)) : Prop := w.ownsRow base 27 2 v l.length (pcells l)
theorem Pcs.form {w : World} {base : Nat} {v : Value} {l : List (Int × Int)} (h : Pcs w base v l) : ∃ a cap, v = .slice a l.length cap := by
  rcases h.2 with ⟨e, h0⟩ | ⟨g, cap, _, e, _⟩
  · exact ⟨none, 0, by rw [e, h0]⟩
  · exact ⟨_, cap, e⟩
theorem Pcs.nonnil {w : World} {base : Nat} {v : Value} {l : List (Int × Int)} (h : Pcs w base v l) (hn : v ≠ .slice none 0 0) : ∃ g cap, v = .slice (some ⟨g, 0, none⟩) l.length cap := by
  rcases h.2 with ⟨e, _⟩ | ⟨g, cap, _, e, _⟩
  · exact absurd e hn
  · exact ⟨g, cap, e⟩
theorem Pcs.row {w : World} {base : Nat} {a : Option Addr} {cap : Nat} {l : List (Int × Int)} (h : Pcs w base (.slice a l.length cap) l) : PRow w a l := by
  intro h0
  rcases h.2 with ⟨_, h1⟩ | ⟨g, cap', cur, e, hb, hg, hr⟩
  · omega
  · simp only [Value.slice.injEq] at e
    obtain ⟨rfl, _, rfl⟩ := e
    refine ⟨g, 0, rfl, (Array.getElem?_eq_some_iff.1 hg).1, fun i hi => ?_⟩
    have hp := pcells_get l i hi
    have c1 := World.ownsRow.cellAt h (i * 2) (by omega)
    have c2 := World.ownsRow.cellAt h (i * 2 + 1) (by omega)
    rw [Nat.zero_add]
    exact ⟨c1.trans hp.1, c2.trans hp.2⟩
theorem Pcs.later {w w' : World} {base B : Nat} {v : Value} {l : List (Int × Int)} (h : Pcs w base v l) (hb : Below B w w') (hB : w.heap.size ≤ B) : Pcs w' base v l :=
  World.ownsRow.kept h (row := none) ⟨hb.os, hb.tape, hb.output, hb.size, fun k hk _ => hb.block k (by omega)⟩ (by
    cases hv : v.ownBlock with
    | none => exact .inl rfl
    | some k => exact .inr (by simp))
theorem Try.infoPiece : (Try.prog.info? 27).map (fun i => (i.zero, i.size, i.bytes)) = some (some (.agg #[.int .i64 0, .int .i64 0]), 2, 16) := by kernel_rfl
/-- The cells of pieces, from where they lie. -/
theorem Pcs.news {w : World} {base g cap : Nat} {l : List (Int × Int)} (h : Pcs w base (.slice (some ⟨g, 0, none⟩) l.length cap) l) : ∀ j u, (pcells l)[j]? = some u → w.cell? ((⟨g, 0, none⟩ : Addr).add j) = some u :=
  World.ownsRow.cells h rfl
theorem pcells_one (l : List (Int × Int)) : ∀ u ∈ pcells l, u.oneCell' = true := by
  induction l with
  | nil => intro u hu; simp [pcells] at hu
  | cons p l ih =>
    intro u hu
    simp only [pcells, List.mem_cons] at hu
    rcases hu with rfl | rfl | hu
    · rfl
    · rfl
    · exact ih u hu
theorem pcs_copy {x : World} {base : Nat} {v : Value} {l : List (Int × Int)} (h : x.ownsRow base 27 2 v (0 + l.length) ([] ++ pcells l)) : Pcs x base v l := by
  unfold Pcs
  rw [Nat.zero_add, List.nil_append] at h
  exact h
theorem pcs_snoc {x : World} {base : Nat} {v : Value} {l : List (Int × Int)} {a b : Int} (h : x.ownsRow base 27 2 v (l.length + 1) (pcells l ++ [.int .i64 a, .int .i64 b])) : Pcs x base v (l ++ [(a, b)]) := by
  show World.ownsRow _ _ _ _ _ (l ++ [(a, b)]).length _
  rw [pcells_append]
  simpa [pcells] using h
theorem pcs_snocN {x : World} {base n : Nat} {v : Value} {l : List (Int × Int)} {a b : Int} (hn : l.length = n) (h : x.ownsRow base 27 2 v (n + 1) (pcells l ++ [.int .i64 a, .int .i64 b])) : Pcs x base v (l ++ [(a, b)]) := by
  subst hn
  exact pcs_snoc h
theorem Pcs.formN {w : World} {base n : Nat} {v : Value} {l : List (Int × Int)} (hn : l.length = n) (h : Pcs w base v l) : ∃ a cap, v = .slice a n cap := by
  subst hn
  exact h.form
theorem Pcs.own {w : World} {base n : Nat} {v : Value} {l : List (Int × Int)} (hn : l.length = n) (h : Pcs w base v l) : w.ownsRow base 27 2 v n (pcells l) := by
  subst hn
  exact h
theorem Pcs.rowN {w : World} {base n : Nat} {a : Option Addr} {cap : Nat} {l : List (Int × Int)} (hn : l.length = n) (h : Pcs w base (.slice a n cap) l) : PRow w a l := by
  subst hn
  exact h.row
theorem Pcs.newsN {w : World} {base g cap n : Nat} {l : List (Int × Int)} (hn : l.length = n) (h : Pcs w base (.slice (some ⟨g, 0, none⟩) n cap) l) : ∀ j u, (pcells l)[j]? = some u → w.cell? ((⟨g, 0, none⟩ : Addr).add j) = some u := by
  subst hn
  exact h.news
theorem Pcs.nonnilN {w : World} {base n : Nat} {v : Value} {l : List (Int × Int)} (hl : l.length = n) (h : Pcs w base v l) (hn : v ≠ .slice none 0 0) : ∃ g cap, v = .slice (some ⟨g, 0, none⟩) n cap := by
  subst hl
  exact h.nonnil hn
theorem pcs_cat {x : World} {base n : Nat} {v : Value} {l r : List (Int × Int)} (hn : l.length = n) (h : x.ownsRow base 27 2 v (n + r.length) (pcells l ++ pcells r)) : Pcs x base v (l ++ r) := by
  subst hn
  unfold Pcs
  rw [pcells_append, List.length_append]
  exact h
theorem pcs_copyN {x : World} {base n : Nat} {v : Value} {l : List (Int × Int)} (hn : l.length = n) (h : x.ownsRow base 27 2 v (0 + n) ([] ++ pcells l)) : Pcs x base v l := by
  subst hn
  exact pcs_copy h
theorem two_new (w : World) (x y : Value) (t : TypeId) : ∀ (j : Nat) (u : Value), [x, y][j]? = some u → (w.alloc (.cells #[x, y] t)).cell? ((⟨w.heap.size, 0, none⟩ : Addr).add j) = some u := by
  intro j u hj
  match j, hj with
  | 0, hj => simp at hj; subst hj; simp [Addr.add]
  | 1, hj => simp at hj; subst hj; simp [Addr.add]
theorem two_int (x y : Int) : ∀ u ∈ [Value.int .i64 x, Value.int .i64 y], u.oneCell' = true := by
  intro u hu
  simp at hu
  rcases hu with rfl | rfl <;> rfl

end Go.Proofs.Ytmocfpjcknmhlaa
