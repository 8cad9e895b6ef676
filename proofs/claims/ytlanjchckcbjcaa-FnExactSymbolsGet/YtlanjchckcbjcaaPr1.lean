/- Rows of pieces: where they lie, those of the call's own, held against each other, over this seat's program. -/
import Derived.Test.YtlanjchckcbjcaaIi1
import Derived.Deep.RegionWith
namespace Go.Proofs.Ytlanjchckcbjcaa
open Go.RowKit

/-- Pieces in memory, two cells each. -/
def PRow (w : World) (a : Option Addr) (l : List (Int × Int)) : Prop :=
  0 < l.length → ∃ g o, a = some ⟨g, o, none⟩ ∧ g < w.heap.size ∧ ∀ i, i < l.length → w.cell? ⟨g, o + i * 2, none⟩ = some (.int .i64 (l.getD i (0, 0)).1) ∧ w.cell? ⟨g, o + i * 2 + 1, none⟩ = some (.int .i64 (l.getD i (0, 0)).2)
theorem PRow.later {w w' : World} {a : Option Addr} {l : List (Int × Int)} (h : PRow w a l) (hb : Below w.heap.size w w') : PRow w' a l := by
  intro h0
  obtain ⟨g, o, e, hlt, hc⟩ := h h0
  refine ⟨g, o, e, Nat.lt_of_lt_of_le hlt hb.size, fun i hi => ⟨?_, ?_⟩⟩
  · exact (hb.cell (p := ⟨g, o + i * 2, none⟩) hlt).trans (hc i hi).1
  · exact (hb.cell (p := ⟨g, o + i * 2 + 1, none⟩) hlt).trans (hc i hi).2
/-- The cells of pieces. -/
def pcells : List (Int × Int) → List Value
  | [] => []
  | p :: l => .int .i64 p.1 :: .int .i64 p.2 :: pcells l
theorem pcells_len (l : List (Int × Int)) : (pcells l).length = l.length * 2 := by
  induction l with
  | nil => rfl
  | cons p l ih => simp only [pcells, List.length_cons, ih]; omega
theorem pcells_append (l m : List (Int × Int)) : pcells (l ++ m) = pcells l ++ pcells m := by
  induction l with
  | nil => rfl
  | cons p l ih => simp [pcells, ih]
theorem pcells_get (l : List (Int × Int)) (i : Nat) (h : i < l.length) : (pcells l)[i * 2]? = some (.int .i64 (l.getD i (0, 0)).1) ∧ (pcells l)[i * 2 + 1]? = some (.int .i64 (l.getD i (0, 0)).2) := by
  induction l generalizing i with
  | nil => simp at h
  | cons p l ih =>
    cases i with
    | zero => simp [pcells]
    | succ i =>
      have := ih i (by simpa using h)
      rw [show (i + 1) * 2 = i * 2 + 1 + 1 by omega]
      simpa [pcells] using this
/-- Pieces of the call's own. -/
def Pcs (w : World) (base : Nat) (v : Value) (l : List (Int × Int)) : Prop := w.ownsRow base 42 2 v l.length (pcells l)
theorem Pcs.form {w : World} {base : Nat} {v : Value} {l : List (Int × Int)} (h : Pcs w base v l) : ∃ a cap, v = .slice a l.length cap := by
  rcases h.2 with ⟨e, h0⟩ | ⟨g, cap, _, e, _⟩
  · exact ⟨none, 0, by rw [e, h0]⟩
  · exact ⟨_, cap, e⟩
theorem Pcs.nonnil {w : World} {base : Nat} {v : Value} {l : List (Int × Int)} (h : Pcs w base v l) (hn : v ≠ .slice none 0 0) : ∃ g cap, v = .slice (some ⟨g, 0, none⟩) l.length cap := by
  rcases h.2 with ⟨e, _⟩ | ⟨g, cap, _, e, _⟩
  · exact absurd e hn
  · exact ⟨g, cap, e⟩
theorem Pcs.row {w : World} {base : Nat} {a : Option Addr} {cap : Nat} {l : List (Int × Int)} (h : Pcs w base (.slice a l.length cap) l) : PRow w a l := by
  intro h0
  rcases h.2 with ⟨_, h1⟩ | ⟨g, cap', cur, e, hb, hg, hr⟩
  · omega
  · simp only [Value.slice.injEq] at e
    obtain ⟨rfl, _, rfl⟩ := e
    refine ⟨g, 0, rfl, (Array.getElem?_eq_some_iff.1 hg).1, fun i hi => ?_⟩
    have hp := pcells_get l i hi
    have c1 := World.ownsRow.cellAt h (i * 2) (by omega)
    have c2 := World.ownsRow.cellAt h (i * 2 + 1) (by omega)
    rw [Nat.zero_add]
    exact ⟨c1.trans hp.1, c2.trans hp.2⟩
theorem Pcs.later {w w' : World} {base B : Nat} {v : Value} {l : List (Int × Int)} (h : Pcs w base v l) (hb : Below B w w') (hB : w.heap.size ≤ B) : Pcs w' base v l :=
  World.ownsRow.kept h (row := none) ⟨hb.os, hb.tape, hb.output, hb.size, fun k hk _ => hb.block k (by omega)⟩ (by
    cases hv : v.ownBlock with
    | none => exact .inl rfl
    | some k => exact .inr (by simp))
theorem Try.infoPiece : (Try.prog.info? 42).map (fun i => (i.zero, i.size, i.bytes)) = some (some (.agg #[.int .i64 0, .int .i64 0]), 2, 16) := by kernel_rfl
/-- The cells of pieces, from where they lie. -/
theorem Pcs.news {w : World} {base g cap : Nat} {l : List (Int × Int)} (h : Pcs w base (.slice (some ⟨g, 0, none⟩) l.length cap) l) : ∀ j u, (pcells l)[j]? = some u → w.cell? ((⟨g, 0, none⟩ : Addr).add j) = some u :=
  World.ownsRow.cells h rfl
theorem pcells_one (l : List (Int × Int)) : ∀ u ∈ pcells l, u.oneCell' = true := by
  induction l with
  | nil => intro u hu; simp [pcells] at hu
  | cons p l ih =>
    intro u hu
    simp only [pcells, List.mem_cons] at hu
    rcases hu with rfl | rfl | hu
    · rfl
    · rfl
    · exact ih u hu
theorem pcs_copy {x : World} {base : Nat} {v : Value} {l : List (Int × Int)} (h : x.ownsRow base 42 2 v (0 + l.length) ([] ++ pcells l)) : Pcs x base v l := by
  unfold Pcs
  rw [Nat.zero_add, List.nil_append] at h
  exact h
theorem pcs_snoc {x : World} {base : Nat} {v : Value} {l : List (Int × Int)} {a b : Int} (h : x.ownsRow base 42 2 v (l.length + 1) (pcells l ++ [.int .i64 a, .int .i64 b])) : Pcs x base v (l ++ [(a, b)]) := by
  show World.ownsRow _ _ _ _ _ (l ++ [(a, b)]).length _
  rw [pcells_append]
  simpa [pcells] using h
theorem copy_below {x x' : World} {t : TypeId} {c : Nat} (hg : (x.alloc (.cells #[] t)).grownBy x' (Value.slice (some ⟨x.heap.size, 0, none⟩) 0 c).ownBlock) : Below x.heap.size x x' :=
  ((Below.refl _ _).alloc (Nat.le_refl _) _).grown hg (by simp) (fun k h => by simp [Value.ownBlock] at h; omega)
theorem own_below {x y y' : World} {o : Obj} {v : Value} {e : TypeId} {size n : Nat} {xs : List Value} (hg : (y.alloc o).grownBy y' v.ownBlock) (ho : (y.alloc o).ownsRow x.heap.size e size v n xs) (hb : Below x.heap.size x y) : Below x.heap.size x y' :=
  (hb.alloc hb.size _).grown hg (by have := hb.size; simp; omega) (fun k h => (ho.lt k h).1)
/-- Rows of other elements lie apart. -/
theorem type_apart {w : World} {b1 b2 e1 e2 s1 s2 n1 n2 : Nat} {v1 v2 : Value} {x1 x2 : List Value} (h1 : w.ownsRow b1 e1 s1 v1 n1 x1) (h2 : w.ownsRow b2 e2 s2 v2 n2 x2) (he : e1 ≠ e2) : v1.ownBlock = none ∨ v1.ownBlock ≠ v2.ownBlock := by
  rcases h1.2 with ⟨rfl, _⟩ | ⟨g, cap, cur, rfl, _, hg, _⟩
  · exact .inl rfl
  · refine .inr ?_
    rcases h2.2 with ⟨rfl, _⟩ | ⟨g', cap', cur', rfl, _, hg', _⟩
    · simp [Value.ownBlock]
    · simp only [Value.ownBlock, ne_eq, Option.some.injEq]
      rintro rfl
      rw [hg] at hg'
      simp only [Option.some.injEq, Obj.cells.injEq] at hg'
      exact he hg'.2.1
theorem snoc_len {α : Type} {l : List α} {x : α} {n : Nat} (h : l.length = n) : (l ++ [x]).length = n + 1 := by simp [h]
theorem pcs_snocN {x : World} {base n : Nat} {v : Value} {l : List (Int × Int)} {a b : Int} (hn : l.length = n) (h : x.ownsRow base 42 2 v (n + 1) (pcells l ++ [.int .i64 a, .int .i64 b])) : Pcs x base v (l ++ [(a, b)]) := by
  subst hn
  exact pcs_snoc h
theorem Pcs.formN {w : World} {base n : Nat} {v : Value} {l : List (Int × Int)} (hn : l.length = n) (h : Pcs w base v l) : ∃ a cap, v = .slice a n cap := by
  subst hn
  exact h.form
theorem Pcs.own {w : World} {base n : Nat} {v : Value} {l : List (Int × Int)} (hn : l.length = n) (h : Pcs w base v l) : w.ownsRow base 42 2 v n (pcells l) := by
  subst hn
  exact h
theorem Pcs.rowN {w : World} {base n : Nat} {a : Option Addr} {cap : Nat} {l : List (Int × Int)} (hn : l.length = n) (h : Pcs w base (.slice a n cap) l) : PRow w a l := by
  subst hn
  exact h.row
theorem Pcs.newsN {w : World} {base g cap n : Nat} {l : List (Int × Int)} (hn : l.length = n) (h : Pcs w base (.slice (some ⟨g, 0, none⟩) n cap) l) : ∀ j u, (pcells l)[j]? = some u → w.cell? ((⟨g, 0, none⟩ : Addr).add j) = some u := by
  subst hn
  exact h.news
theorem Pcs.nonnilN {w : World} {base n : Nat} {v : Value} {l : List (Int × Int)} (hl : l.length = n) (h : Pcs w base v l) (hn : v ≠ .slice none 0 0) : ∃ g cap, v = .slice (some ⟨g, 0, none⟩) n cap := by
  subst hl
  exact h.nonnil hn
theorem pcs_cat {x : World} {base n : Nat} {v : Value} {l r : List (Int × Int)} (hn : l.length = n) (h : x.ownsRow base 42 2 v (n + r.length) (pcells l ++ pcells r)) : Pcs x base v (l ++ r) := by
  subst hn
  unfold Pcs
  rw [pcells_append, List.length_append]
  exact h
theorem pcs_copyN {x : World} {base n : Nat} {v : Value} {l : List (Int × Int)} (hn : l.length = n) (h : x.ownsRow base 42 2 v (0 + n) ([] ++ pcells l)) : Pcs x base v l := by
  subst hn
  exact pcs_copy h
theorem two_new (w : World) (x y : Value) (t : TypeId) : ∀ (j : Nat) (u : Value), [x, y][j]? = some u → (w.alloc (.cells #[x, y] t)).cell? ((⟨w.heap.size, 0, none⟩ : Addr).add j) = some u := by
  intro j u hj
  match j, hj with
  | 0, hj => simp at hj; subst hj; simp [Addr.add]
  | 1, hj => simp at hj; subst hj; simp [Addr.add]
theorem two_int (x y : Int) : ∀ u ∈ [Value.int .i64 x, Value.int .i64 y], u.oneCell' = true := by
  intro u hu
  simp at hu
  rcases hu with rfl | rfl <;> rfl
theorem size_alloc_le {B : Nat} {w : World} (h : B ≤ w.heap.size) (o : Obj) : B ≤ (w.alloc o).heap.size := by simp; omega
theorem eqPiece_same (x y : Int) (w : World) :
    Calls Try.prog 32 #[.agg #[.int .i64 x, .int .i64 y], .agg #[.int .i64 x, .int .i64 y]] w fun e w' => e = .returned (.bool true) ∧ Below w.heap.size w w' := by
  go_enter Try.func32, Try.ntmps32
  go_wp2
  go_ret
  exact ⟨rfl, ((Below.refl _ _).alloc (Nat.le_refl _) _).alloc (by simp) _⟩
set_option maxHeartbeats 800000 in
theorem eqPieceS_same (a b : Option Addr) (c d : Nat) (l : List (Int × Int)) (w : World) (ha : PRow w a l) (hb : PRow w b l) (hm : l.length ≤ 1048576) :
    Calls Try.prog 17 #[.slice a l.length c, .slice b l.length d] w fun e w' => e = .returned (.bool true) ∧ Below w.heap.size w w' := by
  have hm' : (l.length : Int) ≤ 1048576 := by omega
  clear hm
  go_enter Try.func17, Try.ntmps17
  go_wp2_with fail
  go_loopw [5] (fun i wr => ∃ k : Nat, k ≤ l.length ∧ i = .int .i64 k ∧ Below w.heap.size w wr) (fun i _ => l.length - (intOf i).toNat)
  case atStart => exact ⟨0, Nat.zero_le _, rfl, Below.refl _ _⟩
  case round =>
    obtain ⟨k, hk, rfl, hbel⟩ := hrel
    by_cases hlt : k < l.length
    · obtain ⟨g, o, rfl, hg, hc⟩ := (ha.later hbel) (by omega)
      obtain ⟨g', o', rfl, hg', hc'⟩ := (hb.later hbel) (by omega)
      obtain ⟨c0, c1⟩ := hc k hlt
      obtain ⟨d0, d1⟩ := hc' k hlt
      have HK := hide hk
      clear hc hc' ha hb hk
      generalize (l.getD k (0, 0)).1 = x at *
      generalize (l.getD k (0, 0)).2 = y at *
      go_wp2_with fail
      go_region_with (go_at_call 32; refine (eqPiece_same _ _ _).mono ?_; rintro e w2 ⟨rfl, hb2⟩)
      all_goals
        go_wp2
        go_roundw
        case rel => exact ⟨k + 1, by have := unhide HK; omega, by go_num, hbel.drew.trans (hb2.mono hbel.size)⟩
        case measure => simp [intOf]; omega
    · clear ha hb
      go_wp2
      go_ret
      exact ⟨rfl, hbel⟩

end Go.Proofs.Ytlanjchckcbjcaa
