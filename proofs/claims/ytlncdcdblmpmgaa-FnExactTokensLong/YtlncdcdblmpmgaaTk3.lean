/- A row of tokens that is handed in: opened, cell by cell, over this seat's program. -/
import Derived.Test.YtlncdcdblmpmgaaTk1
import Derived.Deep.Slices
import Derived.ChangeSame
namespace Go.Proofs.Ytlncdcdblmpmgaa
open Go.RowKit Go.Deep Go.ChangeShapes Go.WideShapes

theorem triples_cells {H : Type} {enc : TypeId × Value → H} {P : Program} {w : World} {base : Nat} {spare : Nat → Bool} {held : Bool} {t e : TypeId} {f0 f1 f2 : Field} {fuel : Nat} {cs : List Value} {x : DataW H × List MemPlace} {ti : TypeId}
    (ht : P.underlying t = some (.slice e)) (he : P.underlying e = some (.struct #[f0, f1, f2])) (hi : P.underlying ti = some (.int .i64))
    (ce : P.cellsOf e = 3) (o0 : f0.offset = 0) (o1 : f1.offset = 1) (o2 : f2.offset = 2) (t0 : f0.type = ti) (t1 : f1.type = ti) (t2 : f2.type = ti) (ci : P.cellsOf ti = 1)
    (h : DataW.trod enc P w base spare held fuel t cs = some x) :
    cs = [.slice none 0 0] ∨ ∃ (a : Addr) (len cap : Nat), cs = [.slice (some a) len cap] ∧ len ≤ cap ∧ cap ≤ maxLen ∧
      ∀ i, i < len → ∃ p : Tk, w.cell? (a.add (i * 3)) = some (.int .i64 p.1) ∧ w.cell? (a.add (i * 3 + 1)) = some (.int .i64 p.2.1) ∧ w.cell? (a.add (i * 3 + 2)) = some (.int .i64 p.2.2) := by
  rcases open_slice ht h with ⟨h0, _⟩ | ⟨a, len, cap, m, n, D, Pl, rfl, hb, hl, hm, hmm, rfl, hx⟩
  · exact .inl h0
  · refine .inr ⟨a, len, cap, rfl, hl, hm, fun i hi' => ?_⟩
    have hlm : len ≤ m := by rw [hmm]; split <;> omega
    obtain ⟨cs', h1, h2⟩ := hx i (by omega)
    rw [ce] at h1
    obtain ⟨_, hlen, hcell⟩ := World.cells?_some h1
    obtain ⟨xs, k, hk, hxy, _, hxl, hf⟩ := DataW.trod_struct he h2
    match xs, hxl, cs', hlen with
    | [y0, y1, y2], _, [v0, v1, v2], _ =>
      have g0 := hf 0 f0 rfl
      have g1 := hf 1 f1 rfl
      have g2 := hf 2 f2 rfl
      simp [o0, t0, ci] at g0
      simp [o1, t1, ci] at g1
      simp [o2, t2, ci] at g2
      have e0 := hcell 0 (by omega)
      have e1 := hcell 1 (by omega)
      have e2 := hcell 2 (by omega)
      rw [add_add] at e0 e1 e2
      obtain ⟨p0, q0, _, _⟩ := DataW.trod_int hi g0
      obtain ⟨p1, q1, _, _⟩ := DataW.trod_int hi g1
      obtain ⟨p2, q2, _, _⟩ := DataW.trod_int hi g2
      simp at q0 q1 q2
      subst q0 q1 q2
      exact ⟨(p0, p1, p2), by simpa using e0, by simpa using e1, by simpa using e2⟩
theorem triples_row {W : World} {x : Addr} {len : Nat} (hc : ∀ i, i < len → ∃ p : Tk, W.cell? (x.add (i * 3)) = some (.int .i64 p.1) ∧ W.cell? (x.add (i * 3 + 1)) = some (.int .i64 p.2.1) ∧ W.cell? (x.add (i * 3 + 2)) = some (.int .i64 p.2.2)) :
    ∃ l, KRow W (some x) l ∧ l.length = len := by
  obtain ⟨f, hf⟩ := choose_lt (α := Tk) hc
  refine ⟨(List.range len).map f, fun h0 => ?_, by simp⟩
  have h0' : 0 < len := by simpa using h0
  obtain ⟨b, off, spot⟩ := x
  have hc0 := (hf 0 (by omega)).1
  have hspot : spot = none := by simpa [Addr.add] using World.cell?_spot hc0
  subst hspot
  refine ⟨b, off, rfl, by have := World.block_lt_of_cell? _ _ hc0; simpa [Addr.add] using this, fun i hi => ?_⟩
  have hi' : i < len := by simpa using hi
  obtain ⟨c0, c1, c2⟩ := hf i hi'
  have g : ((List.range len).map f).getD i k0 = f i := by simp [List.getD, hi']
  rw [g]
  refine ⟨?_, ?_, ?_⟩
  · by_cases z : i = 0
    · subst z; simpa [Addr.add] using c0
    · simpa [Addr.add, show i * 3 ≠ 0 by omega] using c0
  · simpa [Addr.add, Nat.add_assoc] using c1
  · simpa [Addr.add, Nat.add_assoc] using c2

end Go.Proofs.Ytlncdcdblmpmgaa
