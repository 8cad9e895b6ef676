/- The program's heap of groups: two of them are swapped. -/
import Derived.Test.YtkkhaleiehnihaaHp1
import Derived.Test.YtkkhaleiehnihaaHq2
import Derived.BigRegion
namespace Go.Proofs.Ytkkhaleiehnihaa
open Go.RowKit Corb

theorem tcells_set (l : List Grp) (j : Nat) (x : Grp) : (((tcells l).set (j * 3) (.int .i64 x.cnt)).set (j * 3 + 1) (.int .i64 x.fst)).set (j * 3 + 2) x.val = tcells (l.set j x) := by
  induction l generalizing j with
  | nil => simp [tcells]
  | cons p l ih =>
    cases j with
    | zero => simp [tcells]
    | succ j =>
      rw [show (j + 1) * 3 = j * 3 + 1 + 1 + 1 by omega]
      simp only [tcells, List.set_cons_succ]
      rw [ih j]
theorem Trow.put {t : TypeId} {w : World} {base g cap n : Nat} {l : List Grp} (hn : l.length = n) (h : Trow t w base (.slice (some ⟨g, 0, none⟩) n cap) l) (j : Nat) (x : Grp) :
    Trow t (((w.setCell ⟨g, j * 3, none⟩ (.int .i64 x.cnt)).setCell ⟨g, j * 3 + 1, none⟩ (.int .i64 x.fst)).setCell ⟨g, j * 3 + 2, none⟩ x.val) base (.slice (some ⟨g, 0, none⟩) n cap) (l.set j x) := by
  subst hn
  have h1 := (World.ownsRow.stored h (j * 3) (.int .i64 x.cnt)).1
  have h2 := (World.ownsRow.stored h1 (j * 3 + 1) (.int .i64 x.fst)).1
  have h3 := (World.ownsRow.stored h2 (j * 3 + 2) x.val).1
  rw [tcells_set] at h3
  show World.ownsRow _ _ _ _ _ (l.set j x).length _
  rw [List.length_set]
  exact h3
theorem Trow.frozen {t : TypeId} {w : World} {base g cap n : Nat} {l : List Grp} (hn : l.length = n) (h : Trow t w base (.slice (some ⟨g, 0, none⟩) n cap) l) (j : Nat) : w.frozen? ⟨g, j, none⟩ = false := by
  subst hn; exact World.ownsRow.frozenAt h j
theorem Touch.drew {a : Option Addr} {w w' : World} (h : Touch a w w') : Touch a w w'.drew := h
theorem Trow.drew {t : TypeId} {w : World} {base : Nat} {v : Value} {l : List Grp} (h : Trow t w base v l) : Trow t w.drew base v l := h

theorem Heap.drew {w : World} {b base : Nat} {v : Value} {L : List Grp} (h : Heap w b base v L) : Heap w.drew b base v L := ⟨h.1, h.2.drew⟩
set_option maxHeartbeats 3200000 in
theorem swap_any (b base ob g n cap i j : Nat) (L : List Grp) (w : World) (hS : Syms w ob L) (hn : L.length = n) (hm : n ≤ 300) (h : Heap w b base (.slice (some ⟨g, 0, none⟩) n cap) L) (hbb : b < base) (hi : i < n) (hj : j < n) :
    Calls Try.prog 44 #[.pointer (some ⟨b, 0, none⟩), .int .i64 (i : Nat), .int .i64 (j : Nat)] w fun e w' => e = .returned (.tuple #[]) ∧ Heap w' b base (.slice (some ⟨g, 0, none⟩) n cap) (swapG L i j) ∧ Below b w w' ∧ KeepG g w w' := by
  have c0 := h.cell
  have hgl := (World.ownsRow.lt h.2 g rfl).1
  have hbg : b ≠ g := by omega
  obtain ⟨gc, hgc⟩ := own_block (n := n) (by have h2 := h.2; unfold Trow at h2; rw [hn] at h2; exact h2) rfl
  have HGC := hide hgc
  clear hgc
  obtain ⟨a0, a1, a2, _, hg⟩ := h.2.at hn i hi
  obtain ⟨d0, d1, d2, _, _⟩ := h.2.at hn j hj
  have f0 := h.2.frozen hn (i * 3)
  have f1 := h.2.frozen hn (i * 3 + 1)
  have f2 := h.2.frozen hn (i * 3 + 2)
  have k0 := h.2.frozen hn (j * 3)
  have k1 := h.2.frozen hn (j * 3 + 1)
  have k2 := h.2.frozen hn (j * 3 + 2)
  have hbw : b < w.heap.size := World.block_lt_of_cell? w ⟨b, 0, none⟩ c0
  obtain ⟨xa, xq, hxv⟩ := (hS (L.getD i g0) (getD_mem L i (by omega))).form
  obtain ⟨ya, yq, hyv⟩ := (hS (L.getD j g0) (getD_mem L j (by omega))).form
  have hiI : (i : Int) < (n : Int) := by omega
  have hjI : (j : Int) < (n : Int) := by omega
  have hmI : (n : Int) ≤ 300 := by omega
  rw [hxv] at a2
  rw [hyv] at d2
  have H := hide h
  have Hn := hide hn
  clear h hn hm hi hj hS
  have HX := hide hxv
  have HY := hide hyv
  have hgb : g ≠ b := fun e => hbg e.symm
  clear hxv hyv
  generalize hx : L.getD i g0 = x at *
  generalize hy : L.getD j g0 = y at *
  obtain ⟨xc, xf, xs, xv⟩ := x
  obtain ⟨yc, yf, ys, yv⟩ := y
  simp only at a0 a1 a2 d0 d1 d2
  generalize xs.length = xn at *
  generalize ys.length = yn at *
  have Hx := hide hx
  have Hy := hide hy
  clear hx hy
  go_enter Try.func44, Try.ntmps44
  go_wp2_with fail
  have ex : Hid (L.getD i g0 = ⟨xc, xf, xs, .slice xa xn xq⟩) := by
    have e : xv = .slice xa xn xq := unhide HX
    show L.getD i g0 = _
    rw [unhide Hx, e]
  have ey : Hid (L.getD j g0 = ⟨yc, yf, ys, .slice ya yn yq⟩) := by
    have e : yv = .slice ya yn yq := unhide HY
    show L.getD j g0 = _
    rw [unhide Hy, e]
  have hT := hide (Trow.put (by rw [List.length_set]; exact unhide Hn) (Trow.put (unhide Hn) (unhide H).2 i ⟨yc, yf, ys, .slice ya yn yq⟩) j ⟨xc, xf, xs, .slice xa xn xq⟩)
  have hTo := hide (((((((Touch.refl (some ⟨g, 0, none⟩) w).set (o := i * 3) rfl (.int .i64 yc)).set (o := i * 3 + 1) rfl (.int .i64 yf)).set (o := i * 3 + 2) rfl (.slice ya yn yq)).set (o := j * 3) rfl (.int .i64 xc)).set (o := j * 3 + 1) rfl (.int .i64 xf)).set (o := j * 3 + 2) rfl (.slice xa xn xq))
  have hBe := hide ((below_set (below_set (below_set (below_set (below_set (below_set (Below.refl b w) (b := g) (o := i * 3) (by omega) (.int .i64 yc)) (b := g) (o := i * 3 + 1) (by omega) (.int .i64 yf)) (b := g) (o := i * 3 + 2) (by omega) (.slice ya yn yq)) (b := g) (o := j * 3) (by omega) (.int .i64 xc)) (b := g) (o := j * 3 + 1) (by omega) (.int .i64 xf)) (b := g) (o := j * 3 + 2) (by omega) (.slice xa xn xq)))
  have hKe := hide (KeepG.touch (unhide HGC) (by decide) (unhide hTo))
  have hCe := hide (((unhide hTo).2 b (fun g' e => by simp only [Option.some.injEq, Addr.mk.injEq, and_true] at e; omega)).trans (unhide H).1)
  have hAll : Hid (Heap ((((((w.setCell ⟨g, i * 3, none⟩ (.int .i64 yc)).setCell ⟨g, i * 3 + 1, none⟩ (.int .i64 yf)).setCell ⟨g, i * 3 + 2, none⟩ (.slice ya yn yq)).setCell ⟨g, j * 3, none⟩ (.int .i64 xc)).setCell ⟨g, j * 3 + 1, none⟩ (.int .i64 xf)).setCell ⟨g, j * 3 + 2, none⟩ (.slice xa xn xq)) b base (.slice (some ⟨g, 0, none⟩) n cap) ((L.set i ⟨yc, yf, ys, .slice ya yn yq⟩).set j ⟨xc, xf, xs, .slice xa xn xq⟩)) := ⟨unhide hCe, unhide hT⟩
  clear H
  have hSw : Hid (swapG L i j = (L.set i ⟨yc, yf, ys, .slice ya yn yq⟩).set j ⟨xc, xf, xs, .slice xa xn xq⟩) := by
    show swapG L i j = _
    unfold swapG
    rw [unhide ex, unhide ey]
  by_cases hij : i = j
  · subst hij
    have exy := (unhide ex).symm.trans (unhide ey)
    simp only [Grp.mk.injEq, Value.slice.injEq] at exy
    obtain ⟨rfl, rfl, rfl, rfl, rfl, rfl⟩ := exy
    go_region
    all_goals
      go_wp2
      go_end0
      refine ⟨rfl, ?_, (unhide hBe).drew, (unhide hKe).drew⟩
      rw [unhide hSw]
      exact (unhide hAll).drew
  · have hji : ¬ j = i := fun e => hij e.symm
    have q1 : ¬ j * 3 = i * 3 + 1 := by omega
    have q2 : ¬ j * 3 = i * 3 + 2 := by omega
    have q3 : ¬ j * 3 + 1 = i * 3 := by omega
    have q4 : ¬ j * 3 + 1 = i * 3 + 2 := by omega
    have q5 : ¬ j * 3 + 2 = i * 3 := by omega
    have q6 : ¬ j * 3 + 2 = i * 3 + 1 := by omega
    have q7 : ¬ j * 3 = i * 3 := by omega
    have q8 : ¬ j * 3 + 1 = i * 3 + 1 := by omega
    have q9 : ¬ j * 3 + 2 = i * 3 + 2 := by omega
    go_region
    all_goals
      go_wp2
      go_end0
      refine ⟨rfl, ?_, (unhide hBe).drew, (unhide hKe).drew⟩
      rw [unhide hSw]
      exact (unhide hAll).drew

end Go.Proofs.Ytkkhaleiehnihaa
