/- Rows of files appended in a region that draws its order: what each step leaves. -/
import Derived.Test.YtjldafkcolmfeaaDoorTg2
namespace Go.Proofs.YtjldafkcolmfeaaDoor
open Go.RowKit
set_option maxRecDepth 100000

/-- A row of files at the beginning of a block, of the call's own or not. -/
def FBlk (w : World) (g : Nat) (l : List Fl) : Prop := g < w.heap.size ∧ ∀ j, j < l.length * 2 → w.cell? ⟨g, j, none⟩ = (l.flatMap encF)[j]?
theorem FBlk.later {w w' : World} {g : Nat} {l : List Fl} (h : FBlk w g l) (hb : Below w.heap.size w w') : FBlk w' g l := ⟨Nat.lt_of_lt_of_le h.1 hb.size, fun j hj => by rw [hb.cell (p := ⟨g, j, none⟩) h.1]; exact h.2 j hj⟩
theorem FBlk.at {w : World} {g : Nat} {l : List Fl} (h : FBlk w g l) (i : Nat) (hi : i < l.length) : w.cell? ⟨g, i * 2, none⟩ = some (.string (l.getD i default).p) := by
  have e := flat_get encF_len l default i 0 hi (by omega)
  rw [Nat.add_zero] at e
  rw [h.2 _ (by omega), e]
  rfl
theorem own_fblk {w : World} {base g cap : Nat} {l : List Fl} (h : FOwn w base (.slice (some ⟨g, 0, none⟩) l.length cap) l) : FBlk w g l := by
  refine ⟨(World.ownsRow.lt h g rfl).2, fun j hj => ?_⟩
  rw [World.ownsRow.cellAt h j hj]
/-- Where such a region stands: what was there is there, a box of a file too. -/
structure PSt (w : World) (p t : ByteArray) (W : World) : Prop where
  below : Below w.heap.size w W
  lt : w.heap.size < W.heap.size
  c0 : W.cell? ⟨w.heap.size, 0, none⟩ = some (.string p)
  c1 : W.cell? ⟨w.heap.size, 1, none⟩ = some (.string t)
theorem PSt.drew {w W : World} {p t : ByteArray} (h : PSt w p t W) : PSt w p t W.drew := ⟨h.1.drew, h.2, h.3, h.4⟩
theorem PSt.drewN {w W : World} {p t : ByteArray} (h : PSt w p t W) (n : Nat) : PSt w p t (W.drewN n) := ⟨below_drewN h.1 n, h.2, h.3, h.4⟩
theorem PSt.alloc {w W : World} {p t : ByteArray} (h : PSt w p t W) (o : Obj) : PSt w p t (W.alloc o) := by
  have hb : Below W.heap.size W (W.alloc o) := (Below.refl _ _).alloc (Nat.le_refl _) _
  exact ⟨h.1.alloc (Nat.le_of_lt h.2) o, Nat.lt_of_lt_of_le h.2 hb.size, by rw [hb.cell (p := ⟨w.heap.size, 0, none⟩) h.2]; exact h.3, by rw [hb.cell (p := ⟨w.heap.size, 1, none⟩) h.2]; exact h.4⟩
theorem PSt.grown {w W W' : World} {p t : ByteArray} {v : Value} {n : Nat} {xs : List Value} (h : PSt w p t W) (ho : W.ownsRow (w.heap.size + 1) 31 2 v n xs) (hg : W.grownBy W' v.ownBlock) : PSt w p t W' := by
  have hne : some w.heap.size ≠ v.ownBlock := fun e => by have := (World.ownsRow.lt ho _ e.symm).1; omega
  have hk := hg.block w.heap.size h.2 hne
  exact ⟨h.1.grown hg (Nat.le_of_lt h.2) (fun k e => by have := (World.ownsRow.lt ho k e).1; omega), Nat.lt_of_lt_of_le h.2 hg.size, by rw [World.cell?_of_block (w := W) hk (a := ⟨w.heap.size, 0, none⟩)]; exact h.3, by rw [World.cell?_of_block (w := W) hk (a := ⟨w.heap.size, 1, none⟩)]; exact h.4⟩
/-- A file of its own in a block. -/
def OneB (W : World) (b G : Nat) (p t : ByteArray) : Prop := b ≤ G ∧ G < W.heap.size ∧ W.cell? ⟨G, 0, none⟩ = some (.string p) ∧ W.cell? ⟨G, 1, none⟩ = some (.string t)
theorem OneB.new (W : World) (b : Nat) (hb : b ≤ W.heap.size) (p t : ByteArray) (ty : TypeId) : OneB (W.alloc (.cells #[.string p, .string t] ty)) b W.heap.size p t := ⟨hb, by simp, by simp, by simp⟩
theorem OneB.alloc {W : World} {b G : Nat} {p t : ByteArray} (h : OneB W b G p t) (o : Obj) : OneB (W.alloc o) b G p t := by
  have hb : Below W.heap.size W (W.alloc o) := (Below.refl _ _).alloc (Nat.le_refl _) _
  exact ⟨h.1, Nat.lt_of_lt_of_le h.2.1 hb.size, by rw [hb.cell (p := ⟨G, 0, none⟩) h.2.1]; exact h.2.2.1, by rw [hb.cell (p := ⟨G, 1, none⟩) h.2.1]; exact h.2.2.2⟩
theorem OneB.grown {W W' : World} {b G : Nat} {p t : ByteArray} {row : Option Nat} (h : OneB W b G p t) (hg : W.grownBy W' row) (hne : some G ≠ row) : OneB W' b G p t := by
  have hk := hg.block G h.2.1 hne
  exact ⟨h.1, Nat.lt_of_lt_of_le h.2.1 hg.size, by rw [World.cell?_of_block (w := W) hk (a := ⟨G, 0, none⟩)]; exact h.2.2.1, by rw [World.cell?_of_block (w := W) hk (a := ⟨G, 1, none⟩)]; exact h.2.2.2⟩
theorem OneB.news {W : World} {b G : Nat} {p t : ByteArray} (h : OneB W b G p t) : ∀ j u, (encF ⟨p, t⟩)[j]? = some u → W.cell? ((⟨G, 0, none⟩ : Addr).add j) = some u := by
  intro j u hj
  match j, hj with
  | 0, hj => simp [encF] at hj; subst hj; simpa [Addr.add] using h.2.2.1
  | 1, hj => simp [encF] at hj; subst hj; simpa [Addr.add] using h.2.2.2
theorem take_news {W : World} {g : Nat} {l : List Fl} (h : FBlk W g l) (k : Nat) : ∀ j u, ((l.take k).flatMap encF)[j]? = some u → W.cell? ((⟨g, 0, none⟩ : Addr).add j) = some u := by
  intro j u hj
  rw [flat_take, List.getElem?_take] at hj
  split at hj
  · have hlt : j < (l.flatMap encF).length := (List.getElem?_eq_some_iff.1 hj).1
    rw [flat_len encF_len] at hlt
    have e : (⟨g, 0, none⟩ : Addr).add j = ⟨g, j, none⟩ := by unfold Addr.add; split <;> simp_all
    rw [e, h.2 _ hlt, hj]
  · cases hj

end Go.Proofs.YtjldafkcolmfeaaDoor
