/- What the program's writer of bits holds, and its contract, over this seat's program. -/
import Derived.Test.YtmocfpjcknmhlaaPo4
namespace Go.Proofs.Ytmocfpjcknmhlaa
open Go.RowKit Corb

theorem Two.kept {w w' : World} {b : Nat} {v0 v1 : Value} (h : Two w b v0 v1) (hb : Below (b + 1) w w') : Two w' b v0 v1 := by
  obtain ⟨c0, c1, f0, f1, hlt⟩ := h
  have hs := Nat.lt_succ_self b
  exact ⟨(hb.cell (p := ⟨b, 0, none⟩) hs).trans c0, (hb.cell (p := ⟨b, 1, none⟩) hs).trans c1, (hb.frozen (p := ⟨b, 0, none⟩) hs).trans f0, (hb.frozen (p := ⟨b, 1, none⟩) hs).trans f1, Nat.lt_of_lt_of_le hlt hb.size⟩

/-- The program's writer: the number V of m bits. -/
def WOut (w : World) (b V m : Nat) : Prop :=
  V < p2 m ∧ ∃ v, Two w b v (.int .i64 (m : Int)) ∧ Bys w b v (leS ((m + 7) / 8) V)

theorem push_two {w W2 WA w' : World} {b : Nat} {v v' v1 : Value} {l : List UInt8} {x : UInt8} (T2 : Two W2 b v v1) (Y2 : Bys W2 b v l) (B2 : Below b w W2)
    (hWA : Below (b + 1) W2 WA) (hown : w'.ownsRow (b + 1) 5 1 v' (l.length + 1) (bcells l ++ [.int .u8 (x.toNat : Int)])) (hgrow : WA.grownBy w' v.ownBlock) :
    (∃ g cap, v' = .slice (some ⟨g, 0, none⟩) (l.length + 1) cap) ∧ Two w' b v v1 ∧ Bys w' b v' (l ++ [x]) ∧ Below b w w' := by
  have hlt := T2.2.2.2.2
  have hlt2 := Nat.lt_of_lt_of_le hlt hWA.size
  have hblk : ∀ k, v.ownBlock = some k → b + 1 ≤ k := fun k hk => (Y2.lt k hk).1
  have hb : Below (b + 1) W2 w' := hWA.grown hgrow (by omega) hblk
  refine ⟨?_, T2.kept hb, ?_, B2.trans (hb.mono (by omega))⟩
  · rcases hown.2 with ⟨_, h0⟩ | ⟨g, cap, _, e, _⟩
    · omega
    · exact ⟨g, cap, e⟩
  · show w'.ownsRow (b + 1) 5 1 v' (l ++ [x]).length (bcells (l ++ [x]))
    simpa [bcells] using hown

/-- A byte of the row, and another one in its place. -/
theorem Bys.at {w : World} {b g cap j : Nat} {l : List UInt8} (h : Bys w b (.slice (some ⟨g, 0, none⟩) l.length cap) l) (hj : j < l.length) :
    w.cell? ⟨g, j, none⟩ = some (.int .u8 ((l.getD j 0).toNat : Int)) ∧ w.frozen? ⟨g, j, none⟩ = false ∧ b < g := by
  refine ⟨?_, World.ownsRow.frozenAt h j, (World.ownsRow.lt h g rfl).1⟩
  rw [World.ownsRow.cellAt h j (by omega)]
  simp [bcells, hj, List.getD]
theorem Bys.put {w : World} {b g cap j : Nat} {l : List UInt8} (h : Bys w b (.slice (some ⟨g, 0, none⟩) l.length cap) l) (x : UInt8) :
    Bys (w.setCell ⟨g, j, none⟩ (.int .u8 (x.toNat : Int))) b (.slice (some ⟨g, 0, none⟩) l.length cap) (l.set j x) := by
  have := World.ownsRow.stored h j (.int .u8 (x.toNat : Int))
  show World.ownsRow _ _ _ _ _ (l.set j x).length (bcells (l.set j x))
  rw [List.length_set]
  have e : bcells (l.set j x) = (bcells l).set j (.int .u8 (x.toNat : Int)) := by simp [bcells, List.map_set]
  rw [e]
  exact this.1

theorem wset (V m x : Nat) (hV : V < p2 m) (hx : x ≤ 1) :
    V + x * p2 m < p2 (m + 1) ∧ leS ((m + 1 + 7) / 8) (V + x * p2 m) = (leS (m / 8 + 1) V).set (m / 8) (UInt8.ofNat (V / p2 (8 * (m / 8)) + x * p2 (m % 8))) := by
  refine ⟨add_lt V x m hV hx, ?_⟩
  rw [show (m + 1 + 7) / 8 = m / 8 + 1 by omega]
  exact leS_set (m / 8) V x m rfl hx hV
theorem wpad (V m : Nat) (hV : V < p2 m) (hr : m % 8 = 0) : leS ((m + 7) / 8) V ++ [0] = leS (m / 8 + 1) V := by
  rw [show (m + 7) / 8 = m / 8 by omega]
  exact (leS_pad (m / 8) V (by rw [show 8 * (m / 8) = m by omega]; exact hV)).symm
theorem wsame (V m : Nat) (hr : m % 8 ≠ 0) : leS ((m + 7) / 8) V = leS (m / 8 + 1) V := by
  rw [show (m + 7) / 8 = m / 8 + 1 by omega]
theorem wbyte (V m : Nat) (hV : V < p2 m) : ((leS (m / 8 + 1) V).getD (m / 8) 0).toNat = V / p2 (8 * (m / 8)) := by
  rw [leS_get _ _ _ (by omega)]
  have h1 := last_bd V m hV
  have h2 := p2_le (m % 8) 7 (by omega)
  have h3 : p2 7 = 128 := rfl
  have e : V / 2 ^ (8 * (m / 8)) % 256 = V / p2 (8 * (m / 8)) := Nat.mod_eq_of_lt (by show V / p2 (8 * (m / 8)) < 256; omega)
  rw [e, byte_val _ (by omega)]

/-- A piece in a box of its own. -/
def Box (w : World) (P : Nat) (x y : Int) : Prop := w.heap[P]? = some (.cells #[.int .i64 x, .int .i64 y] 27)
theorem box_new (w : World) (x y : Int) : Box (w.alloc (.cells #[.int .i64 x, .int .i64 y] 27)) w.heap.size x y := by
  show (w.heap.push _)[w.heap.size]? = _
  simp
theorem Box.cells {w : World} {P : Nat} {x y : Int} (h : Box w P x y) : w.cell? ⟨P, 0, none⟩ = some (.int .i64 x) ∧ w.cell? ⟨P, 1, none⟩ = some (.int .i64 y) ∧ P < w.heap.size := by
  refine ⟨by simp [World.cell?, show w.heap[P]? = _ from h], by simp [World.cell?, show w.heap[P]? = _ from h], ?_⟩
  have h' : w.heap[P]? = some _ := h
  exact (Array.getElem?_eq_some_iff.1 h').1
theorem Box.ne {w : World} {P b : Nat} {x y : Int} {v : Value} {l : List UInt8} (h : Box w P x y) (hy : Bys w b v l) (k : Nat) (hk : v.ownBlock = some k) : k ≠ P := by
  rintro rfl
  rcases hy.2 with ⟨e, _⟩ | ⟨g, cap, cur, e, _, hg, _⟩
  · subst e; simp [Value.ownBlock] at hk
  · subst e
    simp only [Value.ownBlock, Option.some.injEq] at hk
    subst hk
    have h' : w.heap[g]? = some (.cells #[.int .i64 x, .int .i64 y] 27) := h
    rw [h'] at hg
    simp at hg
theorem Box.set {w : World} {P b o : Nat} {x y : Int} (h : Box w P x y) (hb : b ≠ P) (u : Value) : Box (w.setCell ⟨b, o, none⟩ u) P x y := by
  show (w.setCell ⟨b, o, none⟩ u).heap[P]? = _
  rw [Below.heap_setCell w ⟨b, o, none⟩ u P (fun e => hb e.symm)]
  exact h
theorem Box.drew {w : World} {P : Nat} {x y : Int} (h : Box w P x y) : Box w.drew P x y := h
theorem Box.alloc {w : World} {P : Nat} {x y : Int} (h : Box w P x y) (o : Obj) : Box (w.alloc o) P x y := by
  show (w.alloc o).heap[P]? = _
  rw [Below.heap_alloc w o P h.cells.2.2]
  exact h
theorem Box.grown {w w' : World} {P b : Nat} {x y : Int} {v : Value} {l : List UInt8} (h : Box w P x y) (hy : Bys w b v l) (hg : w.grownBy w' v.ownBlock) : Box w' P x y := by
  show w'.heap[P]? = _
  rw [hg.block P h.cells.2.2 (fun e => h.ne hy P e.symm rfl)]
  exact h

/-- What was there is there, but for one block and rows of bytes. -/
def Keep5 (b : Nat) (w w' : World) : Prop := w.heap.size ≤ w'.heap.size ∧ ∀ k, k < w.heap.size → k ≠ b → (∀ cur fr, w.heap[k]? ≠ some (.cells cur 5 fr)) → w'.heap[k]? = w.heap[k]?
theorem Keep5.refl (b : Nat) (w : World) : Keep5 b w w := ⟨Nat.le_refl _, fun _ _ _ _ => rfl⟩
theorem Keep5.trans {b : Nat} {w w1 w2 : World} (h : Keep5 b w w1) (k : Keep5 b w1 w2) : Keep5 b w w2 :=
  ⟨Nat.le_trans h.1 k.1, fun j hj hb ht => by
    have e := h.2 j hj hb ht
    rw [k.2 j (Nat.lt_of_lt_of_le hj h.1) hb (fun cur fr => by rw [e]; exact ht cur fr), e]⟩
theorem Keep5.drew {b : Nat} {w w' : World} (h : Keep5 b w w') : Keep5 b w w'.drew := h
theorem Keep5.alloc {b : Nat} {w w' : World} (h : Keep5 b w w') (o : Obj) : Keep5 b w (w'.alloc o) :=
  h.trans ⟨by simp, fun j hj _ _ => Below.heap_alloc w' o j hj⟩
theorem Keep5.set {b o : Nat} {w w' : World} (h : Keep5 b w w') (u : Value) : Keep5 b w (w'.setCell ⟨b, o, none⟩ u) :=
  h.trans ⟨by simp, fun j _ hb _ => Below.heap_setCell w' ⟨b, o, none⟩ u j hb⟩
theorem Keep5.setRow {b c g j cap : Nat} {w w' : World} {l : List UInt8} (h : Keep5 b w w') (hy : Bys w' c (.slice (some ⟨g, 0, none⟩) l.length cap) l) (u : Value) : Keep5 b w (w'.setCell ⟨g, j, none⟩ u) := by
  refine h.trans ⟨by simp, fun k _ _ ht => ?_⟩
  by_cases e : k = g
  · subst e
    rcases hy.2 with ⟨e, _⟩ | ⟨g', cap', cur, e, _, hg, _⟩
    · simp at e
    · simp only [Value.slice.injEq, Option.some.injEq, Addr.mk.injEq, and_true, true_and] at e
      obtain ⟨rfl, _⟩ := e
      exact absurd hg (ht cur (0, 0))
  · exact Below.heap_setCell w' ⟨g, j, none⟩ u k e
theorem Keep5.grown {b c : Nat} {w w' w'' : World} {v : Value} {l : List UInt8} (h : Keep5 b w w') (hy : Bys w' c v l) (hg : w'.grownBy w'' v.ownBlock) : Keep5 b w w'' := by
  refine h.trans ⟨hg.size, fun k hk _ ht => ?_⟩
  refine hg.block k hk (fun e => ?_)
  rcases hy.2 with ⟨e', _⟩ | ⟨g', cap', cur, e', _, hg', _⟩
  · subst e'; simp [Value.ownBlock] at e
  · subst e'
    simp only [Value.ownBlock, Option.some.injEq] at e
    subst e
    exact ht cur (0, 0) hg'

end Go.Proofs.Ytmocfpjcknmhlaa
