/- Rows of structs of the call's own, whatever the struct: where they lie, how one is stored, one more behind. -/
import Derived.Test.YtjldafkcolmfeaaDoorMem
import Derived.Test.YtjldafkcolmfeaaDoorIi1
namespace Go.Proofs.YtjldafkcolmfeaaDoor
open Go.RowKit

section
variable {α : Type} {f : α → List Value} {c : Nat}
theorem flat_len (hf : ∀ x, (f x).length = c) (l : List α) : (l.flatMap f).length = l.length * c := by
  induction l with
  | nil => simp
  | cons x l ih => simp only [List.flatMap_cons, List.length_append, hf, ih, List.length_cons]; rw [Nat.add_mul, Nat.one_mul, Nat.add_comm]
theorem flat_get (hf : ∀ x, (f x).length = c) (l : List α) (d : α) (i j : Nat) (hi : i < l.length) (hj : j < c) : (l.flatMap f)[i * c + j]? = (f (l.getD i d))[j]? := by
  induction l generalizing i with
  | nil => simp at hi
  | cons x l ih =>
    simp only [List.flatMap_cons]
    cases i with
    | zero => rw [Nat.zero_mul, Nat.zero_add, List.getElem?_append_left (by rw [hf]; exact hj)]; simp
    | succ i =>
      have hi' : i < l.length := by simpa using hi
      have e1 : (i + 1) * c + j = c + (i * c + j) := by rw [Nat.add_mul, Nat.one_mul]; omega
      rw [List.getElem?_append_right (by rw [hf, e1]; omega), hf, e1, Nat.add_sub_cancel_left, ih i hi']
      simp
/-- Cells that are stored one behind the other. -/
def setMany (w : World) (g : Nat) : Nat → List Value → World
  | _, [] => w
  | o, v :: vs => setMany (w.setCell ⟨g, o, none⟩ v) g (o + 1) vs
def setL (xs : List Value) : Nat → List Value → List Value
  | _, [] => xs
  | o, v :: vs => setL (xs.set o v) (o + 1) vs
theorem setL_eq (vs xs : List Value) (o : Nat) (h : o + vs.length ≤ xs.length) : setL xs o vs = xs.take o ++ vs ++ xs.drop (o + vs.length) := by
  induction vs generalizing xs o with
  | nil => simp [setL]
  | cons v vs ih =>
    simp only [List.length_cons] at h
    rw [setL, ih _ _ (by rw [List.length_set]; omega)]
    have e1 : (xs.set o v).take (o + 1) = xs.take o ++ [v] := by
      rw [List.take_set]
      apply List.ext_getElem?
      intro i
      by_cases hi : i < o
      · simp [List.getElem?_set, List.getElem?_append, List.getElem?_take, hi]
        rw [if_neg (by omega), if_pos (by omega), if_pos (by omega)]
      · by_cases he : i = o
        · subst he
          simp [List.getElem?_set, List.getElem?_append, List.length_take]
          rw [if_pos (by omega), if_neg (by omega), show i - min i xs.length = 0 by omega]; rfl
        · rw [List.getElem?_eq_none (by simp; omega), List.getElem?_eq_none (by simp; omega)]
    have e2 : (xs.set o v).drop (o + 1 + vs.length) = xs.drop (o + (vs.length + 1)) := by
      rw [List.drop_set, if_pos (by omega)]
      congr 1; omega
    rw [e1, e2]
    simp
theorem flat_set (hf : ∀ x, (f x).length = c) (l : List α) (j : Nat) (x : α) (hj : j < l.length) : setL (l.flatMap f) (j * c) (f x) = (l.set j x).flatMap f := by
  have hle : j * c + c ≤ l.length * c := by
    have : (j + 1) * c ≤ l.length * c := Nat.mul_le_mul_right c hj
    rw [Nat.add_mul, Nat.one_mul] at this; exact this
  rw [setL_eq _ _ _ (by rw [flat_len hf, hf]; exact hle)]
  have hl : l = l.take j ++ l[j] :: l.drop (j + 1) := by rw [List.getElem_cons_drop, List.take_append_drop]
  have hs : l.set j x = l.take j ++ x :: l.drop (j + 1) := by rw [List.set_eq_take_append_cons_drop, if_pos hj]
  have hA : (List.flatMap f (l.take j)).length = j * c := by rw [flat_len hf, List.length_take, Nat.min_eq_left (by omega)]
  rw [hs]
  conv => lhs; rw [hl]
  simp only [List.flatMap_append, List.flatMap_cons]
  rw [List.take_append_of_le_length (by omega), List.take_of_length_le (by omega)]
  rw [← List.append_assoc, List.drop_append, List.drop_of_length_le (by simp only [List.length_append, hA, hf]; omega)]
  simp only [List.length_append, hA, hf, Nat.sub_self, List.drop_zero, List.nil_append, List.append_assoc]
/-- Structs of the call's own. -/
def GOwn (T : TypeId) (c : Nat) (f : α → List Value) (w : World) (base : Nat) (v : Value) (l : List α) : Prop := w.ownsRow base T c v l.length (l.flatMap f)
variable {T : TypeId}
theorem GOwn.form {w : World} {base : Nat} {v : Value} {l : List α} (h : GOwn T c f w base v l) : ∃ a cap, v = .slice a l.length cap ∧ l.length ≤ cap ∧ cap ≤ maxLen := by
  rcases h.2 with ⟨e, h0⟩ | ⟨g, cap, _, e, _, _, h1, h2, _⟩
  · exact ⟨none, 0, by rw [e, h0], by omega, Nat.zero_le _⟩
  · exact ⟨_, cap, e, h1, h2⟩
theorem GOwn.formN {w : World} {base n : Nat} {v : Value} {l : List α} (hn : l.length = n) (h : GOwn T c f w base v l) : ∃ a cap, v = .slice a n cap ∧ n ≤ cap ∧ cap ≤ maxLen := by
  subst hn; exact h.form
theorem GOwn.later {w w' : World} {base B : Nat} {v : Value} {l : List α} (h : GOwn T c f w base v l) (hb : Below B w w') (hB : w.heap.size ≤ B) : GOwn T c f w' base v l :=
  World.ownsRow.kept h (row := none) ⟨hb.os, hb.tape, hb.output, hb.size, fun k hk _ => hb.block k (by omega)⟩ (by
    cases hv : v.ownBlock with
    | none => exact .inl rfl
    | some k => exact .inr (by simp))
theorem GOwn.mono {w : World} {base base' : Nat} {v : Value} {l : List α} (h : GOwn T c f w base v l) (hb : base' ≤ base) : GOwn T c f w base' v l := by
  refine ⟨h.1, ?_⟩
  rcases h.2 with hn | ⟨g, cap, cur, e, hbg, rest⟩
  · exact .inl hn
  · exact .inr ⟨g, cap, cur, e, Nat.le_trans hb hbg, rest⟩
theorem GOwn.own {w : World} {base n : Nat} {v : Value} {l : List α} (hn : l.length = n) (h : GOwn T c f w base v l) : w.ownsRow base T c v n (l.flatMap f) := by
  subst hn; exact h
theorem GOwn.somes {w : World} {base cap n : Nat} {a : Option Addr} {l : List α} (h : GOwn T c f w base (.slice a n cap) l) (hl : 0 < l.length) : ∃ g, a = some ⟨g, 0, none⟩ := by
  rcases h.2 with ⟨_, e⟩ | ⟨g, cap', cur, e, _⟩
  · omega
  · simp only [Value.slice.injEq] at e
    exact ⟨g, e.1⟩
theorem GOwn.below {w : World} {base cap n g : Nat} {l : List α} (h : GOwn T c f w base (.slice (some ⟨g, 0, none⟩) n cap) l) : base ≤ g ∧ g < w.heap.size := World.ownsRow.lt h g rfl
theorem GOwn.at (hf : ∀ x, (f x).length = c) {w : World} {base g cap n : Nat} {l : List α} (d : α) (hn : l.length = n) (h : GOwn T c f w base (.slice (some ⟨g, 0, none⟩) n cap) l) (i j : Nat) (hi : i < n) (hj : j < c) :
    w.cell? ⟨g, i * c + j, none⟩ = (f (l.getD i d))[j]? ∧ w.frozen? ⟨g, i * c + j, none⟩ = false := by
  subst hn
  refine ⟨?_, World.ownsRow.frozenAt h _⟩
  rw [← flat_get hf l d i j hi hj]
  refine World.ownsRow.cellAt h _ ?_
  have : (i + 1) * c ≤ l.length * c := Nat.mul_le_mul_right c hi
  rw [Nat.add_mul, Nat.one_mul] at this; omega
theorem own_setMany {w : World} {base g cap n : Nat} {xs : List Value} (vs : List Value) (o : Nat) (h : w.ownsRow base T c (.slice (some ⟨g, 0, none⟩) n cap) n xs) : (setMany w g o vs).ownsRow base T c (.slice (some ⟨g, 0, none⟩) n cap) n (setL xs o vs) := by
  induction vs generalizing w o xs with
  | nil => exact h
  | cons v vs ih => exact ih (o + 1) (World.ownsRow.stored h o v).1
theorem GOwn.put (hf : ∀ x, (f x).length = c) {w : World} {base g cap n : Nat} {l : List α} (hn : l.length = n) (h : GOwn T c f w base (.slice (some ⟨g, 0, none⟩) n cap) l) (j : Nat) (hj : j < n) (x : α) :
    GOwn T c f (setMany w g (j * c) (f x)) base (.slice (some ⟨g, 0, none⟩) n cap) (l.set j x) := by
  subst hn
  have := own_setMany (f x) (j * c) h
  rw [flat_set hf l j x hj] at this
  show World.ownsRow _ _ _ _ _ (l.set j x).length _
  rw [List.length_set]
  exact this
theorem below_many {b g : Nat} {w0 w : World} (hb : Below b w0 w) (hg : b ≤ g) (vs : List Value) (o : Nat) : Below b w0 (setMany w g o vs) := by
  induction vs generalizing w o with
  | nil => exact hb
  | cons v vs ih => exact ih (below_set hb hg v) (o + 1)
theorem GOwn.nil (w : World) (base : Nat) : GOwn T c f w base (.slice none 0 0) [] := World.ownsRow_nil _ _ _ _
theorem GOwn.snoc {x : World} {base n : Nat} {v : Value} {l : List α} {a : α} (hn : l.length = n) (h : x.ownsRow base T c v (n + 1) (l.flatMap f ++ f a)) : GOwn T c f x base v (l ++ [a]) := by
  subst hn
  show World.ownsRow _ _ _ _ _ (l ++ [a]).length _
  simpa using h
theorem take_snocG (l : List α) (d : α) (k : Nat) (h : k < l.length) : l.take (k + 1) = l.take k ++ [l.getD k d] := by
  rw [List.take_succ_eq_append_getElem h]
  congr 2
  simp [List.getD, h]
theorem copyG_step (l : List α) (z : α) (j : Nat) (h : j < l.length) : (l.take j ++ List.replicate (l.length - j) z).set j (l.getD j z) = l.take (j + 1) ++ List.replicate (l.length - (j + 1)) z := by
  have hl : (l.take j).length = j := by simp; omega
  rw [List.set_append_right _ _ (by omega), hl, Nat.sub_self, take_snocG l z j h]
  rw [show l.length - j = (l.length - (j + 1)) + 1 by omega, List.replicate_succ, List.set_cons_zero]
  simp
theorem made_flat (hf : ∀ x, (f x).length = c) (h0 : 0 < c) (z : α) (n : Nat) : (madeCells (f z).toArray (n * c)).toList = (List.replicate n z).flatMap f := by
  apply List.ext_getElem?
  intro i
  by_cases hi : i < n * c
  · obtain ⟨q, r, hr, rfl⟩ : ∃ q r, r < c ∧ i = q * c + r := ⟨i / c, i % c, Nat.mod_lt _ h0, by rw [Nat.mul_comm]; exact (Nat.div_add_mod i c).symm⟩
    have hq : q < n := by
      refine Nat.lt_of_not_le fun hle => ?_
      have := Nat.mul_le_mul_right c hle; omega
    rw [flat_get hf _ z q r (by simpa using hq) hr]
    have e0 : (List.replicate n z).getD q z = z := by rw [List.getD_eq_getElem?_getD, List.getElem?_replicate, if_pos hq]; rfl
    rw [e0, List.getElem?_eq_getElem (by simp [madeCells]; omega), List.getElem?_eq_getElem (by rw [hf]; exact hr)]
    simp [madeCells, hf, Nat.mod_eq_of_lt hr]
    rw [List.getElem?_eq_getElem (by rw [hf]; exact hr)]; rfl
  · rw [List.getElem?_eq_none (by simp [madeCells]; omega), List.getElem?_eq_none (by rw [flat_len hf]; simp; omega)]
theorem made_own (hf : ∀ x, (f x).length = c) (h0 : 0 < c) (z : α) {w1 : World} {base g n : Nat} (h : w1.ownsRow base T c (.slice (some ⟨g, 0, none⟩) n n) n (madeCells (f z).toArray (n * c)).toList) : GOwn T c f w1 base (.slice (some ⟨g, 0, none⟩) n n) (List.replicate n z) := by
  rw [made_flat hf h0] at h
  show World.ownsRow _ _ _ _ _ (List.replicate n z).length _
  rw [List.length_replicate]; exact h
end

end Go.Proofs.YtjldafkcolmfeaaDoor
