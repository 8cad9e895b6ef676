/- Symbols read by a code: plain mathematics, over this seat's program. -/
import Derived.Test.YtnomiopdpmecbaaSp1
import Derived.Test.YtnomiopdpmecbaaRb1
namespace Go.Proofs.Ytnomiopdpmecbaa
open Go.RowKit Corb

def bitV (V p : Nat) : Nat := V / 2 ^ p % 2
theorem bitV_le (V p : Nat) : bitV V p ≤ 1 := by unfold bitV; omega
/-- The code of n bits from a place on. -/
def cd (V p : Nat) : Nat → Nat
  | 0 => 0
  | n + 1 => 2 * cd V p n + bitV V (p + n)
theorem cd_lt (V p n : Nat) : cd V p n < p2 n := by
  induction n with
  | zero => simp [cd, p2]
  | succ n ih =>
    have := bitV_le V (p + n)
    simp only [cd]
    rw [p2_succ]; omega
/-- The symbol of a code of a length. -/
def symAt (l : List Int) (n c : Nat) : Int := (symsN l 15).getD (pl l n + (c - 2 * nx l n)) 0
/-- A symbol, n bits having been read: it, and how many bits it takes. -/
def decF (l : List Int) (V sz p : Nat) : Nat → Nat → Option (Int × Nat)
  | 0, _ => none
  | f + 1, n => if sz < p + n + 1 then none else if cd V p (n + 1) < nx l (n + 1) then some (symAt l n (cd V p (n + 1)), p + n + 1) else decF l V sz p f (n + 1)
def dec (l : List Int) (V sz p : Nat) : Option (Int × Nat) := decF l V sz p 15 0
theorem decF_le {l : List Int} {V sz p f n : Nat} {i : Int} {q : Nat} (h : decF l V sz p f n = some (i, q)) : q ≤ sz ∧ p ≤ q := by
  induction f generalizing n with
  | zero => simp [decF] at h
  | succ f ih =>
    simp only [decF] at h
    split at h
    · cases h
    · split at h
      · simp only [Option.some.injEq, Prod.mk.injEq] at h
        omega
      · exact ih h
theorem sym_there {l : List Int} {n c : Nat} (hn : n < 15) (h1 : 2 * nx l n ≤ c) (h2 : c < nx l (n + 1)) : ∃ i, i < l.length ∧ l.getD i 0 = (n : Int) + 1 ∧ codeAt l i = c ∧ symAt l n c = (i : Int) := by
  have e : nx l (n + 1) = 2 * nx l n + many l ((n : Int) + 1) l.length := rfl
  obtain ⟨i, hi, hl, hm⟩ := many_at l ((n : Int) + 1) l.length (c - 2 * nx l n) (by omega)
  refine ⟨i, hi, hl, ?_, ?_⟩
  · unfold codeAt
    rw [hl, hm]
    have : ((n : Int) + 1).toNat - 1 = n := by omega
    rw [this]; omega
  · unfold symAt
    rw [← hm]
    exact symsN_get l 15 n i hi hl hn
theorem sym_one {l : List Int} {i j : Nat} (hl : l.getD i 0 = l.getD j 0) (hc : codeAt l i = codeAt l j) : i = j := by
  unfold codeAt at hc
  rw [hl] at hc
  rcases Nat.lt_trichotomy i j with h | h | h
  · have := many_lt hl j h
    omega
  · exact h
  · have := many_lt hl.symm i h
    rw [hl] at this
    omega
theorem sym_none {l : List Int} (hok : lensOk l = true) {n c i : Nat} (h2 : nx l (n + 1) ≤ c) (hi : i < l.length) (hl : l.getD i 0 = (n : Int) + 1) : codeAt l i ≠ c := by
  have h := (codeAt_lt hok hi (by omega)).2
  have : (l.getD i 0).toNat = n + 1 := by omega
  rw [this] at h
  omega
theorem pl_le (l : List Int) (N : Nat) : pl l N ≤ N * l.length := by rw [← symsN_eq]; exact symsN_le l N
theorem nx_bd {l : List Int} (hok : lensOk l = true) (N : Nat) (hN : N ≤ 15) : nx l N ≤ 32768 := by
  have h := nx_le hok N hN
  have h2 := p2_le N 15 hN
  have h3 : p2 15 = 32768 := rfl
  omega
theorem cd_bd (V p n : Nat) (hn : n ≤ 15) : cd V p n < 32768 := by
  have h := cd_lt V p n
  have h2 := p2_le n 15 hn
  have h3 : p2 15 = 32768 := rfl
  omega
theorem pl_mono (l : List Int) : ∀ a b, a ≤ b → pl l a ≤ pl l b := by
  intro a b hab
  induction b with
  | zero => have : a = 0 := by omega
            rw [this]; exact Nat.le_refl _
  | succ b ihb =>
    by_cases e2 : a = b + 1
    · rw [e2]; exact Nat.le_refl _
    · have := ihb (by omega)
      simp only [pl]; omega
theorem sym_in {l : List Int} {n c : Nat} (hn : n < 15) (h1 : 2 * nx l n ≤ c) (h2 : c < nx l (n + 1)) : pl l n + (c - 2 * nx l n) < (symsN l 15).length := by
  have e : nx l (n + 1) = 2 * nx l n + many l ((n : Int) + 1) l.length := rfl
  have e2 : pl l (n + 1) = pl l n + many l ((n : Int) + 1) l.length := rfl
  have := pl_mono l (n + 1) 15 (by omega)
  rw [symsN_eq]; omega

theorem Book.heap {w w' : World} {b : Nat} {vl vc vs : Value} {m : Nat → Nat} (h : Book w b vl vc vs m) (he : w'.heap[b]? = w.heap[b]?) (hs : w.heap.size ≤ w'.heap.size) : Book w' b vl vc vs m := by
  obtain ⟨c0, c1, c2, c3, f, hlt⟩ := h
  exact ⟨(World.cell?_of_block (a := ⟨b, 0, none⟩) he).trans c0, (World.cell?_of_block (a := ⟨b, 1, none⟩) he).trans c1, fun j hj => (World.cell?_of_block (a := ⟨b, 2 + j, none⟩) he).trans (c2 j hj), (World.cell?_of_block (a := ⟨b, 18, none⟩) he).trans c3, fun o => (World.frozen?_of_block (a := ⟨b, o, none⟩) he).trans (f o), by omega⟩
theorem IRow.keep {w w' : World} {a : Option Addr} {b : Nat} {l : List Int} (h : IRow w a l) (hk : Keep1 b w w') (hg : ∀ g o, a = some ⟨g, o, none⟩ → g ≠ b) : IRow w' a l := by
  intro h0
  obtain ⟨g, o, e, hlt, hc⟩ := h h0
  exact ⟨g, o, e, Nat.lt_of_lt_of_le hlt hk.1.size, fun i hi => (World.cell?_of_block (a := ⟨g, o + i, none⟩) (hk.2 g hlt (hg g o e))).trans (hc i hi)⟩

end Go.Proofs.Ytnomiopdpmecbaa
