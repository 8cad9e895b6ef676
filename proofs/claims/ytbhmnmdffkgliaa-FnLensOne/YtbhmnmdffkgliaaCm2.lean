/- The first and the last of codes: plain mathematics, over this seat's program. -/
import Derived.Test.YtbhmnmdffkgliaaCm1
namespace Go.Proofs.Ytbhmnmdffkgliaa
open Go.RowKit Corb

theorem many_zero (l : List Int) (n : Int) (k : Nat) (h : ∀ j, j < k → l.getD j 0 ≠ n) : many l n k = 0 := by
  induction k with
  | zero => rfl
  | succ k ih =>
    simp only [many]
    rw [if_neg (h k (Nat.lt_succ_self _)), ih (fun j hj => h j (by omega))]
theorem nx_zero (l : List Int) (N : Nat) (h : ∀ j, j < l.length → 0 < l.getD j 0 → (N : Int) < l.getD j 0) : nx l N = 0 := by
  induction N with
  | zero => rfl
  | succ N ih =>
    simp only [nx]
    rw [ih (fun j hj hp => by have := h j hj hp; omega), many_zero l _ _ (fun j hj e => by have := h j hj (by omega); omega)]
/-- The first of the shortest codes is noughts. -/
theorem first_zero {l : List Int} {p : Nat} (hp0 : 0 < l.getD p 0) (hmin : ∀ j, j < l.length → 0 < l.getD j 0 → l.getD p 0 ≤ l.getD j 0 ∧ (l.getD j 0 = l.getD p 0 → p ≤ j)) (hp : p < l.length) : codeAt l p = 0 := by
  unfold codeAt
  rw [nx_zero l _ (fun j hj hpos => by have := (hmin j hj hpos).1; omega), many_zero l _ _ (fun j hj e => by have := (hmin j (by omega) (by omega)).2 e; omega)]
theorem many_last (l : List Int) (n : Int) (q k : Nat) (hq : q < k) (hn : l.getD q 0 = n) (h : ∀ j, j < k → q < j → l.getD j 0 ≠ n) : many l n k = many l n q + 1 := by
  induction k with
  | zero => omega
  | succ k ih =>
    simp only [many]
    by_cases e : q = k
    · subst e
      rw [if_pos hn]
    · rw [if_neg (h k (Nat.lt_succ_self _) (by omega)), ih (by omega) (fun j hj hqj => h j (by omega) hqj)]
theorem krU_all (l : List Int) (N : Nat) (h : ∀ b ∈ l, b ≤ (N : Int)) : krU N l = kr l := by
  induction l with
  | nil => rfl
  | cons b l ih =>
    have h1 := ih (fun x hx => h x (by simp [hx]))
    have hb := h b (by simp)
    simp only [krU, kr, krN, List.map_cons, List.sum_cons] at h1 ⊢
    rw [h1]
    by_cases e : 0 < b
    · rw [if_pos ⟨e, hb⟩, if_pos e]
    · rw [if_neg (by omega), if_neg e]
/-- The last of the longest ones is all ones, if there are two. -/
theorem last_full {l : List Int} {q : Nat} (hok : lensOk l = true) (hu : us l ≠ 1) (hq0 : 0 < l.getD q 0) (hmax : ∀ j, j < l.length → 0 < l.getD j 0 → l.getD j 0 ≤ l.getD q 0 ∧ (l.getD j 0 = l.getD q 0 → j ≤ q)) (hq : q < l.length) : (codeAt l q : Int) = (p2 (l.getD q 0).toNat : Nat) - 1 := by
  have hb := inL_bd (lensOk_in hok) hq
  obtain ⟨n, hn⟩ : ∃ n : Nat, l.getD q 0 = (n : Int) + 1 := ⟨(l.getD q 0).toNat - 1, by omega⟩
  have hk : kr l = 32768 := by
    simp only [lensOk, wholeL, Bool.and_eq_true, Bool.or_eq_true, decide_eq_true_iff] at hok
    omega
  have h1 := nx_kr l (n + 1) (by omega)
  rw [krU_all l (n + 1) (fun b hbm => by
    obtain ⟨i, hi, rfl⟩ := List.getElem_of_mem hbm
    have e : l.getD i 0 = l[i] := by simp [List.getD, hi]
    rcases Int.lt_or_le 0 (l[i]) with h | h
    · have := (hmax i hi (by rw [e]; exact h)).1
      omega
    · omega), hk] at h1
  have e15 : p2 (n + 1) * p2 (15 - (n + 1)) = 32768 := by
    unfold p2
    rw [← Nat.pow_add]
    have : n + 1 + (15 - (n + 1)) = 15 := by omega
    rw [this]
  have hnx : nx l (n + 1) = p2 (n + 1) := Nat.eq_of_mul_eq_mul_right (p2_pos (15 - (n + 1))) (by omega)
  have hm := many_last l ((n : Int) + 1) q l.length hq hn (fun j hj hqj e => by have := (hmax j hj (by omega)).2 (by omega); omega)
  have e1 : (l.getD q 0).toNat = n + 1 := by omega
  have hc : codeAt l q = 2 * nx l n + many l ((n : Int) + 1) q := by
    unfold codeAt
    rw [hn]
    have : ((n : Int) + 1).toNat - 1 = n := by omega
    rw [this]
  have hx : nx l (n + 1) = 2 * nx l n + many l ((n : Int) + 1) l.length := rfl
  rw [e1, hc]
  omega
theorem nx_grow (l : List Int) (N d : Nat) : nx l N * p2 d ≤ nx l (N + d) := by
  induction d with
  | zero => simp [p2]
  | succ d ih =>
    have : nx l (N + d + 1) = 2 * nx l (N + d) + many l (((N + d : Nat) : Int) + 1) l.length := rfl
    rw [p2_succ, ← Nat.mul_assoc, ← Nat.add_assoc, this]
    omega
/-- No code begins another one. -/
theorem no_begin {l : List Int} (hok : lensOk l = true) {i k : Nat} (hk : k < l.length) (hp : 0 < l.getD k 0) (hlt : l.getD k 0 < l.getD i 0) : codeAt l k < codeAt l i / p2 (l.getD i 0 - l.getD k 0).toNat := by
  have hck := (codeAt_lt hok hk (by omega)).2
  obtain ⟨a, ha⟩ : ∃ a : Nat, l.getD k 0 = (a : Int) + 1 := ⟨(l.getD k 0).toNat - 1, by omega⟩
  obtain ⟨d, hd⟩ : ∃ d : Nat, l.getD i 0 = ((a + 1 + d : Nat) : Int) + 1 := ⟨(l.getD i 0 - l.getD k 0).toNat - 1, by omega⟩
  have e1 : (l.getD i 0 - l.getD k 0).toNat = d + 1 := by omega
  have e2 : (l.getD k 0).toNat = a + 1 := by omega
  have e3 : (l.getD i 0).toNat - 1 = a + 1 + d := by omega
  have hci : 2 * nx l (a + 1 + d) ≤ codeAt l i := by
    unfold codeAt
    rw [e3]; omega
  have hg := nx_grow l (a + 1) d
  rw [e2] at hck
  rw [e1, p2_succ]
  have hpp := p2_pos d
  rw [Nat.lt_iff_add_one_le, Nat.le_div_iff_mul_le (by omega)]
  have h3 : (codeAt l k + 1) * (p2 d * 2) ≤ nx l (a + 1) * (p2 d * 2) := Nat.mul_le_mul_right _ hck
  have h4 : nx l (a + 1) * (p2 d * 2) = nx l (a + 1) * p2 d * 2 := (Nat.mul_assoc _ _ _).symm
  omega
theorem same_more {l : List Int} {i k : Nat} (hki : k < i) (he : l.getD k 0 = l.getD i 0) : codeAt l k < codeAt l i := by
  have := many_lt he i hki
  unfold codeAt
  rw [he]
  omega

end Go.Proofs.Ytbhmnmdffkgliaa
