/- Codes of lengths: plain mathematics: each code in its closed form, below its power of two; symbols in their order. -/
import Derived.Test.YtbhmnmdffkgliaaCk5
namespace Go.Proofs.Ytbhmnmdffkgliaa
open Go.RowKit Corb

/-- The first code behind all those of the first N lengths. -/
def nx (l : List Int) : Nat → Nat
  | 0 => 0
  | N + 1 => 2 * nx l N + many l ((N : Int) + 1) l.length
/-- How many symbols have one of the first N lengths. -/
def pl (l : List Int) : Nat → Nat
  | 0 => 0
  | N + 1 => pl l N + many l ((N : Int) + 1) l.length
theorem inn_fst (l : List Int) (n : Int) (s : Nat × List Int) (k : Nat) : (inn l n s k).1 = s.1 + many l n k := by
  induction k with
  | zero => rfl
  | succ k ih =>
    simp only [inn, many]
    split
    · simp only [ih]; omega
    · exact ih
theorem outN_fst (l : List Int) (N : Nat) : (outN l N).1 = nx l N := by
  induction N with
  | zero => rfl
  | succ N ih => simp only [outN, nx]; rw [inn_fst, ih]
theorem inn_snd (l : List Int) (n : Int) (s : Nat × List Int) (k i : Nat) (hi : i < s.2.length) : (inn l n s k).2.getD i 0 = if i < k ∧ l.getD i 0 = n then ((s.1 + many l n i : Nat) : Int) else s.2.getD i 0 := by
  induction k with
  | zero => simp [inn]
  | succ k ih =>
    simp only [inn]
    split
    case isTrue h =>
      by_cases e : i = k
      · subst e
        have hl : i < (inn l n s i).2.length := by rw [inn_len]; exact hi
        rw [if_pos ⟨Nat.lt_succ_self _, h⟩]
        simp only [List.getD, List.getElem?_set_self hl, Option.getD_some]
        rw [inn_fst]
      · have e2 : ((inn l n s k).2.set k ((inn l n s k).1 : Int)).getD i 0 = (inn l n s k).2.getD i 0 := by
          simp only [List.getD]
          rw [List.getElem?_set_ne (Ne.symm e)]
        simp only
        rw [e2, ih]
        by_cases h2 : i < k
        · simp [h2, Nat.lt_succ_of_lt h2]
        · rw [if_neg (by omega), if_neg (by omega)]
    case isFalse h =>
      rw [ih]
      by_cases e : i = k
      · subst e
        rw [if_neg (by omega), if_neg (fun hh => h hh.2)]
      · by_cases h2 : i < k
        · simp [h2, Nat.lt_succ_of_lt h2]
        · rw [if_neg (by omega), if_neg (by omega)]
/-- The code of a symbol. -/
def codeAt (l : List Int) (i : Nat) : Nat := 2 * nx l ((l.getD i 0).toNat - 1) + many l (l.getD i 0) i
theorem outN_snd (l : List Int) (N i : Nat) (hi : i < l.length) : (outN l N).2.getD i 0 = if 1 ≤ l.getD i 0 ∧ l.getD i 0 ≤ (N : Int) then (codeAt l i : Int) else 0 := by
  induction N with
  | zero =>
    rw [if_neg (by omega)]
    simp [outN, List.getD, hi]
  | succ N ih =>
    simp only [outN]
    rw [inn_snd _ _ _ _ _ (by simp only [outN_len]; exact hi)]
    simp only
    by_cases e : l.getD i 0 = (N : Int) + 1
    · rw [if_pos ⟨hi, e⟩, if_pos ⟨by omega, by omega⟩, outN_fst]
      unfold codeAt
      rw [e]
      have : ((N : Int) + 1).toNat - 1 = N := by omega
      rw [this]
    · rw [if_neg (fun hh => e hh.2), ih]
      by_cases h2 : 1 ≤ l.getD i 0 ∧ l.getD i 0 ≤ (N : Int)
      · rw [if_pos h2, if_pos ⟨h2.1, by omega⟩]
      · rw [if_neg h2, if_neg (by omega)]

/-! Kraft's sum, by lengths. -/
def krU (N : Nat) (l : List Int) : Nat := (l.map (fun b => if 0 < b ∧ b ≤ (N : Int) then p2 (15 - b).toNat else 0)).sum
theorem krU_le (N : Nat) (l : List Int) : krU N l ≤ kr l := by
  induction l with
  | nil => exact Nat.le_refl _
  | cons b l ih =>
    simp only [krU, kr, krN, List.map_cons, List.sum_cons] at ih ⊢
    split <;> split <;> omega
theorem many_cons (b : Int) (l : List Int) (n : Int) (k : Nat) : many (b :: l) n (k + 1) = (if b = n then 1 else 0) + many l n k := by
  induction k with
  | zero => simp [many]
  | succ k ih =>
    have e : many (b :: l) n (k + 1 + 1) = if (b :: l).getD (k + 1) 0 = n then many (b :: l) n (k + 1) + 1 else many (b :: l) n (k + 1) := rfl
    have e2 : (b :: l).getD (k + 1) 0 = l.getD k 0 := by simp [List.getD]
    rw [e, e2, ih]
    simp only [many]
    split <;> split <;> omega
theorem krU_succ (N : Nat) (hN : N < 15) (l : List Int) : krU (N + 1) l = krU N l + many l ((N : Int) + 1) l.length * p2 (14 - N) := by
  induction l with
  | nil => simp [krU, many]
  | cons b l ih =>
    rw [List.length_cons, many_cons, Nat.add_mul]
    simp only [krU, List.map_cons, List.sum_cons] at ih ⊢
    rw [ih]
    by_cases e : b = (N : Int) + 1
    · rw [if_pos (by omega), if_neg (by omega), if_pos e]
      have : (15 - b).toNat = 14 - N := by omega
      rw [this]; omega
    · rw [if_neg e]
      by_cases h : 0 < b ∧ b ≤ (N : Int)
      · rw [if_pos h, if_pos (by omega)]; omega
      · rw [if_neg h, if_neg (by omega)]; omega
theorem nx_kr (l : List Int) (N : Nat) (hN : N ≤ 15) : nx l N * p2 (15 - N) = krU N l := by
  induction N with
  | zero =>
    have : krU 0 l = 0 := by
      induction l with
      | nil => rfl
      | cons b l ih =>
        simp only [krU, List.map_cons, List.sum_cons] at ih ⊢
        rw [ih, if_neg (by omega)]
    rw [this]; simp [nx]
  | succ N ih =>
    rw [krU_succ N (by omega), ← ih (by omega)]
    have e1 : 15 - N = (14 - N) + 1 := by omega
    have e2 : 15 - (N + 1) = 14 - N := by omega
    rw [e1, e2, p2_succ]
    simp only [nx]
    rw [Nat.add_mul, Nat.mul_comm 2, Nat.mul_assoc, Nat.mul_comm 2]
theorem kr_ok {l : List Int} (h : lensOk l = true) : kr l ≤ 32768 := by
  simp only [lensOk, wholeL, Bool.and_eq_true, Bool.or_eq_true, decide_eq_true_iff] at h
  omega
theorem nx_le {l : List Int} (h : lensOk l = true) (N : Nat) (hN : N ≤ 15) : nx l N ≤ p2 N := by
  have h1 := nx_kr l N hN
  have h2 := krU_le N l
  have h3 := kr_ok h
  have e : p2 N * p2 (15 - N) = 32768 := by
    unfold p2
    rw [← Nat.pow_add]
    have : N + (15 - N) = 15 := by omega
    rw [this]
  have hp := p2_pos (15 - N)
  exact Nat.le_of_mul_le_mul_right (by omega : nx l N * p2 (15 - N) ≤ p2 N * p2 (15 - N)) hp
theorem many_lt {l : List Int} {n : Int} {i : Nat} (hi : l.getD i 0 = n) : ∀ k, i < k → many l n i < many l n k := by
  intro k hk
  induction k with
  | zero => omega
  | succ k ih =>
    by_cases e : i = k
    · subst e
      simp only [many]
      rw [if_pos hi]; omega
    · have := ih (by omega)
      simp only [many]
      split <;> omega
theorem many_mono (l : List Int) (n : Int) (i k : Nat) (h : i ≤ k) : many l n i ≤ many l n k := by
  induction k with
  | zero => have : i = 0 := by omega
            rw [this]; exact Nat.le_refl _
  | succ k ih =>
    by_cases e : i = k + 1
    · rw [e]; exact Nat.le_refl _
    · have := ih (by omega)
      simp only [many]
      split <;> omega
theorem inL_bd {l : List Int} (h : inL l = true) {i : Nat} (hi : i < l.length) : 0 ≤ l.getD i 0 ∧ l.getD i 0 ≤ 15 := by
  have := List.all_eq_true.1 h (l.getD i 0) (by simp [List.getD, hi])
  exact inB_true.1 this
theorem lensOk_in {l : List Int} (h : lensOk l = true) : inL l = true := by
  simp only [lensOk, Bool.and_eq_true] at h
  exact h.1.1
theorem codeAt_lt {l : List Int} (h : lensOk l = true) {i : Nat} (hi : i < l.length) (hp : 1 ≤ l.getD i 0) : codeAt l i < p2 (l.getD i 0).toNat ∧ codeAt l i < nx l (l.getD i 0).toNat := by
  obtain ⟨_, hb⟩ := inL_bd (lensOk_in h) hi
  obtain ⟨n, hn⟩ : ∃ n : Nat, l.getD i 0 = (n : Int) + 1 := ⟨(l.getD i 0).toNat - 1, by omega⟩
  have hle := nx_le h (n + 1) (by omega)
  have hm := many_lt hn l.length hi
  have e1 : (l.getD i 0).toNat = n + 1 := by omega
  unfold codeAt
  rw [e1, hn]
  simp only [nx, Nat.add_sub_cancel] at hle ⊢
  omega
/-- The codes of lengths that are ok. -/
theorem codes_get {l : List Int} (h : lensOk l = true) {i : Nat} (hi : i < l.length) : (outN l 15).2.getD i 0 = if 1 ≤ l.getD i 0 then (codeAt l i : Int) else 0 := by
  rw [outN_snd l 15 i hi]
  have := (inL_bd (lensOk_in h) hi).2
  by_cases hp : 1 ≤ l.getD i 0
  · rw [if_pos hp, if_pos ⟨hp, by omega⟩]
  · rw [if_neg hp, if_neg (by omega)]

/-! Symbols in their order. -/
theorem syms_eq (l : List Int) (n : Int) (s : List Int) (k : Nat) : (syms l n s k).length = s.length + many l n k := by
  induction k with
  | zero => rfl
  | succ k ih =>
    simp only [syms, many]
    split
    · simp [ih]; omega
    · exact ih
theorem symsN_eq (l : List Int) (N : Nat) : (symsN l N).length = pl l N := by
  induction N with
  | zero => rfl
  | succ N ih => simp only [symsN, pl]; rw [syms_eq, ih]
theorem syms_old (l : List Int) (n : Int) (s : List Int) (k j : Nat) (hj : j < s.length) : (syms l n s k).getD j 0 = s.getD j 0 := by
  induction k with
  | zero => rfl
  | succ k ih =>
    simp only [syms]
    split
    · have hl : j < (syms l n s k).length := by rw [syms_eq]; omega
      rw [← ih]
      simp only [List.getD]
      rw [List.getElem?_append_left hl]
    · exact ih
theorem syms_new (l : List Int) (n : Int) (s : List Int) (k i : Nat) (hi : i < k) (hn : l.getD i 0 = n) : (syms l n s k).getD (s.length + many l n i) 0 = (i : Int) := by
  induction k with
  | zero => omega
  | succ k ih =>
    simp only [syms]
    by_cases e : i = k
    · subst e
      rw [if_pos hn]
      simp only [List.getD]
      rw [List.getElem?_append_right (by rw [syms_eq]; omega), syms_eq]
      simp
    · have hlt := many_lt hn k (by omega)
      split
      · have hl : s.length + many l n i < (syms l n s k).length := by rw [syms_eq]; omega
        rw [← ih (by omega)]
        simp only [List.getD]
        rw [List.getElem?_append_left hl]
      · exact ih (by omega)
theorem symsN_get (l : List Int) (N n i : Nat) (hi : i < l.length) (hn : l.getD i 0 = (n : Int) + 1) (hN : n < N) : (symsN l N).getD (pl l n + many l ((n : Int) + 1) i) 0 = (i : Int) := by
  induction N with
  | zero => omega
  | succ N ih =>
    by_cases e : n = N
    · subst e
      simp only [symsN]
      rw [← symsN_eq]
      exact syms_new l _ _ _ i hi hn
    · simp only [symsN]
      have hlt := many_lt hn l.length hi
      have hmono : pl l (n + 1) ≤ pl l N := by
        have : ∀ a b, a ≤ b → pl l a ≤ pl l b := by
          intro a b hab
          induction b with
          | zero => have : a = 0 := by omega
                    rw [this]; exact Nat.le_refl _
          | succ b ihb =>
            by_cases e2 : a = b + 1
            · rw [e2]; exact Nat.le_refl _
            · have := ihb (by omega)
              simp only [pl]; omega
        exact this _ _ (by omega)
      have hp : pl l (n + 1) = pl l n + many l ((n : Int) + 1) l.length := rfl
      rw [syms_old _ _ _ _ _ (by rw [symsN_eq]; omega)]
      exact ih (by omega)
/-- Of each number below how many have that length there is one. -/
theorem many_at (l : List Int) (n : Int) (k t : Nat) (h : t < many l n k) : ∃ i, i < k ∧ l.getD i 0 = n ∧ many l n i = t := by
  induction k with
  | zero => simp [many] at h
  | succ k ih =>
    simp only [many] at h
    split at h
    case isTrue hn =>
      by_cases e : t = many l n k
      · exact ⟨k, Nat.lt_succ_self _, hn, e.symm⟩
      · obtain ⟨i, hi, h1, h2⟩ := ih (by omega)
        exact ⟨i, by omega, h1, h2⟩
    case isFalse =>
      obtain ⟨i, hi, h1, h2⟩ := ih h
      exact ⟨i, by omega, h1, h2⟩

end Go.Proofs.Ytbhmnmdffkgliaa
