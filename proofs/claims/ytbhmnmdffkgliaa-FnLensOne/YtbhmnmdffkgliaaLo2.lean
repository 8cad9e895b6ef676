/- Plain mathematics: counts of which one is not nought. -/
import Derived.Test.YtbhmnmdffkgliaaLo1
import Derived.Test.YtbhmnmdffkgliaaCm2
import Derived.Test.YtbhmnmdffkgliaaCk5
namespace Go.Proofs.Ytbhmnmdffkgliaa
open Go.RowKit Corb

def oneL (n k : Nat) (c : Int) : List Int := (List.replicate n 0).set k c
theorem oneL_len (n k : Nat) (c : Int) : (oneL n k c).length = n := by simp [oneL]
theorem oneL_cut {n k : Nat} (h : k < n) (c : Int) : oneL n k c = List.replicate k 0 ++ c :: List.replicate (n - 1 - k) 0 := by
  unfold oneL
  apply List.ext_getElem
  · simp; omega
  · intro i h1 h2
    rw [List.getElem_set]
    split
    · rename_i e
      subst e
      rw [List.getElem_append_right (by simp)]
      simp
    · rename_i e
      by_cases hi : i < k
      · rw [List.getElem_append_left (by simpa using hi)]
        simp
      · rw [List.getElem_append_right (by simp; omega)]
        obtain ⟨d, hd⟩ : ∃ d, i = k + 1 + d := ⟨i - k - 1, by omega⟩
        subst hd
        simp only [List.length_replicate, show k + 1 + d - k = d + 1 by omega, List.getElem_cons_succ]
        simp
theorem oneL_get {n k : Nat} (h : k < n) (c : Int) (i : Nat) : (oneL n k c).getD i 0 = if i = k then c else 0 := by
  unfold oneL
  rw [List.getD_eq_getElem?_getD, List.getElem?_set]
  by_cases e : k = i
  · subst e
    simp [h]
  · rw [if_neg e, if_neg (fun x => e x.symm)]
    by_cases hi : i < n
    · simp [hi]
    · simp [hi]
theorem oneL_us {n k : Nat} (h : k < n) {c : Int} (hc : 0 < c) : us (oneL n k c) = 1 := by
  rw [oneL_cut h]
  simp [us, hc]
theorem oneL_kr {n k : Nat} (h : k < n) : kr (oneL n k 1) = 16384 := by
  rw [oneL_cut h]
  simp [kr, krN, p2]
theorem oneL_inC {n k : Nat} (h : k < n) {c : Int} (hc : 0 < c) (h1 : c ≤ 100000) : inC (oneL n k c) = true := by
  rw [oneL_cut h]
  have e1 : inB c 0 100000 = true := inB_true.2 ⟨by omega, h1⟩
  have e2 : inB 0 0 100000 = true := inB_true.2 ⟨by omega, by omega⟩
  simp [inC, e1, e2]
theorem oneL_ok {n k : Nat} (h : k < n) (hn : n ≤ 300) : lensOk (oneL n k 1) = true := by
  have e0 : inL (oneL n k 1) = true := by
    rw [oneL_cut h]
    have e1 : inB 1 0 15 = true := inB_true.2 ⟨by omega, by omega⟩
    have e2 : inB 0 0 15 = true := inB_true.2 ⟨by omega, by omega⟩
    simp [inL, e1, e2]
  unfold lensOk wholeL
  rw [e0, oneL_us h (by omega), oneL_kr h, oneL_len, decide_eq_true hn]
  rfl
theorem oneL_map {n k : Nat} {c : Int} (hc : 0 < c) (h : k < n) : (oneL n k c).map oneI = oneL n k 1 := by
  rw [oneL_cut h, oneL_cut h]
  simp [oneI]
  omega
theorem oneL_seed {n k : Nat} (h : k < n) {c : Int} (hc : 0 < c) (j : Nat) : seed (oneL n k c) j = if k < j then [⟨c, (k : Int), [(k : Int)], .slice none 0 0⟩] else [] := by
  induction j with
  | zero => simp [seed]
  | succ j ih =>
    have hg := oneL_get h c j
    by_cases e : j = k
    · subst e
      rw [if_pos rfl] at hg
      rw [seed_yes (by rw [hg]; exact hc), ih, hg]
      simp
    · rw [if_neg e] at hg
      rw [seed_no (by rw [hg]; omega), ih]
      by_cases h2 : k < j
      · rw [if_pos h2, if_pos (by omega)]
      · rw [if_neg h2, if_neg (by omega)]
theorem oneL_huf {n k : Nat} (h : k < n) {c : Int} (hc : 0 < c) : hufL (oneL n k c) = oneL n k 1 := by
  have hs := oneL_seed h hc n
  rw [if_pos h] at hs
  unfold hufL
  rw [oneL_len, hs]
  simp [oneL]
theorem oneL_lens {n k : Nat} (h : k < n) (hn : n ≤ 300) {c : Int} (hc : 0 < c) (h1 : c ≤ 100000) : lensOfL (oneL n k c) 15 = oneL n k 1 := by
  have e1 : lofOk (oneL n k c) 15 = true := by
    unfold lofOk
    rw [oneL_len, decide_eq_true hn, oneL_inC h hc h1, oneL_us h hc, inB_true.2 ⟨by omega, by omega⟩, inB_true.2 ⟨by omega, by decide⟩]
    rfl
  have hf : fits (oneL n k 1) 15 = true := by
    refine fits_of (by omega) fun i _ => ?_
    rw [oneL_get h]
    split <;> omega
  unfold lensOfL
  rw [if_pos e1]
  unfold fitL
  cases sumP (oneL n k c) with
  | zero => simp only [fitF]; exact oneL_huf h hc
  | succ f => simp only [fitF]; rw [oneL_huf h hc, if_pos hf]
theorem oneL_code {n k : Nat} (h : k < n) (hn : n ≤ 300) : (codesL (oneL n k 1)).getD k 0 = 0 ∧ (codesL (oneL n k 1)).length = n := by
  have hok := oneL_ok h hn
  rw [codesL_yes hok]
  refine ⟨?_, by rw [outN_len, oneL_len]⟩
  have hg := oneL_get h 1 k
  rw [if_pos rfl] at hg
  rw [codes_get hok (by rw [oneL_len]; exact h), if_pos (by rw [hg]; omega)]
  unfold codeAt
  rw [hg]
  have : many (oneL n k 1) 1 k = 0 := many_zero _ _ _ fun j hj => by
    rw [oneL_get h, if_neg (by omega)]; omega
  rw [this]
  simp [nx]

end Go.Proofs.Ytbhmnmdffkgliaa
