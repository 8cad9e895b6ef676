/- Plain mathematics: a step of the heap is a step of the model. -/
import Derived.Test.YtkkhaleiehnihaaHq2
namespace Go.Proofs.Ytkkhaleiehnihaa
open Go.RowKit

theorem heap_two {l : List Int} {j : Nat} {L M1 M2 : List Grp} (hc : ∀ i, i < l.length → 0 ≤ l.getD i 0 ∧ l.getD i 0 ≤ 100000) (hn : l.length ≤ 300) (hj : j < (seed l l.length).length ∨ j = 0) (hL : (L.map bare).Perm (hufI l j).1) (hp : HP L) (h2 : 1 < L.length) (h1 : (L.getD 0 g0 :: M1).Perm L) (hp1 : HP M1) (h12 : (M1.getD 0 g0 :: M2).Perm M1) :
    symsG (hufI l j).1 = (L.getD 0 g0).syms ++ (M1.getD 0 g0).syms ∧
    (∀ (M3 : List Grp) (v : Value), M3.Perm (M2 ++ [⟨(L.getD 0 g0).cnt + (M1.getD 0 g0).cnt, if (M1.getD 0 g0).fst < (L.getD 0 g0).fst then (M1.getD 0 g0).fst else (L.getD 0 g0).fst, (L.getD 0 g0).syms ++ (M1.getD 0 g0).syms, v⟩]) → (M3.map bare).Perm (hufI l (j + 1)).1) ∧
    0 ≤ (L.getD 0 g0).cnt ∧ 0 ≤ (M1.getD 0 g0).cnt ∧ (L.getD 0 g0).cnt + (M1.getD 0 g0).cnt ≤ 30000000 ∧
    ((L.getD 0 g0).syms ++ (M1.getD 0 g0).syms).length ≤ 300 ∧ 0 < (L.getD 0 g0).syms.length ∧ 0 < (M1.getD 0 g0).syms.length ∧ (∀ x ∈ (L.getD 0 g0).syms ++ (M1.getD 0 g0).syms, 0 ≤ x ∧ x < (l.length : Int)) := by
  have hM1l : M1.length + 1 = L.length := by have := h1.length_eq; simpa using this
  obtain ⟨hwf, hC, hS, hlen⟩ := hufI_inv l j hj
  have hMl : (hufI l j).1.length = L.length := by rw [← hL.length_eq, List.length_map]
  have hnd := (flat_hufI l j hj).1
  have hfi := hufI_fst l j hj
  have htop : ∀ g ∈ L, lessG g (L.getD 0 g0) = false := by
    intro g hg
    obtain ⟨i, hi, rfl⟩ := List.getElem_of_mem hg
    have := hp_top hp i hi
    have e : L.getD i g0 = L[i] := by simp [List.getD, hi]
    rw [e] at this
    exact this
  have htop1 : ∀ g ∈ M1, lessG g (M1.getD 0 g0) = false := by
    intro g hg
    obtain ⟨i, hi, rfl⟩ := List.getElem_of_mem hg
    have := hp_top hp1 i hi
    have e : M1.getD i g0 = M1[i] := by simp [List.getD, hi]
    rw [e] at this
    exact this
  obtain ⟨e1, p1⟩ := top_first hL h1.symm htop (by omega) hnd hfi
  have hfr : fstIn (restG (hufI l j).1) := fun g hg => hfi g (rest_sub _ g hg)
  obtain ⟨e2, p2⟩ := top_first p1 h12.symm htop1 (by omega) (flat_rest (by omega) hnd) hfr
  have htwo := two_cnt hwf (by omega : 1 < (hufI l j).1.length)
  have ha := hwf _ (first_mem (hufI l j).1 (by omega))
  have hrl := rest_len (hufI l j).1 (by omega)
  have hb := hwf _ (rest_sub _ _ (first_mem (restG (hufI l j).1) (by omega)))
  have hst := seed_tot l 100000 (by omega) (fun i hi => (hc i hi).2) l.length (Nat.le_refl _)
  have hsy : symsG (hufI l j).1 = (L.getD 0 g0).syms ++ (M1.getD 0 g0).syms := by
    unfold symsG
    rw [← e1, ← e2]
    rfl
  rw [← e1] at ha htwo
  rw [← e2] at hb htwo
  have hle : (100000 : Int) * (l.length : Int) ≤ 100000 * 300 := Int.mul_le_mul_of_nonneg_left (by omega) (by omega)
  refine ⟨hsy, ?_, ha.1, hb.1, ?_, ?_, ha.2.2.2.2, hb.2.2.2.2, ?_⟩
  · intro M3 v hM3
    have h3 := hM3.map bare
    rw [List.map_append] at h3
    refine h3.trans ?_
    show List.Perm _ (stepG (hufI l j).1)
    unfold stepG
    rw [← e1, ← e2]
    exact p2.append_right _
  · have h0 := htwo.1
    have : (bare (L.getD 0 g0)).cnt = (L.getD 0 g0).cnt := rfl
    have : (bare (M1.getD 0 g0)).cnt = (M1.getD 0 g0).cnt := rfl
    omega
  · have h0 := htwo.2
    rw [hsy] at h0
    omega
  · intro x hx
    simp only [List.mem_append] at hx
    rcases hx with hx | hx
    · exact ha.2.2.2.1 x hx
    · exact hb.2.2.2.1 x hx

end Go.Proofs.Ytkkhaleiehnihaa
