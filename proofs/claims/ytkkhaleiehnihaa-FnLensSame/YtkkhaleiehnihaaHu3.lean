/- Symbols that are put together: how long codes become; plain mathematics, over this seat's program. -/
import Derived.Test.YtkkhaleiehnihaaHu1
import Derived.Test.YtkkhaleiehnihaaBt1
namespace Go.Proofs.Ytkkhaleiehnihaa
open Go.RowKit

/-! What is counted once more. -/
theorem bump1_get (o : List Int) (i : Int) (j : Nat) (h0 : 0 ≤ i) (hj : j < o.length) : (bump1 o i).getD j 0 = o.getD j 0 + (if i = (j : Int) then 1 else 0) := by
  by_cases e : i = (j : Int)
  · rw [if_pos e]
    have e2 : i.toNat = j := by omega
    simp only [bump1, List.getD]
    rw [e2, List.getElem?_set_self hj, Option.getD_some]
  · rw [if_neg e]
    have e2 : i.toNat ≠ j := by omega
    simp only [bump1, List.getD]
    rw [List.getElem?_set_ne e2]
    omega
theorem bump_get (o s : List Int) (j : Nat) (hs : s.Nodup) (h0 : ∀ x ∈ s, 0 ≤ x) (hj : j < o.length) : (bump o s).getD j 0 = o.getD j 0 + (if (j : Int) ∈ s then 1 else 0) := by
  induction s generalizing o with
  | nil => simp [bump]
  | cons x s ih =>
    show (bump (bump1 o x) s).getD j 0 = _
    rw [List.nodup_cons] at hs
    rw [ih (bump1 o x) hs.2 (fun y hy => h0 y (by simp [hy])) (by rw [bump1_len]; exact hj), bump1_get o x j (h0 x (by simp)) hj]
    by_cases e : x = (j : Int)
    · subst e
      rw [if_pos rfl, if_neg hs.1, if_pos (by simp)]
      omega
    · rw [if_neg e]
      by_cases h2 : (j : Int) ∈ s
      · rw [if_pos h2, if_pos (by simp [h2])]
        omega
      · rw [if_neg h2, if_neg (by simp only [List.mem_cons, not_or]; exact ⟨fun e2 => e e2.symm, h2⟩)]
        omega

/-! All symbols, each once. -/
def flatS (M : List Grp) : List Int := M.flatMap Grp.syms
theorem perm_erase (M : List Grp) (k : Nat) (h : k < M.length) : (M.getD k g0 :: M.eraseIdx k).Perm M := by
  induction M generalizing k with
  | nil => simp at h
  | cons x M ih =>
    cases k with
    | zero => exact List.Perm.refl _
    | succ k =>
      rw [List.getD_cons_succ, List.eraseIdx_cons_succ]
      exact (List.Perm.swap _ _ _).trans (List.Perm.cons x (ih k (by simpa using h)))
theorem perm_first (M : List Grp) (h : 0 < M.length) : (firstG M :: restG M).Perm M := perm_erase M _ (least_lt M h)
theorem perm_two (M : List Grp) (h : 1 < M.length) : (firstG M :: firstG (restG M) :: restG (restG M)).Perm M := by
  have hr := rest_len M (by omega)
  exact (List.Perm.cons _ (perm_first (restG M) (by omega))).trans (perm_first M (by omega))
theorem flat_perm {A B : List Grp} (h : A.Perm B) : (flatS A).Perm (flatS B) := by
  induction h with
  | nil => exact List.Perm.refl _
  | cons x _ ih =>
    simp only [flatS, List.flatMap_cons] at ih ⊢
    exact List.Perm.append_left _ ih
  | swap x y l =>
    simp only [flatS, List.flatMap_cons]
    rw [← List.append_assoc, ← List.append_assoc]
    exact List.Perm.append_right _ List.perm_append_comm
  | trans _ _ h1 h2 => exact h1.trans h2
theorem flat_step (M : List Grp) (h : 1 < M.length) : (flatS (stepG M)).Perm (flatS M) := by
  refine List.Perm.trans ?_ (flat_perm (perm_two M h))
  unfold stepG flatS
  rw [List.flatMap_append]
  refine List.perm_append_comm.trans ?_
  simp [joinG]
theorem flat_seed (l : List Int) (k : Nat) : (flatS (seed l k)).Nodup ∧ ∀ x ∈ flatS (seed l k), 0 ≤ x ∧ x < (k : Int) := by
  induction k with
  | zero => simp [seed, flatS]
  | succ k ih =>
    simp only [seed]
    split
    · have e : flatS (seed l k ++ [⟨l.getD k 0, (k : Int), [(k : Int)], .slice none 0 0⟩]) = flatS (seed l k) ++ [(k : Int)] := by simp [flatS]
      rw [e]
      refine ⟨?_, ?_⟩
      · rw [List.nodup_append]
        refine ⟨ih.1, by simp, ?_⟩
        intro x hx y hy
        simp only [List.mem_singleton] at hy
        subst hy
        have := (ih.2 x hx).2
        omega
      · intro x hx
        simp only [List.mem_append, List.mem_singleton] at hx
        rcases hx with hx | rfl
        · have := ih.2 x hx; omega
        · omega
    · exact ⟨ih.1, fun x hx => by have := ih.2 x hx; omega⟩
theorem flat_hufI (l : List Int) (k : Nat) (hk : k < (seed l l.length).length ∨ k = 0) : (flatS (hufI l k).1).Nodup ∧ ∀ x ∈ flatS (hufI l k).1, 0 ≤ x ∧ x < (l.length : Int) := by
  induction k with
  | zero => exact flat_seed l _
  | succ k ih =>
    have hi := ih (by omega)
    have hl := (hufI_inv l k (by omega)).2.2.2
    have hp := flat_step (hufI l k).1 (by omega)
    exact ⟨(hp.nodup_iff).2 hi.1, fun x hx => hi.2 x (hp.mem_iff.1 hx)⟩
theorem syms_sub (M : List Grp) (h : 1 < M.length) : ((symsG M) ++ flatS (restG (restG M))).Perm (flatS M) := by
  refine List.Perm.trans ?_ (flat_perm (perm_two M h))
  simp [symsG, flatS]
theorem syms_nodup {M : List Grp} (h : 1 < M.length) (hn : (flatS M).Nodup) : (symsG M).Nodup ∧ ∀ g ∈ restG (restG M), ∀ s ∈ g.syms, s ∉ symsG M := by
  have h2 := ((syms_sub M h).nodup_iff).2 hn
  rw [List.nodup_append] at h2
  refine ⟨h2.1, fun g hg s hs hm => ?_⟩
  exact h2.2.2 s hm s (by simp only [flatS, List.mem_flatMap]; exact ⟨g, hg, hs⟩) rfl
/-- No code is longer than how often two were put together. -/
theorem hufI_depth (l : List Int) (k : Nat) (hk : k < (seed l l.length).length ∨ k = 0) : maxL (hufI l k).2 (k : Int) := by
  induction k with
  | zero =>
    intro i hi
    have : (hufI l 0).2.getD i 0 = 0 := by
      simp only [hufI, List.getD]
      simp only [hufI, List.length_replicate] at hi
      simp [hi]
    rw [this]; omega
  | succ k ih =>
    have hi := ih (by omega)
    have hl := (hufI_inv l k (by omega)).2.2.2
    have hf := flat_hufI l k (by omega)
    have hn := syms_nodup (M := (hufI l k).1) (by omega) hf.1
    intro i hil
    simp only [hufI] at hil ⊢
    rw [bump_len] at hil
    have hpos : ∀ x ∈ symsG (hufI l k).1, 0 ≤ x := fun x hx => (hf.2 x ((syms_sub _ (by omega)).mem_iff.1 (by simp [hx]))).1
    rw [bump_get _ _ i hn.1 hpos hil]
    have := hi i hil
    split <;> omega

/-! Where all come as often. -/
/-- A group of a level: how often it comes, and how long its codes are. -/
def lvlA (K : Nat) (o : List Int) (g : Grp) : Prop := g.cnt = (p2 K : Nat) ∧ ∀ s ∈ g.syms, o.getD s.toNat 0 ≤ (K : Int)
def lvlB (K : Nat) (o : List Int) (g : Grp) : Prop := g.cnt = (p2 (K + 1) : Nat) ∧ ∀ s ∈ g.syms, o.getD s.toNat 0 ≤ (K : Int) + 1
def lvlO (K : Nat) (o : List Int) (g : Grp) : Prop := (p2 K : Nat) < g.cnt ∧ g.cnt < (p2 (K + 1) : Nat) ∧ ∀ s ∈ g.syms, o.getD s.toNat 0 ≤ (K : Int) + 1
def Lvl (K : Nat) (o : List Int) (M : List Grp) : Prop := (∀ g ∈ M, lvlA K o g ∨ lvlB K o g ∨ lvlO K o g) ∧ M.Pairwise (fun x y => ¬ (lvlO K o x ∧ lvlO K o y))
theorem leastF_min (L : List Grp) (k j : Nat) (hj : j ≤ k) : (L.getD (leastF L k) g0).cnt ≤ (L.getD j g0).cnt := by
  induction k with
  | zero => have : j = 0 := by omega
            subst this; exact Int.le_refl _
  | succ k ih =>
    simp only [leastF]
    by_cases e : j = k + 1
    · subst e
      split
      · exact Int.le_refl _
      · rename_i h
        simp only [lessG, Bool.or_eq_true, decide_eq_true_eq, not_or] at h
        have := h.1
        omega
    · have := ih (by omega)
      split
      · rename_i h
        simp only [lessG, Bool.or_eq_true, Bool.and_eq_true, decide_eq_true_eq] at h
        omega
      · exact this
theorem first_min (M : List Grp) (g : Grp) (hg : g ∈ M) : (firstG M).cnt ≤ g.cnt := by
  obtain ⟨i, hi, rfl⟩ := List.getElem_of_mem hg
  have := leastF_min M (M.length - 1) i (by omega)
  have e : M.getD i g0 = M[i] := by simp [List.getD, hi]
  rw [e] at this
  exact this
theorem lvlO_cnt {K : Nat} {o : List Int} {g : Grp} (h : lvlO K o g) : ((p2 K : Nat) : Int) < g.cnt ∧ g.cnt < ((p2 (K + 1) : Nat) : Int) := ⟨h.1, h.2.1⟩
theorem lvl_step {K : Nat} {o : List Int} {M : List Grp} (h : 1 < M.length) (hL : Lvl K o M) (hn : (flatS M).Nodup) (hx : ∀ x ∈ flatS M, 0 ≤ x ∧ x < (o.length : Int)) : Lvl K (bump o (symsG M)) (stepG M) ∨ Lvl (K + 1) (bump o (symsG M)) (stepG M) := by
  have hr := rest_len M (by omega)
  obtain ⟨hs1, hs2⟩ := syms_nodup h hn
  have hsub := syms_sub M h
  have hpos : ∀ x ∈ symsG M, 0 ≤ x := fun x hm => (hx x (hsub.mem_iff.1 (by simp [hm]))).1
  have ha := first_mem M (by omega)
  have hb := rest_sub M _ (first_mem (restG M) (by omega))
  have hR : ∀ g ∈ restG (restG M), g ∈ M := fun g hg => rest_sub M _ (rest_sub _ _ hg)
  have hab : (firstG M).cnt ≤ (firstG (restG M)).cnt := first_min M _ hb
  have hbR : ∀ g ∈ restG (restG M), (firstG (restG M)).cnt ≤ g.cnt := fun g hg => first_min (restG M) g (rest_sub _ _ hg)
  have hp2 : p2 (K + 1) = p2 K * 2 := p2_succ K
  have hp3 : p2 (K + 1 + 1) = p2 (K + 1) * 2 := p2_succ (K + 1)
  have hp0 := p2_pos K
  have hget : ∀ x, x ∈ flatS M → (bump o (symsG M)).getD x.toNat 0 = o.getD x.toNat 0 + (if x ∈ symsG M then 1 else 0) := by
    intro x hm
    have hb := hx x hm
    rw [bump_get o (symsG M) x.toNat hs1 hpos (by omega)]
    have e : ((x.toNat : Nat) : Int) = x := by omega
    rw [e]
  have hmem : ∀ g ∈ M, ∀ x ∈ g.syms, x ∈ flatS M := fun g hg x hxm => by simp only [flatS, List.mem_flatMap]; exact ⟨g, hg, hxm⟩
  have hold : ∀ g ∈ restG (restG M), ∀ x ∈ g.syms, (bump o (symsG M)).getD x.toNat 0 = o.getD x.toNat 0 := by
    intro g hg x hxm
    rw [hget x (hmem g (hR g hg) x hxm), if_neg (hs2 g hg x hxm)]
    omega
  have hnew : ∀ x, x ∈ symsG M → (bump o (symsG M)).getD x.toNat 0 = o.getD x.toNat 0 + 1 := by
    intro x hm
    rw [hget x (hsub.mem_iff.1 (by simp [hm])), if_pos hm]
  have hpw : (firstG M :: firstG (restG M) :: restG (restG M)).Pairwise (fun x y => ¬ (lvlO K o x ∧ lvlO K o y)) :=
    ((perm_two M h).pairwise_iff (fun {x y} hxy hyx => hxy ⟨hyx.2, hyx.1⟩)).2 hL.2
  rw [List.pairwise_cons, List.pairwise_cons] at hpw
  obtain ⟨pw1, pw2, pw3⟩ := hpw
  have hjc : (joinG (firstG M) (firstG (restG M))).cnt = (firstG M).cnt + (firstG (restG M)).cnt := rfl
  have hjs : ∀ x, x ∈ (joinG (firstG M) (firstG (restG M))).syms ↔ x ∈ symsG M := fun x => Iff.rfl
  by_cases hAA : lvlA K o (firstG M) ∧ lvlA K o (firstG (restG M))
  · left
    obtain ⟨⟨a1, a2⟩, b1, b2⟩ := hAA
    have hj : lvlB K (bump o (symsG M)) (joinG (firstG M) (firstG (restG M))) := by
      refine ⟨by rw [hjc, a1, b1, hp2]; omega, fun x hm => ?_⟩
      have hm2 := (hjs x).1 hm
      rw [hnew x hm2]
      simp only [symsG, List.mem_append] at hm2
      rcases hm2 with hm2 | hm2
      · have := a2 x hm2; omega
      · have := b2 x hm2; omega
    have hO : ∀ g ∈ restG (restG M), lvlO K (bump o (symsG M)) g → lvlO K o g := fun g hg hO => ⟨hO.1, hO.2.1, fun x hm => by have := hO.2.2 x hm; rw [hold g hg x hm] at this; exact this⟩
    refine ⟨fun g hg => ?_, ?_⟩
    · simp only [stepG, List.mem_append, List.mem_singleton] at hg
      rcases hg with hg | rfl
      · rcases hL.1 g (hR g hg) with h1 | h1 | h1
        · exact .inl ⟨h1.1, fun x hm => by rw [hold g hg x hm]; exact h1.2 x hm⟩
        · exact .inr (.inl ⟨h1.1, fun x hm => by rw [hold g hg x hm]; exact h1.2 x hm⟩)
        · exact .inr (.inr ⟨h1.1, h1.2.1, fun x hm => by rw [hold g hg x hm]; exact h1.2.2 x hm⟩)
      · exact .inr (.inl hj)
    · unfold stepG
      rw [List.pairwise_append]
      refine ⟨?_, by simp, ?_⟩
      · refine List.Pairwise.imp_of_mem ?_ pw3
        intro x y hxm hym hxy hxy2
        exact hxy ⟨hO x hxm hxy2.1, hO y hym hxy2.2⟩
      · intro x _ y hy hxy
        simp only [List.mem_singleton] at hy
        subst hy
        have h1 := hj.1
        have h2 := hxy.2.2.1
        omega
  · right
    have hbig : ((p2 K : Nat) : Int) ≤ (firstG M).cnt ∧ (firstG M).cnt ≤ ((p2 (K + 1) : Nat) : Int) ∧ ((p2 K : Nat) : Int) < (firstG (restG M)).cnt ∧ (firstG (restG M)).cnt ≤ ((p2 (K + 1) : Nat) : Int) ∧ ∀ g ∈ restG (restG M), lvlB K o g := by
      rcases hL.1 _ ha with a1 | a1 | a1
      · rcases hL.1 _ hb with b1 | b1 | b1
        · exact absurd ⟨a1, b1⟩ hAA
        · refine ⟨by rw [a1.1]; omega, by rw [a1.1]; omega, by rw [b1.1]; omega, by rw [b1.1]; omega, fun g hg => ?_⟩
          have hge := hbR g hg
          rcases hL.1 g (hR g hg) with h1 | h1 | h1
          · have := h1.1; have := b1.1; omega
          · exact h1
          · have := h1.2.1; have := b1.1; omega
        · refine ⟨by rw [a1.1]; omega, by rw [a1.1]; omega, b1.1, by have := b1.2.1; omega, fun g hg => ?_⟩
          have hge := hbR g hg
          rcases hL.1 g (hR g hg) with h1 | h1 | h1
          · have := h1.1; have := b1.1; omega
          · exact h1
          · exact absurd ⟨b1, h1⟩ (pw2 g hg)
      · rcases hL.1 _ hb with b1 | b1 | b1
        · have := a1.1; have := b1.1; omega
        · refine ⟨by rw [a1.1]; omega, by rw [a1.1]; omega, by rw [b1.1]; omega, by rw [b1.1]; omega, fun g hg => ?_⟩
          have hge := hbR g hg
          rcases hL.1 g (hR g hg) with h1 | h1 | h1
          · have := h1.1; have := b1.1; omega
          · exact h1
          · have := h1.2.1; have := b1.1; omega
        · have := a1.1; have := b1.2.1; omega
      · rcases hL.1 _ hb with b1 | b1 | b1
        · have := a1.1; have := b1.1; omega
        · refine ⟨by have := a1.1; omega, by have := a1.2.1; omega, by rw [b1.1]; omega, by rw [b1.1]; omega, fun g hg => ?_⟩
          have hge := hbR g hg
          rcases hL.1 g (hR g hg) with h1 | h1 | h1
          · have := h1.1; have := b1.1; omega
          · exact h1
          · have := h1.2.1; have := b1.1; omega
        · exact absurd ⟨a1, b1⟩ (pw1 _ (by simp))
    obtain ⟨q1, q2, q3, q4, q5⟩ := hbig
    have hK1 : ∀ g ∈ M, ∀ x ∈ g.syms, o.getD x.toNat 0 ≤ (K : Int) + 1 := by
      intro g hg x hm
      rcases hL.1 g hg with h1 | h1 | h1
      · have := h1.2 x hm; omega
      · exact h1.2 x hm
      · exact h1.2.2 x hm
    have hjd : ∀ x ∈ (joinG (firstG M) (firstG (restG M))).syms, (bump o (symsG M)).getD x.toNat 0 ≤ ((K + 1 : Nat) : Int) + 1 := by
      intro x hm
      have hm2 := (hjs x).1 hm
      rw [hnew x hm2]
      simp only [symsG, List.mem_append] at hm2
      rcases hm2 with hm2 | hm2
      · have := hK1 _ ha x hm2; omega
      · have := hK1 _ hb x hm2; omega
    have hRA : ∀ g ∈ restG (restG M), lvlA (K + 1) (bump o (symsG M)) g := fun g hg => ⟨(q5 g hg).1, fun x hm => by rw [hold g hg x hm]; have := (q5 g hg).2 x hm; omega⟩
    refine ⟨fun g hg => ?_, ?_⟩
    · simp only [stepG, List.mem_append, List.mem_singleton] at hg
      rcases hg with hg | rfl
      · exact .inl (hRA g hg)
      · by_cases e : (joinG (firstG M) (firstG (restG M))).cnt = ((p2 (K + 1 + 1) : Nat) : Int)
        · exact .inr (.inl ⟨e, hjd⟩)
        · refine .inr (.inr ⟨?_, ?_, hjd⟩)
          · rw [hjc]; omega
          · rw [hjc] at e ⊢; omega
    · unfold stepG
      have hnO : ∀ g ∈ restG (restG M), ¬ lvlO (K + 1) (bump o (symsG M)) g := fun g hg hO => by
        have h1 := (hRA g hg).1
        have h2 := hO.1
        omega
      rw [List.pairwise_append]
      refine ⟨?_, by simp, ?_⟩
      · refine List.Pairwise.imp_of_mem ?_ pw3
        intro x y hxm _ _ hxy2
        exact hnO x hxm hxy2.1
      · intro x hxm y _ hxy
        exact hnO x hxm hxy.1
/-- All counts are 0 or 1. -/
def ones (l : List Int) : Prop := ∀ i, i < l.length → l.getD i 0 ≤ 1
theorem lvl_seed (l : List Int) (h1 : ones l) (k : Nat) (hk : k ≤ l.length) : ∀ g ∈ seed l k, lvlA 0 (List.replicate l.length 0) g := by
  induction k with
  | zero => intro g hg; simp [seed] at hg
  | succ k ih =>
    simp only [seed]
    split
    case isTrue h =>
      intro g hg
      simp only [List.mem_append, List.mem_singleton] at hg
      rcases hg with hg | rfl
      · exact ih (by omega) g hg
      · refine ⟨?_, ?_⟩
        · have := h1 k (by omega)
          have e : p2 0 = 1 := rfl
          simp only; rw [e]; omega
        · intro s hs
          simp only [List.mem_singleton] at hs
          subst hs
          rw [Int.toNat_natCast]
          have : (List.replicate l.length (0 : Int)).getD k 0 = 0 := by simp [List.getD, show k < l.length by omega]
          rw [this]; exact Int.le_refl _
    case isFalse => exact ih (by omega)
theorem lvl_hufI (l : List Int) (h1 : ones l) (k : Nat) (hk : k < (seed l l.length).length ∨ k = 0) : ∃ K, Lvl K (hufI l k).2 (hufI l k).1 := by
  induction k with
  | zero =>
    refine ⟨0, fun g hg => .inl (lvl_seed l h1 _ (Nat.le_refl _) g hg), ?_⟩
    refine List.Pairwise.imp_of_mem ?_ (List.pairwise_of_forall (R := fun _ _ => True) (fun _ _ => trivial))
    intro x y hxm _ _ hxy
    have := (lvl_seed l h1 _ (Nat.le_refl _) x hxm).1
    have := hxy.1.1
    omega
  | succ k ih =>
    obtain ⟨K, hK⟩ := ih (by omega)
    have hl := (hufI_inv l k (by omega)).2.2.2
    have hf := flat_hufI l k (by omega)
    rcases lvl_step (by omega) hK hf.1 (fun x hx => by rw [hufI_len]; exact hf.2 x hx) with h | h
    · exact ⟨K, h⟩
    · exact ⟨K + 1, h⟩

end Go.Proofs.Ytkkhaleiehnihaa
