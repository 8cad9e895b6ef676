/- Plain mathematics: lengths that are made of counts make a whole code, and need as many bits as were added. -/
import Derived.Test.YtkkhaleiehnihaaHv1
import Derived.Test.YtkkhaleiehnihaaLk1
namespace Go.Proofs.Ytkkhaleiehnihaa
open Go.RowKit

theorem seed_yes' {l : List Int} {k : Nat} (h : 0 < l.getD k 0) : seed l (k + 1) = seed l k ++ [⟨l.getD k 0, (k : Int), [(k : Int)], .slice none 0 0⟩] := by simp only [seed]; rw [if_pos h]
theorem seed_no' {l : List Int} {k : Nat} (h : ¬ 0 < l.getD k 0) : seed l (k + 1) = seed l k := by simp only [seed]; rw [if_neg h]
def krR (l : List Int) (len : Nat → Nat) (D : Nat) : Nat → Nat
  | 0 => 0
  | n + 1 => krR l len D n + (if 0 < l.getD n 0 then 2 ^ (D - len n) else 0)
def dotR (l : List Int) (len : Nat → Nat) : Nat → Int
  | 0 => 0
  | n + 1 => dotR l len n + l.getD n 0 * (len n : Int)
def XS (l : List Int) (len : Nat → Nat) (k : Nat) : List (Grp × Nat) := (seed l k).map fun g => (g, len g.fst.toNat)
theorem XS_fst (l : List Int) (len : Nat → Nat) (k : Nat) : (XS l len k).map Prod.fst = seed l k := by
  unfold XS
  rw [List.map_map]
  have : (Prod.fst ∘ fun g : Grp => (g, len g.fst.toNat)) = id := rfl
  rw [this, List.map_id]
theorem XS_KX (l : List Int) (len : Nat → Nat) (D k : Nat) : KX D (XS l len k) = krR l len D k := by
  induction k with
  | zero => rfl
  | succ k ih =>
    simp only [krR]
    by_cases h : 0 < l.getD k 0
    · rw [if_pos h, ← ih]
      unfold XS
      rw [seed_yes' h]
      simp [KX]
    · rw [if_neg h, ← ih]
      unfold XS
      rw [seed_no' h]
      simp
theorem XS_WX (l : List Int) (len : Nat → Nat) (k : Nat) (h0 : ∀ i, i < k → 0 ≤ l.getD i 0) : WX (XS l len k) = dotR l len k := by
  induction k with
  | zero => rfl
  | succ k ih =>
    have ih' := ih (fun i hi => h0 i (by omega))
    simp only [dotR]
    by_cases h : 0 < l.getD k 0
    · rw [← ih']
      unfold XS
      rw [seed_yes' h]
      simp [WX]
    · have hz : l.getD k 0 = 0 := by have := h0 k (by omega); omega
      rw [hz, Int.zero_mul, Int.add_zero, ← ih']
      unfold XS
      rw [seed_no' h]
theorem seed_cnt (l : List Int) (k : Nat) : ∀ g ∈ seed l k, 0 ≤ g.cnt ∧ ∃ i : Nat, g.fst = (i : Int) ∧ i < k ∧ 0 < l.getD i 0 ∧ g.cnt = l.getD i 0 ∧ g.syms = [(i : Int)] := by
  induction k with
  | zero => intro g hg; simp [seed] at hg
  | succ k ih =>
    intro g hg
    by_cases hp : 0 < l.getD k 0
    · rw [seed_yes' hp] at hg
      simp only [List.mem_append, List.mem_singleton] at hg
      rcases hg with hg | rfl
      · obtain ⟨h1, i, h2, h3, h4⟩ := ih g hg
        exact ⟨h1, i, h2, by omega, h4⟩
      · exact ⟨by simp only; omega, k, rfl, by omega, hp, rfl, rfl⟩
    · rw [seed_no' hp] at hg
      obtain ⟨h1, i, h2, h3, h4⟩ := ih g hg
      exact ⟨h1, i, h2, by omega, h4⟩
/-- No other lengths need fewer bits. -/
theorem opt_len {l : List Int} {len : Nat → Nat} {D n m : Nat} (h0 : ∀ i, i < n → 0 ≤ l.getD i 0) (hD : ∀ i, i < n → 0 < l.getD i 0 → len i ≤ D) (hK : krR l len D n ≤ 2 ^ D) : costG m (seed l n) ≤ dotR l len n := by
  rw [← XS_WX l len n h0]
  refine opt m (seed l n) (XS l len n) D (by rw [XS_fst]) (fun g hg => (seed_cnt l n g hg).1) (by rw [XS_KX]; exact hK) ?_
  intro x hx
  obtain ⟨g, hg, rfl⟩ := List.mem_map.1 hx
  obtain ⟨_, i, h1, h2, h3, _⟩ := seed_cnt l n g hg
  simp only
  rw [h1, Int.toNat_natCast]
  exact hD i h2 h3
theorem flat_seed_sum (l : List Int) (len : Nat → Nat) (D k : Nat) : ((flatS (seed l k)).map fun s => 2 ^ (D - len s.toNat)).sum = krR l len D k := by
  induction k with
  | zero => rfl
  | succ k ih =>
    simp only [krR]
    by_cases h : 0 < l.getD k 0
    · rw [if_pos h, ← ih, seed_yes' h]
      simp [flatS]
    · rw [if_neg h, ← ih, seed_no' h]
      simp
theorem flat_mem (l : List Int) (k : Nat) (x : Int) : x ∈ flatS (seed l k) ↔ ∃ i : Nat, x = (i : Int) ∧ i < k ∧ 0 < l.getD i 0 := by
  constructor
  · intro h
    obtain ⟨g, hg, hx⟩ := List.mem_flatMap.1 h
    obtain ⟨_, i, h1, h2, h3, _, h5⟩ := seed_cnt l k g hg
    rw [h5] at hx
    simp only [List.mem_singleton] at hx
    exact ⟨i, hx, h2, h3⟩
  · rintro ⟨i, rfl, hi, hp⟩
    induction k with
    | zero => omega
    | succ k ih =>
      by_cases e : i = k
      · subst e
        rw [seed_yes' hp]
        simp [flatS]
      · have := ih (by omega)
        by_cases h : 0 < l.getD k 0
        · rw [seed_yes' h]
          simp only [flatS, List.flatMap_append, List.mem_append]
          exact .inl this
        · rw [seed_no' h]
          exact this

/-! What holds behind so many steps. -/
def symSum (l s : List Int) : Int := (s.map fun x => l.getD x.toNat 0).sum
theorem symSum_append (l a b : List Int) : symSum l (a ++ b) = symSum l a + symSum l b := by simp [symSum]
theorem huf_cnt (l : List Int) (k : Nat) (hk : k < (seed l l.length).length ∨ k = 0) : ∀ g ∈ (hufI l k).1, g.cnt = symSum l g.syms := by
  induction k with
  | zero =>
    intro g hg
    obtain ⟨_, i, h1, h2, h3, h4, h5⟩ := seed_cnt l l.length g hg
    rw [h4, h5]
    simp [symSum]
  | succ k ih =>
    have hlen : 1 < (hufI l k).1.length := by have := (hufI_inv l k (by omega)).2.2.2; omega
    have hr := rest_len (hufI l k).1 (by omega)
    have ih' := ih (by omega)
    intro g hg
    have hg' : g ∈ stepG (hufI l k).1 := hg
    simp only [stepG, List.mem_append, List.mem_singleton] at hg'
    rcases hg' with hg' | rfl
    · exact ih' g (rest_sub _ _ (rest_sub _ _ hg'))
    · simp only [joinG]
      rw [symSum_append, ih' _ (first_mem _ (by omega)), ih' _ (rest_sub _ _ (first_mem (restG _) (by omega)))]
def dotL (l o : List Int) : Nat → Int
  | 0 => 0
  | n + 1 => dotL l o n + l.getD n 0 * o.getD n 0
theorem dot_bump1 (l o : List Int) (s : Int) (h0 : 0 ≤ s) (n : Nat) (hn : n ≤ o.length) : dotL l (bump1 o s) n = dotL l o n + (if s < (n : Int) then l.getD s.toNat 0 else 0) := by
  induction n with
  | zero => simp only [dotL]; rw [if_neg (by omega)]; rfl
  | succ n ih =>
    simp only [dotL]
    rw [ih (by omega), bump1_get o s n h0 (by omega)]
    by_cases e : s = (n : Int)
    · subst e
      rw [if_neg (by omega), if_pos rfl, if_pos (by omega), Int.mul_add, Int.mul_one, Int.toNat_natCast]
      omega
    · rw [if_neg e, Int.add_zero]
      by_cases h : s < (n : Int)
      · rw [if_pos h, if_pos (by omega)]; omega
      · rw [if_neg h, if_neg (by omega)]; omega
theorem dot_bump (l s : List Int) (n : Nat) : ∀ (o : List Int), n ≤ o.length → (∀ x ∈ s, 0 ≤ x ∧ x < (n : Int)) → dotL l (bump o s) n = dotL l o n + symSum l s := by
  induction s with
  | nil => intro o _ _; simp [bump, symSum]
  | cons x s ih =>
    intro o hn hs
    show dotL l (bump (bump1 o x) s) n = _
    rw [ih (bump1 o x) (by rw [bump1_len]; exact hn) (fun y hy => hs y (by simp [hy])), dot_bump1 l o x (hs x (by simp)).1 n hn, if_pos (hs x (by simp)).2]
    simp only [symSum, List.map_cons, List.sum_cons]
    omega
theorem dot_zero (l : List Int) (m n : Nat) : dotL l (List.replicate m 0) n = 0 := by
  induction n with
  | zero => rfl
  | succ n ih =>
    simp only [dotL]
    rw [ih]
    have : (List.replicate m (0 : Int)).getD n 0 = 0 := by
      rw [List.getD_eq_getElem?_getD, List.getElem?_replicate]
      split <;> rfl
    rw [this]; omega
theorem huf_dot (l : List Int) (k : Nat) (hk : k < (seed l l.length).length ∨ k = 0) : dotL l (hufI l k).2 l.length + costG ((seed l l.length).length - 1 - k) (hufI l k).1 = costG ((seed l l.length).length - 1) (seed l l.length) := by
  induction k with
  | zero =>
    show dotL l (List.replicate l.length 0) l.length + costG _ (seed l l.length) = _
    rw [dot_zero, Int.zero_add, Nat.sub_zero]
  | succ k ih =>
    have ih' := ih (by omega)
    have hlen : 1 < (hufI l k).1.length := by have := (hufI_inv l k (by omega)).2.2.2; omega
    have hr := rest_len (hufI l k).1 (by omega)
    obtain ⟨m, hm⟩ : ∃ m, (seed l l.length).length - 1 - k = m + 1 := ⟨(seed l l.length).length - 1 - k - 1, by omega⟩
    have hm2 : (seed l l.length).length - 1 - (k + 1) = m := by omega
    rw [hm] at ih'
    rw [hm2]
    simp only [costG] at ih'
    rw [if_pos hlen] at ih'
    have hsy : ∀ x ∈ symsG (hufI l k).1, 0 ≤ x ∧ x < (l.length : Int) := by
      intro x hx
      have hf := (flat_hufI l k (by omega)).2
      exact hf x ((syms_sub _ hlen).mem_iff.1 (by simp [hx]))
    have h1 := dot_bump l (symsG (hufI l k).1) l.length (hufI l k).2 (by rw [hufI_len]; exact Nat.le_refl _) hsy
    have h2 := huf_cnt l k (by omega) _ (first_mem (hufI l k).1 (by omega))
    have h3 := huf_cnt l k (by omega) _ (rest_sub _ _ (first_mem (restG (hufI l k).1) (by omega)))
    have h4 : symSum l (symsG (hufI l k).1) = (firstG (hufI l k).1).cnt + (firstG (restG (hufI l k).1)).cnt := by
      unfold symsG
      rw [symSum_append, ← h2, ← h3]
    show dotL l (bump (hufI l k).2 (symsG (hufI l k).1)) l.length + costG m (stepG (hufI l k).1) = _
    rw [h1, h4]
    omega
def kapS (o s : List Int) (D : Nat) : Nat := (s.map fun x => 2 ^ (D - (o.getD x.toNat 0).toNat)).sum
theorem kapS_append (o a b : List Int) (D : Nat) : kapS o (a ++ b) D = kapS o a D + kapS o b D := by simp [kapS]
theorem kapS_same {o o' s : List Int} {D : Nat} (h : ∀ x ∈ s, o'.getD x.toNat 0 = o.getD x.toNat 0) : kapS o' s D = kapS o s D := by
  unfold kapS
  congr 1
  apply List.map_congr_left
  intro x hx
  rw [h x hx]
theorem kapS_half {o o' s : List Int} {D : Nat} (h : ∀ x ∈ s, 0 ≤ o.getD x.toNat 0 ∧ o.getD x.toNat 0 < (D : Int) ∧ o'.getD x.toNat 0 = o.getD x.toNat 0 + 1) : 2 * kapS o' s D = kapS o s D := by
  induction s with
  | nil => rfl
  | cons x s ih =>
    have ih' := ih (fun y hy => h y (by simp [hy]))
    obtain ⟨h1, h2, h3⟩ := h x (by simp)
    simp only [kapS, List.map_cons, List.sum_cons] at ih' ⊢
    rw [h3]
    obtain ⟨d, hd⟩ : ∃ d, D - (o.getD x.toNat 0).toNat = d + 1 := ⟨D - (o.getD x.toNat 0).toNat - 1, by omega⟩
    have hd2 : D - (o.getD x.toNat 0 + 1).toNat = d := by omega
    rw [hd, hd2, Nat.pow_succ]
    omega
theorem huf_kap (l : List Int) (D : Nat) (hD : (seed l l.length).length ≤ D) (k : Nat) (hk : k < (seed l l.length).length ∨ k = 0) : ∀ g ∈ (hufI l k).1, kapS (hufI l k).2 g.syms D = 2 ^ D := by
  induction k with
  | zero =>
    intro g hg
    obtain ⟨_, i, h1, h2, h3, h4, h5⟩ := seed_cnt l l.length g hg
    rw [h5]
    show kapS (List.replicate l.length 0) [(i : Int)] D = 2 ^ D
    simp [kapS, List.getD, h2]
  | succ k ih =>
    have hlen : 1 < (hufI l k).1.length := by have := (hufI_inv l k (by omega)).2.2.2; omega
    have hr := rest_len (hufI l k).1 (by omega)
    have ih' := ih (by omega)
    have hfl := flat_hufI l k (by omega)
    obtain ⟨hnd, hdis⟩ := syms_nodup hlen hfl.1
    have hdep := hufI_depth l k (by omega)
    have hin : ∀ x ∈ symsG (hufI l k).1, 0 ≤ x ∧ x < (l.length : Int) := fun x hx => hfl.2 x ((syms_sub _ hlen).mem_iff.1 (by simp [hx]))
    have hget := fun (x : Int) (h0 : 0 ≤ x) (h1 : x < (l.length : Int)) => bump_get (hufI l k).2 (symsG (hufI l k).1) x.toNat hnd (fun y hy => (hin y hy).1) (by rw [hufI_len]; omega)
    intro g hg
    show kapS (bump (hufI l k).2 (symsG (hufI l k).1)) g.syms D = 2 ^ D
    have hg' : g ∈ stepG (hufI l k).1 := hg
    simp only [stepG, List.mem_append, List.mem_singleton] at hg'
    rcases hg' with hg' | rfl
    · rw [kapS_same (o := (hufI l k).2)]
      · exact ih' g (rest_sub _ _ (rest_sub _ _ hg'))
      · intro x hx
        have hxf : x ∈ flatS (hufI l k).1 := List.mem_flatMap.2 ⟨g, rest_sub _ _ (rest_sub _ _ hg'), hx⟩
        obtain ⟨x0, x1⟩ := hfl.2 x hxf
        rw [hget x x0 x1, Int.toNat_of_nonneg x0, if_neg (hdis g hg' x hx), Int.add_zero]
    · have hj : (joinG (firstG (hufI l k).1) (firstG (restG (hufI l k).1))).syms = symsG (hufI l k).1 := rfl
      rw [hj]
      have hha := kapS_half (o := (hufI l k).2) (o' := bump (hufI l k).2 (symsG (hufI l k).1)) (s := symsG (hufI l k).1) (D := D) (by
        intro x hx
        obtain ⟨x0, x1⟩ := hin x hx
        have hd := hdep x.toNat (by rw [hufI_len]; omega)
        refine ⟨hd.1, by omega, ?_⟩
        rw [hget x x0 x1, Int.toNat_of_nonneg x0, if_pos hx])
      have h2 : kapS (hufI l k).2 (symsG (hufI l k).1) D = 2 ^ D + 2 ^ D := by
        unfold symsG
        rw [kapS_append, ih' _ (first_mem _ (by omega)), ih' _ (rest_sub _ _ (first_mem (restG _) (by omega)))]
      omega

end Go.Proofs.Ytkkhaleiehnihaa
