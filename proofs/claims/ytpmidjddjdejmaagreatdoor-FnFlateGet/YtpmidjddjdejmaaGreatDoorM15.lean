/- Of what the proof is made: 3 texts, one behind the other. -/
import Derived.Test.YtpmidjddjdejmaaGreatDoorM12
import Derived.Test.YtpmidjddjdejmaaGreatDoorStepLaw
import Derived.Test.YtpmidjddjdejmaaGreatDoorGn1
namespace Go.Proofs.YtpmidjddjdejmaaGreatDoor
open Go.RowKit Corb
theorem most_yes {o : List Int} {k : Nat} (h : mostL o k < o.getD k 0) : mostL o (k + 1) = o.getD k 0 := by simp only [mostL]; rw [if_pos h]
theorem most_no {o : List Int} {k : Nat} (h : ¬ mostL o k < o.getD k 0) : mostL o (k + 1) = mostL o k := by simp only [mostL]; rw [if_neg h]
end Go.Proofs.YtpmidjddjdejmaaGreatDoor
namespace Go.Proofs.YtpmidjddjdejmaaGreatDoor
open Go.RowKit Corb
theorem seed_has (l : List Int) (k i : Nat) (hi : i < k) (hp : 0 < l.getD i 0) : ∃ g ∈ seed l k, g.fst = (i : Int) := by
  induction k with
  | zero => omega
  | succ k ih =>
    by_cases e : i = k
    · subst e
      refine ⟨⟨l.getD i 0, (i : Int), [(i : Int)], .slice none 0 0⟩, ?_, rfl⟩
      rw [seed_yes hp]
      simp
    · obtain ⟨g, hg, hf⟩ := ih (by omega)
      refine ⟨g, ?_, hf⟩
      simp only [seed]
      split
      · simp [hg]
      · exact hg
theorem seed_pos (l : List Int) (k : Nat) : ∀ g ∈ seed l k, ∃ i : Nat, g.fst = (i : Int) ∧ i < k ∧ 0 < l.getD i 0 := by
  induction k with
  | zero => intro g hg; simp [seed] at hg
  | succ k ih =>
    intro g hg
    simp only [seed] at hg
    split at hg
    · rename_i hp
      simp only [List.mem_append, List.mem_singleton] at hg
      rcases hg with hg | rfl
      · obtain ⟨i, h1, h2, h3⟩ := ih g hg
        exact ⟨i, h1, by omega, h3⟩
      · exact ⟨k, rfl, by omega, hp⟩
    · obtain ⟨i, h1, h2, h3⟩ := ih g hg
      exact ⟨i, h1, by omega, h3⟩
theorem huf_one {l : List Int} (hc : okC l) (h1 : (seed l l.length).length = 1) : hufL l = l.map oneI := by
  unfold hufL
  rw [if_pos h1]
  obtain ⟨x, hx⟩ : ∃ x, seed l l.length = [x] := by
    cases hs : seed l l.length with
    | nil => rw [hs] at h1; simp at h1
    | cons x t => rw [hs] at h1; simp at h1; exact ⟨x, by rw [h1]⟩
  obtain ⟨q, hq, hql, hqp⟩ := seed_pos l l.length x (by rw [hx]; simp)
  rw [hx]
  simp only [List.getD_cons_zero]
  rw [hq, Int.toNat_natCast]
  apply List.ext_getElem
  · simp
  · intro i h2 h3
    have hi : i < l.length := by simpa using h3
    have e : l.getD i 0 = l[i] := by simp [List.getD, hi]
    have hci := hc i hi
    rw [List.getElem_set, List.getElem_map, List.getElem_replicate]
    by_cases hqi : q = i
    · subst hqi
      rw [if_pos rfl]
      rw [e] at hqp hci
      unfold oneI
      split <;> omega
    · rw [if_neg hqi]
      have hz : ¬ 0 < l.getD i 0 := by
        intro hp
        obtain ⟨g, hg, hf⟩ := seed_has l l.length i hi hp
        rw [hx] at hg
        simp only [List.mem_singleton] at hg
        subst hg
        rw [hq] at hf
        omega
      rw [e] at hz hci
      unfold oneI
      split <;> omega
end Go.Proofs.YtpmidjddjdejmaaGreatDoor
namespace Go.Proofs.YtpmidjddjdejmaaGreatDoor
open Go.RowKit
def lenF (o : List Int) (i : Nat) : Nat := (o.getD i 0).toNat
theorem mem_getD (l : List Int) (i : Nat) (h : i < l.length) : l.getD i 0 ∈ l := by simp [List.getD, h]
theorem huf_final {l : List Int} (h2 : 2 ≤ (seed l l.length).length) :
    (∀ i, i < l.length → 0 ≤ (hufL l).getD i 0 ∧ (hufL l).getD i 0 ≤ (((seed l l.length).length - 1 : Nat) : Int)) ∧
    (∀ i, i < l.length → (0 < (hufL l).getD i 0 ↔ 0 < l.getD i 0)) ∧
    (∀ D, (seed l l.length).length ≤ D → krR l (lenF (hufL l)) D l.length = 2 ^ D) ∧
    dotL l (hufL l) l.length = costG ((seed l l.length).length - 1) (seed l l.length) := by
  obtain ⟨U, hU⟩ : ∃ U, (seed l l.length).length = U + 2 := ⟨(seed l l.length).length - 2, by omega⟩
  have he : hufL l = (hufI l (U + 1)).2 := by
    unfold hufL
    rw [if_neg (by omega), hU]
    rfl
  have hk : U + 1 < (seed l l.length).length ∨ U + 1 = 0 := .inl (by omega)
  have hdep := hufI_depth l (U + 1) hk
  have hl1 : (hufI l (U + 1)).1.length = 1 := by have := (hufI_inv l (U + 1) hk).2.2.2; omega
  have hlU : (hufI l U).1.length = 2 := by have := (hufI_inv l U (by omega)).2.2.2; omega
  obtain ⟨g, hg⟩ : ∃ g, (hufI l (U + 1)).1 = [g] := by
    cases hs : (hufI l (U + 1)).1 with
    | nil => rw [hs] at hl1; simp at hl1
    | cons x t => rw [hs] at hl1; simp at hl1; exact ⟨x, by rw [hl1]⟩
  have hflat := flat_same l (U + 1) hk
  have hgs : (g.syms).Perm (flatS (seed l l.length)) := by
    rw [hg] at hflat
    simpa [flatS] using hflat
  rw [he]
  refine ⟨?_, ?_, ?_, ?_⟩
  · intro i hi
    have := hdep i (by rw [hufI_len]; exact hi)
    refine ⟨this.1, ?_⟩
    have e : (((seed l l.length).length - 1 : Nat) : Int) = ((U + 1 : Nat) : Int) := by rw [hU]; omega
    rw [e]
    exact this.2
  · intro i hi
    constructor
    · intro hp
      apply Classical.byContradiction
      intro hn
      have hz := hufI_zero l i hi (fun hm => by
        obtain ⟨j, h1, h3, h4⟩ := (flat_mem l l.length (i : Int)).1 hm
        have : i = j := by omega
        subst this
        exact hn h4) (U + 1) hk
      omega
    · intro hp
      have hm : (i : Int) ∈ flatS (seed l l.length) := (flat_mem l l.length (i : Int)).2 ⟨i, rfl, hi, hp⟩
      have hlen : 1 < (hufI l U).1.length := by omega
      have hfl := flat_hufI l U (by omega)
      have hsub := syms_sub _ hlen
      have hr := rest_len (hufI l U).1 (by omega)
      have hr2 := rest_len (restU (hufI l U).1) (by omega)
      have hnil : restU (restU (hufI l U).1) = [] := List.eq_nil_of_length_eq_zero (by omega)
      rw [hnil] at hsub
      have hsy : (i : Int) ∈ symsG (hufI l U).1 := by
        have h1 := (flat_same l U (by omega)).mem_iff.2 hm
        have h3 := hsub.mem_iff.2 h1
        simpa [flatS] using h3
      have hb := bump_get (hufI l U).2 (symsG (hufI l U).1) i (syms_nodup hlen hfl.1).1 (fun y hy => (hfl.2 y (hsub.mem_iff.1 (by simp [hy]))).1) (by rw [hufI_len]; exact hi)
      rw [if_pos hsy] at hb
      have hd := (hufI_depth l U (by omega)) i (by rw [hufI_len]; exact hi)
      show 0 < (bump (hufI l U).2 (symsG (hufI l U).1)).getD i 0
      omega
  · intro D hD
    have h1 := huf_kap l D hD (U + 1) hk g (by rw [hg]; simp)
    rw [← flat_seed_sum, ← h1]
    exact (nsum_perm _ hgs).symm
  · have h1 := huf_dot l (U + 1) hk
    have e : (seed l l.length).length - 1 - (U + 1) = 0 := by omega
    rw [e] at h1
    simp only [costG, Int.add_zero] at h1
    exact h1
theorem kr_scale {l : List Int} {len : Nat → Nat} {D E n : Nat} (hE : E ≤ D) (h : ∀ i, i < n → 0 < l.getD i 0 → len i ≤ E) : krR l len D n = 2 ^ (D - E) * krR l len E n := by
  induction n with
  | zero => rfl
  | succ n ih =>
    simp only [krR]
    rw [ih (fun i hi => h i (by omega)), Nat.mul_add]
    by_cases hp : 0 < l.getD n 0
    · rw [if_pos hp, if_pos hp]
      have := h n (by omega) hp
      rw [← Nat.pow_add]
      congr 2
      omega
    · rw [if_neg hp, if_neg hp]
      rfl
theorem kr_whole {l : List Int} {E : Nat} (h2 : 2 ≤ (seed l l.length).length) (h : ∀ i, i < l.length → (hufL l).getD i 0 ≤ (E : Int)) : krR l (lenF (hufL l)) E l.length = 2 ^ E := by
  obtain ⟨h0, _, hk, _⟩ := huf_final h2
  have hE : ∀ i, i < l.length → 0 < l.getD i 0 → lenF (hufL l) i ≤ E := by
    intro i hi _
    have := h i hi
    unfold lenF
    omega
  have h1 := kr_scale (D := E + (seed l l.length).length) (Nat.le_add_right _ _) hE
  rw [hk _ (Nat.le_add_left _ _), Nat.add_sub_cancel_left, Nat.pow_add, Nat.mul_comm] at h1
  exact (Nat.eq_of_mul_eq_mul_left (Nat.pow_pos (by omega)) h1).symm
theorem kr_list {l o : List Int} (ho : o.length = l.length) (h : ∀ i, i < l.length → (0 < o.getD i 0 ↔ 0 < l.getD i 0)) (k : Nat) (hk : k ≤ l.length) : kr (o.take k) = krR l (lenF o) 15 k ∧ us (o.take k) = (seed l k).length := by
  induction k with
  | zero => exact ⟨rfl, rfl⟩
  | succ k ih =>
    obtain ⟨h1, h2⟩ := ih (by omega)
    rw [kr_take o k (by omega), us_take o k (by omega), h1, h2]
    simp only [krR]
    have hi := h k (by omega)
    by_cases hp : 0 < l.getD k 0
    · rw [if_pos hp, if_pos (hi.2 hp), seed_yes' hp]
      refine ⟨?_, by simp⟩
      unfold krN lenF p2
      rw [if_pos (hi.2 hp)]
      congr 2
      have := hi.2 hp
      omega
    · rw [if_neg hp, if_neg (fun x => hp (hi.1 x)), seed_no' hp]
      refine ⟨?_, rfl⟩
      unfold krN
      rw [if_neg (fun x => hp (hi.1 x))]
theorem whole_ok {l o : List Int} (ho : o.length = l.length) (hl : l.length ≤ 300) (h : ∀ i, i < l.length → (0 < o.getD i 0 ↔ 0 < l.getD i 0)) (h15 : ∀ i, i < l.length → 0 ≤ o.getD i 0 ∧ o.getD i 0 ≤ 15) (hk : krR l (lenF o) 15 l.length = 32768 ∨ ((seed l l.length).length = 1 ∧ krR l (lenF o) 15 l.length = 16384)) : lensOk o = true := by
  obtain ⟨h1, h2⟩ := kr_list ho h l.length (Nat.le_refl _)
  rw [← ho, List.take_length, ho] at h1 h2
  unfold lensOk wholeL
  simp only [Bool.and_eq_true, Bool.or_eq_true, decide_eq_true_eq]
  refine ⟨⟨?_, by omega⟩, ?_⟩
  · unfold inL
    rw [List.all_eq_true]
    intro x hx
    obtain ⟨i, hi, rfl⟩ := List.getElem_of_mem hx
    have := h15 i (by omega)
    have e : o.getD i 0 = o[i] := by simp [List.getD, hi]
    rw [e] at this
    exact inB_true.2 this
  · rw [h1, h2]
    rcases hk with hk | hk
    · exact .inl hk
    · exact .inr hk
theorem most_ge (o : List Int) (k i : Nat) (hi : i < k) : o.getD i 0 ≤ mostL o k := by
  induction k with
  | zero => omega
  | succ k ih =>
    by_cases h : mostL o k < o.getD k 0
    · rw [most_yes h]
      by_cases e : i = k
      · subst e; exact Int.le_refl _
      · have := ih (by omega); omega
    · rw [most_no h]
      by_cases e : i = k
      · subst e; omega
      · exact ih (by omega)
theorem fit_final (m : Nat) : ∀ (f : Nat) (l : List Int), okC l → 1 ≤ (seed l l.length).length → (seed l l.length).length ≤ p2 m → sumP l ≤ f →
    ∃ c : List Int, c.length = l.length ∧ okC c ∧ (∀ i, i < l.length → (0 < c.getD i 0 ↔ 0 < l.getD i 0)) ∧ fitF ((m : Int) + 1) f l = hufL c ∧ (∀ i, i < l.length → (hufL c).getD i 0 ≤ (m : Int) + 1) ∧ (seed c c.length).length = (seed l l.length).length := by
  intro f
  induction f with
  | zero =>
    intro l hc h1 _ hs
    exfalso
    obtain ⟨g, hg⟩ : ∃ g, g ∈ seed l l.length := by
      cases hse : seed l l.length with
      | nil => rw [hse] at h1; simp at h1
      | cons x t => exact ⟨x, by simp⟩
    obtain ⟨_, i, _, hi, hp, _⟩ := seed_cnt l l.length g hg
    have : ∀ (a : List Int) (x : Int), x ∈ a → 0 < x → 0 < sumP a := by
      intro a x hx hp
      induction a with
      | nil => cases hx
      | cons y a ih =>
        simp only [sumP, List.map_cons, List.sum_cons] at ih ⊢
        simp only [List.mem_cons] at hx
        rcases hx with rfl | hx
        · omega
        · have := ih hx; omega
    have := this l (l.getD i 0) (mem_getD l i hi) hp
    omega
  | succ f ih =>
    intro l hc h1 hU hs
    cases hf : fits (hufL l) ((m : Int) + 1)
    · have hex := not_ones hU hf
      have hsum := (sum_half l (okC_pos hc)).2 hex
      have hse := seed_half l (fun i hi => (hc i hi).1) l.length (Nat.le_refl _)
      obtain ⟨c, c1, c2, c3, c4, c5, c6⟩ := ih (halfL l) (okC_half hc) (by rw [halfL_len, hse]; exact h1) (by rw [halfL_len, hse]; exact hU) (by omega)
      rw [halfL_len] at c1 c3 c5 c6
      refine ⟨c, c1, c2, ?_, ?_, c5, by rw [c6, hse]⟩
      · intro i hi
        rw [c3 i hi, halfL_get l i hi]
        unfold halfI
        have := (hc i hi).1
        omega
      · simp only [fitF]
        rw [hf]
        exact c4
    · refine ⟨l, rfl, hc, fun i _ => Iff.rfl, ?_, ?_, rfl⟩
      · simp only [fitF]
        rw [hf]; rfl
      · intro i hi
        unfold fits at hf
        have h3 := of_decide_eq_true hf
        rw [hufL_len] at h3
        have := most_ge (hufL l) l.length i hi
        omega
theorem one_facts {c : List Int} (hc : okC c) (h1 : (seed c c.length).length = 1) (i : Nat) (hi : i < c.length) : (hufL c).getD i 0 = if 0 < c.getD i 0 then 1 else 0 := by
  rw [huf_one hc h1]
  have e : (c.map oneI).getD i 0 = oneI c[i] := by simp [List.getD, hi]
  have e2 : c.getD i 0 = c[i] := by simp [List.getD, hi]
  have hci := hc i hi
  rw [e2] at hci ⊢
  rw [e]
  unfold oneI
  by_cases hp : 0 < c[i]
  · rw [if_pos hp]; split <;> omega
  · rw [if_neg hp]; split <;> omega
theorem kr_one {c : List Int} (hc : okC c) (k : Nat) (hk : k ≤ c.length) (h1 : (seed c c.length).length = 1) : krR c (lenF (hufL c)) 15 k = (seed c k).length * 16384 := by
  induction k with
  | zero => simp [krR, seed]
  | succ k ih =>
    simp only [krR]
    rw [ih (by omega)]
    have h := one_facts hc h1 k (by omega)
    by_cases hp : 0 < c.getD k 0
    · rw [if_pos hp, seed_yes' hp]
      have e : lenF (hufL c) k = 1 := by unfold lenF; rw [h, if_pos hp]; rfl
      have e2 : (2 : Nat) ^ (15 - 1) = 16384 := by decide
      rw [e, e2, List.length_append, List.length_singleton, Nat.add_mul, Nat.one_mul]
    · rw [if_neg hp, seed_no' hp, Nat.add_zero]
theorem lens_law {l : List Int} {m : Nat} (hc : okC l) (hl : l.length ≤ 300) (h1 : 1 ≤ (seed l l.length).length) (hU : (seed l l.length).length ≤ p2 m) (hm : m ≤ 14) :
    (fitL ((m : Int) + 1) l).length = l.length ∧ lensOk (fitL ((m : Int) + 1) l) = true ∧ ∀ i, i < l.length → 0 ≤ (fitL ((m : Int) + 1) l).getD i 0 ∧ (fitL ((m : Int) + 1) l).getD i 0 ≤ (m : Int) + 1 ∧ (0 < (fitL ((m : Int) + 1) l).getD i 0 ↔ 0 < l.getD i 0) := by
  obtain ⟨c, c1, c2, c3, c4, c5, c6⟩ := fit_final m (sumP l) l hc h1 hU (Nat.le_refl _)
  have e : fitL ((m : Int) + 1) l = hufL c := c4
  rw [e]
  by_cases hone : (seed c c.length).length = 1
  · have hf := one_facts c2 hone
    have hpos : ∀ i, i < l.length → 0 ≤ (hufL c).getD i 0 ∧ (hufL c).getD i 0 ≤ 1 ∧ (0 < (hufL c).getD i 0 ↔ 0 < l.getD i 0) := by
      intro i hi
      have h := hf i (by omega)
      have h3 := c3 i hi
      by_cases hp : 0 < c.getD i 0
      · rw [if_pos hp] at h; rw [h]; exact ⟨by omega, by omega, ⟨fun _ => h3.1 hp, fun _ => by omega⟩⟩
      · rw [if_neg hp] at h; rw [h]; exact ⟨by omega, by omega, ⟨fun x => by omega, fun x => absurd (h3.2 x) hp⟩⟩
    refine ⟨by rw [hufL_len, c1], ?_, fun i hi => ⟨(hpos i hi).1, c5 i hi, (hpos i hi).2.2⟩⟩
    refine whole_ok (l := c) (hufL_len c) (by omega) ?_ ?_ (.inr ⟨hone, by rw [kr_one c2 _ (Nat.le_refl _) hone, hone]⟩)
    · intro i hi
      exact (hpos i (by omega)).2.2.trans (c3 i (by omega)).symm
    · intro i hi
      have := hpos i (by omega)
      exact ⟨this.1, by omega⟩
  · have h2 : 2 ≤ (seed c c.length).length := by omega
    obtain ⟨f0, f1, _, _⟩ := huf_final h2
    refine ⟨by rw [hufL_len, c1], ?_, fun i hi => ⟨(f0 i (by omega)).1, c5 i hi, (f1 i (by omega)).trans (c3 i hi)⟩⟩
    have h15 : ∀ i, i < c.length → (hufL c).getD i 0 ≤ ((15 : Nat) : Int) := fun i hi => by have := c5 i (by omega); omega
    refine whole_ok (l := c) (hufL_len c) (by omega) f1 (fun i hi => ⟨(f0 i hi).1, h15 i hi⟩) (.inl (kr_whole h2 h15))
end Go.Proofs.YtpmidjddjdejmaaGreatDoor
