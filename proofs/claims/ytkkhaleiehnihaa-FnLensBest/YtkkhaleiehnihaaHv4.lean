/- Plain mathematics: lengths of what comes more often, of what comes as often, of counts that are twice as great. -/
import Derived.Test.YtkkhaleiehnihaaHv3
namespace Go.Proofs.Ytkkhaleiehnihaa
open Go.RowKit

def upd (len : Nat → Nat) (i v : Nat) : Nat → Nat := fun j => if j = i then v else len j
theorem upd_same (len : Nat → Nat) (i v : Nat) : upd len i v i = v := by simp [upd]
theorem upd_other (len : Nat → Nat) {i j : Nat} (v : Nat) (h : j ≠ i) : upd len i v j = len j := by simp [upd, h]
theorem kr_upd_out {l : List Int} {len : Nat → Nat} {D i v n : Nat} (h : n ≤ i) : krR l (upd len i v) D n = krR l len D n := by
  induction n with
  | zero => rfl
  | succ n ih => simp only [krR]; rw [ih (by omega), upd_other len v (by omega)]
theorem kr_upd {l : List Int} {len : Nat → Nat} {D i v n : Nat} (hi : i < n) (hp : 0 < l.getD i 0) : krR l (upd len i v) D n + 2 ^ (D - len i) = krR l len D n + 2 ^ (D - v) := by
  induction n with
  | zero => omega
  | succ n ih =>
    simp only [krR]
    by_cases e : i = n
    · subst e
      rw [kr_upd_out (Nat.le_refl _), if_pos hp, if_pos hp, upd_same]
      omega
    · have := ih (by omega)
      rw [upd_other len v (by omega)]
      omega
theorem dot_upd_out {l : List Int} {len : Nat → Nat} {i v n : Nat} (h : n ≤ i) : dotR l (upd len i v) n = dotR l len n := by
  induction n with
  | zero => rfl
  | succ n ih => simp only [dotR]; rw [ih (by omega), upd_other len v (by omega)]
theorem dot_upd {l : List Int} {len : Nat → Nat} {i v n : Nat} (hi : i < n) : dotR l (upd len i v) n + l.getD i 0 * (len i : Int) = dotR l len n + l.getD i 0 * (v : Int) := by
  induction n with
  | zero => omega
  | succ n ih =>
    simp only [dotR]
    by_cases e : i = n
    · subst e
      rw [dot_upd_out (Nat.le_refl _), upd_same]
      omega
    · have := ih (by omega)
      rw [upd_other len v (by omega)]
      omega
/-- Lengths of few symbols fit as they are. -/
theorem fit_few {l : List Int} (hc : okC l) (h1 : 1 ≤ (seed l l.length).length) (h16 : l.length ≤ 16) : fitL 15 l = hufL l := by
  have hU := seed_lenle l l.length
  have hf : fits (hufL l) 15 = true := by
    refine fits_of (by omega) ?_
    intro i hi
    rw [hufL_len] at hi
    by_cases hone : (seed l l.length).length = 1
    · have := one_facts hc hone i hi
      rw [this]
      split <;> omega
    · obtain ⟨f0, _, _, _⟩ := huf_final (l := l) (by omega)
      have := f0 i hi
      omega
  unfold fitL
  cases sumP l with
  | zero => rfl
  | succ f => simp only [fitF]; rw [hf]; rfl
theorem more_law {l : List Int} (hc : okC l) (h1 : 1 ≤ (seed l l.length).length) {i k : Nat} (hi : i < l.length) (hk : k < l.length) (hik : l.getD k 0 < l.getD i 0) (hk0 : 0 < l.getD k 0) : (hufL l).getD i 0 ≤ (hufL l).getD k 0 := by
  by_cases hone : (seed l l.length).length = 1
  · rw [one_facts hc hone i hi, one_facts hc hone k hk, if_pos hk0]
    split <;> omega
  · obtain ⟨f0, f1, f2, f3⟩ := huf_final (l := l) (by omega)
    apply Classical.byContradiction
    intro hn
    have hne : i ≠ k := by intro e; subst e; omega
    obtain ⟨D, hD⟩ : ∃ D, D = (seed l l.length).length := ⟨_, rfl⟩
    have hlen : ∀ j, j < l.length → lenF (hufL l) j ≤ D := by
      intro j hj
      have := f0 j hj
      unfold lenF
      omega
    have hle : lenF (hufL l) k < lenF (hufL l) i := by
      have := f0 i hi
      have := f0 k hk
      unfold lenF
      omega
    have a1 := kr_upd (l := l) (len := lenF (hufL l)) (D := D) (v := lenF (hufL l) k) hi (by omega)
    have a2 := kr_upd (l := l) (len := upd (lenF (hufL l)) i (lenF (hufL l) k)) (D := D) (v := lenF (hufL l) i) hk hk0
    rw [upd_other _ _ (fun e => hne e.symm)] at a2
    have b1 := dot_upd (l := l) (len := lenF (hufL l)) (v := lenF (hufL l) k) hi
    have b2 := dot_upd (l := l) (len := upd (lenF (hufL l)) i (lenF (hufL l) k)) (v := lenF (hufL l) i) hk
    rw [upd_other _ _ (fun e => hne e.symm)] at b2
    have hopt := opt_len (l := l) (len := upd (upd (lenF (hufL l)) i (lenF (hufL l) k)) k (lenF (hufL l) i)) (D := D) (n := l.length) (m := (seed l l.length).length - 1) (fun j hj => (hc j hj).1) (by
      intro j hj _
      unfold upd
      split
      · exact hlen i hi
      · split
        · exact hlen k hk
        · exact hlen j hj) (by
      have := f2 D (by omega)
      omega)
    rw [← f3, dot_len l (hufL l) l.length (fun j hj => (f0 j hj).1)] at hopt
    have hm := Int.mul_pos (show 0 < l.getD i 0 - l.getD k 0 by omega) (show (0 : Int) < (lenF (hufL l) i : Int) - (lenF (hufL l) k : Int) by omega)
    rw [Int.sub_mul, Int.mul_sub, Int.mul_sub] at hm
    omega
theorem kr_even {l : List Int} {len : Nat → Nat} {L n : Nat} (h : ∀ i, i < n → 0 < l.getD i 0 → len i < L) : krR l len L n % 2 = 0 := by
  induction n with
  | zero => rfl
  | succ n ih =>
    have ih' := ih (fun i hi => h i (by omega))
    simp only [krR]
    by_cases hp : 0 < l.getD n 0
    · rw [if_pos hp]
      have := h n (by omega) hp
      obtain ⟨d, hd⟩ : ∃ d, L - len n = d + 1 := ⟨L - len n - 1, by omega⟩
      rw [hd, Nat.pow_succ]
      omega
    · rw [if_neg hp]; omega
theorem max_at (len : Nat → Nat) (n : Nat) (h : 0 < n) : ∃ x, x < n ∧ ∀ i, i < n → len i ≤ len x := by
  induction n with
  | zero => omega
  | succ n ih =>
    by_cases h0 : n = 0
    · subst h0
      exact ⟨0, by omega, fun i hi => by have : i = 0 := by omega
                                         subst this; exact Nat.le_refl _⟩
    · obtain ⟨x, hx, hm⟩ := ih (by omega)
      by_cases hl : len x < len n
      · refine ⟨n, by omega, fun i hi => ?_⟩
        by_cases e : i = n
        · subst e; exact Nat.le_refl _
        · have := hm i (by omega); omega
      · refine ⟨x, by omega, fun i hi => ?_⟩
        by_cases e : i = n
        · subst e; omega
        · exact hm i (by omega)
/-- Of counts that are all 1 no length is longer by two than another one. -/
theorem same_law {l : List Int} (hc : okC l) (h1 : 1 ≤ l.length) (hall : ∀ i, i < l.length → l.getD i 0 = 1) {i j : Nat} (hi : i < l.length) (hj : j < l.length) : (hufL l).getD i 0 ≤ (hufL l).getD j 0 + 1 := by
  have hpos : ∀ k, k < l.length → 0 < l.getD k 0 := fun k hk => by rw [hall k hk]; omega
  by_cases hone : (seed l l.length).length = 1
  · rw [one_facts hc hone i hi, one_facts hc hone j hj, if_pos (hpos i hi), if_pos (hpos j hj)]
    omega
  · have hU1 : 1 ≤ (seed l l.length).length := by
      obtain ⟨g, hg, _⟩ := seed_has l l.length j hj (hpos j hj)
      exact List.length_pos_of_mem hg
    obtain ⟨f0, f1, f2, f3⟩ := huf_final (l := l) (by omega)
    apply Classical.byContradiction
    intro hn
    obtain ⟨x, hx, hmax⟩ := max_at (lenF (hufL l)) l.length h1
    obtain ⟨L, hL⟩ : ∃ L, L = lenF (hufL l) x := ⟨_, rfl⟩
    have hli : lenF (hufL l) j + 2 ≤ lenF (hufL l) i := by
      have := f0 i hi
      have := f0 j hj
      unfold lenF
      omega
    have hiL := hmax i hi
    have hkL : krR l (lenF (hufL l)) L l.length = 2 ^ L := kr_whole (by omega) (fun k hk => by
      have := hmax k hk
      have := f0 k hk
      rw [hL]
      unfold lenF at *
      omega)
    obtain ⟨y, hy, hyx, hyL⟩ : ∃ y, y < l.length ∧ y ≠ x ∧ lenF (hufL l) y = L := by
      apply Classical.byContradiction
      intro hno
      have hlt : ∀ k, k < l.length → 0 < l.getD k 0 → upd (lenF (hufL l)) x (L - 1) k < L := by
        intro k hk _
        by_cases e : k = x
        · subst e; rw [upd_same]; omega
        · rw [upd_other _ _ e]
          have := hmax k hk
          apply Classical.byContradiction
          intro hge
          exact hno ⟨k, hk, e, by omega⟩
      have he := kr_even hlt
      have hu := kr_upd (l := l) (len := lenF (hufL l)) (D := L) (v := L - 1) hx (hpos x hx)
      rw [← hL, Nat.sub_self] at hu
      have e1 : L - (L - 1) = 1 := by omega
      rw [e1, hkL] at hu
      obtain ⟨d, hd⟩ : ∃ d, L = d + 1 := ⟨L - 1, by omega⟩
      rw [hd, Nat.pow_succ] at hu
      rw [hd] at he
      simp only [Nat.add_sub_cancel] at hu he
      omega
    have hjx : j ≠ x := by intro e; subst e; omega
    have hjy : j ≠ y := by intro e; subst e; omega
    obtain ⟨s, hs⟩ : ∃ s, s = lenF (hufL l) j := ⟨_, rfl⟩
    have a1 := kr_upd (l := l) (len := lenF (hufL l)) (D := L) (v := s + 1) hj (hpos j hj)
    have a2 := kr_upd (l := l) (len := upd (lenF (hufL l)) j (s + 1)) (D := L) (v := s + 1) hx (hpos x hx)
    have a3 := kr_upd (l := l) (len := upd (upd (lenF (hufL l)) j (s + 1)) x (s + 1)) (D := L) (v := L - 1) hy (hpos y hy)
    rw [upd_other _ _ (fun e => hjx e.symm), ← hL] at a2
    rw [upd_other _ _ hyx, upd_other _ _ (fun e => hjy e.symm), hyL] at a3
    rw [← hs] at a1
    have b1 := dot_upd (l := l) (len := lenF (hufL l)) (v := s + 1) hj
    have b2 := dot_upd (l := l) (len := upd (lenF (hufL l)) j (s + 1)) (v := s + 1) hx
    have b3 := dot_upd (l := l) (len := upd (upd (lenF (hufL l)) j (s + 1)) x (s + 1)) (v := L - 1) hy
    rw [upd_other _ _ (fun e => hjx e.symm), ← hL, hall x hx] at b2
    rw [upd_other _ _ hyx, upd_other _ _ (fun e => hjy e.symm), hyL, hall y hy] at b3
    rw [← hs, hall j hj] at b1
    have p1 : 2 ^ (L - s) = 2 ^ (L - (s + 1)) * 2 := by rw [← Nat.pow_succ]; congr 1; omega
    have p2' : 2 ^ (L - (L - 1)) = 2 := by rw [show L - (L - 1) = 1 by omega]
    rw [p1] at a1
    rw [p2'] at a3
    rw [Nat.sub_self] at a2 a3
    have hopt := opt_len (l := l) (len := upd (upd (upd (lenF (hufL l)) j (s + 1)) x (s + 1)) y (L - 1)) (D := L) (n := l.length) (m := (seed l l.length).length - 1) (fun k hk => (hc k hk).1) (by
      intro k hk _
      unfold upd
      split
      · omega
      · split
        · omega
        · split
          · omega
          · rw [hL]; exact hmax k hk) (by
      have e0 : 2 ^ 0 = 1 := rfl
      rw [e0] at a2 a3
      omega)
    rw [← f3, dot_len l (hufL l) l.length (fun k hk => (f0 k hk).1)] at hopt
    omega
theorem even_dot {l : List Int} (f n : Nat) : dotR l (fun _ => f) n = dotL l (List.replicate n (f : Int)) n := by
  have : ∀ m, m ≤ n → dotR l (fun _ => f) m = dotL l (List.replicate n (f : Int)) m := by
    intro m
    induction m with
    | zero => intro _; rfl
    | succ m ih =>
      intro hm
      simp only [dotR, dotL]
      rw [ih (by omega)]
      have e : (List.replicate n (f : Int)).getD m 0 = (f : Int) := by
        rw [List.getD_eq_getElem?_getD, List.getElem?_replicate, if_pos (by omega)]; rfl
      rw [e]
  exact this n (Nat.le_refl _)
theorem kr_flat (l : List Int) (f k : Nat) : krR l (fun _ => f) f k = (seed l k).length := by
  induction k with
  | zero => rfl
  | succ k ih =>
    simp only [krR]
    rw [ih]
    by_cases hp : 0 < l.getD k 0
    · rw [if_pos hp, seed_yes' hp, Nat.sub_self]; simp
    · rw [if_neg hp, seed_no' hp]; rfl
/-- No more bits than codes of one length need. -/
theorem best_law {l : List Int} (hc : okC l) (f : Nat) (h1 : 1 ≤ (seed l l.length).length) (hf1 : 1 ≤ f) (hf : (seed l l.length).length ≤ 2 ^ f) : dotL l (hufL l) l.length ≤ dotR l (fun _ => f) l.length := by
  by_cases hone : (seed l l.length).length = 1
  · have hx := one_facts hc hone
    have : ∀ m, m ≤ l.length → dotL l (hufL l) m ≤ dotR l (fun _ => f) m := by
      intro m
      induction m with
      | zero => intro _; exact Int.le_refl _
      | succ m ih =>
        intro hm
        simp only [dotL, dotR]
        have h2 := ih (by omega)
        have h3 := hx m (by omega)
        have h4 : l.getD m 0 * (hufL l).getD m 0 ≤ l.getD m 0 * (f : Int) := Int.mul_le_mul_of_nonneg_left (by rw [h3]; split <;> omega) (hc m (by omega)).1
        omega
    exact this _ (Nat.le_refl _)
  · obtain ⟨f0, f1, f2, f3⟩ := huf_final (l := l) (by omega)
    rw [f3]
    exact opt_len (D := f) (fun k hk => (hc k hk).1) (fun _ _ _ => Nat.le_refl _) (by rw [kr_flat]; exact hf)

/-! Counts that are twice as great. -/
def dbl (g : Grp) : Grp := ⟨2 * g.cnt, g.fst, g.syms, g.val⟩
def twoL (l : List Int) : List Int := l.map fun x => 2 * x
theorem twoL_len (l : List Int) : (twoL l).length = l.length := by simp [twoL]
theorem twoL_get (l : List Int) (i : Nat) : (twoL l).getD i 0 = 2 * l.getD i 0 := by
  unfold twoL
  rw [List.getD_eq_getElem?_getD, List.getElem?_map, List.getD_eq_getElem?_getD]
  cases l[i]? <;> rfl
theorem less_dbl (x y : Grp) : lessG (dbl x) (dbl y) = lessG x y := by
  unfold lessG dbl
  simp only
  rw [show decide (2 * x.cnt < 2 * y.cnt) = decide (x.cnt < y.cnt) from decide_eq_decide.2 (by omega), show decide (2 * x.cnt = 2 * y.cnt) = decide (x.cnt = y.cnt) from decide_eq_decide.2 (by omega)]
theorem getD_dbl (M : List Grp) (k : Nat) : (M.map dbl).getD k g0 = dbl (M.getD k g0) := by
  rw [List.getD_eq_getElem?_getD, List.getElem?_map, List.getD_eq_getElem?_getD]
  cases M[k]? <;> rfl
theorem leastF_dbl (M : List Grp) (k : Nat) : leastF (M.map dbl) k = leastF M k := by
  induction k with
  | zero => rfl
  | succ k ih => simp only [leastF]; rw [ih, getD_dbl, getD_dbl, less_dbl]
theorem least_dbl (M : List Grp) : least (M.map dbl) = least M := by
  unfold least
  rw [leastF_dbl, List.length_map]
theorem first_dbl (M : List Grp) : firstG (M.map dbl) = dbl (firstG M) := by
  unfold firstG
  rw [least_dbl, getD_dbl]
theorem rest_dbl (M : List Grp) : restG (M.map dbl) = (restG M).map dbl := by
  unfold restG
  rw [least_dbl, erase_eqL, erase_eqL, List.map_append, List.map_take, List.map_drop]
theorem step_dbl (M : List Grp) : stepG (M.map dbl) = (stepG M).map dbl := by
  unfold stepG
  rw [rest_dbl, rest_dbl, first_dbl, first_dbl, List.map_append]
  congr 1
  simp only [List.map_cons, List.map_nil, joinG, dbl]
  congr 2
  omega
theorem syms_dbl (M : List Grp) : symsG (M.map dbl) = symsG M := by
  unfold symsG
  rw [rest_dbl, first_dbl, first_dbl]
  rfl
theorem seed_dbl (l : List Int) (k : Nat) : seed (twoL l) k = (seed l k).map dbl := by
  induction k with
  | zero => rfl
  | succ k ih =>
    by_cases hp : 0 < l.getD k 0
    · rw [seed_yes' hp, seed_yes' (by rw [twoL_get]; omega), ih, List.map_append, twoL_get]
      rfl
    · rw [seed_no' hp, seed_no' (by rw [twoL_get]; omega), ih]
theorem hufI_dbl (l : List Int) (k : Nat) : (hufI (twoL l) k).1 = (hufI l k).1.map dbl ∧ (hufI (twoL l) k).2 = (hufI l k).2 := by
  induction k with
  | zero =>
    simp only [hufI]
    rw [twoL_len]
    exact ⟨seed_dbl l l.length, rfl⟩
  | succ k ih =>
    simp only [hufI]
    rw [ih.1, ih.2, step_dbl, syms_dbl]
    exact ⟨rfl, rfl⟩
theorem huf_two (l : List Int) : hufL (twoL l) = hufL l := by
  unfold hufL
  rw [twoL_len, seed_dbl, List.length_map, (hufI_dbl l _).2, getD_dbl]
  rfl

end Go.Proofs.Ytkkhaleiehnihaa
