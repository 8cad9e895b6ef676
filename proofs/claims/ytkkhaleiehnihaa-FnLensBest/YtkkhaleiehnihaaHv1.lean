/- Plain mathematics: no other lengths need fewer bits than those that are made by putting the two least together. -/
import Derived.Test.YtkkhaleiehnihaaHq1
namespace Go.Proofs.Ytkkhaleiehnihaa
open Go.RowKit

theorem nsum_perm {α : Type} (f : α → Nat) {A B : List α} (h : A.Perm B) : (A.map f).sum = (B.map f).sum := by
  induction h with
  | nil => rfl
  | cons x _ ih => simp only [List.map_cons, List.sum_cons]; omega
  | swap x y l => simp only [List.map_cons, List.sum_cons]; omega
  | trans _ _ h1 h2 => omega
theorem isum_perm {α : Type} (f : α → Int) {A B : List α} (h : A.Perm B) : (A.map f).sum = (B.map f).sum := by
  induction h with
  | nil => rfl
  | cons x _ ih => simp only [List.map_cons, List.sum_cons]; omega
  | swap x y l => simp only [List.map_cons, List.sum_cons]; omega
  | trans _ _ h1 h2 => omega
theorem perm_pick {α β : Type} (f : α → β) {X : List α} {y : β} {ys : List β} (h : (X.map f).Perm (y :: ys)) : ∃ x X', X.Perm (x :: X') ∧ f x = y ∧ (X'.map f).Perm ys := by
  obtain ⟨x, hx, hf⟩ := List.mem_map.1 (h.mem_iff.2 (by simp : y ∈ y :: ys))
  obtain ⟨s, t, rfl⟩ := List.append_of_mem hx
  refine ⟨x, s ++ t, List.perm_middle, hf, ?_⟩
  have h1 : ((s ++ x :: t).map f).Perm ((x :: (s ++ t)).map f) := (List.perm_middle).map f
  have h2 := h1.symm.trans h
  simp only [List.map_cons] at h2
  rw [hf] at h2
  exact h2.cons_inv

def KX (D : Nat) (X : List (Grp × Nat)) : Nat := (X.map fun x => 2 ^ (D - x.2)).sum
def WX (X : List (Grp × Nat)) : Int := (X.map fun x => x.1.cnt * (x.2 : Int)).sum
theorem KX_cons (D : Nat) (x : Grp × Nat) (X : List (Grp × Nat)) : KX D (x :: X) = 2 ^ (D - x.2) + KX D X := by simp [KX]
theorem WX_cons (x : Grp × Nat) (X : List (Grp × Nat)) : WX (x :: X) = x.1.cnt * (x.2 : Int) + WX X := by simp [WX]
theorem WX_pos {X : List (Grp × Nat)} (h : ∀ x ∈ X, 0 ≤ x.1.cnt) : 0 ≤ WX X := by
  induction X with
  | nil => simp [WX]
  | cons x X ih =>
    rw [WX_cons]
    have h1 := Int.mul_nonneg (h x (by simp)) (Int.natCast_nonneg x.2)
    have h2 := ih (fun y hy => h y (by simp [hy]))
    omega
/-- The longest of some lengths goes to what comes no more often than all others. -/
theorem bubble (D : Nat) (a : Int) (Y : List (Grp × Nat)) : ∀ (p : Nat), (∀ y ∈ Y, a ≤ y.1.cnt) → ∃ (p' : Nat) (Y' : List (Grp × Nat)), Y'.map Prod.fst = Y.map Prod.fst ∧ p ≤ p' ∧ (∀ y ∈ Y', y.2 ≤ p') ∧ 2 ^ (D - p') + KX D Y' = 2 ^ (D - p) + KX D Y ∧ a * (p' : Int) + WX Y' ≤ a * (p : Int) + WX Y ∧ (∀ B, p ≤ B → (∀ y ∈ Y, y.2 ≤ B) → p' ≤ B ∧ ∀ y ∈ Y', y.2 ≤ B) := by
  induction Y with
  | nil => intro p _; exact ⟨p, [], rfl, Nat.le_refl _, fun y hy => by simp at hy, rfl, Int.le_refl _, fun B h _ => ⟨h, fun y hy => by simp at hy⟩⟩
  | cons z Y ih =>
    intro p ha
    have haz := ha z (by simp)
    have haY : ∀ y ∈ Y, a ≤ y.1.cnt := fun y hy => ha y (by simp [hy])
    by_cases hp : p < z.2
    · obtain ⟨p', Y', h1, h2, h3, h4, h5, h6⟩ := ih z.2 haY
      refine ⟨p', (z.1, p) :: Y', by simp [h1], by omega, ?_, ?_, ?_, ?_⟩
      · intro y hy
        simp only [List.mem_cons] at hy
        rcases hy with rfl | hy
        · simp only; omega
        · exact h3 y hy
      · rw [KX_cons, KX_cons]; simp only; omega
      · rw [WX_cons, WX_cons]
        simp only
        have h := Int.mul_nonneg (show 0 ≤ z.1.cnt - a by omega) (show 0 ≤ (z.2 : Int) - (p : Int) by omega)
        rw [Int.sub_mul, Int.mul_sub, Int.mul_sub] at h
        omega
      · intro B hB hY
        have hzB := hY z (by simp)
        obtain ⟨h7, h8⟩ := h6 B hzB (fun y hy => hY y (by simp [hy]))
        refine ⟨h7, ?_⟩
        intro y hy
        simp only [List.mem_cons] at hy
        rcases hy with rfl | hy
        · simp only; omega
        · exact h8 y hy
    · obtain ⟨p', Y', h1, h2, h3, h4, h5, h6⟩ := ih p haY
      refine ⟨p', z :: Y', by simp [h1], by omega, ?_, ?_, ?_, ?_⟩
      · intro y hy
        simp only [List.mem_cons] at hy
        rcases hy with rfl | hy
        · omega
        · exact h3 y hy
      · rw [KX_cons, KX_cons]; omega
      · rw [WX_cons, WX_cons]; omega
      · intro B hB hY
        obtain ⟨h7, h8⟩ := h6 B hB (fun y hy => hY y (by simp [hy]))
        refine ⟨h7, ?_⟩
        intro y hy
        simp only [List.mem_cons] at hy
        rcases hy with rfl | hy
        · exact hY y (by simp)
        · exact h8 y hy
theorem KX_dvd {D q : Nat} {Y : List (Grp × Nat)} (h : ∀ y ∈ Y, y.2 ≤ q) : 2 ^ (D - q) ∣ KX D Y := by
  induction Y with
  | nil => simp [KX]
  | cons z Y ih =>
    rw [KX_cons]
    exact Nat.dvd_add (Nat.pow_dvd_pow 2 (by have := h z (by simp); omega)) (ih (fun y hy => h y (by simp [hy])))
theorem dvd_room {t N T : Nat} (h1 : t ∣ N) (h2 : t ∣ T) (h : N < T) : N + t ≤ T := by
  obtain ⟨u, rfl⟩ := h1
  obtain ⟨v, rfl⟩ := h2
  have huv : u < v := by
    apply Classical.byContradiction
    intro hn
    have := Nat.mul_le_mul_left t (show v ≤ u by omega)
    omega
  have := Nat.mul_le_mul_left t (show u + 1 ≤ v by omega)
  rw [Nat.mul_add, Nat.mul_one] at this
  exact this
theorem opt_two (D : Nat) (a b : Grp) (Y : List (Grp × Nat)) (p q : Nat) (h0 : 0 ≤ a.cnt) (hab : a.cnt ≤ b.cnt) (hb : ∀ y ∈ Y, b.cnt ≤ y.1.cnt) (hK : 2 ^ (D - p) + 2 ^ (D - q) + KX D Y ≤ 2 ^ D) (hp : p ≤ D) (hq : q ≤ D) (hY : ∀ y ∈ Y, y.2 ≤ D) :
    ∃ (r : Nat) (Y' : List (Grp × Nat)), Y'.map Prod.fst = Y.map Prod.fst ∧ r + 1 ≤ D ∧ (∀ y ∈ Y', y.2 ≤ D) ∧ 2 ^ (D - r) + KX D Y' ≤ 2 ^ D ∧ (a.cnt + b.cnt) * ((r : Int) + 1) + WX Y' ≤ a.cnt * (p : Int) + b.cnt * (q : Int) + WX Y := by
  obtain ⟨p1, Z1, z1, z2, z3, z4, z5, z6⟩ := bubble D a.cnt ((b, q) :: Y) p (by
    intro y hy
    simp only [List.mem_cons] at hy
    rcases hy with rfl | hy
    · exact hab
    · have := hb y hy; omega)
  match Z1, z1 with
  | (b', q1) :: Y1, z1 =>
    simp only [List.map_cons, List.cons.injEq] at z1
    obtain ⟨rfl, hY1⟩ := z1
    have hb1 : ∀ y ∈ Y1, b'.cnt ≤ y.1.cnt := by
      intro y hy
      have : y.1 ∈ Y.map Prod.fst := by rw [← hY1]; exact List.mem_map_of_mem hy
      obtain ⟨y', hy', he⟩ := List.mem_map.1 this
      rw [← he]
      exact hb y' hy'
    obtain ⟨q2, Y2, w1, w2, w3, w4, w5, w6⟩ := bubble D b'.cnt Y1 q1 hb1
    obtain ⟨hp1, hZ1⟩ := z6 D hp (by
      intro y hy
      simp only [List.mem_cons] at hy
      rcases hy with rfl | hy
      · exact hq
      · exact hY y hy)
    have hq1p : q1 ≤ p1 := z3 (b', q1) (by simp)
    obtain ⟨hq2p, hY2p⟩ := w6 p1 hq1p (fun y hy => z3 y (by simp [hy]))
    rw [KX_cons, KX_cons] at z4
    rw [WX_cons, WX_cons] at z5
    simp only at z4 z5
    have hK2 : 2 ^ (D - p1) + (2 ^ (D - q2) + KX D Y2) ≤ 2 ^ D := by omega
    have ht : 0 < 2 ^ (D - p1) := Nat.pow_pos (by omega)
    have hroom := dvd_room (t := 2 ^ (D - q2)) (Nat.dvd_add (Nat.dvd_refl _) (KX_dvd (D := D) w3)) (Nat.pow_dvd_pow 2 (Nat.sub_le D q2)) (by omega : 2 ^ (D - q2) + KX D Y2 < 2 ^ D)
    have hq21 : 1 ≤ q2 := by
      apply Classical.byContradiction
      intro hn
      have e : q2 = 0 := by omega
      rw [e, Nat.sub_zero] at hroom
      have : 0 < 2 ^ D := Nat.pow_pos (by omega)
      omega
    obtain ⟨r, rfl⟩ : ∃ r, q2 = r + 1 := ⟨q2 - 1, by omega⟩
    refine ⟨r, Y2, w1.trans hY1, by omega, fun y hy => by have := hY2p y hy; omega, ?_, ?_⟩
    · have e : D - r = (D - (r + 1)) + 1 := by omega
      rw [e, Nat.pow_succ]
      omega
    · have h1 : a.cnt * ((r + 1 : Nat) : Int) ≤ a.cnt * (p1 : Int) := Int.mul_le_mul_of_nonneg_left (by omega) h0
      rw [Int.add_mul]
      have e2 : ((r + 1 : Nat) : Int) = (r : Int) + 1 := by omega
      rw [e2] at h1 w5
      omega

/-- How many bits are added where the two least are put together, so many times at most. -/
def costG : Nat → List Grp → Int
  | 0, _ => 0
  | n + 1, M => if 1 < M.length then (firstG M).cnt + (firstG (restG M)).cnt + costG n (stepG M) else 0
theorem opt (n : Nat) : ∀ (M : List Grp) (X : List (Grp × Nat)) (D : Nat), (X.map Prod.fst).Perm M → (∀ g ∈ M, 0 ≤ g.cnt) → KX D X ≤ 2 ^ D → (∀ x ∈ X, x.2 ≤ D) → costG n M ≤ WX X := by
  induction n with
  | zero =>
    intro M X D hX h0 _ _
    exact WX_pos (fun x hx => h0 _ (hX.mem_iff.1 (List.mem_map_of_mem hx)))
  | succ n ih =>
    intro M X D hX h0 hK hD
    simp only [costG]
    by_cases hl : 1 < M.length
    · rw [if_pos hl]
      have hr := rest_len M (by omega)
      have hp2 := perm_two M hl
      obtain ⟨xa, X1, hx1, ha, hX1⟩ := perm_pick Prod.fst (hX.trans hp2.symm)
      obtain ⟨xb, X2, hx2, hb, hX2⟩ := perm_pick Prod.fst hX1
      have hXX : X.Perm (xa :: xb :: X2) := hx1.trans (hx2.cons xa)
      have hKX : KX D X = 2 ^ (D - xa.2) + (2 ^ (D - xb.2) + KX D X2) := by
        rw [← KX_cons, ← KX_cons]
        exact nsum_perm _ hXX
      have hWX : WX X = xa.1.cnt * (xa.2 : Int) + (xb.1.cnt * (xb.2 : Int) + WX X2) := by
        rw [← WX_cons, ← WX_cons]
        exact isum_perm _ hXX
      have hmA : ∀ x ∈ X2, xa.1.cnt ≤ x.1.cnt ∧ xb.1.cnt ≤ x.1.cnt := by
        intro x hx
        have h1 : x.1 ∈ restG (restG M) := hX2.mem_iff.1 (List.mem_map_of_mem hx)
        rw [ha, hb]
        exact ⟨first_min M _ (rest_sub M _ (rest_sub _ _ h1)), first_min (restG M) _ (rest_sub _ _ h1)⟩
      have hab : xa.1.cnt ≤ xb.1.cnt := by
        rw [ha, hb]
        exact first_min M _ (rest_sub M _ (first_mem (restG M) (by omega)))
      have ha0 : 0 ≤ xa.1.cnt := by rw [ha]; exact h0 _ (first_mem M (by omega))
      obtain ⟨r, Y', y1, y2, y3, y4, y5⟩ := opt_two D xa.1 xb.1 X2 xa.2 xb.2 ha0 hab (fun y hy => (hmA y hy).2) (by omega) (hD xa (hXX.mem_iff.2 (by simp))) (hD xb (hXX.mem_iff.2 (by simp))) (fun y hy => hD y (hXX.mem_iff.2 (by simp [hy])))
      have hjc : (joinG (firstG M) (firstG (restG M))).cnt = xa.1.cnt + xb.1.cnt := by rw [ha, hb]; rfl
      have h1 := ih (stepG M) ((joinG (firstG M) (firstG (restG M)), r) :: Y') D (by
        simp only [List.map_cons]
        rw [y1]
        unfold stepG
        exact (hX2.cons _).trans (List.perm_append_singleton _ _).symm) (by
        intro g hg
        simp only [stepG, List.mem_append, List.mem_singleton] at hg
        rcases hg with hg | rfl
        · exact h0 g (rest_sub M _ (rest_sub _ _ hg))
        · rw [hjc]; omega) (by rw [KX_cons]; exact y4) (by
        intro x hx
        simp only [List.mem_cons] at hx
        rcases hx with rfl | hx
        · simp only; omega
        · exact y3 x hx)
      rw [WX_cons] at h1
      simp only at h1
      rw [hjc] at h1
      rw [hWX, ← ha, ← hb]
      rw [Int.mul_add, Int.mul_one] at y5
      omega
    · rw [if_neg hl]
      exact WX_pos (fun x hx => h0 _ (hX.mem_iff.1 (List.mem_map_of_mem hx)))

end Go.Proofs.Ytkkhaleiehnihaa
