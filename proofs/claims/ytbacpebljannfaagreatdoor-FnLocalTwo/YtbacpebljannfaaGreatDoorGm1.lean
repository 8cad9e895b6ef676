/- What unpacking answers, as mathematics. -/
import Derived.Test.YtbacpebljannfaaGreatDoorM14
import Derived.Test.YtbacpebljannfaaGreatDoorM6
import Derived.Test.YtbacpebljannfaaGreatDoorM8
namespace Go.Proofs.YtbacpebljannfaaGreatDoor
open Go.RowKit Corb
theorem decF_bd {l : List Int} {V sz p f n : Nat} {i : Int} {q : Nat} (hf : n + f = 15) (hi : nx l n ≤ cd V p n) (h : decF l V sz p f n = some (i, q)) : q ≤ sz ∧ p < q ∧ 0 ≤ i ∧ i < (l.length : Int) := by
  induction f generalizing n with
  | zero => simp [decF] at h
  | succ f ih =>
    by_cases h1 : sz < p + n + 1
    · rw [decF_short h1] at h; cases h
    · by_cases h2 : cd V p (n + 1) < nx l (n + 1)
      · rw [decF_hit h1 h2] at h
        simp only [Option.some.injEq, Prod.mk.injEq] at h
        obtain ⟨rfl, rfl⟩ := h
        obtain ⟨k, hk, _, _, e⟩ := sym_there (l := l) (n := n) (c := cd V p (n + 1)) (by omega) (by simp only [cd]; omega) h2
        rw [e]
        omega
      · rw [decF_next h1 h2] at h
        exact ih (by omega) (by omega) h
theorem dec_bd {l : List Int} {V sz p : Nat} {i : Int} {q : Nat} (h : dec l V sz p = some (i, q)) : q ≤ sz ∧ p < q ∧ 0 ≤ i ∧ i < (l.length : Int) := decF_bd rfl (Nat.zero_le _) h
def rdN (V sz p k : Nat) : Option (Nat × Nat) := if p + k ≤ sz then some (V / 2 ^ p % 2 ^ k, p + k) else none
theorem rdN_yes {V sz p k : Nat} (h : p + k ≤ sz) : rdN V sz p k = some (V / 2 ^ p % 2 ^ k, p + k) := if_pos h
theorem rdN_no {V sz p k : Nat} (h : ¬ p + k ≤ sz) : rdN V sz p k = none := if_neg h
theorem rdN_bd {V sz p k x q : Nat} (h : rdN V sz p k = some (x, q)) : q ≤ sz ∧ q = p + k ∧ x = V / 2 ^ p % 2 ^ k ∧ x < 2 ^ k := by
  unfold rdN at h
  split at h
  · simp only [Option.some.injEq, Prod.mk.injEq] at h
    obtain ⟨rfl, rfl⟩ := h
    exact ⟨by assumption, rfl, rfl, Nat.mod_lt _ (Nat.two_pow_pos k)⟩
  · cases h
def scG (V sz least group many k q : Nat) : Option (Nat × Nat) := if k < many then (rdN V sz q (stF least group k).2).bind fun x => some ((stF least group k).1 + x.1, x.2) else none
def backG (V sz : Nat) (D : List Int) (k q : Nat) : Option (Tk × Nat) :=
  (scG V sz 3 4 28 k q).bind fun a => (dec D V sz a.2).bind fun j => (scG V sz 1 2 30 j.1.toNat j.2).bind fun c => some ((0, ((a.1 : Nat) : Int), ((c.1 : Nat) : Int)), c.2)
def oneG (V sz : Nat) (D : List Int) (k : Int) (q : Nat) : Option (Tk × Nat) := if k < 256 then some ((k, 0, 0), q) else backG V sz D (k.toNat - 257) q
theorem scG_bd {V sz least group many k q x r : Nat} (h : scG V sz least group many k q = some (x, r)) : r ≤ sz ∧ q ≤ r := by
  unfold scG at h
  split at h
  · rcases h1 : rdN V sz q (stF least group k).2 with _ | ⟨y, t⟩
    · rw [h1] at h; cases h
    · rw [h1] at h
      simp only [Option.bind_some, Option.some.injEq, Prod.mk.injEq] at h
      have := rdN_bd h1
      omega
  · cases h
theorem backG_bd {V sz : Nat} {D : List Int} {k q r : Nat} {t : Tk} (h : backG V sz D k q = some (t, r)) : r ≤ sz ∧ q ≤ r := by
  unfold backG at h
  rcases h1 : scG V sz 3 4 28 k q with _ | ⟨a, a2⟩
  · rw [h1] at h; cases h
  rw [h1] at h
  simp only [Option.bind_some] at h
  rcases h2 : dec D V sz a2 with _ | ⟨j, j2⟩
  · rw [h2] at h; cases h
  rw [h2] at h
  simp only [Option.bind_some] at h
  rcases h3 : scG V sz 1 2 30 j.toNat j2 with _ | ⟨c, c2⟩
  · rw [h3] at h; cases h
  rw [h3] at h
  simp only [Option.bind_some, Option.some.injEq, Prod.mk.injEq] at h
  have b1 := scG_bd h1
  have b2 := dec_bd h2
  have b3 := scG_bd h3
  omega
theorem oneG_bd {V sz : Nat} {D : List Int} {k : Int} {q r : Nat} {t : Tk} (h : oneG V sz D k q = some (t, r)) (hq : q ≤ sz) : r ≤ sz ∧ q ≤ r := by
  unfold oneG at h
  split at h
  · simp only [Option.some.injEq, Prod.mk.injEq] at h
    omega
  · exact backG_bd h
def tokF (V sz : Nat) (L D : List Int) : Nat → Nat → List UInt8 → Option (List UInt8 × Nat)
  | 0, _, _ => none
  | f + 1, p, T => (dec L V sz p).bind fun k => if k.1 = 256 then some (T, k.2) else (oneG V sz D k.1 k.2).bind fun t => (addL T t.1).bind fun T' => tokF V sz L D f t.2 T'
def tokG (V sz : Nat) (L D : List Int) (p : Nat) (T : List UInt8) : Option (List UInt8 × Nat) := tokF V sz L D (sz + 1 - p) p T
theorem tokF_more {V sz : Nat} {L D : List Int} : ∀ (n f p : Nat) (T : List UInt8), sz + 1 - p ≤ n → sz + 1 - p ≤ f → tokF V sz L D f p T = tokF V sz L D (sz + 1 - p) p T := by
  intro n
  induction n with
  | zero =>
    intro f p T h1 h2
    have e : sz + 1 - p = 0 := by omega
    rw [e]
    cases f with
    | zero => rfl
    | succ f =>
      have hd : dec L V sz p = none := by
        rcases h : dec L V sz p with _ | ⟨i, q⟩
        · rfl
        · have := dec_bd h; omega
      simp only [tokF, hd, Option.bind_none]
  | succ n ih =>
    intro f p T h1 h2
    rcases hd : dec L V sz p with _ | ⟨i, q⟩
    · cases f with
      | zero => rw [show sz + 1 - p = 0 by omega]
      | succ f =>
        rcases hm : sz + 1 - p with _ | m
        · simp only [tokF, hd, Option.bind_none]
        · simp only [tokF, hd, Option.bind_none]
    · have hb := dec_bd hd
      obtain ⟨f', rfl⟩ : ∃ g, f = g + 1 := ⟨f - 1, by omega⟩
      obtain ⟨m, hm⟩ : ∃ g, sz + 1 - p = g + 1 := ⟨sz - p, by omega⟩
      rw [hm]
      simp only [tokF, hd, Option.bind_some]
      split
      · rfl
      · rcases ho : oneG V sz D i q with _ | ⟨t, r⟩
        · rfl
        · simp only [Option.bind_some]
          have hr := oneG_bd ho hb.1
          rcases addL T t with _ | T'
          · rfl
          · simp only [Option.bind_some]
            rw [ih f' r T' (by omega) (by omega), ih m r T' (by omega) (by omega)]
theorem tokG_none {V sz : Nat} {L D : List Int} {p : Nat} {T : List UInt8} (h : dec L V sz p = none) : tokG V sz L D p T = none := by
  unfold tokG
  rcases hm : sz + 1 - p with _ | m
  · rfl
  · simp only [tokF, h, Option.bind_none]
theorem tokG_end {V sz : Nat} {L D : List Int} {p q : Nat} {T : List UInt8} (h : dec L V sz p = some (256, q)) : tokG V sz L D p T = some (T, q) := by
  have hb := dec_bd h
  unfold tokG
  obtain ⟨m, hm⟩ : ∃ g, sz + 1 - p = g + 1 := ⟨sz - p, by omega⟩
  rw [hm]
  simp only [tokF, h, Option.bind_some, if_true]
theorem tokG_step {V sz : Nat} {L D : List Int} {p q : Nat} {i : Int} {T : List UInt8} (h : dec L V sz p = some (i, q)) (hi : i ≠ 256) : tokG V sz L D p T = (oneG V sz D i q).bind fun t => (addL T t.1).bind fun T' => tokG V sz L D t.2 T' := by
  have hb := dec_bd h
  unfold tokG
  obtain ⟨m, hm⟩ : ∃ g, sz + 1 - p = g + 1 := ⟨sz - p, by omega⟩
  rw [hm]
  simp only [tokF, h, Option.bind_some, if_neg hi]
  rcases ho : oneG V sz D i q with _ | ⟨t, r⟩
  · rfl
  · simp only [Option.bind_some]
    have hr := oneG_bd ho hb.1
    rcases addL T t with _ | T'
    · rfl
    · simp only [Option.bind_some]
      exact tokF_more m m r T' (by omega) (by omega)
theorem tokF_bd {V sz : Nat} {L D : List Int} : ∀ (f p : Nat) (T T' : List UInt8) (q : Nat), tokF V sz L D f p T = some (T', q) → q ≤ sz ∧ p < q ∧ (T.length ≤ 300 → T'.length ≤ 300) := by
  intro f
  induction f with
  | zero => intro p T T' q h; simp [tokF] at h
  | succ f ih =>
    intro p T T' q h
    rcases hd : dec L V sz p with _ | ⟨i, r⟩
    · simp [tokF, hd] at h
    · have hb := dec_bd hd
      simp only [tokF, hd, Option.bind_some] at h
      split at h
      · simp only [Option.some.injEq, Prod.mk.injEq] at h
        obtain ⟨rfl, rfl⟩ := h
        exact ⟨hb.1, hb.2.1, id⟩
      · rcases ho : oneG V sz D i r with _ | ⟨t, u⟩
        · rw [ho] at h; simp at h
        · rw [ho] at h
          simp only [Option.bind_some] at h
          have hr := oneG_bd ho hb.1
          rcases ha : addL T t with _ | T2
          · rw [ha] at h; simp at h
          · rw [ha] at h
            simp only [Option.bind_some] at h
            obtain ⟨h1, h2, h3⟩ := ih u T2 T' q h
            exact ⟨h1, by omega, fun _ => h3 (addL_len ha)⟩
theorem tokG_bd {V sz : Nat} {L D : List Int} {p q : Nat} {T T' : List UInt8} (h : tokG V sz L D p T = some (T', q)) : q ≤ sz ∧ p < q ∧ (T.length ≤ 300 → T'.length ≤ 300) := tokF_bd _ _ _ _ _ h
end Go.Proofs.YtbacpebljannfaaGreatDoor