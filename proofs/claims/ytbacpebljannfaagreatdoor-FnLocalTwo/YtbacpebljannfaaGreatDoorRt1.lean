/- Plain mathematics: pieces that stand in a number are read back: symbols, tokens, bytes. -/
import Derived.Test.YtbacpebljannfaaGreatDoorM14
import Derived.Test.YtbacpebljannfaaGreatDoorM18
import Derived.Test.YtbacpebljannfaaGreatDoorM9
import Derived.Test.YtbacpebljannfaaGreatDoorM25
import Derived.Test.YtbacpebljannfaaGreatDoorM20
namespace Go.Proofs.YtbacpebljannfaaGreatDoor
open Go.RowKit Corb
def Std (V : Nat) : Nat → List (Int × Int) → Prop
  | _, [] => True
  | p, x :: l => V / 2 ^ p % 2 ^ x.2.toNat = x.1.toNat ∧ Std V (p + x.2.toNat) l
def bN (l : List (Int × Int)) : Nat := sumN (bitsOf l)
theorem bN_nil : bN [] = 0 := rfl
theorem bN_cons (x : Int × Int) (l : List (Int × Int)) : bN (x :: l) = x.2.toNat + bN l := by unfold bN bitsOf; rw [List.map_cons, sumN_cons]
theorem bN_append (a b : List (Int × Int)) : bN (a ++ b) = bN a + bN b := by unfold bN bitsOf; rw [List.map_append, sumN_append]
theorem std_append {V : Nat} {a b : List (Int × Int)} : ∀ {p : Nat}, Std V p (a ++ b) ↔ Std V p a ∧ Std V (p + bN a) b := by
  induction a with
  | nil => intro p; simp [Std, bN_nil]
  | cons x a ih =>
    intro p
    rw [List.cons_append]
    simp only [Std]
    rw [ih, bN_cons, and_assoc, Nat.add_assoc]
theorem std_read {V : Nat} : ∀ (l : List (Int × Int)) (p : Nat), readV V p (bitsOf l) = numsOf l → Std V p l := by
  intro l
  induction l with
  | nil => intro p _; trivial
  | cons x l ih =>
    intro p h
    unfold bitsOf numsOf at h
    rw [List.map_cons, List.map_cons] at h
    simp only [readV, List.cons.injEq] at h
    refine ⟨?_, ih _ h.2⟩
    rw [← h.1, Int.toNat_natCast]
theorem std_put {l : List (Int × Int)} (W : Nat) (h : allOk l = true) : Std ((valP l).1 + W * 2 ^ (valP l).2) 0 l := std_read l 0 (readV_put l W h)
theorem rd_std {V sz p : Nat} {x : Int × Int} {l : List (Int × Int)} (h : Std V p (x :: l)) (hs : p + x.2.toNat ≤ sz) : rdN V sz p x.2.toNat = some (x.1.toNat, p + x.2.toNat) := by
  rw [rdN_yes hs, h.1]
theorem dec_std {B : List Int} (hok : lensOk B = true) {V sz p k : Nat} {l : List (Int × Int)} (h0 : 0 < B.getD k 0) (h : Std V p (pcM B k :: l)) (hs : p + (B.getD k 0).toNat ≤ sz) : dec B V sz p = some ((k : Int), p + (B.getD k 0).toNat) := by
  have hk : k < B.length := by
    rcases Nat.lt_or_ge k B.length with h' | h'
    · exact h'
    · simp [List.getD, h'] at h0
  have hb := inL_bd (lensOk_in hok) hk
  obtain ⟨n, hn⟩ : ∃ n : Nat, B.getD k 0 = (n : Int) + 1 := ⟨(B.getD k 0).toNat - 1, by omega⟩
  have h1 := h.1
  unfold pcM at h1
  simp only at h1
  rw [outN_snd B 15 k hk, if_pos (by omega), Int.toNat_natCast, Int.toNat_natCast, hn, show ((n : Int) + 1).toNat = n + 1 by omega] at h1
  rw [hn, show ((n : Int) + 1).toNat = n + 1 by omega] at hs ⊢
  have := dec_code hok hk hn h1 (by omega)
  rw [this]
  congr 1
theorem long_at : (List.range 61).all (fun y => decide (y < 3) || (decide (fnd 3 4 y 27 < 28) && decide ((stF 3 4 (fnd 3 4 y 27)).1 ≤ y))) = true := by decide +kernel
theorem back_at : (List.range 251).all (fun y => decide (y < 1) || (decide (fnd 1 2 y 29 < 30) && decide ((stF 1 2 (fnd 1 2 y 29)).1 ≤ y))) = true := by decide +kernel
theorem long_fnd {y : Nat} (h0 : 3 ≤ y) (h1 : y ≤ 60) : fnd 3 4 y 27 < 28 ∧ (stF 3 4 (fnd 3 4 y 27)).1 ≤ y := by
  have := List.all_eq_true.1 long_at y (List.mem_range.2 (by omega))
  simp only [Bool.or_eq_true, Bool.and_eq_true, decide_eq_true_eq] at this
  omega
theorem back_fnd {y : Nat} (h0 : 1 ≤ y) (h1 : y ≤ 250) : fnd 1 2 y 29 < 30 ∧ (stF 1 2 (fnd 1 2 y 29)).1 ≤ y := by
  have := List.all_eq_true.1 back_at y (List.mem_range.2 (by omega))
  simp only [Bool.or_eq_true, Bool.and_eq_true, decide_eq_true_eq] at this
  omega
theorem sc_std {V sz p least group many k y : Nat} {l : List (Int × Int)} (hk : k < many) (hy : (stF least group k).1 ≤ y) (h : Std V p (((y : Int) - ((stF least group k).1 : Int), ((stF least group k).2 : Nat)) :: l)) (hs : p + (stF least group k).2 ≤ sz) : scG V sz least group many k p = some (y, p + (stF least group k).2) := by
  unfold scG
  rw [if_pos hk]
  have h1 := rd_std (sz := sz) h (by simpa using hs)
  simp only [Int.toNat_natCast] at h1
  rw [h1]
  simp only [Option.bind_some]
  congr 2
  omega
def hasT (L D : List Int) (t : Tk) : Prop := if isB t then 0 < L.getD t.1.toNat 0 else 0 < L.getD (257 + fnd 3 4 t.2.1.toNat 27) 0 ∧ 0 < D.getD (fnd 1 2 t.2.2.toNat 29) 0
theorem bN_pcM (B : List Int) (k : Nat) : (pcM B k).2.toNat = (B.getD k 0).toNat := rfl
theorem one_std {L D : List Int} (okL : lensOk L = true) (okD : lensOk D = true) {V sz p : Nat} {t : Tk} {l : List (Int × Int)} (ht : okT t = true) (hh : hasT L D t) (h : Std V p (pcTM L D t ++ l)) (hs : p + bN (pcTM L D t) ≤ sz) :
    ∃ i q, dec L V sz p = some (i, q) ∧ i ≠ 256 ∧ oneG V sz D i q = some (t, p + bN (pcTM L D t)) := by
  obtain ⟨y, lo, ba⟩ := t
  unfold hasT at hh
  unfold pcTM at h hs ⊢
  by_cases hB : isB (y, lo, ba) = true
  · rw [if_pos hB] at h hs hh ⊢
    have hb : 0 ≤ y ∧ y ≤ 255 ∧ lo = 0 ∧ ba = 0 := by unfold isB inB at hB; simp only [Bool.and_eq_true, decide_eq_true_eq] at hB; omega
    rw [bN_cons, bN_nil, Nat.add_zero, bN_pcM] at hs ⊢
    refine ⟨_, _, dec_std okL hh h hs, ?_, ?_⟩
    · simp only; omega
    · unfold oneG
      rw [if_pos (by simp only; omega)]
      simp only [Option.some.injEq, Prod.mk.injEq, and_true]
      omega
  · rw [if_neg hB] at h hs hh ⊢
    have hK : isK (y, lo, ba) = true := by unfold okT at ht; simpa [hB] using ht
    have hb : y = 0 ∧ 3 ≤ lo ∧ lo ≤ 60 ∧ 1 ≤ ba ∧ ba ≤ 250 := by unfold isK inB at hK; simp only [Bool.and_eq_true, decide_eq_true_eq] at hK; omega
    obtain ⟨rfl, b1, b2, b3, b4⟩ := hb
    obtain ⟨x, rfl⟩ := Int.eq_ofNat_of_zero_le (show 0 ≤ lo by omega)
    obtain ⟨z, rfl⟩ := Int.eq_ofNat_of_zero_le (show 0 ≤ ba by omega)
    simp only [Int.toNat_natCast] at h hs hh ⊢
    obtain ⟨f1, f2⟩ := long_fnd (y := x) (by omega) (by omega)
    obtain ⟨g1, g2⟩ := back_fnd (y := z) (by omega) (by omega)
    generalize fnd 3 4 x 27 = k at *
    generalize fnd 1 2 z 29 = j at *
    simp only [bN_cons, bN_nil, Nat.add_zero, bN_pcM, Int.toNat_natCast] at hs ⊢
    have s1 := h
    have s2 := h.2
    have s3 := s2.2
    have s4 := s3.2
    simp only [bN_pcM, Int.toNat_natCast] at s2 s3 s4
    refine ⟨_, _, dec_std okL hh.1 s1 (by omega), by omega, ?_⟩
    unfold oneG
    rw [if_neg (by omega), show ((257 + k : Nat) : Int).toNat - 257 = k by omega]
    unfold backG
    rw [sc_std f1 f2 s2 (by omega)]
    simp only [Option.bind_some]
    rw [dec_std okD hh.2 s3 (by omega)]
    simp only [Option.bind_some, Int.toNat_natCast]
    rw [sc_std g1 g2 s4 (by omega)]
    simp only [Option.bind_some, Option.some.injEq, Prod.mk.injEq, true_and]
    omega
def foldT (R : List UInt8) : List Tk → Option (List UInt8)
  | [] => some R
  | t :: T => (addL R t).bind fun x => foldT x T
theorem tok_std {L D : List Int} (okL : lensOk L = true) (okD : lensOk D = true) {V sz : Nat} (hE : 0 < L.getD 256 0) {l : List (Int × Int)} : ∀ (T : List Tk) (p : Nat) (R R' : List UInt8), (∀ t ∈ T, okT t = true ∧ hasT L D t) → Std V p (T.flatMap (pcTM L D) ++ (pcM L 256 :: l)) → p + bN (T.flatMap (pcTM L D)) + (L.getD 256 0).toNat ≤ sz → foldT R T = some R' → tokG V sz L D p R = some (R', p + bN (T.flatMap (pcTM L D)) + (L.getD 256 0).toNat) := by
  intro T
  induction T with
  | nil =>
    intro p R R' _ h hs hf
    simp only [foldT, Option.some.injEq] at hf
    subst hf
    simp only [List.flatMap_nil, List.nil_append, bN_nil, Nat.add_zero] at h hs ⊢
    exact tokG_end (dec_std okL hE h hs)
  | cons t T ih =>
    intro p R R' hT h hs hf
    simp only [List.flatMap_cons, List.append_assoc, bN_append] at h hs ⊢
    obtain ⟨h1, h2⟩ := hT t (by simp)
    obtain ⟨i, q, d1, d2, d3⟩ := one_std (sz := sz) okL okD h1 h2 h (by omega)
    rw [tokG_step d1 d2, d3]
    simp only [Option.bind_some]
    simp only [foldT] at hf
    rcases ha : addL R t with _ | x
    · rw [ha] at hf; cases hf
    · rw [ha] at hf
      simp only [Option.bind_some] at hf ⊢
      rw [ih (p + bN (pcTM L D t)) x R' (fun t' ht' => hT t' (by simp [ht'])) (std_append.1 h).2 (by omega) hf, Nat.add_assoc p]
theorem toks_fold {L : List UInt8} (hl : L.length ≤ 300) : ∀ (n p : Nat), L.length - p ≤ n → p ≤ L.length → foldT (L.take p) (toksP L p) = some L := by
  intro n
  induction n with
  | zero =>
    intro p h1 h2
    have e : p = L.length := by omega
    subst e
    rw [toksP_end (Nat.lt_irrefl _)]
    simp only [foldT, List.take_length]
  | succ n ih =>
    intro p h1 h2
    by_cases hp : p < L.length
    · rw [toksP_step hp]
      simp only [foldT]
      rw [addL_tokP hp hl]
      have h3 := sizP_pos L p
      have h4 := sizP_in hp
      exact ih _ (by omega) h4
    · have e : p = L.length := by omega
      subst e
      rw [toksP_end (Nat.lt_irrefl _)]
      simp only [foldT, List.take_length]
theorem toks_fold0 {L : List UInt8} (hl : L.length ≤ 300) : foldT [] (toksP L 0) = some L := toks_fold hl L.length 0 (by omega) (Nat.zero_le _)
end Go.Proofs.YtbacpebljannfaaGreatDoor