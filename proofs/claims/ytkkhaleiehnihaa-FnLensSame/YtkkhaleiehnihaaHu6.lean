/- Lengths by counts: the model's, over this seat's program. -/
import Derived.Test.YtkkhaleiehnihaaHu5
namespace Go.Proofs.Ytkkhaleiehnihaa
open Go.RowKit

def inC (l : List Int) : Bool := l.all (fun b => inB b 0 100000)
def lofOk (l : List Int) (m : Int) : Bool := decide (l.length ≤ 300) && inB m 1 15 && inC l && inB (us l : Nat) 1 ((p2 m.toNat / 2 : Nat) : Int)
def lensOfL (l : List Int) (m : Int) : List Int := if lofOk l m then fitL m l else []
theorem inC_take (l : List Int) (k : Nat) (h : k < l.length) : inC (l.take (k + 1)) = (inC (l.take k) && inB (l.getD k 0) 0 100000) := by
  rw [take_snocI l k h]; simp [inC]
theorem inC_get {l : List Int} {k : Nat} (h : k < l.length) (hn : inB (l.getD k 0) 0 100000 = false) : inC l = false := by
  rcases hb : inC l with _ | _
  · rfl
  · have := List.all_eq_true.1 hb (l.getD k 0) (by simp [List.getD, h])
    rw [hn] at this
    exact absurd this (by simp)
theorem okC_of {l : List Int} (h : inC l = true) : okC l := by
  intro i hi
  have := List.all_eq_true.1 h (l.getD i 0) (by simp [List.getD, hi])
  exact inB_true.1 this
theorem seed_us (l : List Int) (k : Nat) (hk : k ≤ l.length) : (seed l k).length = us (l.take k) := by
  induction k with
  | zero => rfl
  | succ k ih =>
    rw [us_take l k (by omega), ← ih (by omega)]
    simp only [seed]
    split
    · simp
    · rfl
theorem seed_usL (l : List Int) : (seed l l.length).length = us l := by
  rw [seed_us l _ (Nat.le_refl _), List.take_length]
theorem lofOk_no1 {l : List Int} {m : Int} (h : 300 < l.length ∨ inB m 1 15 = false ∨ inC l = false) : lensOfL l m = [] := by
  unfold lensOfL lofOk
  rcases h with h | h | h
  · rw [decide_eq_false (by omega)]; simp
  · rw [h]; simp
  · rw [h]; simp
theorem p2_half (m : Nat) : p2 (m + 1) / 2 = p2 m := by rw [p2_succ]; omega
theorem lensOfL_len (l : List Int) (m : Int) : (lensOfL l m).length ≤ 300 := by
  unfold lensOfL
  split
  · rename_i h
    simp only [lofOk, Bool.and_eq_true, decide_eq_true_iff] at h
    unfold fitL
    rw [fitF_len]
    exact h.1.1.1
  · simp

set_option maxHeartbeats 1600000 in
theorem specLensOf_any (a : Option Addr) (cap n : Nat) (l : List Int) (m : Int) (w : World) (hn : l.length = n) (h : IRow w a l) (hm : n ≤ 1048576) :
    Calls Try.prog 9 #[.slice a n cap, .int .i64 m] w fun e w' => (∃ v, e = .returned v ∧ IOwn w' w.heap.size v (lensOfL l m)) ∧ Below w.heap.size w w' := by
  have HN := hide hn
  have hmI : (n : Int) ≤ 1048576 := by omega
  by_cases h3 : (n : Int) ≤ 300
  · cases hmb : inB m 1 15
    · have Hr := hide (lofOk_no1 (l := l) (m := m) (Or.inr (Or.inl hmb)))
      clear hn h hm
      have d0 : decide ((300 : Int) < (n : Int)) = false := decide_eq_false (by omega)
      go_enter Try.func9, Try.ntmps9
      go_wp2_with fail
      refine (l1In_any _ _ _ _).mono ?_
      rintro e x1 ⟨rfl, hx⟩
      subst hx
      rw [hmb]
      go_wp2
      go_ret
      exact ⟨⟨_, rfl, by rw [unhide Hr]; exact IOwn.lit _ _ (Nat.le_refl _)⟩, (Below.refl _ _).alloc (Nat.le_refl _) _⟩
    · obtain ⟨m1, m2⟩ := inB_true.1 hmb
      obtain ⟨mm, rfl⟩ : ∃ mm : Nat, m = (mm : Int) + 1 := ⟨(m - 1).toNat, by omega⟩
      have HMB := hide hmb
      have hmm : (mm : Int) ≤ 14 := by omega
      have d0 : decide ((300 : Int) < (n : Int)) = false := decide_eq_false (by omega)
      clear hn hm
      go_enter Try.func9, Try.ntmps9
      go_wp2_with fail
      refine (l1In_any _ _ _ _).mono ?_
      rintro e x1 ⟨rfl, hx⟩
      subst hx
      rw [hmb]
      clear hmb
      go_wp2_with fail
      go_loopw [5] (fun i wr => ∃ k : Nat, k ≤ n ∧ i = .int .i64 k ∧ inC (l.take k) = true ∧ wr = x1) (fun i _ => n - (intOf i).toNat)
      case atStart => exact ⟨0, Nat.zero_le _, rfl, rfl, rfl⟩
      case round =>
        obtain ⟨k, hk, rfl, hin, rfl⟩ := hrel
        have HK := hide hk
        have HIN := hide hin
        clear hk hin
        by_cases hlt : k < n
        · obtain ⟨g, o, rfl, hg, hc⟩ := h (by rw [unhide HN]; omega)
          have c0 := hc k (by rw [unhide HN]; exact hlt)
          have hit := hide (inC_take l k (by rw [unhide HN]; exact hlt))
          have hget := hide (fun hn => inC_get (l := l) (k := k) (by rw [unhide HN]; exact hlt) hn)
          clear hc h
          generalize l.getD k 0 = y at *
          cases hy : inB y 0 100000
          · have hno := hide (lofOk_no1 (l := l) (m := (mm : Int) + 1) (Or.inr (Or.inr (unhide hget hy))))
            go_wp2_with fail
            refine (l1In_any _ _ _ _).mono ?_
            rintro e x2 ⟨rfl, hx⟩
            subst hx
            rw [hy]
            go_wp2
            go_ret
            exact ⟨⟨_, rfl, by rw [unhide hno]; exact IOwn.lit _ _ (Nat.le_refl _)⟩, (Below.refl _ _).alloc (Nat.le_refl _) _⟩
          · go_wp2_with fail
            refine (l1In_any _ _ _ _).mono ?_
            rintro e x2 ⟨rfl, hx⟩
            subst hx
            rw [hy]
            go_wp2
            go_roundw
            case rel => exact ⟨k + 1, by have := unhide HK; omega, by go_num, by rw [unhide hit, unhide HIN, hy]; rfl, by first | rfl | trivial⟩
            case measure => simp [intOf]; omega
        · have hlk : l.take k = l := List.take_of_length_le (by rw [unhide HN]; omega)
          have hin : inC l = true := by have := unhide HIN; rw [hlk] at this; exact this
          have hub := us_le l
          have huI : ((us l : Nat) : Int) ≤ 300 := by rw [unhide HN] at hub; omega
          have HUs := hide (l3Used_any a cap n l wr (unhide HN) h (by omega))
          have hpw := hide (fun W => l1Pow_any ((mm : Int) + 1) W (by omega))
          have hpe : p2 ((mm : Int) + 1).toNat = p2 mm * 2 := by
            have : ((mm : Int) + 1).toNat = mm + 1 := by omega
            rw [this, p2_succ]
          have hpl : p2 mm ≤ 16384 := by
            have h1 : p2 mm ≤ p2 14 := Nat.pow_le_pow_right (by omega) (by omega)
            have h2 : p2 14 = 16384 := rfl
            omega
          rw [hpe] at hpw
          have hpI : ((p2 mm * 2 : Nat) : Int) ≤ 32768 := by omega
          have e2 : ((p2 mm * 2 : Nat) : Int) / 2 = ((p2 mm : Nat) : Int) := by omega
          have hok : Hid (lofOk l ((mm : Int) + 1) = inB (us l : Nat) 1 ((p2 mm : Nat) : Int)) := by
            show lofOk l ((mm : Int) + 1) = _
            unfold lofOk
            rw [unhide HMB, hin, decide_eq_true (by rw [unhide HN]; omega)]
            have e3 : ((mm : Int) + 1).toNat = mm + 1 := by omega
            rw [e3, p2_half]
            simp
          have hlt' : ¬ (k : Int) < (n : Int) := by omega
          have HPQ := hide (And.intro hin hub)
          have hq1 : (1 : Int) ≤ ((p2 mm * 2 : Nat) : Int) := by have := p2_pos mm; omega
          clear hlk hpe hpl hin hub
          cases hu : inB (us l : Nat) 1 ((p2 mm : Nat) : Int)
          · have hres : Hid (lensOfL l ((mm : Int) + 1) = []) := by
              show lensOfL l ((mm : Int) + 1) = []
              unfold lensOfL
              rw [unhide hok, hu]; rfl
            clear h
            generalize p2 mm * 2 = PW at *
            go_wp2_with fail
            refine (unhide HUs).mono ?_
            rintro e x2 ⟨rfl, hx⟩
            subst hx
            go_wp2_with fail
            refine (unhide hpw _).mono ?_
            rintro e x3 ⟨rfl, hx⟩
            subst hx
            go_wp2_with fail
            refine (l1In_any _ _ _ _).mono ?_
            rintro e x4 ⟨rfl, hx⟩
            subst hx
            rw [hu]
            go_wp2
            go_ret
            exact ⟨⟨_, rfl, by rw [unhide hres]; exact IOwn.lit _ _ (Nat.le_refl _)⟩, (Below.refl _ _).alloc (Nat.le_refl _) _⟩
          · have hres : Hid (lensOfL l ((mm : Int) + 1) = fitL ((mm : Int) + 1) l) := by
              show lensOfL l ((mm : Int) + 1) = _
              unfold lensOfL
              rw [unhide hok, hu]; rfl
            obtain ⟨u1, u2⟩ := inB_true.1 hu
            have HF := hide (l3Fit_any a cap n mm l wr (unhide HN) h (by have := (unhide HPQ).2; rw [unhide HN] at this; omega) (by omega) (okC_of (unhide HPQ).1) (by rw [seed_usL]; omega) (by omega))
            clear h
            generalize p2 mm * 2 = PW at *
            go_wp2_with fail
            refine (unhide HUs).mono ?_
            rintro e x2 ⟨rfl, hx⟩
            subst hx
            go_wp2_with fail
            refine (unhide hpw _).mono ?_
            rintro e x3 ⟨rfl, hx⟩
            subst hx
            go_wp2_with fail
            refine (l1In_any _ _ _ _).mono ?_
            rintro e x4 ⟨rfl, hx⟩
            subst hx
            rw [hu]
            go_wp2_with fail
            refine (unhide HF).mono ?_
            rintro e x5 ⟨⟨v, rfl, hv⟩, hb⟩
            obtain ⟨va, vc, hvv⟩ := hv.form
            rw [hvv] at hv ⊢
            go_wp2
            go_ret
            exact ⟨⟨_, rfl, by rw [unhide hres]; exact hv⟩, hb⟩
  · have Hr := hide (lofOk_no1 (l := l) (m := m) (Or.inl (by omega)))
    clear hn h hm
    have d0 : decide ((300 : Int) < (n : Int)) = true := decide_eq_true (by omega)
    go_enter Try.func9, Try.ntmps9
    go_wp2
    go_ret
    exact ⟨⟨_, rfl, by rw [unhide Hr]; exact IOwn.lit _ _ (Nat.le_refl _)⟩, (Below.refl _ _).alloc (Nat.le_refl _) _⟩

end Go.Proofs.Ytkkhaleiehnihaa
