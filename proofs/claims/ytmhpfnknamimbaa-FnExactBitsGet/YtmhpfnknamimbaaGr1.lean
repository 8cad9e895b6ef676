/- The model's reader of bits, over this seat's program. -/
import Derived.Test.YtmhpfnknamimbaaPo2
import Derived.Test.YtmhpfnknamimbaaGetMath
import Derived.Deep.RegionHeld3
import Derived.Deep.DrawnRows
namespace Go.Proofs.Ytmhpfnknamimbaa
open Go.RowKit Corb

/-- The number that a text is. -/
def numB (s : ByteArray) : Nat := valB s.data.toList

/-- What was there is there, but for one block. -/
def Keep1 (b : Nat) (w w' : World) : Prop := Below b w w' ∧ ∀ k, k < w.heap.size → k ≠ b → w'.heap[k]? = w.heap[k]?
theorem Keep1.refl (b : Nat) (w : World) : Keep1 b w w := ⟨Below.refl _ _, fun _ _ _ => rfl⟩
theorem Keep1.trans {b : Nat} {w w1 w2 : World} (h : Keep1 b w w1) (k : Keep1 b w1 w2) : Keep1 b w w2 :=
  ⟨h.1.trans k.1, fun j hj hb => (k.2 j (Nat.lt_of_lt_of_le hj h.1.size) hb).trans (h.2 j hj hb)⟩
theorem keep1_set (w : World) (b o n : Nat) (u : Value) : Keep1 b w ((w.drewN n).setCell ⟨b, o, none⟩ u) :=
  ⟨below_set (below_drewN (Below.refl _ _) _) (Nat.le_refl _) _, fun k _ hk => Below.heap_setCell (w.drewN n) ⟨b, o, none⟩ u k hk⟩
theorem Keep1.own {b base : Nat} {w w' : World} {e : TypeId} {size : Nat} {v : Value} {n : Nat} {xs : List Value} (h : Keep1 b w w') (ho : w.ownsRow base e size v n xs) (hb : b < base) : w'.ownsRow base e size v n xs := by
  refine ⟨ho.1, ?_⟩
  rcases ho.2 with hn | ⟨g, cap, cur, rfl, hbg, hgg, rest⟩
  · exact .inl hn
  · refine .inr ⟨g, cap, cur, rfl, hbg, ?_, rest⟩
    rw [h.2 g (Array.getElem?_eq_some_iff.1 hgg).1 (by omega)]
    exact hgg

/-- A reader of whom so many bits were asked. -/
def Rdr (w : World) (b : Nat) (s : ByteArray) (p : Nat) : Prop :=
  Three w b (.string s) (.int .i64 (min p (8 * s.size) : Nat)) (.bool (decide (8 * s.size < p)))

theorem numB_past (s : ByteArray) (p : Nat) (h : 8 * s.size ≤ p) : numB s / 2 ^ p % 2 = 0 :=
  bit_past _ _ (by simpa using h)
theorem numB_bit (s : ByteArray) (p : Nat) (h : p / 8 < s.size) : (s[p / 8]).toNat / 2 ^ (p % 8) % 2 = numB s / 2 ^ p % 2 := by
  rw [numB, ← bit_at]
  congr 3
  rw [List.getD_eq_getElem?_getD]
  have h' : p / 8 < s.data.toList.length := by simpa using h
  rw [List.getElem?_eq_getElem h']
  simp
  rfl

theorem Rdr.before {w : World} {b p : Nat} {s : ByteArray} (h : Rdr w b s p) (hp : p < 8 * s.size) : Three w b (.string s) (.int .i64 (p : Int)) (.bool false) := by
  unfold Rdr at h
  rwa [Nat.min_eq_left (by omega), decide_eq_false (by omega)] at h
theorem Rdr.next {w : World} {b p : Nat} {s : ByteArray} (h : Three w b (.string s) (.int .i64 ((p : Int) + 1)) (.bool false)) (hp : p < 8 * s.size) : Rdr w b s (p + 1) := by
  unfold Rdr
  rwa [Nat.min_eq_left (by omega), decide_eq_false (by omega)]
theorem Rdr.past {w : World} {b p : Nat} {s : ByteArray} (h : Rdr w b s p) (hp : 8 * s.size ≤ p) : Three w b (.string s) (.int .i64 (8 * s.size : Nat)) (.bool (decide (8 * s.size < p))) := by
  unfold Rdr at h
  rwa [Nat.min_eq_right (by omega)] at h
theorem Rdr.bad {w : World} {b p : Nat} {s : ByteArray} (h : Three w b (.string s) (.int .i64 (8 * s.size : Nat)) (.bool true)) (hp : 8 * s.size ≤ p) : Rdr w b s (p + 1) := by
  unfold Rdr
  rwa [Nat.min_eq_right (by omega), decide_eq_true (by omega)]

theorem powR (R PW : Nat) (w : World) (hR : R ≤ 60) (h : p2 R = PW) :
    Calls Try.prog 59 #[.int .i64 (R : Int)] w fun e w' => e = .returned (.int .i64 (PW : Int)) ∧ w' = w := by
  have := l1Pow_any (R : Int) w (by omega)
  rw [Int.toNat_natCast, h] at this
  exact this

attribute [local go_sem ↓] Go.wp_at_zero Go.wp_at_succ
set_option maxHeartbeats 800000 in
theorem srcBit_any (b p : Nat) (s : ByteArray) (w : World) (h : Rdr w b s p) (hs : s.size ≤ 2000000) :
    Calls Try.prog 61 #[.pointer (some ⟨b, 0, none⟩)] w fun e w' => e = .returned (.int .i64 (numB s / 2 ^ p % 2 : Nat)) ∧ Rdr w' b s (p + 1) ∧ Keep1 b w w' := by
  have hs' : (s.size : Int) ≤ 2000000 := by omega
  by_cases hp : p < 8 * s.size
  · have h3 := h.before hp
    have hq : p / 8 < s.size := by omega
    have hb := numB_bit s p hq
    generalize hN : numB s / 2 ^ p % 2 = N at *
    have Hp := hide hp
    have hpI : (p : Int) < 8 * (s.size : Int) := by omega
    have hp7 : p2 (p % 8) ≤ 128 := p2_le (p % 8) 7 (by omega)
    have hp1 := p2_pos (p % 8)
    have h3' := hide h3
    obtain ⟨c0, c1, c2, f0, f1, f2, hb3⟩ := h3
    have hb' : (s[p / 8]).toNat / p2 (p % 8) % 2 = N := hb
    clear h hN hb
    obtain ⟨Q, hQ⟩ : ∃ Q, p / 8 = Q := ⟨_, rfl⟩
    obtain ⟨R, hR⟩ : ∃ R, p % 8 = R := ⟨_, rfl⟩
    simp only [hQ, hR] at hb' hp7 hp1 hq
    have hbd := (s[Q]).toNat_lt
    generalize hPW : p2 R = PW at *
    have HPW := hide (fun W => powR R PW W (by omega) hPW)
    have hR8 : (R : Int) ≤ 60 := by omega
    have e1 : IntKind.i64.wrap (Q : Int) = (Q : Int) := wrap_id _ (by omega) (by omega)
    have e2 : (p : Int) / 8 = (Q : Int) := by omega
    have e3 : (p : Int) % 8 = (R : Int) := by omega
    have e4 : Int.tmod (p : Int) 8 = (R : Int) := by rw [Int.tmod_eq_emod_of_nonneg (by omega)]; exact e3
    have e5 : (Q : Int) < (s.size : Int) := by omega
    have e6 : (0 : Int) ≤ (Q : Int) := by omega
    have hle : (s[Q]).toNat / PW ≤ (s[Q]).toNat := Nat.div_le_self _ _
    have e7 : ((s[Q]).toNat : Int) / (PW : Int) = (((s[Q]).toNat / PW : Nat) : Int) := by simp
    have e0 : (0 : Int) ≤ ((s[Q]).toNat : Int) / (PW : Int) ∧ ((s[Q]).toNat : Int) / (PW : Int) ≤ 255 := by rw [e7]; exact ⟨Int.natCast_nonneg _, by omega⟩
    have e8 : IntKind.i64.wrap (((s[Q]).toNat : Int) / (PW : Int)) = ((s[Q]).toNat : Int) / (PW : Int) := wrap_id _ (by omega) (by omega)
    have e10 : ((s[Q]).toNat : Int) / (PW : Int) % 2 = (N : Int) := by rw [e7]; exact_mod_cast hb'
    have e9 : Int.tmod (((s[Q]).toNat : Int) / (PW : Int)) 2 = (N : Int) := by rw [Int.tmod_eq_emod_of_nonneg e0.1]; exact e10
    have e14 : IntKind.i64.wrap ((s[Q]).toNat : Int) = ((s[Q]).toNat : Int) := wrap_id _ (by omega) (by omega)
    have e11 : (0 : Int) < (PW : Int) := by omega
    have e12 : ¬ PW = 0 := by omega
    have e13 : ¬ (PW : Int) = 0 := by omega
    clear hs hp hQ hR hPW hb' hle hbd hp7 hp1 e7 e0
    go_enter Try.func61, Try.ntmps61
    go_wp2
    go_quiet (fail)
    go_wp2
    go_region_held3 (fun W => W.cell? ⟨b, 0, none⟩ = some (.string s) ∧ W.cell? ⟨b, 1, none⟩ = some (.int .i64 (p : Int))) (first | exact ⟨c0, c1⟩ | assumption) (first | (go_at_call 59; refine (unhide HPW _).mono ?_; rintro e w' ⟨rfl, rfl⟩))
    all_goals
      go_wp2
      go_ret
      exact ⟨rfl, Rdr.next (by exact (unhide h3').set1 _) (unhide Hp), keep1_set _ _ _ _ _⟩
  · have h3 := h.past (by omega)
    have h3' := hide h3
    have Hp := hide hp
    have hN := hide (numB_past s p (by omega))
    obtain ⟨c0, c1, c2, f0, f1, f2, hb3⟩ := h3
    rw [Int.natCast_mul] at c1
    clear h hp hs
    go_enter Try.func61, Try.ntmps61
    go_wp2
    go_quiet (fail)
    go_wp2
    go_ret
    exact ⟨ret_int (by rw [unhide hN]; rfl), Rdr.bad ((unhide h3').set2 _) (by have := unhide Hp; omega), keep1_set _ _ _ _ _⟩

theorem num_bd (V p k : Nat) (h : k ≤ 16) : V / 2 ^ p % 2 ^ k < 65536 := by
  have h1 : V / 2 ^ p % 2 ^ k < 2 ^ k := Nat.mod_lt _ (Nat.two_pow_pos k)
  have h2 : 2 ^ k ≤ 2 ^ 16 := Nat.pow_le_pow_right (by omega) h
  have h3 : (2 : Nat) ^ 16 = 65536 := by decide
  omega
theorem pow_bdN (k : Nat) (h : k ≤ 16) : p2 k ≤ 65536 := by
  have h2 : 2 ^ k ≤ 2 ^ 16 := Nat.pow_le_pow_right (by omega) h
  have h3 : (2 : Nat) ^ 16 = 65536 := by decide
  have h4 : p2 k = 2 ^ k := rfl
  omega

set_option maxHeartbeats 800000 in
theorem srcNum_any (b p c : Nat) (s : ByteArray) (w : World) (h : Rdr w b s p) (hs : s.size ≤ 2000000) (hc : c ≤ 16) :
    Calls Try.prog 52 #[.pointer (some ⟨b, 0, none⟩), .int .i64 (c : Int)] w fun e w' => e = .returned (.int .i64 (numB s / 2 ^ p % 2 ^ c : Nat)) ∧ Rdr w' b s (p + c) ∧ Keep1 b w w' := by
  have Hs := hide hs
  have hc' : (c : Int) ≤ 16 := by omega
  have Hc := hide hc
  clear hs hc
  go_enter Try.func52, Try.ntmps52
  go_wp2_with fail
  go_loopw [5, 6] (fun n i wr => ∃ k : Nat, k ≤ c ∧ i = .int .i64 k ∧ n = .int .i64 (numB s / 2 ^ p % 2 ^ k : Nat) ∧ Rdr wr b s (p + k) ∧ Keep1 b w wr) (fun _ i _ => c - (intOf i).toNat)
  case atStart => exact ⟨0, Nat.zero_le _, rfl, by simp [Nat.mod_one], h, Keep1.refl _ _⟩
  case round =>
    obtain ⟨k, hk, rfl, rfl, hr, hbel⟩ := hrel
    clear h
    have Hk := hide hk
    by_cases hlt : k < c
    · have hkc : (k : Int) < (c : Int) := by omega
      have hk16 : k ≤ 16 := by have := unhide Hc; omega
      have hst : Hid (numB s / 2 ^ p % 2 ^ (k + 1) = numB s / 2 ^ p % 2 ^ k + numB s / 2 ^ (p + k) % 2 * p2 k) := num_step (numB s) p k
      have hn1 := num_bd (numB s) p k hk16
      have hx : numB s / 2 ^ (p + k) % 2 ≤ 1 := by omega
      have hpw := pow_bdN k hk16
      have hbit := hide (srcBit_any b (p + k) s wr hr (unhide Hs))
      have HPW := hide (fun W => powR k (p2 k) W (by omega) rfl)
      generalize numB s / 2 ^ p % 2 ^ k = n at *
      generalize numB s / 2 ^ (p + k) % 2 = x at *
      generalize p2 k = PW at *
      have hmul : x * PW ≤ 65536 := by rcases (show x = 0 ∨ x = 1 by omega) with e | e <;> subst e <;> omega
      have e1 : IntKind.i64.wrap ((x : Int) * (PW : Int)) = ((x * PW : Nat) : Int) := by rw [← Int.natCast_mul]; exact wrap_id _ (by omega) (by omega)
      have e1' : ((x : Int) * (PW : Int)) = ((x * PW : Nat) : Int) := by rw [← Int.natCast_mul]
      have hn1' : (n : Int) < 65536 := by omega
      have hm1' : ((x * PW : Nat) : Int) ≤ 65536 := by omega
      have hm0' : (0 : Int) ≤ ((x * PW : Nat) : Int) := by omega
      generalize hM : x * PW = M at *
      have HM := hide hM
      clear hM hk16 hx hpw hn1 hmul hk hr
      go_wp2_with fail
      refine (unhide hbit).mono ?_
      rintro e x1 ⟨rfl, hr1, hb1⟩
      go_wp2_with fail
      refine (unhide HPW _).mono ?_
      rintro e x2 ⟨rfl, rfl⟩
      go_wp2
      go_roundw
      case rel => exact ⟨k + 1, by omega, by go_num, by rw [unhide hst]; go_num, hr1, hbel.trans hb1⟩
      case measure => simp [intOf]; omega
    · obtain rfl : k = c := by have := unhide Hk; omega
      go_wp2
      go_ret
      exact ⟨rfl, hr, hbel⟩

theorem rest_step (V p j : Nat) : (V / 2 ^ p % 2 ^ (j + 1) = 0) ↔ (V / 2 ^ p % 2 ^ j = 0 ∧ V / 2 ^ (p + j) % 2 = 0) := by
  rw [num_step]
  have := Nat.two_pow_pos j
  constructor
  · intro h
    have h1 := Nat.eq_zero_of_add_eq_zero_right h
    have h2 := Nat.eq_zero_of_add_eq_zero_left h
    rcases Nat.mul_eq_zero.1 h2 with h3 | h3
    · exact ⟨h1, h3⟩
    · omega
  · rintro ⟨h1, h2⟩
    rw [h1, h2]
    simp
theorem Rdr.at {w : World} {b p : Nat} {s : ByteArray} (h : Rdr w b s p) (hp : p ≤ 8 * s.size) : Three w b (.string s) (.int .i64 (p : Int)) (.bool false) := by
  unfold Rdr at h
  rwa [Nat.min_eq_left (by omega), decide_eq_false (by omega)] at h

set_option maxHeartbeats 800000 in
theorem srcWhole_any (b p : Nat) (s : ByteArray) (w : World) (h : Rdr w b s p) (hs : s.size ≤ 2000000) (hp : p ≤ 8 * s.size) :
    Calls Try.prog 53 #[.pointer (some ⟨b, 0, none⟩)] w fun e w' => e = .returned (.bool (decide (numB s / 2 ^ p % 2 ^ ((8 - p % 8) % 8) = 0))) ∧ Rdr w' b s (p + (8 - p % 8) % 8) ∧ Keep1 b w w' := by
  have Hs := hide hs
  have hp7 : (8 - p % 8) % 8 ≤ 7 := by omega
  have hpm : (p + (8 - p % 8) % 8) % 8 = 0 := by omega
  have hpl : p + (8 - p % 8) % 8 ≤ 8 * s.size := by omega
  have hmin : ∀ j, j < (8 - p % 8) % 8 → (p + j) % 8 ≠ 0 := by omega
  have hsI : (s.size : Int) ≤ 2000000 := by omega
  generalize (8 - p % 8) % 8 = c at *
  have Hp := hide hpl
  clear hs hp hpl
  go_enter Try.func53, Try.ntmps53
  go_wp2_with fail
  go_loopw [3] (fun n wr => ∃ k m : Nat, k ≤ c ∧ n = .int .i64 (m : Nat) ∧ m ≤ k ∧ (m = 0 ↔ numB s / 2 ^ p % 2 ^ k = 0) ∧ Rdr wr b s (p + k) ∧ Keep1 b w wr) (fun _ wr => c + p - (match wr.cell? ⟨b, 1, none⟩ with | some (.int _ i) => i.toNat | _ => 0))
  case atStart => exact ⟨0, 0, Nat.zero_le _, rfl, Nat.le_refl _, by simp [Nat.mod_one], h, Keep1.refl _ _⟩
  case round =>
    obtain ⟨k, m, hk, rfl, hmk, hm0, hr, hbel⟩ := hrel
    clear h
    have h3 := hr.at (by have := unhide Hp; omega)
    obtain ⟨c0, c1, c2, f0, f1, f2, hb3⟩ := h3
    have Hk := hide hk
    have Hm0 := hide hm0
    have hpk : ((p + k : Nat) : Int) ≤ 16000000 := by have := unhide Hp; omega
    clear hm0
    by_cases hlt : k < c
    · have hne : ¬ ((p + k : Nat) : Int) % 8 = 0 := by have := hmin k hlt; omega
      have hst := hide (rest_step (numB s) p k)
      have hx : numB s / 2 ^ (p + k) % 2 ≤ 1 := by omega
      have hbit := hide (srcBit_any b (p + k) s wr hr (unhide Hs))
      generalize numB s / 2 ^ (p + k) % 2 = x at *
      have hxI : (x : Int) ≤ 1 := by omega
      have hmI : (m : Int) ≤ 7 := by omega
      have HX := hide hx
      have Hmk := hide hmk
      have Hlt := hide hlt
      have Hpk := hide (show p + k < 8 * s.size by have := unhide Hp; omega)
      clear hmin hx hk hmk hlt hr hpm hp7
      generalize hPK : p + k = pk at *
      have HPK := hide hPK
      clear hPK
      go_wp2_with fail
      refine (unhide hbit).mono ?_
      rintro e x1 ⟨rfl, hr1, hb1⟩
      go_wp2
      go_roundw
      case rel => exact ⟨k + 1, m + x, unhide Hlt, by go_num, by have := unhide Hmk; have := unhide HX; omega, by rw [unhide hst, ← unhide Hm0]; omega, by rw [← unhide HPK] at hr1; exact hr1, hbel.trans hb1⟩
      case measure =>
        have h1 := (hr1.at (by have := unhide Hpk; omega)).2.1
        rw [h1, c1]
        have := unhide HPK; have := unhide Hlt
        simp
        omega
    · obtain rfl : k = c := by have := unhide Hk; omega
      have he : ((p + k : Nat) : Int) % 8 = 0 := by omega
      generalize hPK : p + k = pk at *
      go_wp2
      go_ret
      refine ⟨ret_bool ?_, by rw [hPK]; exact hr, hbel⟩
      rw [show decide (numB s / 2 ^ p % 2 ^ k = 0) = decide (m = 0) from decide_eq_decide.2 (unhide Hm0).symm]
      rcases Nat.eq_zero_or_pos m with h0 | h0
      · subst h0; rfl
      · rw [decide_eq_false (by omega)]
        first | (exact decide_eq_false (by omega)) | (exact beq_false_of_ne (by omega)) | (exact (by omega : False).elim)

end Go.Proofs.Ytmhpfnknamimbaa
