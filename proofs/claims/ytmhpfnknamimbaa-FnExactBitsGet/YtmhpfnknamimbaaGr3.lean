/- The program's reader of bits: a piece, and what is left of a byte, over this seat's program. -/
import Derived.Test.YtmhpfnknamimbaaGr2
import Derived.Test.YtmhpfnknamimbaaPw3
namespace Go.Proofs.Ytmhpfnknamimbaa
open Go.RowKit Corb

theorem Rdr.kept {w w' : World} {b p : Nat} {s : ByteArray} (h : Rdr w b s p) (hb : Below (b + 1) w w') : Rdr w' b s p := Three.kept h hb
theorem Rdr.alloc {w : World} {b p : Nat} {s : ByteArray} (h : Rdr w b s p) (o : Obj) : Rdr (w.alloc o) b s p :=
  h.kept ((Below.refl _ _).alloc (by have : b < w.heap.size := h.2.2.2.2.2.2; omega) _)
theorem Rdr.lt {w : World} {b p : Nat} {s : ByteArray} (h : Rdr w b s p) : b < w.heap.size := h.2.2.2.2.2.2
theorem Keep1.alloc {b : Nat} {w w' : World} (h : Keep1 b w w') (hb : b ≤ w'.heap.size) (o : Obj) : Keep1 b w (w'.alloc o) :=
  ⟨h.1.alloc hb o, fun j hj hne => (Below.heap_alloc w' o j (Nat.lt_of_lt_of_le hj h.1.size)).trans (h.2 j hj hne)⟩
theorem Box.keep1 {w w' : World} {P b : Nat} {x y : Int} (h : Box w P x y) (hk : Keep1 b w w') (hb : P ≠ b) : Box w' P x y := by
  unfold Box at *
  rw [hk.2 P (Array.getElem?_eq_some_iff.1 h).1 hb]
  exact h

theorem or_join (n x k M : Nat) (hn : n < p2 k) (hx : x ≤ 1) (hk : k ≤ 16) (hM : x * p2 k = M) : bits .or .i64 (n : Int) (M : Int) = ((n + M : Nat) : Int) := by
  have h1 := pow_bdN k hk
  have hM2 : M ≤ 65536 := by
    rcases (show x = 0 ∨ x = 1 by omega) with e | e <;> subst e <;> omega
  rw [i64_or_nat n M (by omega) (by omega)]
  congr 1
  rw [Nat.or_comm]
  rw [nat_join k M n (by rw [← hM]; exact Nat.mul_mod_left _ _) hn]
  omega

set_option maxHeartbeats 1600000 in
theorem rdPass_any (b p c : Nat) (num : Int) (s : ByteArray) (w : World) (h : Rdr w b s p) (hs : s.size ≤ 2000000) (hc : c ≤ 16) :
    Calls Try.prog 78 #[.pointer (some ⟨b, 0, none⟩), .agg #[.int .i64 num, .int .i64 (c : Int)]] w fun e w' => e = .returned (.int .i64 (numB s / 2 ^ p % 2 ^ c : Nat)) ∧ Rdr w' b s (p + c) ∧ Keep1 b w w' := by
  have Hs := hide hs
  have hc' : (c : Int) ≤ 16 := by omega
  have Hc := hide hc
  have hlt := h.lt
  have hbox0 := box_new w num (c : Int)
  have h0 := h.alloc (.cells #[.int .i64 num, .int .i64 (c : Int)] 29)
  have hk0 : Keep1 b w (w.alloc (.cells #[.int .i64 num, .int .i64 (c : Int)] 29)) := (Keep1.refl _ _).alloc (by omega) _
  clear hs hc h
  go_enter Try.func78, Try.ntmps78
  go_wp2_with fail
  go_loopw [5, 6, 9] (fun n _ i wr => ∃ k : Nat, k ≤ c ∧ i = .int .i64 k ∧ n = .int .i64 (numB s / 2 ^ p % 2 ^ k : Nat) ∧ Rdr wr b s (p + k) ∧ Keep1 b w wr) (fun _ _ i _ => c - (intOf i).toNat)
  case atStart => exact ⟨0, Nat.zero_le _, rfl, by simp [Nat.mod_one], h0, hk0⟩
  case round =>
    obtain ⟨k, hk, rfl, rfl, hr, hbel⟩ := hrel
    clear h0 hk0 hbox0
    have Hk := hide hk
    by_cases hlt : k < c
    · have hkc : (k : Int) < (c : Int) := by omega
      have hk16 : k ≤ 16 := by have := unhide Hc; omega
      have hst : Hid (numB s / 2 ^ p % 2 ^ (k + 1) = numB s / 2 ^ p % 2 ^ k + numB s / 2 ^ (p + k) % 2 * p2 k) := num_step (numB s) p k
      have hn0 : numB s / 2 ^ p % 2 ^ k < p2 k := Nat.mod_lt _ (Nat.two_pow_pos k)
      have hn1 := num_bd (numB s) p k hk16
      have hx : numB s / 2 ^ (p + k) % 2 ≤ 1 := by omega
      have hpw := pow_bdN k hk16
      have hbit := hide (rdBit_any b (p + k) s wr hr (unhide Hs))
      have hp2i := p2_int k
      generalize numB s / 2 ^ p % 2 ^ k = n at *
      generalize numB s / 2 ^ (p + k) % 2 = x at *
      have hor := or_join n x k (x * p2 k) hn0 hx hk16 rfl
      have hmul : x * p2 k ≤ 65536 := by rcases (show x = 0 ∨ x = 1 by omega) with e | e <;> rw [e] <;> omega
      have e1' : (x : Int) * 2 ^ k = ((x * p2 k : Nat) : Int) := by rw [Int.natCast_mul, hp2i]
      have e1 : IntKind.i64.wrap ((x : Int) * 2 ^ k) = ((x * p2 k : Nat) : Int) := by rw [e1']; exact wrap_id _ (by omega) (by omega)
      generalize x * p2 k = M at *
      have e2 : IntKind.i64.wrap (M : Int) = (M : Int) := wrap_id _ (by omega) (by omega)
      have k0 : (0 : Int) ≤ (k : Int) := by omega
      have k16 : (k : Int) ≤ 16 := by omega
      clear hk16 hx hpw hn1 hmul hk hr hn0 hp2i
      go_wp2_with fail
      refine (unhide hbit).mono ?_
      rintro e x1 ⟨rfl, hr1, hb1⟩
      go_wp2
      go_roundw
      case rel => exact ⟨k + 1, by omega, by go_num, by rw [unhide hst]; go_num, hr1, hbel.trans hb1⟩
      case measure => simp [intOf]; omega
    · obtain rfl : k = c := by have := unhide Hk; omega
      go_wp2
      go_ret
      exact ⟨rfl, hr, hbel⟩

theorem or_bits (m x : Nat) (hm : m ≤ 1) (hx : x ≤ 1) : ∃ y : Nat, bits .or .i64 (m : Int) (x : Int) = (y : Int) ∧ y ≤ 1 ∧ (y = 0 ↔ m = 0 ∧ x = 0) := by
  refine ⟨m ||| x, i64_or_nat m x (by omega) (by omega), ?_, ?_⟩
  · rcases (show m = 0 ∨ m = 1 by omega) with e | e <;> rcases (show x = 0 ∨ x = 1 by omega) with f | f <;> subst e <;> subst f <;> decide
  · rcases (show m = 0 ∨ m = 1 by omega) with e | e <;> rcases (show x = 0 ∨ x = 1 by omega) with f | f <;> subst e <;> subst f <;> decide

set_option maxHeartbeats 800000 in
theorem rdClear_any (b p : Nat) (s : ByteArray) (w : World) (h : Rdr w b s p) (hs : s.size ≤ 2000000) (hp : p ≤ 8 * s.size) :
    Calls Try.prog 47 #[.pointer (some ⟨b, 0, none⟩)] w fun e w' => e = .returned (.bool (decide (numB s / 2 ^ p % 2 ^ ((8 - p % 8) % 8) = 0))) ∧ Rdr w' b s (p + (8 - p % 8) % 8) ∧ Keep1 b w w' := by
  have Hs := hide hs
  have hp7 : (8 - p % 8) % 8 ≤ 7 := by omega
  have hpm : (p + (8 - p % 8) % 8) % 8 = 0 := by omega
  have hpl : p + (8 - p % 8) % 8 ≤ 8 * s.size := by omega
  have hmin : ∀ j, j < (8 - p % 8) % 8 → (p + j) % 8 ≠ 0 := by omega
  have hsI : (s.size : Int) ≤ 2000000 := by omega
  generalize (8 - p % 8) % 8 = c at *
  have Hp := hide hpl
  clear hs hp hpl
  go_enter Try.func47, Try.ntmps47
  go_wp2_with fail
  go_loopw [3] (fun n wr => ∃ k m : Nat, k ≤ c ∧ n = .int .i64 (m : Nat) ∧ m ≤ 1 ∧ (m = 0 ↔ numB s / 2 ^ p % 2 ^ k = 0) ∧ Rdr wr b s (p + k) ∧ Keep1 b w wr) (fun _ wr => c + p - (match wr.cell? ⟨b, 1, none⟩ with | some (.int _ i) => i.toNat | _ => 0))
  case atStart => exact ⟨0, 0, Nat.zero_le _, rfl, by omega, by simp [Nat.mod_one], h, Keep1.refl _ _⟩
  case round =>
    obtain ⟨k, m, hk, rfl, hmk, hm0, hr, hbel⟩ := hrel
    clear h
    have h3 := hr.at (by have := unhide Hp; omega)
    obtain ⟨c0, c1, c2, f0, f1, f2, hb3⟩ := h3
    have Hk := hide hk
    have Hm0 := hide hm0
    have hpk : ((p + k : Nat) : Int) ≤ 16000000 := by have := unhide Hp; omega
    clear hm0
    by_cases hlt : k < c
    · have hne : ¬ ((p + k : Nat) : Int) % 8 = 0 := by have := hmin k hlt; omega
      have hst := hide (rest_step (numB s) p k)
      have hx : numB s / 2 ^ (p + k) % 2 ≤ 1 := by omega
      have hbit := hide (rdBit_any b (p + k) s wr hr (unhide Hs))
      generalize numB s / 2 ^ (p + k) % 2 = x at *
      obtain ⟨y, hor, hy1, hy0⟩ := or_bits m x hmk hx
      have HY := hide hy0
      have HY1 := hide hy1
      have Hlt := hide hlt
      have Hpk := hide (show p + k < 8 * s.size by have := unhide Hp; omega)
      clear hmin hx hk hmk hlt hr hpm hp7 hy0 hy1
      generalize hPK : p + k = pk at *
      have HPK := hide hPK
      clear hPK
      go_wp2_with fail
      refine (unhide hbit).mono ?_
      rintro e x1 ⟨rfl, hr1, hb1⟩
      go_wp2
      go_roundw
      case rel => exact ⟨k + 1, y, unhide Hlt, rfl, unhide HY1, by rw [unhide hst, ← unhide Hm0]; exact unhide HY, by rw [← unhide HPK] at hr1; exact hr1, hbel.trans hb1⟩
      case measure =>
        have h1 := (hr1.at (by have := unhide Hpk; omega)).2.1
        rw [h1, c1]
        have := unhide HPK; have := unhide Hlt
        simp
        omega
    · obtain rfl : k = c := by have := unhide Hk; omega
      have he : ((p + k : Nat) : Int) % 8 = 0 := by omega
      generalize hPK : p + k = pk at *
      go_wp2
      go_ret
      refine ⟨ret_bool ?_, by rw [hPK]; exact hr, hbel⟩
      rw [show decide (numB s / 2 ^ p % 2 ^ k = 0) = decide (m = 0) from decide_eq_decide.2 (unhide Hm0).symm]
      rcases Nat.eq_zero_or_pos m with h0 | h0
      · subst h0; rfl
      · rw [decide_eq_false (by omega)]
        first | (exact decide_eq_false (by omega)) | (exact beq_false_of_ne (by omega)) | (exact (by omega : False).elim)

end Go.Proofs.Ytmhpfnknamimbaa
