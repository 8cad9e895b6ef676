/- Contracts of the program's StampGet, and what the exact laws of stamps turn on. -/
import Derived.Test.YthokkljiccgpiaaSt4
import Derived.Test.YthokkljiccgpiaaRd2
namespace Go.Proofs.Ythokkljiccgpiaa
open Go.RowKit

theorem and_mask (k : Nat) (n : Int) (h0 : 0 ≤ n) (h1 : n < 9223372036854775808) (hk : k ≤ 20) : bits .and .i64 n ((2 ^ k - 1 : Nat) : Int) = n % (2 ^ k : Nat) := by
  obtain ⟨a, rfl⟩ := Int.eq_ofNat_of_zero_le h0
  have hp : 2 ^ k ≤ 2 ^ 20 := Nat.pow_le_pow_right (by omega) hk
  rw [i64_and_nat a (2 ^ k - 1) (by omega) (by omega), Nat.and_two_pow_sub_one_eq_mod]
  omega
theorem gOk_nn {n : Int} (h0 : 0 ≤ n) : gOk n = stOk (gY n) (gM n) (gD n) (gH n) (gI n) (gS n) := by
  cases h : inB n 0 4294967295
  · have hb := inB_false.1 h
    have : stOk (gY n) (gM n) (gD n) (gH n) (gI n) (gS n) = false := st_no (.inr (.inl (by unfold gY; omega)))
    rw [this]; simp [gOk, h]
  · simp [gOk, h]

set_option maxHeartbeats 1600000 in
theorem implStampGet_any (n : Int) (w : World) (hn : (Lit.int .i64 n).wf = true) :
    Calls Try.prog 16 #[.int .i64 n] w fun e w' => e = .returned (.tuple #[stG n, .bool (gOk n)]) ∧ Below w.heap.size w w' := by
  have hb := bounds_i64 hn
  obtain ⟨lo, hi⟩ := hb
  by_cases h0 : 0 ≤ n
  · have a1 : bits .and .i64 (n / 2097152) 15 = gM n := and_mask 4 _ (by omega) (by omega) (by omega)
    have a2 : bits .and .i64 (n / 65536) 31 = gD n := and_mask 5 _ (by omega) (by omega) (by omega)
    have a3 : bits .and .i64 (n / 2048) 31 = gH n := and_mask 5 _ (by omega) (by omega) (by omega)
    have a4 : bits .and .i64 (n / 32) 63 = gI n := and_mask 6 _ (by omega) (by omega) (by omega)
    have a5 : bits .and .i64 n 31 = n % 32 := and_mask 5 _ (by omega) (by omega) (by omega)
    have hk := gOk_nn h0
    have gy : 1980 + n / 33554432 = gY n := by unfold gY; omega
    have gs : 2 * (n % 32) = gS n := rfl
    cases ho : stOk (gY n) (gM n) (gD n) (gH n) (gI n) (gS n)
    · rw [ho] at hk
      rw [hk, stG_no hk]
      go_enter Try.func16, Try.ntmps16
      go_wp2_with fail
      refine (implStampOk_any _ _ _ _ _ _ _).mono ?_
      rintro e w2 ⟨rfl, hb2⟩
      rw [ho]
      have hx := ((six_alloc w 0 0 0 0 0 0 25).later ((Below.refl _ _).alloc (Nat.le_refl _) _) (by simp)).later hb2 (by simp; omega)
      obtain ⟨⟨z0, z1, z2, z3, z4, z5⟩, _, _⟩ := hx.store 0 0 0 0 0 0
      obtain ⟨⟨c0, c1, c2, c3, c4, c5⟩, ⟨f0, f1, f2, f3, f4, f5⟩, hlt⟩ := hx
      go_wp2
      refine bodyPost_ret (v := .tuple #[.agg #[.int .i64 0, .int .i64 0, .int .i64 0, .int .i64 0, .int .i64 0, .int .i64 0], .bool false]) (by simp [results, Try.results16, go_sem, z0, z1, z2, z3, z4, z5]) rfl ⟨rfl, ?_⟩
      exact six_below ((((Below.refl _ _).alloc (Nat.le_refl _) _).alloc (by simp) _).trans (hb2.mono (by simp; omega))) (Nat.le_refl _) _ _ _ _ _ _
    · rw [ho] at hk
      rw [hk, stG_yes hk]
      go_enter Try.func16, Try.ntmps16
      go_wp2_with fail
      refine (implStampOk_any _ _ _ _ _ _ _).mono ?_
      rintro e w2 ⟨rfl, hb2⟩
      rw [ho]
      have hx := ((six_alloc w 0 0 0 0 0 0 25).later ((Below.refl _ _).alloc (Nat.le_refl _) _) (by simp)).later hb2 (by simp; omega)
      have hz := (six_alloc (w.alloc (.cells #[.int .i64 0, .int .i64 0, .int .i64 0, .int .i64 0, .int .i64 0, .int .i64 0] 25)) (gY n) (gM n) (gD n) (gH n) (gI n) (gS n) 25).later hb2 (by simp)
      have hz' : Six w2 (w.heap.size + 1) (gY n) (gM n) (gD n) (gH n) (gI n) (gS n) := by simpa using hz
      clear hz
      obtain ⟨⟨z0, z1, z2, z3, z4, z5⟩, _, _⟩ := hx.store (gY n) (gM n) (gD n) (gH n) (gI n) (gS n)
      obtain ⟨⟨c0, c1, c2, c3, c4, c5⟩, ⟨f0, f1, f2, f3, f4, f5⟩, hlt⟩ := hx
      obtain ⟨⟨d0, d1, d2, d3, d4, d5⟩, _, _⟩ := hz'
      go_wp2
      refine bodyPost_ret (v := .tuple #[.agg #[.int .i64 (gY n), .int .i64 (gM n), .int .i64 (gD n), .int .i64 (gH n), .int .i64 (gI n), .int .i64 (gS n)], .bool true]) (by simp [results, Try.results16, go_sem, z0, z1, z2, z3, z4, z5]) rfl ⟨rfl, ?_⟩
      exact six_below ((((Below.refl _ _).alloc (Nat.le_refl _) _).alloc (by simp) _).trans (hb2.mono (by simp; omega))) (Nat.le_refl _) _ _ _ _ _ _
  · have hk : gOk n = false := by simp [gOk, inB, h0]
    rw [hk, stG_no hk]
    have hy : 1980 + n / 33554432 < 1980 := by omega
    go_enter Try.func16, Try.ntmps16
    go_wp2_with fail
    refine (implStampOk_any _ _ _ _ _ _ _).mono ?_
    rintro e w2 ⟨rfl, hb2⟩
    rw [st_no (.inl hy)]
    have hx := ((six_alloc w 0 0 0 0 0 0 25).later ((Below.refl _ _).alloc (Nat.le_refl _) _) (by simp)).later hb2 (by simp; omega)
    obtain ⟨⟨z0, z1, z2, z3, z4, z5⟩, _, _⟩ := hx.store 0 0 0 0 0 0
    obtain ⟨⟨c0, c1, c2, c3, c4, c5⟩, ⟨f0, f1, f2, f3, f4, f5⟩, hlt⟩ := hx
    go_wp2
    refine bodyPost_ret (v := .tuple #[.agg #[.int .i64 0, .int .i64 0, .int .i64 0, .int .i64 0, .int .i64 0, .int .i64 0], .bool false]) (by simp [results, Try.results16, go_sem, z0, z1, z2, z3, z4, z5]) rfl ⟨rfl, ?_⟩
    exact six_below ((((Below.refl _ _).alloc (Nat.le_refl _) _).alloc (by simp) _).trans (hb2.mono (by simp; omega))) (Nat.le_refl _) _ _ _ _ _ _

theorem toStamp_any (y mo d h mi s : Int) (w : World) :
    Calls Try.prog 11 #[.agg #[.int .i64 y, .int .i64 mo, .int .i64 d, .int .i64 h, .int .i64 mi, .int .i64 s]] w fun e w' => e = .returned (.agg #[.int .i64 y, .int .i64 mo, .int .i64 d, .int .i64 h, .int .i64 mi, .int .i64 s]) ∧ Below w.heap.size w w' := by
  go_enter Try.func11, Try.ntmps11
  go_wp2
  refine bodyPost_ret (v := .agg #[.int .i64 y, .int .i64 mo, .int .i64 d, .int .i64 h, .int .i64 mi, .int .i64 s]) (by simp [results, Try.results11, go_sem]) rfl ⟨rfl, ?_⟩
  exact (((Below.refl _ _).alloc (Nat.le_refl _) _).alloc (by simp) _).alloc (by simp; omega) _

theorem eqStamp_same (y mo d h mi s : Int) (w : World) :
    Calls Try.prog 17 #[.agg #[.int .i64 y, .int .i64 mo, .int .i64 d, .int .i64 h, .int .i64 mi, .int .i64 s], .agg #[.int .i64 y, .int .i64 mo, .int .i64 d, .int .i64 h, .int .i64 mi, .int .i64 s]] w fun e w' => e = .returned (.bool true) ∧ Below w.heap.size w w' := by
  go_enter Try.func17, Try.ntmps17
  go_wp2
  go_ret
  exact ⟨rfl, ((Below.refl _ _).alloc (Nat.le_refl _) _).alloc (by simp) _⟩

end Go.Proofs.Ythokkljiccgpiaa
