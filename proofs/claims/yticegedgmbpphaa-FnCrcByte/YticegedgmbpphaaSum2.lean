/- Contracts of AdlerJoin, the program's and the model's, over this seat's program. -/
import Derived.Test.YticegedgmbpphaaSum1
import Derived.Test.YticegedgmbpphaaAdlerMath
namespace Go.Proofs.Yticegedgmbpphaa
open Go.RowKit

/-- What may be joined. -/
def ajOk (a b n : Int) : Bool := adB a && (adB b && inB n 0 100000)
/-- Two sums, joined. -/
def ajVal (a b n : Int) : Int := (a / 65536 + b / 65536 + n * (a % 65536 + 65520)) % 65521 * 65536 + (a % 65536 + b % 65536 + 65520) % 65521
def ajI (a b n : Int) : Int := if ajOk a b n = true then ajVal a b n else -1

theorem ajI_yes {a b n : Int} (h : ajOk a b n = true) : ajI a b n = ajVal a b n := if_pos h
theorem ajI_no {a b n : Int} (h : ajOk a b n = false) : ajI a b n = -1 := if_neg (by simp [h])

theorem prod_bd (n x : Int) (h0 : 0 ≤ n) (h1 : n ≤ 100000) (h2 : 0 ≤ x) (h3 : x ≤ 200000) : 0 ≤ n * x ∧ n * x ≤ 20000000000 := by
  refine ⟨Int.mul_nonneg h0 h2, ?_⟩
  have := Int.mul_le_mul h1 h3 h2 (by omega : (0 : Int) ≤ 100000)
  omega

theorem aj_hi (a b n : Int) : (a / 65536 + b / 65536 + n * (a % 65536 + 65521 - 1)) % 65521 = (a / 65536 + b / 65536 + n * (a % 65536 + 65520)) % 65521 := by
  rw [show a % 65536 + 65521 - 1 = a % 65536 + 65520 by omega]
theorem aj_mod (a b n : Int) : (a / 65536 + b / 65536 + n % 65521 * (a % 65536 + 65520)) % 65521 = (a / 65536 + b / 65536 + n * (a % 65536 + 65520)) % 65521 := by
  rw [Int.add_emod, Int.mul_emod, Int.emod_emod_of_dvd _ (Int.dvd_refl _), ← Int.mul_emod, ← Int.add_emod]

theorem aj_join (a b n : Int) : bits .or .i64 ((a / 65536 + b / 65536 + n * (a % 65536 + 65521 - 1)) % 65521 * 65536) ((a % 65536 + 65521 - 1 + b % 65536) % 65521) = ajVal a b n := by
  rw [aj_hi, i64_or_half _ _ (by omega) (by omega) (by omega) (by omega)]
  unfold ajVal
  congr 2
  omega
theorem aj_spec (a b n : Int) : (a / 65536 + b / 65536 + n % 65521 * (a % 65536 + 65520)) % 65521 * 65536 + (a % 65536 + b % 65536 - 1) % 65521 = ajVal a b n := by
  rw [aj_mod]
  unfold ajVal
  congr 1
  omega

set_option maxHeartbeats 400000 in
theorem implAdlerJoin_no (a b n : Int) (w : World) (h : ajOk a b n = false) :
    Calls Try.prog 31 #[.int .i64 a, .int .i64 b, .int .i64 n] w fun e w' => e = .returned (.int .i64 (ajI a b n)) ∧ w' = w := by
  have HI := hide (ajI_no h)
  have H := hide h
  clear h
  cases ha : adB a
  · go_enter Try.func31, Try.ntmps31
    go_wp2_with (go_at_call 47; refine (adlerOk_any _ _).mono ?_; rintro e w' ⟨rfl, rfl⟩)
    go_ret
    exact ⟨ret_int (unhide HI).symm, rfl⟩
  · cases hb : adB b
    · go_enter Try.func31, Try.ntmps31
      go_wp2_with (go_at_call 47; refine (adlerOk_any _ _).mono ?_; rintro e w' ⟨rfl, rfl⟩)
      go_ret
      exact ⟨ret_int (unhide HI).symm, rfl⟩
    · have hn : inB n 0 100000 = false := by have := unhide H; simpa [ajOk, ha, hb] using this
      go_enter Try.func31, Try.ntmps31
      go_wp2_with (first | (go_at_call 47; refine (adlerOk_any _ _).mono ?_; rintro e w' ⟨rfl, rfl⟩) | (go_at_call 43; refine (sumLongOk_any _ _).mono ?_; rintro e w' ⟨rfl, rfl⟩))
      go_ret
      exact ⟨ret_int (unhide HI).symm, rfl⟩

set_option maxHeartbeats 400000 in
theorem implAdlerJoin_yes (a b n : Int) (w : World) (h : ajOk a b n = true) :
    Calls Try.prog 31 #[.int .i64 a, .int .i64 b, .int .i64 n] w fun e w' => e = .returned (.int .i64 (ajI a b n)) ∧ w' = w := by
  have HI := hide (ajI_yes h)
  simp only [ajOk, Bool.and_eq_true] at h
  obtain ⟨ha, hb, hn⟩ := h
  obtain ⟨⟨a1, a2⟩, a3, a4⟩ := adB_true.1 ha
  obtain ⟨⟨b1, b2⟩, b3, b4⟩ := adB_true.1 hb
  obtain ⟨n1, n2⟩ := inB_true.1 hn
  have ea := i64_and_low a (by omega) (by omega)
  have eb := i64_and_low b (by omega) (by omega)
  obtain ⟨p1, p2⟩ := prod_bd n (a % 65536 + 65521 - 1) n1 n2 (by omega) (by omega)
  go_enter Try.func31, Try.ntmps31
  go_wp2_with (first | (go_at_call 47; refine (adlerOk_any _ _).mono ?_; rintro e w' ⟨rfl, rfl⟩) | (go_at_call 43; refine (sumLongOk_any _ _).mono ?_; rintro e w' ⟨rfl, rfl⟩))
  go_ret
  exact ⟨ret_int ((aj_join a b n).trans (unhide HI).symm), rfl⟩

theorem implAdlerJoin_any (a b n : Int) (w : World) :
    Calls Try.prog 31 #[.int .i64 a, .int .i64 b, .int .i64 n] w fun e w' => e = .returned (.int .i64 (ajI a b n)) ∧ w' = w := by
  cases h : ajOk a b n
  · exact implAdlerJoin_no a b n w h
  · exact implAdlerJoin_yes a b n w h

set_option maxHeartbeats 400000 in
theorem specAdlerJoin_no (a b n : Int) (w : World) (h : ajOk a b n = false) :
    Calls Try.prog 33 #[.int .i64 a, .int .i64 b, .int .i64 n] w fun e w' => e = .returned (.int .i64 (ajI a b n)) ∧ w' = w := by
  have HI := hide (ajI_no h)
  have H := hide h
  clear h
  cases ha : adB a
  · go_enter Try.func33, Try.ntmps33
    go_wp2_with (go_at_call 48; refine (l2Adler_any _ _).mono ?_; rintro e w' ⟨rfl, rfl⟩)
    go_ret
    exact ⟨ret_int (unhide HI).symm, rfl⟩
  · cases hb : adB b
    · go_enter Try.func33, Try.ntmps33
      go_wp2_with (go_at_call 48; refine (l2Adler_any _ _).mono ?_; rintro e w' ⟨rfl, rfl⟩)
      go_ret
      exact ⟨ret_int (unhide HI).symm, rfl⟩
    · have hn : inB n 0 100000 = false := by have := unhide H; simpa [ajOk, ha, hb] using this
      go_enter Try.func33, Try.ntmps33
      go_wp2_with (first | (go_at_call 48; refine (l2Adler_any _ _).mono ?_; rintro e w' ⟨rfl, rfl⟩) | (go_at_call 45; refine (l1In_any _ _ _ _).mono ?_; rintro e w' ⟨rfl, rfl⟩))
      go_ret
      exact ⟨ret_int (unhide HI).symm, rfl⟩

set_option maxHeartbeats 400000 in
theorem specAdlerJoin_yes (a b n : Int) (w : World) (h : ajOk a b n = true) :
    Calls Try.prog 33 #[.int .i64 a, .int .i64 b, .int .i64 n] w fun e w' => e = .returned (.int .i64 (ajI a b n)) ∧ w' = w := by
  have HI := hide (ajI_yes h)
  simp only [ajOk, Bool.and_eq_true] at h
  obtain ⟨ha, hb, hn⟩ := h
  obtain ⟨⟨a1, a2⟩, a3, a4⟩ := adB_true.1 ha
  obtain ⟨⟨b1, b2⟩, b3, b4⟩ := adB_true.1 hb
  obtain ⟨n1, n2⟩ := inB_true.1 hn
  obtain ⟨p1, p2⟩ := prod_bd (n % 65521) (a % 65536 + 65520) (by omega) (by omega) (by omega) (by omega)
  go_enter Try.func33, Try.ntmps33
  go_wp2_with (first | (go_at_call 48; refine (l2Adler_any _ _).mono ?_; rintro e w' ⟨rfl, rfl⟩) | (go_at_call 45; refine (l1In_any _ _ _ _).mono ?_; rintro e w' ⟨rfl, rfl⟩))
  go_ret
  exact ⟨ret_int ((aj_spec a b n).trans (unhide HI).symm), rfl⟩

theorem specAdlerJoin_any (a b n : Int) (w : World) :
    Calls Try.prog 33 #[.int .i64 a, .int .i64 b, .int .i64 n] w fun e w' => e = .returned (.int .i64 (ajI a b n)) ∧ w' = w := by
  cases h : ajOk a b n
  · exact specAdlerJoin_no a b n w h
  · exact specAdlerJoin_yes a b n w h

theorem ajI_bd (a b n : Int) : -1 ≤ ajI a b n ∧ ajI a b n ≤ 4294967295 := by
  unfold ajI
  split
  · unfold ajVal
    have h1 := Int.emod_lt_of_pos (a / 65536 + b / 65536 + n * (a % 65536 + 65520)) (by omega : (0 : Int) < 65521)
    have h2 := Int.emod_nonneg (a / 65536 + b / 65536 + n * (a % 65536 + 65520)) (by omega : (65521 : Int) ≠ 0)
    omega
  · omega

end Go.Proofs.Yticegedgmbpphaa
