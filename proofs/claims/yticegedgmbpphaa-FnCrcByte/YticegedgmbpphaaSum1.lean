/- Contracts of the tests of sums and of AdlerJoin, over this seat's program. -/
import Derived.Test.YticegedgmbpphaaBase
namespace Go.Proofs.Yticegedgmbpphaa
open Go.RowKit

theorem sumOk_any (n : Int) (w : World) :
    Calls Try.prog 39 #[.int .i64 n] w fun e w' => e = .returned (.bool (inB n 0 4294967295)) ∧ w' = w := by
  by_cases h : 0 ≤ n
  · go_enter Try.func39, Try.ntmps39
    go_wp2
    go_ret
    exact ⟨ret_bool (by simp [inB, h]), rfl⟩
  · go_enter Try.func39, Try.ntmps39
    go_wp2
    go_ret
    exact ⟨ret_bool (by simp [inB]; omega), rfl⟩

theorem sumLongOk_any (n : Int) (w : World) :
    Calls Try.prog 43 #[.int .i64 n] w fun e w' => e = .returned (.bool (inB n 0 100000)) ∧ w' = w := by
  by_cases h : 0 ≤ n
  · go_enter Try.func43, Try.ntmps43
    go_wp2
    go_ret
    exact ⟨ret_bool (by simp [inB, h]), rfl⟩
  · go_enter Try.func43, Try.ntmps43
    go_wp2
    go_ret
    exact ⟨ret_bool (by simp [inB]; omega), rfl⟩

theorem l2Word_any (n : Int) (w : World) :
    Calls Try.prog 42 #[.int .i64 n] w fun e w' => e = .returned (.bool (inB n 0 4294967295)) ∧ w' = w := by
  go_enter Try.func42, Try.ntmps42
  go_wp2_with (go_at_call 45; refine (l1In_any _ _ _ _).mono ?_; rintro e w' ⟨rfl, rfl⟩)
  go_ret
  exact ⟨rfl, rfl⟩

/-- A number may be an Adler-32. -/
def adB (n : Int) : Bool := inB n 0 4294967295 && (decide (n % 65536 < 65521) && decide (n / 65536 < 65521))
theorem adB_true {n : Int} : adB n = true ↔ (0 ≤ n ∧ n ≤ 4294967295) ∧ n % 65536 < 65521 ∧ n / 65536 < 65521 := by
  simp [adB, inB_true]

theorem adlerOk_any (n : Int) (w : World) :
    Calls Try.prog 47 #[.int .i64 n] w fun e w' => e = .returned (.bool (adB n)) ∧ w' = w := by
  by_cases h : inB n 0 4294967295 = true
  · have hb := inB_true.1 h
    have ha := i64_and_low n (by omega) (by omega)
    obtain ⟨hb1, hb2⟩ := hb
    by_cases h2 : n % 65536 < 65521
    · go_enter Try.func47, Try.ntmps47
      go_wp2_with (go_at_call 39; refine (sumOk_any _ _).mono ?_; rintro e w' ⟨rfl, rfl⟩)
      go_ret
      exact ⟨ret_bool (by simp [adB, h, h2]), rfl⟩
    · go_enter Try.func47, Try.ntmps47
      go_wp2_with (go_at_call 39; refine (sumOk_any _ _).mono ?_; rintro e w' ⟨rfl, rfl⟩)
      go_ret
      exact ⟨ret_bool (by simp [adB, h]; omega), rfl⟩
  · have h' : inB n 0 4294967295 = false := by simpa using h
    clear h
    go_enter Try.func47, Try.ntmps47
    go_wp2_with (go_at_call 39; refine (sumOk_any _ _).mono ?_; rintro e w' ⟨rfl, rfl⟩)
    go_ret
    exact ⟨ret_bool (by simp [adB, h']), rfl⟩

theorem l2Adler_any (n : Int) (w : World) :
    Calls Try.prog 48 #[.int .i64 n] w fun e w' => e = .returned (.bool (adB n)) ∧ w' = w := by
  by_cases h : inB n 0 4294967295 = true
  · have hb := inB_true.1 h
    obtain ⟨hb1, hb2⟩ := hb
    by_cases h2 : n % 65536 < 65521
    · go_enter Try.func48, Try.ntmps48
      go_wp2_with (go_at_call 42; refine (l2Word_any _ _).mono ?_; rintro e w' ⟨rfl, rfl⟩)
      go_ret
      exact ⟨ret_bool (by simp [adB, h, h2]), rfl⟩
    · go_enter Try.func48, Try.ntmps48
      go_wp2_with (go_at_call 42; refine (l2Word_any _ _).mono ?_; rintro e w' ⟨rfl, rfl⟩)
      go_ret
      exact ⟨ret_bool (by simp [adB, h]; omega), rfl⟩
  · have h' : inB n 0 4294967295 = false := by simpa using h
    clear h
    go_enter Try.func48, Try.ntmps48
    go_wp2_with (go_at_call 42; refine (l2Word_any _ _).mono ?_; rintro e w' ⟨rfl, rfl⟩)
    go_ret
    exact ⟨ret_bool (by simp [adB, h']), rfl⟩

end Go.Proofs.Yticegedgmbpphaa
