/- Contracts of what a stamp is: days of a month, and whether a day and a time are. -/
import Derived.Test.YthlmoakigdlboaaDoorMem
namespace Go.Proofs.YthlmoakigdlboaaDoor
open Go.RowKit

/-- February has a day more. -/
def leapB (y : Int) : Bool := decide (y % 4 = 0) && (!decide (y % 100 = 0) || decide (y % 400 = 0))
/-- How many days a month has. -/
def daysN (y m : Int) : Int := if m = 4 ∨ m = 6 ∨ m = 9 ∨ m = 11 then 30 else if m = 2 then (if leapB y then 29 else 28) else 31
/-- How many days February has. -/
def febN (y : Int) : Int := if leapB y then 29 else 28
theorem days_feb (y : Int) : daysN y 2 = febN y := by simp [daysN, febN]
theorem days_30 (y m : Int) (h : m = 4 ∨ m = 6 ∨ m = 9 ∨ m = 11) : daysN y m = 30 := by simp [daysN, h]
theorem days_31 (y m : Int) (h4 : ¬ m = 4) (h6 : ¬ m = 6) (h9 : ¬ m = 9) (h11 : ¬ m = 11) (h2 : ¬ m = 2) : daysN y m = 31 := by simp [daysN, h4, h6, h9, h11, h2]

theorem leapYear_any (y : Int) (w : World) (h0 : 0 ≤ y) (h1 : y ≤ 3000) :
    Calls Tryd.prog 47 #[.int .i64 y] w fun e w' => e = .returned (.bool (leapB y)) ∧ w' = w := by
  by_cases h4 : y % 4 = 0
  · by_cases h100 : y % 100 = 0
    · by_cases h400 : y % 400 = 0
      · go_enter Tryd.func47, Tryd.ntmps47
        go_wp2
        go_ret
        exact ⟨ret_bool (by simp [leapB, h4, h400]), rfl⟩
      · go_enter Tryd.func47, Tryd.ntmps47
        go_wp2
        go_ret
        exact ⟨ret_bool (by simp [leapB, h4, h100, h400]), rfl⟩
    · go_enter Tryd.func47, Tryd.ntmps47
      go_wp2
      go_ret
      exact ⟨ret_bool (by simp [leapB, h4, h100]), rfl⟩
  · have h400 : ¬ y % 400 = 0 := by omega
    go_enter Tryd.func47, Tryd.ntmps47
    go_wp2
    go_ret
    exact ⟨ret_bool (by simp [leapB, h4, h400]), rfl⟩

theorem l6Days_any (y m : Int) (w : World) (h0 : 0 ≤ y) (h1 : y ≤ 3000) :
    Calls Tryd.prog 25 #[.int .i64 y, .int .i64 m] w fun e w' => e = .returned (.int .i64 (daysN y m)) ∧ w' = w := by
  by_cases m2 : m = 2
  · subst m2
    rw [days_feb]
    by_cases h4 : y % 4 = 0
    · by_cases h100 : y % 100 = 0
      · by_cases h400 : y % 400 = 0
        · go_enter Tryd.func25, Tryd.ntmps25
          go_wp2
          go_ret
          exact ⟨ret_int (by simp [febN, leapB, h4, h400]), rfl⟩
        · go_enter Tryd.func25, Tryd.ntmps25
          go_wp2
          go_ret
          exact ⟨ret_int (by simp [febN, leapB, h4, h100, h400]), rfl⟩
      · go_enter Tryd.func25, Tryd.ntmps25
        go_wp2
        go_ret
        exact ⟨ret_int (by simp [febN, leapB, h4, h100]), rfl⟩
    · go_enter Tryd.func25, Tryd.ntmps25
      go_wp2
      go_ret
      exact ⟨ret_int (by simp [febN, leapB, h4]), rfl⟩
  · by_cases m30 : m = 4 ∨ m = 6 ∨ m = 9 ∨ m = 11
    · rw [days_30 y m m30]
      rcases m30 with rfl | rfl | rfl | rfl
      all_goals
        go_enter Tryd.func25, Tryd.ntmps25
        go_wp2
        go_ret
        exact ⟨rfl, rfl⟩
    · have m4 : ¬ m = 4 := fun h => m30 (by simp [h])
      have m6 : ¬ m = 6 := fun h => m30 (by simp [h])
      have m9 : ¬ m = 9 := fun h => m30 (by simp [h])
      have m11 : ¬ m = 11 := fun h => m30 (by simp [h])
      rw [days_31 y m m4 m6 m9 m11 m2]
      clear m30
      go_enter Tryd.func25, Tryd.ntmps25
      go_wp2
      go_ret
      exact ⟨rfl, rfl⟩

/-- How many days a month has; 0 of what is no month. -/
def daysI (y m : Int) : Int := if inB m 1 12 then daysN y m else 0
theorem monthDays_any (y m : Int) (w : World) (h0 : 0 ≤ y) (h1 : y ≤ 3000) :
    Calls Tryd.prog 43 #[.int .i64 y, .int .i64 m] w fun e w' => e = .returned (.int .i64 (daysI y m)) ∧ w' = w := by
  cases hm : inB m 1 12
  · have hd : daysI y m = 0 := by simp [daysI, hm]
    rw [hd]
    have hb := inB_false.1 hm
    have n1 : ¬ m = 1 := by omega
    have n2 : ¬ m = 2 := by omega
    have n3 : ¬ m = 3 := by omega
    have n4 : ¬ m = 4 := by omega
    have n5 : ¬ m = 5 := by omega
    have n6 : ¬ m = 6 := by omega
    have n7 : ¬ m = 7 := by omega
    have n8 : ¬ m = 8 := by omega
    have n9 : ¬ m = 9 := by omega
    have n10 : ¬ m = 10 := by omega
    have n11 : ¬ m = 11 := by omega
    have n12 : ¬ m = 12 := by omega
    clear hm hd hb
    go_enter Tryd.func43, Tryd.ntmps43
    go_wp2
    go_ret
    exact ⟨rfl, rfl⟩
  · have hd : daysI y m = daysN y m := by simp [daysI, hm]
    rw [hd]
    obtain ⟨b1, b2⟩ := inB_true.1 hm
    clear hm hd
    have hc : m = 1 ∨ m = 2 ∨ m = 3 ∨ m = 4 ∨ m = 5 ∨ m = 6 ∨ m = 7 ∨ m = 8 ∨ m = 9 ∨ m = 10 ∨ m = 11 ∨ m = 12 := by omega
    by_cases m2 : m = 2
    · subst m2
      clear hc b1 b2
      rw [days_feb]
      cases hl : leapB y
      · go_enter Tryd.func43, Tryd.ntmps43
        go_wp2_with (go_at_call 47; refine (leapYear_any _ _ h0 h1).mono ?_; rintro e w' ⟨rfl, hw⟩; rw [hw]; clear hw; rw [hl])
        go_ret
        exact ⟨ret_int (by simp [febN, hl]), rfl⟩
      · go_enter Tryd.func43, Tryd.ntmps43
        go_wp2_with (go_at_call 47; refine (leapYear_any _ _ h0 h1).mono ?_; rintro e w' ⟨rfl, hw⟩; rw [hw]; clear hw; rw [hl])
        go_ret
        exact ⟨ret_int (by simp [febN, hl]), rfl⟩
    · rcases hc with rfl | rfl | rfl | rfl | rfl | rfl | rfl | rfl | rfl | rfl | rfl | rfl
      all_goals first | exact absurd rfl m2 | skip
      all_goals
        clear b1 b2 m2
        go_enter Tryd.func43, Tryd.ntmps43
        go_wp2
        go_ret
        exact ⟨ret_int (by simp [daysN]), rfl⟩

end Go.Proofs.YthlmoakigdlboaaDoor
