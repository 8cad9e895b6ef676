/- Contract of the model's StampOk. -/
import Derived.Test.YthlmoakigdlboaaDoorSt1
namespace Go.Proofs.YthlmoakigdlboaaDoor
open Go.RowKit

/-- A day and a time are. -/
def stOk (y mo d h mi s : Int) : Bool := inB y 1980 2107 && (inB mo 1 12 && (inB d 1 (daysN y mo) && (inB h 0 23 && (inB mi 0 59 && (inB s 0 58 && decide (s % 2 = 0))))))

set_option maxHeartbeats 4000000 in
theorem specStampOk_any (y mo d h mi s : Int) (w : World) :
    Calls Tryd.prog 18 #[.agg #[.int .i64 y, .int .i64 mo, .int .i64 d, .int .i64 h, .int .i64 mi, .int .i64 s]] w fun e w' => e = .returned (.bool (stOk y mo d h mi s)) ∧ Below w.heap.size w w' := by
  cases hy : inB y 1980 2107
  · have HP : Hid (stOk y mo d h mi s = false) := by simp [Hid, stOk, hy]
    go_enter Tryd.func18, Tryd.ntmps18
    go_wp2
    go_quiet (first | (go_at_call 24; exact Calls.quiet_of_same (l1In_any _ _ _ _)) | (go_at_call 25; exact Calls.quiet_of_same (l6Days_any _ _ _ (by omega) (by omega))))
    go_wp2_with (go_at_call 24; refine (l1In_any _ _ _ _).mono ?_; rintro e w9 ⟨rfl, hw9⟩; rw [hw9]; clear hw9)
    go_ret
    exact ⟨ret_bool (unhide HP).symm, below_drewN ((Below.refl _ _).alloc (Nat.le_refl _) _) _⟩
  · skip
    obtain ⟨y0, y1⟩ := inB_true.1 hy
    cases hm : inB mo 1 12
    · have HP : Hid (stOk y mo d h mi s = false) := by simp [Hid, stOk, hy, hm]
      go_enter Tryd.func18, Tryd.ntmps18
      go_wp2
      go_quiet (first | (go_at_call 24; exact Calls.quiet_of_same (l1In_any _ _ _ _)) | (go_at_call 25; exact Calls.quiet_of_same (l6Days_any _ _ _ (by omega) (by omega))))
      go_wp2_with (go_at_call 24; refine (l1In_any _ _ _ _).mono ?_; rintro e w9 ⟨rfl, hw9⟩; rw [hw9]; clear hw9)
      go_ret
      exact ⟨ret_bool (unhide HP).symm, below_drewN ((Below.refl _ _).alloc (Nat.le_refl _) _) _⟩
    · skip
      cases hd : inB d 1 (daysN y mo)
      · have HP : Hid (stOk y mo d h mi s = false) := by simp [Hid, stOk, hy, hm, hd]
        go_enter Tryd.func18, Tryd.ntmps18
        go_wp2
        go_quiet (first | (go_at_call 24; exact Calls.quiet_of_same (l1In_any _ _ _ _)) | (go_at_call 25; exact Calls.quiet_of_same (l6Days_any _ _ _ (by omega) (by omega))))
        go_wp2_with (go_at_call 24; refine (l1In_any _ _ _ _).mono ?_; rintro e w9 ⟨rfl, hw9⟩; rw [hw9]; clear hw9)
        go_ret
        exact ⟨ret_bool (unhide HP).symm, below_drewN ((Below.refl _ _).alloc (Nat.le_refl _) _) _⟩
      · skip
        go_enter Tryd.func18, Tryd.ntmps18
        go_wp2
        go_quiet (first | (go_at_call 24; exact Calls.quiet_of_same (l1In_any _ _ _ _)) | (go_at_call 25; exact Calls.quiet_of_same (l6Days_any _ _ _ (by omega) (by omega))))
        cases hh : inB h 0 23
        · have HP : Hid (stOk y mo d h mi s = false) := by simp [Hid, stOk, hy, hm, hd, hh]
          go_wp2_with (go_at_call 24; refine (l1In_any _ _ _ _).mono ?_; rintro e w9 ⟨rfl, hw9⟩; rw [hw9]; clear hw9)
          go_ret
          exact ⟨ret_bool (unhide HP).symm, below_drewN ((Below.refl _ _).alloc (Nat.le_refl _) _) _⟩
        · skip
          cases hi : inB mi 0 59
          · have HP : Hid (stOk y mo d h mi s = false) := by simp [Hid, stOk, hy, hm, hd, hh, hi]
            go_wp2_with (go_at_call 24; refine (l1In_any _ _ _ _).mono ?_; rintro e w9 ⟨rfl, hw9⟩; rw [hw9]; clear hw9)
            go_ret
            exact ⟨ret_bool (unhide HP).symm, below_drewN ((Below.refl _ _).alloc (Nat.le_refl _) _) _⟩
          · skip
            cases hs : inB s 0 58
            · have HP : Hid (stOk y mo d h mi s = false) := by simp [Hid, stOk, hy, hm, hd, hh, hi, hs]
              go_wp2_with (go_at_call 24; refine (l1In_any _ _ _ _).mono ?_; rintro e w9 ⟨rfl, hw9⟩; rw [hw9]; clear hw9)
              go_ret
              exact ⟨ret_bool (unhide HP).symm, below_drewN ((Below.refl _ _).alloc (Nat.le_refl _) _) _⟩
            · skip
              obtain ⟨s0, s1⟩ := inB_true.1 hs
              have HP : Hid (stOk y mo d h mi s = (s % 2 == 0)) := by simp [Hid, stOk, hy, hm, hd, hh, hi, hs]; rfl
              go_wp2_with (go_at_call 24; refine (l1In_any _ _ _ _).mono ?_; rintro e w9 ⟨rfl, hw9⟩; rw [hw9]; clear hw9)
              go_ret
              exact ⟨ret_bool (unhide HP).symm, below_drewN ((Below.refl _ _).alloc (Nat.le_refl _) _) _⟩

end Go.Proofs.YthlmoakigdlboaaDoor
