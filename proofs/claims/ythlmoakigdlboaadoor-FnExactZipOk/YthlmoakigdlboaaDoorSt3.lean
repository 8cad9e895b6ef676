/- Contract of the program's StampOk. -/
import Derived.Test.YthlmoakigdlboaaDoorSt2
namespace Go.Proofs.YthlmoakigdlboaaDoor
open Go.RowKit

theorem daysI_bd (y m : Int) : 0 ≤ daysI y m ∧ daysI y m ≤ 31 := by
  unfold daysI daysN; split <;> (try split) <;> (try split) <;> (try split) <;> omega
theorem st_no {y mo d h mi s : Int} (k : y < 1980 ∨ 2107 < y ∨ d < 1 ∨ daysI y mo < d ∨ h < 0 ∨ 23 < h ∨ mi < 0 ∨ 59 < mi ∨ s < 0 ∨ 58 < s) : stOk y mo d h mi s = false := by
  cases e : stOk y mo d h mi s
  · rfl
  · simp only [stOk, Bool.and_eq_true, inB_true, decide_eq_true_eq] at e
    obtain ⟨ey, em, ed, eh, ei, es, _⟩ := e
    have : daysI y mo = daysN y mo := by simp [daysI, inB_true.2 em]
    omega
theorem st_yes {y mo d h mi s : Int} (y0 : 1980 ≤ y) (y1 : y ≤ 2107) (d0 : 1 ≤ d) (h0 : 0 ≤ h) (h1 : h ≤ 23) (m0 : 0 ≤ mi) (m1 : mi ≤ 59) (s0 : 0 ≤ s) (s1 : s ≤ 58) (_ : True) (d1 : d ≤ daysI y mo) : stOk y mo d h mi s = (s % 2 == 0) := by
  have em : inB mo 1 12 = true := by
    cases e : inB mo 1 12
    · have : daysI y mo = 0 := by simp [daysI, e]
      omega
    · rfl
  have ed : daysI y mo = daysN y mo := by simp [daysI, em]
  simp only [stOk, inB_true.2 ⟨y0, y1⟩, em, inB_true.2 ⟨d0, ed ▸ d1⟩, inB_true.2 ⟨h0, h1⟩, inB_true.2 ⟨m0, m1⟩, inB_true.2 ⟨s0, s1⟩, Bool.true_and]; rfl

set_option maxHeartbeats 4000000 in
theorem implStampOk_any (y mo d h mi s : Int) (w : World) :
    Calls Tryd.prog 38 #[.agg #[.int .i64 y, .int .i64 mo, .int .i64 d, .int .i64 h, .int .i64 mi, .int .i64 s]] w fun e w' => e = .returned (.bool (stOk y mo d h mi s)) ∧ Below w.heap.size w w' := by
  obtain ⟨D0, D1⟩ := daysI_bd y mo
  have HN := hide (@st_no y mo d h mi s)
  generalize hD : daysI y mo = D at *
  have HQ := hide hD
  clear hD
  rcases Int.lt_or_le y 1980 with x0 | x0
  · have HP : Hid (stOk y mo d h mi s = false) := hide (unhide HN (by omega))
    have z0 : decide (1980 ≤ y) = false := by simp; omega
    go_enter Tryd.func38, Tryd.ntmps38
    go_wp2
    go_quiet ((go_at_call 43; exact Calls.quiet_of_same ((monthDays_any _ _ _ (by omega) (by omega)).mono (by rintro e w9 ⟨rfl, hw9⟩; exact ⟨ret_int (unhide HQ), hw9⟩))))
    go_wp2
    go_ret
    exact ⟨ret_bool (unhide HP).symm, below_drewN ((Below.refl _ _).alloc (Nat.le_refl _) _) _⟩
  · have z0 : decide (1980 ≤ y) = true := by simp; omega
    rcases Int.lt_or_le 2107 y with x1 | x1
    · have HP : Hid (stOk y mo d h mi s = false) := hide (unhide HN (by omega))
      have z1 : decide (y ≤ 2107) = false := by simp; omega
      go_enter Tryd.func38, Tryd.ntmps38
      go_wp2
      go_quiet ((go_at_call 43; exact Calls.quiet_of_same ((monthDays_any _ _ _ (by omega) (by omega)).mono (by rintro e w9 ⟨rfl, hw9⟩; exact ⟨ret_int (unhide HQ), hw9⟩))))
      go_wp2
      go_ret
      exact ⟨ret_bool (unhide HP).symm, below_drewN ((Below.refl _ _).alloc (Nat.le_refl _) _) _⟩
    · have z1 : decide (y ≤ 2107) = true := by simp; omega
      rcases Int.lt_or_le d 1 with x2 | x2
      · have HP : Hid (stOk y mo d h mi s = false) := hide (unhide HN (by omega))
        have z2 : decide (1 ≤ d) = false := by simp; omega
        go_enter Tryd.func38, Tryd.ntmps38
        go_wp2
        go_quiet ((go_at_call 43; exact Calls.quiet_of_same ((monthDays_any _ _ _ (by omega) (by omega)).mono (by rintro e w9 ⟨rfl, hw9⟩; exact ⟨ret_int (unhide HQ), hw9⟩))))
        go_wp2
        go_ret
        exact ⟨ret_bool (unhide HP).symm, below_drewN ((Below.refl _ _).alloc (Nat.le_refl _) _) _⟩
      · have z2 : decide (1 ≤ d) = true := by simp; omega
        rcases Int.lt_or_le D d with x3 | x3
        · have HP : Hid (stOk y mo d h mi s = false) := hide (unhide HN (by omega))
          have z3 : decide (d ≤ D) = false := by simp; omega
          go_enter Tryd.func38, Tryd.ntmps38
          go_wp2
          go_quiet ((go_at_call 43; exact Calls.quiet_of_same ((monthDays_any _ _ _ (by omega) (by omega)).mono (by rintro e w9 ⟨rfl, hw9⟩; exact ⟨ret_int (unhide HQ), hw9⟩))))
          go_wp2
          go_ret
          exact ⟨ret_bool (unhide HP).symm, below_drewN ((Below.refl _ _).alloc (Nat.le_refl _) _) _⟩
        · have z3 : decide (d ≤ D) = true := by simp; omega
          go_enter Tryd.func38, Tryd.ntmps38
          go_wp2
          go_quiet ((go_at_call 43; exact Calls.quiet_of_same ((monthDays_any _ _ _ (by omega) (by omega)).mono (by rintro e w9 ⟨rfl, hw9⟩; exact ⟨ret_int (unhide HQ), hw9⟩))))
          rcases Int.lt_or_le h 0 with u0 | u0
          · have HP : Hid (stOk y mo d h mi s = false) := hide (unhide HN (by omega))
            go_wp2
            go_ret
            exact ⟨ret_bool (unhide HP).symm, below_drewN ((Below.refl _ _).alloc (Nat.le_refl _) _) _⟩
          · skip
            rcases Int.lt_or_le 23 h with u1 | u1
            · have HP : Hid (stOk y mo d h mi s = false) := hide (unhide HN (by omega))
              go_wp2
              go_ret
              exact ⟨ret_bool (unhide HP).symm, below_drewN ((Below.refl _ _).alloc (Nat.le_refl _) _) _⟩
            · skip
              rcases Int.lt_or_le mi 0 with u2 | u2
              · have HP : Hid (stOk y mo d h mi s = false) := hide (unhide HN (by omega))
                go_wp2
                go_ret
                exact ⟨ret_bool (unhide HP).symm, below_drewN ((Below.refl _ _).alloc (Nat.le_refl _) _) _⟩
              · skip
                rcases Int.lt_or_le 59 mi with u3 | u3
                · have HP : Hid (stOk y mo d h mi s = false) := hide (unhide HN (by omega))
                  go_wp2
                  go_ret
                  exact ⟨ret_bool (unhide HP).symm, below_drewN ((Below.refl _ _).alloc (Nat.le_refl _) _) _⟩
                · skip
                  rcases Int.lt_or_le s 0 with u4 | u4
                  · have HP : Hid (stOk y mo d h mi s = false) := hide (unhide HN (by omega))
                    go_wp2
                    go_ret
                    exact ⟨ret_bool (unhide HP).symm, below_drewN ((Below.refl _ _).alloc (Nat.le_refl _) _) _⟩
                  · skip
                    rcases Int.lt_or_le 58 s with u5 | u5
                    · have HP : Hid (stOk y mo d h mi s = false) := hide (unhide HN (by omega))
                      go_wp2
                      go_ret
                      exact ⟨ret_bool (unhide HP).symm, below_drewN ((Below.refl _ _).alloc (Nat.le_refl _) _) _⟩
                    · skip
                      have HP : Hid (stOk y mo d h mi s = (s % 2 == 0)) := st_yes (by omega) (by omega) (by omega) (by omega) (by omega) (by omega) (by omega) (by omega) (by omega) trivial (by rw [unhide HQ]; omega)
                      go_wp2
                      go_ret
                      exact ⟨ret_bool (unhide HP).symm, below_drewN ((Below.refl _ _).alloc (Nat.le_refl _) _) _⟩

end Go.Proofs.YthlmoakigdlboaaDoor
