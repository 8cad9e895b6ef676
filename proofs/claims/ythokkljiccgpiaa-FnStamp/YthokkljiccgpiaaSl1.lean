/- The walk of the law of days of a month. -/
import Derived.Test.YthokkljiccgpiaaDs2
namespace Go.Proofs.Ythokkljiccgpiaa
open Go.RowKit

/-- How many of the first days are. -/
def cntD (D k : Nat) : Nat := min (k - 1) D
theorem cntD_in {D k : Nat} (h1 : 1 ≤ k) (h2 : k ≤ D) : cntD D (k + 1) = cntD D k + 1 := by unfold cntD; omega
theorem cntD_out {D k : Nat} (h : k < 1 ∨ D < k) : cntD D (k + 1) = cntD D k := by unfold cntD; omega
theorem cntD_le (D k : Nat) : cntD D k ≤ D := by unfold cntD; omega
theorem st_day {y mo d h mi s : Int} (k : stOk y mo d h mi s = true) (x : Int) : stOk y mo x h mi s = inB x 1 (daysN y mo) := by
  simp only [stOk, Bool.and_eq_true] at k
  obtain ⟨ey, em, ed, eh, ei, es, e2⟩ := k
  simp [stOk, ey, em, eh, ei, es, e2]
theorem days_bd (y mo : Int) : 28 ≤ daysN y mo ∧ daysN y mo ≤ 31 := by
  unfold daysN; split <;> (try split) <;> (try split) <;> omega
theorem six_call2 {w w1 : World} {y mo d h mi s : Int} {t : TypeId} (hb : Below (w.heap.size + 1) (w.alloc (.cells #[.int .i64 y, .int .i64 mo, .int .i64 d, .int .i64 h, .int .i64 mi, .int .i64 s] t)) w1) :
    Six w1 w.heap.size y mo d h mi s ∧ Below w.heap.size w w1 :=
  ⟨(six_alloc w y mo d h mi s t).later hb (Nat.lt_succ_self _), ((Below.refl _ _).alloc (Nat.le_refl _) _).trans (hb.mono (Nat.le_succ _))⟩

set_option maxHeartbeats 4000000 in
theorem fnStampDays_walk (a : Option Addr) (len cap : Nat) (zs : List Int) (w : World) (w0 : IsRow .u8 w a len cap zs) :
    Calls Try.prog 8 #[.slice a len cap] w fun e w' => e = .returned (.bool true) ∧ Below w.heap.size w w' := by
  obtain ⟨⟨z, hsrc⟩, hc, hm⟩ := src_of w0
  have hm' := hide hm
  unfold maxLen at hm
  clear w0
  by_cases hl : (len : Int) ≤ 1048576
  · go_enter Try.func8, Try.ntmps8
    go_wp2_with fail
    refine (drawStampOk_any a len cap z _ hsrc hc (unhide hm')).mono ?_
    rintro e x1 ⟨y, mo, d, h, mi, s, rfl, ds, hb1⟩
    clear hsrc ds
    go_wp2_with fail
    refine (implStampOk_any y mo d h mi s _).mono ?_
    rintro e x2 ⟨rfl, hb2⟩
    obtain ⟨X2, b2⟩ := six_call hb2
    have B2 := hide (hb1.trans (b2.mono hb1.size))
    have H2 := hide X2
    have HB := hide (show w.heap.size ≤ x1.heap.size from hb1.size)
    clear hb1 hb2 b2
    obtain ⟨⟨c0, c1, c2, c3, c4, c5⟩, _, _⟩ := X2
    go_wp2_with fail
    refine (specStampOk_any y mo d h mi s _).mono ?_
    rintro e x3 ⟨rfl, hb3⟩
    have H3 := hide ((unhide H2).later hb3 (unhide H2).2.2)
    have B3 := hide ((unhide B2).trans (hb3.mono (unhide B2).size))
    clear hb3 H2 B2 c0 c1 c2 c3 c4 c5
    cases hk : stOk y mo d h mi s
    · obtain ⟨⟨c0, c1, c2, c3, c4, c5⟩, _, _⟩ := unhide H3
      go_wp2_with fail
      refine (specStampOk_any y mo d h mi s _).mono ?_
      rintro e x4 ⟨rfl, hb4⟩
      rw [hk]
      go_wp2
      go_ret
      exact ⟨rfl, (unhide B3).trans (hb4.mono (unhide B3).size)⟩
    · obtain ⟨⟨y0, y1⟩, ⟨m0, m1⟩, _⟩ := st_bd hk
      have HD := hide (st_day hk)
      obtain ⟨D0, D1⟩ := days_bd y mo
      obtain ⟨D, hD⟩ := Int.eq_ofNat_of_zero_le (show 0 ≤ daysN y mo by omega)
      rw [hD] at HD D0 D1
      have HDN := hide hD
      have D0' : 28 ≤ D := by omega
      have D1' : D ≤ 31 := by omega
      have E0 := hide D0'
      have E1 := hide D1'
      have hD1 : (D : Int) ≤ 31 := by omega
      clear hD hk D0' D1' D0 D1
      go_wp2_with fail
      go_loopw [5, 6, 7] (fun c i _ wr => ∃ k : Nat, k ≤ 41 ∧ i = .int .i64 k ∧ c = .int .i64 (cntD D k : Nat) ∧ Six wr x1.heap.size y mo d h mi s ∧ Below w.heap.size w wr) (fun _ i _ _ => 41 - (intOf i).toNat)
      case atStart => exact ⟨0, by omega, rfl, by simp [cntD], unhide H3, unhide B3⟩
      case round =>
        obtain ⟨k, hk, rfl, rfl, hX, hbel⟩ := hrel
        have HX := hide hX
        have HBel := hide hbel
        have hcl : (cntD D k : Int) ≤ 31 := by have := cntD_le D k; have := unhide E1; omega
        by_cases hk4 : k < 41
        · have hkI : (k : Int) ≤ 40 := by omega
          have hk4' := hide hk4
          have hk' := hide hk
          obtain ⟨⟨c0, c1, c2, c3, c4, c5⟩, ⟨f0, f1, f2, f3, f4, f5⟩, hlt⟩ := hX
          clear hbel hk hk4
          cases hb : inB (k : Int) 1 (D : Int)
          · have hcs : Hid (cntD D (k + 1) = cntD D k) := cntD_out (by have := inB_false.1 hb; omega)
            generalize cntD D k = C at *
            go_wp2_with fail
            refine (implStampOk_any y mo k h mi s _).mono ?_
            rintro e x5 ⟨rfl, hb5⟩
            rw [unhide HD, hb]
            have hb5' := (six_call hb5).2
            clear hb5
            go_wp2
            go_roundw
            case rel => exact ⟨k + 1, by have := unhide hk4'; omega, by go_num, by rw [unhide hcs], (unhide HX).later hb5' (unhide HX).2.2, bnext (unhide HBel) hb5'⟩
            case measure => have := unhide hk4'; simp [intOf]; omega
          · have hcs : Hid (cntD D (k + 1) = cntD D k + 1) := cntD_in (by have := inB_true.1 hb; omega) (by have := inB_true.1 hb; omega)
            generalize cntD D k = C at *
            go_wp2_with fail
            refine (implStampOk_any y mo k h mi s _).mono ?_
            rintro e x5 ⟨rfl, hb5⟩
            rw [unhide HD, hb]
            have hb5' := (six_call hb5).2
            clear hb5
            go_wp2
            go_roundw
            case rel => exact ⟨k + 1, by have := unhide hk4'; omega, by go_num, by rw [unhide hcs]; go_num, (unhide HX).later hb5' (unhide HX).2.2, bnext (unhide HBel) hb5'⟩
            case measure => have := unhide hk4'; simp [intOf]; omega
        · obtain rfl : k = 41 := by omega
          have hC : cntD D 41 = D := by unfold cntD; have := unhide E1; omega
          rw [hC]
          clear hC hcl hk hk4
          obtain ⟨⟨c0, c1, c2, c3, c4, c5⟩, _, _⟩ := hX
          clear hbel HX
          by_cases m2 : mo = 2
          · subst m2
            have hf := (days_feb y).symm.trans (unhide HDN)
            by_cases h4 : y % 4 = 0
            · by_cases h100 : y % 100 = 0
              · by_cases h400 : y % 400 = 0
                · obtain rfl : D = 29 := by simp [febN, leapB, h4, h400] at hf; omega
                  clear hf
                  go_wp2
                  go_ret
                  exact ⟨rfl, unhide HBel⟩
                · obtain rfl : D = 28 := by simp [febN, leapB, h4, h100, h400] at hf; omega
                  clear hf
                  go_wp2
                  go_ret
                  exact ⟨rfl, unhide HBel⟩
              · obtain rfl : D = 29 := by simp [febN, leapB, h4, h100] at hf; omega
                clear hf
                go_wp2
                go_ret
                exact ⟨rfl, unhide HBel⟩
            · obtain rfl : D = 28 := by simp [febN, leapB, h4] at hf; omega
              have h400 : ¬ y % 400 = 0 := by omega
              clear hf
              go_wp2
              go_ret
              exact ⟨rfl, unhide HBel⟩
          · by_cases m30 : mo = 4 ∨ mo = 6 ∨ mo = 9 ∨ mo = 11
            · obtain rfl : D = 30 := by have := (days_30 y mo m30).symm.trans (unhide HDN); omega
              cases hlp : leapB y
              all_goals
                by_cases h4 : y % 4 = 0
                all_goals
                  by_cases h100 : y % 100 = 0
                  all_goals
                    by_cases h400 : y % 400 = 0
                    all_goals first
                      | (exfalso; simp [leapB, h4, h100, h400] at hlp; done)
                      | (exfalso; omega)
                      | (rcases m30 with rfl | rfl | rfl | rfl
                         all_goals
                           go_wp2
                           go_ret
                           exact ⟨rfl, unhide HBel⟩)
            · have m4 : ¬ mo = 4 := fun h => m30 (by simp [h])
              have m6 : ¬ mo = 6 := fun h => m30 (by simp [h])
              have m9 : ¬ mo = 9 := fun h => m30 (by simp [h])
              have m11 : ¬ mo = 11 := fun h => m30 (by simp [h])
              obtain rfl : D = 31 := by have := (days_31 y mo m4 m6 m9 m11 m2).symm.trans (unhide HDN); omega
              clear m30
              by_cases h4 : y % 4 = 0
              · by_cases h100 : y % 100 = 0
                · by_cases h400 : y % 400 = 0
                  · go_wp2
                    go_ret
                    exact ⟨rfl, unhide HBel⟩
                  · go_wp2
                    go_ret
                    exact ⟨rfl, unhide HBel⟩
                · go_wp2
                  go_ret
                  exact ⟨rfl, unhide HBel⟩
              · have h400 : ¬ y % 400 = 0 := by omega
                go_wp2
                go_ret
                exact ⟨rfl, unhide HBel⟩
  · go_enter Try.func8, Try.ntmps8
    go_wp2
    go_ret
    exact ⟨rfl, Below.refl _ _⟩

end Go.Proofs.Ythokkljiccgpiaa
