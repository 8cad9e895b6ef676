/- The model's TreeOk. -/
import Derived.Test.YtjldafkcolmfeaaDoorTf2
import Derived.BigQuiet
namespace Go.Proofs.YtjldafkcolmfeaaDoor
open Go.RowKit

set_option maxRecDepth 100000 in
set_option maxHeartbeats 1000000 in
theorem specTreeOk_any (a : Option Addr) (cap : Nat) (l : List Fl) (n : Nat) (hn : l.length = n) (w : World) (h : FRow w a l) (hl : (n : Int) ≤ 1048576) (hs : FSmall l n) :
    Calls Tryd.prog 6 #[.slice a n cap] w fun e w' => e = .returned (.bool (treeB l)) ∧ Below w.heap.size w w' := by
  have hmix : Tryd.prog.follows .mixedOrders = true := by kernel_rfl
  have HS := hide hs
  have HR := hide h
  have HTN := hide (fun i (hi : i < l.length) => @tree_no l i hi)
  have HTY := hide (@tree_yes l)
  have HFN := hide (fun i k (hk : k < l.length) => @freeT_no l i k hk)
  have HFY := hide (fun i => @freeT_yes l i)
  rw [hn] at HTN HTY HFN HFY
  have HOne : Hid (∀ i, oneT l i = ((nameB (pA l i).data.toList && decide ((l.getD i default).t.size ≤ 300)) && (upT l i && freeT l i))) := fun _ => rfl
  have HUp0 : Hid (upT l 0 = true) := rfl
  have HUp1 : Hid (∀ k' k, k = k' + 1 → upT l k = ltP (pA l k') (pA l k)) := by
    intro k' k e
    subst e
    simp [upT]
  have HN := hide hn
  clear h hs hn
  go_enter Tryd.func6, Tryd.ntmps6
  go_wp2_with fail
  go_loopw [3, 4] (fun i _ wr => ∃ k : Nat, k ≤ n ∧ i = .int .i64 k ∧ (∀ j, j < k → oneT l j = true) ∧ Below w.heap.size w wr) (fun i _ _ => n - (intOf i).toNat)
  case atStart => exact ⟨0, Nat.zero_le _, rfl, fun j hj => absurd hj (by omega), Below.refl _ _⟩
  case round =>
    obtain ⟨k, hk, rfl, hall, hbel⟩ := hrel
    have HALL := hide hall
    have HBel := hide hbel
    clear hall hbel
    by_cases hkn : k < n
    · have hkI : (k : Int) < (n : Int) := by omega
      obtain ⟨g, o, rfl, hg, hc⟩ := (unhide HR).later (unhide HBel) (by have := unhide HN; omega)
      have HKN := hide hkn
      have HNm : Hid (∀ W, Below w.heap.size w W → ∀ j, j < n → FlAt W g (o + j * 2) (l.getD j default)) := by
        intro W hW j hj
        exact ((unhide HR).later hW).at j (by have := unhide HN; omega)
      have HPS := hide (unhide HS k hkn).1
      have HTk := hide (unhide HTN k hkn)
      have HOk := hide (unhide HOne k)
      have HFNk := hide (unhide HFN k)
      have HFYk := hide (unhide HFY k)
      have HUn := hide (fun j (hj : j < n) W => l7Under_any (pA l k) (pA l j) W (by have := (unhide HS k hkn).1; omega) (by have := (unhide HS j hj).1; omega))
      have HNX : Hid (oneT l k = true → ∀ j, j < k + 1 → oneT l j = true) := by
        intro e j hj
        by_cases hjk : j = k
        · rw [hjk]; exact e
        · exact unhide HALL j (by omega)
      have htI := (unhide HS k hkn).2
      have ck := cell_regrown (show wr.cell? ⟨g, o + k * 2, none⟩ = some (.string (pA l k)) from (unhide HNm wr (unhide HBel) k hkn).1)
      have ct := cell_regrown (unhide HNm wr (unhide HBel) k hkn).2
      have cN := fun d os => Calls.regrown_of (w := wr) (d := d) (os := os) (specNameOk_any (pA l k) _ (unhide HPS))
      clear hc hk HALL hkn HPS
      generalize hT : (l.getD k default).t = T at *
      generalize hP : pA l k = P at *
      have HPP := hide hP
      clear hT hP
      cases hnm : nameB P.data.toList
      · have HP := hide (unhide HTk (by rw [unhide HOk, hnm]; rfl))
        rw [hnm] at cN
        go_wp2_with fail
        refine wp_region_quiet_below hmix (by kernel_rfl) ?_
        repeat (first | go_big_quiet_step (exact cN _ _) | quiet_step (exact cN _ _))
        refine wpQuiet_nil ?_
        intro zw hw'
        obtain ⟨⟨dq, osq⟩, hw2⟩ := hw'
        have HZ := below_regrown wr dq osq
        rw [← hw2] at HZ
        have BZ := hide (bnext (unhide HBel) HZ)
        clear hw2 HZ ck ct cN
        go_wp2
        go_ret
        exact ⟨ret_bool (unhide HP).symm, unhide BZ⟩
      · rw [hnm] at cN
        by_cases h300 : (T.size : Int) ≤ 300
        · have d300 : decide ((300 : Int) < (T.size : Int)) = false := by simp; omega
          have HSelf : Hid ((nameB P.data.toList && decide (T.size ≤ 300)) = true) := by
            show _ = true
            rw [hnm]; simp; omega
          have HOk2 : Hid (oneT l k = (upT l k && freeT l k)) := by
            show oneT l k = _
            rw [unhide HOk, unhide HSelf]; rfl
          clear HOk HSelf
          by_cases hk0 : k = 0
          · have HUp : Hid (upT l k = true) := by rw [hk0]; exact unhide HUp0
            have hz : ¬ (0 : Int) < (k : Int) := by omega
            have hzd : decide ((0 : Int) < (k : Int)) = false := by simp; omega
            have hzn : decide (0 < k) = false := by simp; omega
            clear hk0
            go_wp2_with fail
            refine wp_region_quiet_below hmix (by kernel_rfl) ?_
            repeat (first | go_big_quiet_step (exact cN _ _) | quiet_step (exact cN _ _))
            refine wpQuiet_nil ?_
            intro zw hw'
            obtain ⟨⟨dq, osq⟩, hw2⟩ := hw'
            have HZ := below_regrown wr dq osq
            rw [← hw2] at HZ
            have BZ := hide (bnext (unhide HBel) HZ)
            clear hw2 HZ ck ct cN
            go_wp2_with fail
            go_loopw [4] (fun q wr => ∃ m : Nat, m ≤ n ∧ q = .int .i64 m ∧ (∀ j, j < m → undL P.data.toList (pA l j).data.toList = false) ∧ Below w.heap.size w wr) (fun q _ => n - (intOf q).toNat)
            case atStart => exact ⟨0, Nat.zero_le _, rfl, fun j hj => absurd hj (by omega), unhide BZ⟩
            case round =>
              obtain ⟨m, hm, rfl, hfr, hbel⟩ := hrel
              have HFR := hide hfr
              have HB2 := hide hbel
              clear hfr hbel
              by_cases hmn : m < n
              · have hmI : (m : Int) < (n : Int) := by omega
                have d0 := (unhide HNm _ (unhide HB2) k (unhide HKN)).1
                rw [show (l.getD k default).p = P from unhide HPP] at d0
                have d1 := (unhide HNm _ (unhide HB2) m hmn).1
                rw [show (l.getD m default).p = pA l m from rfl] at d1
                have HU1 := hide (unhide HUn m hmn)
                have HFm := hide (unhide HFNk m hmn)
                have HMN := hide hmn
                have HFX : Hid (undL P.data.toList (pA l m).data.toList = false → ∀ j, j < m + 1 → undL P.data.toList (pA l j).data.toList = false) := by
                  intro e j hj
                  by_cases hjm : j = m
                  · rw [hjm]; exact e
                  · exact unhide HFR j (by omega)
                clear hm HFR
                cases hu : undL P.data.toList (pA l m).data.toList
                · have HX := hide (unhide HFX hu)
                  rw [hu] at HU1
                  go_wp2_with fail
                  go_quiet ((go_at_call 12; exact Calls.quiet_of_same (unhide HU1 _)))
                  go_wp2
                  go_roundw
                  case rel => exact ⟨m + 1, by have := unhide HMN; omega, by go_num, unhide HX, below_drewN (unhide HB2) _⟩
                  case measure => have := unhide HMN; simp [intOf]; omega
                · have HP := hide (unhide HTk (by rw [unhide HOk2, unhide HFm hu]; simp))
                  rw [hu] at HU1
                  go_wp2_with fail
                  go_quiet ((go_at_call 12; exact Calls.quiet_of_same (unhide HU1 _)))
                  go_wp2
                  go_ret
                  exact ⟨ret_bool (unhide HP).symm, below_drewN (unhide HB2) _⟩
              · obtain rfl : m = n := by omega
                have HX := hide (unhide HNX (by rw [unhide HOk2, unhide HUp, unhide HFYk (unhide HFR)]; rfl))
                go_wp2
                go_roundw
                case rel => exact ⟨k + 1, by have := unhide HKN; omega, by go_num, unhide HX, unhide HB2⟩
                case measure => have := unhide HKN; simp [intOf]; omega
          · obtain ⟨k', hk'⟩ : ∃ k', k = k' + 1 := ⟨k - 1, by omega⟩
            have hz : (0 : Int) < (k : Int) := by omega
            have hzn : decide (0 < k) = true := by simp; omega
            have hkm : (k : Int) - 1 = (k' : Int) := by omega
            have hkmI : (k' : Int) < (n : Int) := by omega
            have HUk := hide ((unhide HUp1) k' k hk')
            rw [unhide HPP] at HUk
            have cq := cell_regrown (show wr.cell? ⟨g, o + k' * 2, none⟩ = some (.string (pA l k')) from (unhide HNm wr (unhide HBel) k' (by have := unhide HKN; omega)).1)
            clear hk0 hk'
            generalize pA l k' = Q at *
            cases hlt : Op.bytesLess Q.toList P.toList
            · have HP := hide (unhide HTk (by rw [unhide HOk2, unhide HUk]; unfold ltP; rw [hlt]; rfl))
              go_wp2_with fail
              refine wp_region_quiet_below hmix (by kernel_rfl) ?_
              repeat (first | go_big_quiet_step (exact cN _ _) | quiet_step (exact cN _ _))
              refine wpQuiet_nil ?_
              intro zw hw'
              obtain ⟨⟨dq, osq⟩, hw2⟩ := hw'
              have HZ := below_regrown wr dq osq
              rw [← hw2] at HZ
              have BZ := hide (bnext (unhide HBel) HZ)
              clear hw2 HZ ck ct cN cq
              go_wp2
              go_ret
              exact ⟨ret_bool (unhide HP).symm, unhide BZ⟩
            · have HUp : Hid (upT l k = true) := by show upT l k = true; rw [unhide HUk]; exact hlt
              go_wp2_with fail
              refine wp_region_quiet_below hmix (by kernel_rfl) ?_
              repeat (first | go_big_quiet_step (exact cN _ _) | quiet_step (exact cN _ _))
              refine wpQuiet_nil ?_
              intro zw hw'
              obtain ⟨⟨dq, osq⟩, hw2⟩ := hw'
              have HZ := below_regrown wr dq osq
              rw [← hw2] at HZ
              have BZ := hide (bnext (unhide HBel) HZ)
              clear hw2 HZ ck ct cN cq
              clear hkm hkmI hlt
              go_wp2_with fail
              go_loopw [4] (fun q wr => ∃ m : Nat, m ≤ n ∧ q = .int .i64 m ∧ (∀ j, j < m → undL P.data.toList (pA l j).data.toList = false) ∧ Below w.heap.size w wr) (fun q _ => n - (intOf q).toNat)
              case atStart => exact ⟨0, Nat.zero_le _, rfl, fun j hj => absurd hj (by omega), unhide BZ⟩
              case round =>
                obtain ⟨m, hm, rfl, hfr, hbel⟩ := hrel
                have HFR := hide hfr
                have HB2 := hide hbel
                clear hfr hbel
                by_cases hmn : m < n
                · have hmI : (m : Int) < (n : Int) := by omega
                  have d0 := (unhide HNm _ (unhide HB2) k (unhide HKN)).1
                  rw [show (l.getD k default).p = P from unhide HPP] at d0
                  have d1 := (unhide HNm _ (unhide HB2) m hmn).1
                  rw [show (l.getD m default).p = pA l m from rfl] at d1
                  have HU1 := hide (unhide HUn m hmn)
                  have HFm := hide (unhide HFNk m hmn)
                  have HMN := hide hmn
                  have HFX : Hid (undL P.data.toList (pA l m).data.toList = false → ∀ j, j < m + 1 → undL P.data.toList (pA l j).data.toList = false) := by
                    intro e j hj
                    by_cases hjm : j = m
                    · rw [hjm]; exact e
                    · exact unhide HFR j (by omega)
                  clear hm HFR
                  cases hu : undL P.data.toList (pA l m).data.toList
                  · have HX := hide (unhide HFX hu)
                    rw [hu] at HU1
                    go_wp2_with fail
                    go_quiet ((go_at_call 12; exact Calls.quiet_of_same (unhide HU1 _)))
                    go_wp2
                    go_roundw
                    case rel => exact ⟨m + 1, by have := unhide HMN; omega, by go_num, unhide HX, below_drewN (unhide HB2) _⟩
                    case measure => have := unhide HMN; simp [intOf]; omega
                  · have HP := hide (unhide HTk (by rw [unhide HOk2, unhide HFm hu]; simp))
                    rw [hu] at HU1
                    go_wp2_with fail
                    go_quiet ((go_at_call 12; exact Calls.quiet_of_same (unhide HU1 _)))
                    go_wp2
                    go_ret
                    exact ⟨ret_bool (unhide HP).symm, below_drewN (unhide HB2) _⟩
                · obtain rfl : m = n := by omega
                  have HX := hide (unhide HNX (by rw [unhide HOk2, unhide HUp, unhide HFYk (unhide HFR)]; rfl))
                  go_wp2
                  go_roundw
                  case rel => exact ⟨k + 1, by have := unhide HKN; omega, by go_num, unhide HX, unhide HB2⟩
                  case measure => have := unhide HKN; simp [intOf]; omega
        · have d300 : decide ((300 : Int) < (T.size : Int)) = true := by simp; omega
          have HP := hide (unhide HTk (by rw [unhide HOk, hnm]; simp; omega))
          go_wp2_with fail
          refine wp_region_quiet_below hmix (by kernel_rfl) ?_
          repeat (first | go_big_quiet_step (exact cN _ _) | quiet_step (exact cN _ _))
          refine wpQuiet_nil ?_
          intro zw hw'
          obtain ⟨⟨dq, osq⟩, hw2⟩ := hw'
          have HZ := below_regrown wr dq osq
          rw [← hw2] at HZ
          have BZ := hide (bnext (unhide HBel) HZ)
          clear hw2 HZ ck ct cN
          go_wp2
          go_ret
          exact ⟨ret_bool (unhide HP).symm, unhide BZ⟩
    · obtain rfl : k = n := by omega
      have HP := hide (unhide HTY (unhide HALL))
      go_wp2
      go_ret
      exact ⟨ret_bool (by rw [unhide HP]; simp; omega), unhide HBel⟩

end Go.Proofs.YtjldafkcolmfeaaDoor
