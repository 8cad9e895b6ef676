/- The walk of the law of the last year. -/
import Derived.Test.YthokkljiccgpiaaSl1
import Derived.Deep.RegionHeld3
import Derived.Deep.RegionLawGrows
namespace Go.Proofs.Ythokkljiccgpiaa
open Go.RowKit

/-- Two stamps, each in a block of the call's own. -/
def Twin (w : World) (b c : Nat) (y mo d h mi s y' mo' d' h' mi' s' : Int) (W : World) : Prop := Six W b y mo d h mi s ∧ Six W c y' mo' d' h' mi' s' ∧ Below w.heap.size w W
theorem Twin.later {w W W' : World} {b c : Nat} {y mo d h mi s y' mo' d' h' mi' s' : Int} (k : Twin w b c y mo d h mi s y' mo' d' h' mi' s' W) (hb : Below W.heap.size W W') : Twin w b c y mo d h mi s y' mo' d' h' mi' s' W' :=
  ⟨k.1.later hb k.1.2.2, k.2.1.later hb k.2.1.2.2, bnext k.2.2 hb⟩
theorem Twin.drew {w W : World} {b c : Nat} {y mo d h mi s y' mo' d' h' mi' s' : Int} (k : Twin w b c y mo d h mi s y' mo' d' h' mi' s' W) : Twin w b c y mo d h mi s y' mo' d' h' mi' s' W.drew :=
  ⟨k.1, k.2.1, k.2.2.drew⟩
theorem Twin.bel {w W : World} {b c : Nat} {y mo d h mi s y' mo' d' h' mi' s' : Int} (k : Twin w b c y mo d h mi s y' mo' d' h' mi' s' W) : Below w.heap.size w W := k.2.2
theorem Twin.cells {w W : World} {b c : Nat} {y mo d h mi s y' mo' d' h' mi' s' : Int} (k : Twin w b c y mo d h mi s y' mo' d' h' mi' s' W) :
    (W.cell? ⟨b, 0, none⟩ = some (.int .i64 y) ∧ W.cell? ⟨b, 1, none⟩ = some (.int .i64 mo) ∧ W.cell? ⟨b, 2, none⟩ = some (.int .i64 d) ∧ W.cell? ⟨b, 3, none⟩ = some (.int .i64 h) ∧ W.cell? ⟨b, 4, none⟩ = some (.int .i64 mi) ∧ W.cell? ⟨b, 5, none⟩ = some (.int .i64 s)) ∧
    (W.cell? ⟨c, 0, none⟩ = some (.int .i64 y') ∧ W.cell? ⟨c, 1, none⟩ = some (.int .i64 mo') ∧ W.cell? ⟨c, 2, none⟩ = some (.int .i64 d') ∧ W.cell? ⟨c, 3, none⟩ = some (.int .i64 h') ∧ W.cell? ⟨c, 4, none⟩ = some (.int .i64 mi') ∧ W.cell? ⟨c, 5, none⟩ = some (.int .i64 s')) := ⟨k.1.1, k.2.1.1⟩

theorem wrap_st (n : Int) (h0 : -9223372036854775808 ≤ n) (h1 : n ≤ 9223372036854775807) : IntKind.i64.wrap n = n := by
  simp [IntKind.wrap, IntKind.bits, IntKind.signed]; omega
theorem st_next {y mo d h mi s : Int} (k : stOk y mo d h mi s = true) (hf : ¬ (mo = 2 ∧ d = 29)) : stOk (y + 1) mo d h mi s = decide (y < 2107) := by
  have K := st_bd k
  simp only [stOk, Bool.and_eq_true, decide_eq_true_eq] at k
  obtain ⟨ey, em, ed, eh, ei, es, e2⟩ := k
  by_cases hy : y < 2107
  · have e1 : inB (y + 1) 1980 2107 = true := inB_true.2 (by omega)
    have e3 : inB d 1 (daysN (y + 1) mo) = true := by
      refine inB_true.2 ⟨by omega, ?_⟩
      obtain ⟨_, ⟨m0, m1⟩, ⟨_, d1, _⟩, _⟩ := K
      by_cases m2 : mo = 2
      · subst m2
        rw [days_feb] at d1 ⊢
        unfold febN at *
        split at d1 <;> split <;> omega
      · unfold daysN at *
        simp only [m2, if_false] at d1 ⊢
        exact d1
    simp [stOk, e1, em, e3, eh, ei, es, e2, hy]
  · have e1 : inB (y + 1) 1980 2107 = false := inB_false.2 (by omega)
    simp [stOk, e1, hy]
theorem stN_next (y mo d h mi s : Int) : stN (y + 1) mo d h mi s = stN y mo d h mi s + 33554432 := by unfold stN; omega
theorem stN_bd {y mo d h mi s : Int} (k : stOk y mo d h mi s = true) : 0 ≤ stN y mo d h mi s ∧ stN y mo d h mi s < 4294967296 := by
  have K := st_bd k
  unfold stN; omega

set_option maxHeartbeats 4000000 in
theorem fnStampLast_walk (a : Option Addr) (len cap : Nat) (zs : List Int) (w : World) (w0 : IsRow .u8 w a len cap zs) :
    Calls Try.prog 9 #[.slice a len cap] w fun e w' => e = .returned (.bool true) ∧ Below w.heap.size w w' := by
  obtain ⟨⟨z, hsrc⟩, hc, hm⟩ := src_of w0
  have hm' := hide hm
  unfold maxLen at hm
  clear w0
  by_cases hl : (len : Int) ≤ 1048576
  · go_enter Try.func9, Try.ntmps9
    go_wp2_with fail
    refine (drawStampOk_any a len cap z _ hsrc hc (unhide hm')).mono ?_
    rintro e x1 ⟨y, mo, d, h, mi, s, rfl, ds, hb1⟩
    clear hsrc ds
    go_wp2_with fail
    refine (implStampPut_any y mo d h mi s _).mono ?_
    rintro e x2 ⟨rfl, hb2⟩
    obtain ⟨X2, b2⟩ := six_call hb2
    have B2 := hide (hb1.trans (b2.mono hb1.size))
    have H2 := hide X2
    clear hb1 hb2 b2
    obtain ⟨⟨c0, c1, c2, c3, c4, c5⟩, _, _⟩ := X2
    have HS := hide (fun W => specStampPut_any y mo d h mi s W)
    cases hk : stOk y mo d h mi s
    · have e : stI y mo d h mi s = -1 := by simp [stI, hk]
      rw [e] at HS ⊢
      clear e
      go_wp2_with fail
      refine (unhide HS _).mono ?_
      rintro e x3 ⟨rfl, hb3⟩
      have H3 := hide ((unhide H2).later hb3 (unhide H2).2.2)
      have B3 := hide ((unhide B2).trans (hb3.mono (unhide B2).size))
      clear hb3 H2 B2 c0 c1 c2 c3 c4 c5
      obtain ⟨⟨c0, c1, c2, c3, c4, c5⟩, _, _⟩ := unhide H3
      go_wp2_with fail
      refine (unhide HS _).mono ?_
      rintro e x4 ⟨rfl, hb4⟩
      go_wp2
      go_ret
      exact ⟨rfl, (unhide B3).trans (hb4.mono (unhide B3).size)⟩
    · have e : stI y mo d h mi s = stN y mo d h mi s := by simp [stI, hk]
      rw [e] at HS ⊢
      clear e
      obtain ⟨n0, n1⟩ := stN_bd hk
      have HN := hide (stN_next y mo d h mi s)
      have HX := hide (fun hf => st_next hk hf)
      obtain ⟨⟨y0, y1⟩, _⟩ := st_bd hk
      clear hk
      generalize stN y mo d h mi s = N at *
      go_wp2_with fail
      refine (unhide HS _).mono ?_
      rintro e x3 ⟨rfl, hb3⟩
      have H3 := hide ((unhide H2).later hb3 (unhide H2).2.2)
      have B3 := hide ((unhide B2).trans (hb3.mono (unhide B2).size))
      clear hb3 H2 B2 c0 c1 c2 c3 c4 c5
      obtain ⟨⟨c0, c1, c2, c3, c4, c5⟩, ⟨f0, f1, f2, f3, f4, f5⟩, hlt⟩ := unhide H3
      by_cases hf : mo = 2 ∧ d = 29
      · obtain ⟨rfl, rfl⟩ := hf
        go_wp2_with fail
        refine (unhide HS _).mono ?_
        rintro e x4 ⟨rfl, hb4⟩
        go_wp2
        go_ret
        exact ⟨ret_bool (by simp), (unhide B3).trans (hb4.mono (unhide B3).size)⟩
      · have hX := unhide HX hf
        clear HX
        have hT0 : Twin w x1.heap.size x3.heap.size y mo d h mi s (y + 1) mo d h mi s (x3.alloc (.cells #[.int .i64 (y + 1), .int .i64 mo, .int .i64 d, .int .i64 h, .int .i64 mi, .int .i64 s] 25)) :=
          ⟨(unhide H3).later ((Below.refl _ _).alloc (Nat.le_refl _) _) (unhide H3).2.2, six_alloc _ _ _ _ _ _ _ _, (unhide B3).alloc (unhide B3).size _⟩
        have HC := hide (fun W (k : Twin w x1.heap.size x3.heap.size y mo d h mi s (y + 1) mo d h mi s W) => k.cells)
        have COk := hide (fun W (k : Twin w x1.heap.size x3.heap.size y mo d h mi s (y + 1) mo d h mi s W) => (implStampOk_any (y + 1) mo d h mi s W).mono (fun e w' (hw : _ ∧ _) => (⟨hw.1, k.later hw.2⟩ : e = .returned (.bool (stOk (y + 1) mo d h mi s)) ∧ Twin w x1.heap.size x3.heap.size y mo d h mi s (y + 1) mo d h mi s w')))
        have CPut := hide (fun W (k : Twin w x1.heap.size x3.heap.size y mo d h mi s (y + 1) mo d h mi s W) => (implStampPut_any (y + 1) mo d h mi s W).mono (fun e w' (hw : _ ∧ _) => (⟨hw.1, k.later hw.2⟩ : e = .returned (.int .i64 (stI (y + 1) mo d h mi s)) ∧ Twin w x1.heap.size x3.heap.size y mo d h mi s (y + 1) mo d h mi s w')))
        have hT := hide hT0
        clear hT0 HS
        by_cases m2 : mo = 2
        · have d29 : ¬ d = 29 := fun h => hf ⟨m2, h⟩
          have d29a : decide (d = 29) = false := by simp [d29]
          have d29b : (d == 29) = false := by simp [d29]
          subst m2
          clear hf
          rcases Int.lt_or_le y 2107 with hy | hy
          · have e1 : stOk (y + 1) 2 d h mi s = true := by rw [hX]; simp [hy]
            have e2 : stI (y + 1) 2 d h mi s = N + 33554432 := by rw [← unhide HN]; simp [stI, e1]
            rw [e1] at COk
            rw [e2] at CPut
            clear hX e1 e2
            have k1 : decide (y < 2107) = true := by simp; omega
            have k2 : decide (2107 ≤ y) = false := by simp; omega
            have k3 : IntKind.i64.wrap (N + 33554432) = N + 33554432 := wrap_st _ (by omega) (by omega)
            go_wp2_with fail
            first | (go_region_held3 (fun W => (W.cell? ⟨x1.heap.size, 0, none⟩ = some (.int .i64 y) ∧ W.cell? ⟨x1.heap.size, 1, none⟩ = some (.int .i64 2) ∧ W.cell? ⟨x1.heap.size, 2, none⟩ = some (.int .i64 d) ∧ W.cell? ⟨x1.heap.size, 3, none⟩ = some (.int .i64 h) ∧ W.cell? ⟨x1.heap.size, 4, none⟩ = some (.int .i64 mi) ∧ W.cell? ⟨x1.heap.size, 5, none⟩ = some (.int .i64 s)) ∧ (W.cell? ⟨x3.heap.size, 0, none⟩ = some (.int .i64 (y + 1)) ∧ W.cell? ⟨x3.heap.size, 1, none⟩ = some (.int .i64 2) ∧ W.cell? ⟨x3.heap.size, 2, none⟩ = some (.int .i64 d) ∧ W.cell? ⟨x3.heap.size, 3, none⟩ = some (.int .i64 h) ∧ W.cell? ⟨x3.heap.size, 4, none⟩ = some (.int .i64 mi) ∧ W.cell? ⟨x3.heap.size, 5, none⟩ = some (.int .i64 s))) (first | exact unhide HC _ (Twin.drew (unhide hT)) | assumption) (first
                      | (go_at_call 12; refine (unhide COk _ (by first | assumption | exact Twin.drew (unhide hT))).mono ?_; rintro e z1 ⟨rfl, hz1⟩; have hc1 := unhide HC _ hz1)
                      | (go_at_call 14; refine (unhide CPut _ (by first | assumption | exact Twin.drew (unhide hT))).mono ?_; rintro e z2 ⟨rfl, hz2⟩; have hc2 := unhide HC _ hz2))) | fail
            go_wp2
            go_ret
            exact ⟨ret_bool (by simp), Twin.bel (by assumption)⟩
          · have e1 : stOk (y + 1) 2 d h mi s = false := by rw [hX]; simp; omega
            rw [e1] at COk
            clear hX e1
            have k1 : decide (y < 2107) = false := by simp; omega
            have k2 : decide (2107 ≤ y) = true := by simp; omega
            go_wp2_with fail
            first | (go_region_law (first
            | (go_simp; go_at_call 12; refine (unhide COk _ (by first | assumption | exact Twin.drew (unhide hT))).mono ?_; rintro e z1 ⟨rfl, hz1⟩; obtain ⟨⟨u0, u1, u2, u3, u4, u5⟩, ⟨v0, v1, v2, v3, v4, v5⟩⟩ := unhide HC _ hz1))) | fail
            all_goals
              go_wp2
              go_ret
              exact ⟨rfl, Twin.bel (by assumption)⟩
        · clear hf
          rcases Int.lt_or_le y 2107 with hy | hy
          · have e1 : stOk (y + 1) mo d h mi s = true := by rw [hX]; simp [hy]
            have e2 : stI (y + 1) mo d h mi s = N + 33554432 := by rw [← unhide HN]; simp [stI, e1]
            rw [e1] at COk
            rw [e2] at CPut
            clear hX e1 e2
            have k1 : decide (y < 2107) = true := by simp; omega
            have k2 : decide (2107 ≤ y) = false := by simp; omega
            have k3 : IntKind.i64.wrap (N + 33554432) = N + 33554432 := wrap_st _ (by omega) (by omega)
            go_wp2_with fail
            first | (go_region_held3 (fun W => (W.cell? ⟨x1.heap.size, 0, none⟩ = some (.int .i64 y) ∧ W.cell? ⟨x1.heap.size, 1, none⟩ = some (.int .i64 mo) ∧ W.cell? ⟨x1.heap.size, 2, none⟩ = some (.int .i64 d) ∧ W.cell? ⟨x1.heap.size, 3, none⟩ = some (.int .i64 h) ∧ W.cell? ⟨x1.heap.size, 4, none⟩ = some (.int .i64 mi) ∧ W.cell? ⟨x1.heap.size, 5, none⟩ = some (.int .i64 s)) ∧ (W.cell? ⟨x3.heap.size, 0, none⟩ = some (.int .i64 (y + 1)) ∧ W.cell? ⟨x3.heap.size, 1, none⟩ = some (.int .i64 mo) ∧ W.cell? ⟨x3.heap.size, 2, none⟩ = some (.int .i64 d) ∧ W.cell? ⟨x3.heap.size, 3, none⟩ = some (.int .i64 h) ∧ W.cell? ⟨x3.heap.size, 4, none⟩ = some (.int .i64 mi) ∧ W.cell? ⟨x3.heap.size, 5, none⟩ = some (.int .i64 s))) (first | exact unhide HC _ (Twin.drew (unhide hT)) | assumption) (first
                      | (go_at_call 12; refine (unhide COk _ (by first | assumption | exact Twin.drew (unhide hT))).mono ?_; rintro e z1 ⟨rfl, hz1⟩; have hc1 := unhide HC _ hz1)
                      | (go_at_call 14; refine (unhide CPut _ (by first | assumption | exact Twin.drew (unhide hT))).mono ?_; rintro e z2 ⟨rfl, hz2⟩; have hc2 := unhide HC _ hz2))) | fail
            go_wp2
            go_ret
            exact ⟨ret_bool (by simp), Twin.bel (by assumption)⟩
          · have e1 : stOk (y + 1) mo d h mi s = false := by rw [hX]; simp; omega
            rw [e1] at COk
            clear hX e1
            have k1 : decide (y < 2107) = false := by simp; omega
            have k2 : decide (2107 ≤ y) = true := by simp; omega
            go_wp2_with fail
            first | (go_region_law (first
            | (go_simp; go_at_call 12; refine (unhide COk _ (by first | assumption | exact Twin.drew (unhide hT))).mono ?_; rintro e z1 ⟨rfl, hz1⟩; obtain ⟨⟨u0, u1, u2, u3, u4, u5⟩, ⟨v0, v1, v2, v3, v4, v5⟩⟩ := unhide HC _ hz1))) | fail
            all_goals
              go_wp2
              go_ret
              exact ⟨rfl, Twin.bel (by assumption)⟩
  · go_enter Try.func9, Try.ntmps9
    go_wp2
    go_ret
    exact ⟨rfl, Below.refl _ _⟩

end Go.Proofs.Ythokkljiccgpiaa
