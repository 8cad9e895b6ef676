/- The walk of the law of the order of stamps. -/
import Derived.Test.YthokkljiccgpiaaSl2
namespace Go.Proofs.Ythokkljiccgpiaa
open Go.RowKit

/-- The fields of a stamp, by their places. -/
def fld (y mo d h mi s : Int) (k : Nat) : Int := [y, mo, d, h, mi, s].getD k 0
theorem st_ord {y mo d h mi s y' mo' d' h' mi' s' : Int} (k1 : stOk y mo d h mi s = true) (k2 : stOk y' mo' d' h' mi' s' = true) (k : Nat) (hk : k < 6)
    (he : ∀ j, j < k → fld y mo d h mi s j = fld y' mo' d' h' mi' s' j) (hn : ¬ fld y mo d h mi s k = fld y' mo' d' h' mi' s' k) :
    (fld y mo d h mi s k < fld y' mo' d' h' mi' s' k ↔ stN y mo d h mi s < stN y' mo' d' h' mi' s') ∧ ¬ stN y mo d h mi s = stN y' mo' d' h' mi' s' := by
  obtain ⟨⟨a0, a1⟩, ⟨b0, b1⟩, ⟨c0, _, c1⟩, ⟨d0, d1⟩, ⟨e0, e1⟩, ⟨f0, f1⟩, f2⟩ := st_bd k1
  obtain ⟨⟨a2, a3⟩, ⟨b2, b3⟩, ⟨c2, _, c3⟩, ⟨d2, d3⟩, ⟨e2, e3⟩, ⟨f3, f4⟩, f5⟩ := st_bd k2
  unfold stN
  have h0 := he 0
  have h1 := he 1
  have h2 := he 2
  have h3 := he 3
  have h4 := he 4
  simp only [fld, List.getD_cons_zero, List.getD_cons_succ] at h0 h1 h2 h3 h4
  match k, hk with
  | 0, _ =>
    simp only [fld, List.getD_cons_zero] at hn ⊢
    omega
  | 1, _ =>
    simp only [fld, List.getD_cons_zero, List.getD_cons_succ] at hn ⊢
    have := h0 (by omega)
    omega
  | 2, _ =>
    simp only [fld, List.getD_cons_zero, List.getD_cons_succ] at hn ⊢
    have := h0 (by omega)
    have := h1 (by omega)
    omega
  | 3, _ =>
    simp only [fld, List.getD_cons_zero, List.getD_cons_succ] at hn ⊢
    have := h0 (by omega)
    have := h1 (by omega)
    have := h2 (by omega)
    omega
  | 4, _ =>
    simp only [fld, List.getD_cons_zero, List.getD_cons_succ] at hn ⊢
    have := h0 (by omega)
    have := h1 (by omega)
    have := h2 (by omega)
    have := h3 (by omega)
    omega
  | 5, _ =>
    simp only [fld, List.getD_cons_zero, List.getD_cons_succ] at hn ⊢
    have := h0 (by omega)
    have := h1 (by omega)
    have := h2 (by omega)
    have := h3 (by omega)
    have := h4 (by omega)
    omega
theorem st_same {y mo d h mi s y' mo' d' h' mi' s' : Int} (he : ∀ j, j < 6 → fld y mo d h mi s j = fld y' mo' d' h' mi' s' j) : stN y mo d h mi s = stN y' mo' d' h' mi' s' := by
  have h0 := he 0 (by omega)
  have h1 := he 1 (by omega)
  have h2 := he 2 (by omega)
  have h3 := he 3 (by omega)
  have h4 := he 4 (by omega)
  have h5 := he 5 (by omega)
  simp only [fld, List.getD_cons_zero, List.getD_cons_succ] at h0 h1 h2 h3 h4 h5
  subst h0 h1 h2 h3 h4 h5
  rfl

set_option maxHeartbeats 4000000 in
theorem fnStampOrder_walk (a : Option Addr) (len cap : Nat) (zs : List Int) (a' : Option Addr) (len' cap' : Nat) (zs' : List Int) (w : World) (w0 : IsRow .u8 w a len cap zs) (w1 : IsRow .u8 w a' len' cap' zs') :
    Calls Try.prog 7 #[.slice a len cap, .slice a' len' cap'] w fun e w' => e = .returned (.bool true) ∧ Below w.heap.size w w' := by
  obtain ⟨⟨z, hsrc⟩, hc, hm⟩ := src_of w0
  obtain ⟨⟨z', hsrc'⟩, hc', hm2⟩ := src_of w1
  have hm' := hide hm
  have hm2' := hide hm2
  unfold maxLen at hm hm2
  clear w0 w1
  by_cases hl : (len : Int) ≤ 1048576
  · by_cases hl' : (len' : Int) ≤ 1048576
    · have HS' := hide hsrc'
      clear hsrc'
      go_enter Try.func7, Try.ntmps7
      go_wp2_with fail
      refine (drawStampOk_any a len cap z _ hsrc hc (unhide hm')).mono ?_
      rintro e x1 ⟨y, mo, d, h, mi, s, rfl, ds, hb1⟩
      clear hsrc ds
      have X1 := hide (six_alloc x1 y mo d h mi s 25)
      have B1 := hide (hb1.alloc hb1.size (.cells #[.int .i64 y, .int .i64 mo, .int .i64 d, .int .i64 h, .int .i64 mi, .int .i64 s] 25))
      clear hb1
      go_wp2_with fail
      refine (drawStampOk_any a' len' cap' z' _ ((unhide HS').later (unhide B1)) hc' (unhide hm2')).mono ?_
      rintro e x2 ⟨y', mo', d', h', mi', s', rfl, ds, hb2⟩
      clear ds
      have T2 := hide (show Twin w x1.heap.size x2.heap.size y mo d h mi s y' mo' d' h' mi' s' (x2.alloc (.cells #[.int .i64 y', .int .i64 mo', .int .i64 d', .int .i64 h', .int .i64 mi', .int .i64 s'] 25)) from
        ⟨((unhide X1).later hb2 (unhide X1).2.2).later ((Below.refl _ _).alloc (Nat.le_refl _) _) ((unhide X1).later hb2 (unhide X1).2.2).2.2, six_alloc _ _ _ _ _ _ _ _, (bnext (unhide B1) hb2).alloc (bnext (unhide B1) hb2).size _⟩)
      have hlt : x1.heap.size < x2.heap.size := ((unhide X1).later hb2 (unhide X1).2.2).2.2
      have D1 := hide ((unhide X1).later hb2 (unhide X1).2.2)
      clear hb2 X1 B1 HS'
      obtain ⟨⟨p0, p1, p2, p3, p4, p5⟩, _, _⟩ := unhide D1
      clear D1
      go_wp2_with fail
      refine (implStampPut_any y mo d h mi s _).mono ?_
      rintro e x3 ⟨rfl, hb3⟩
      have T3 := hide ((unhide T2).later hb3)
      clear hb3 T2 p0 p1 p2 p3 p4 p5
      obtain ⟨⟨p0, p1, p2, p3, p4, p5⟩, ⟨q0, q1, q2, q3, q4, q5⟩⟩ := (unhide T3).cells
      go_wp2_with fail
      refine (implStampPut_any y' mo' d' h' mi' s' _).mono ?_
      rintro e x4 ⟨rfl, hb4⟩
      have T4 := hide ((unhide T3).later hb4)
      clear hb4 T3 p0 p1 p2 p3 p4 p5 q0 q1 q2 q3 q4 q5
      obtain ⟨⟨p0, p1, p2, p3, p4, p5⟩, ⟨q0, q1, q2, q3, q4, q5⟩⟩ := (unhide T4).cells
      have HS := hide (fun W => specStampPut_any y mo d h mi s W)
      cases hk : stOk y mo d h mi s
      · have e : stI y mo d h mi s = -1 := by simp [stI, hk]
        rw [e] at HS ⊢
        clear e
        generalize stI y' mo' d' h' mi' s' = Y at *
        go_wp2_with fail
        refine (unhide HS _).mono ?_
        rintro e x5 ⟨rfl, hb5⟩
        have T5 := hide ((unhide T4).later hb5)
        clear hb5 T4 p0 p1 p2 p3 p4 p5 q0 q1 q2 q3 q4 q5
        obtain ⟨⟨p0, p1, p2, p3, p4, p5⟩, _⟩ := (unhide T5).cells
        go_wp2_with fail
        refine (unhide HS _).mono ?_
        rintro e x6 ⟨rfl, hb6⟩
        go_wp2
        go_ret
        exact ⟨rfl, ((unhide T5).later hb6).bel⟩
      · have e : stI y mo d h mi s = stN y mo d h mi s := by simp [stI, hk]
        rw [e] at HS ⊢
        clear e
        obtain ⟨n0, n1⟩ := stN_bd hk
        cases hk' : stOk y' mo' d' h' mi' s'
        · have e : stI y' mo' d' h' mi' s' = -1 := by simp [stI, hk']
          rw [e]
          clear e hk hk'
          generalize stN y mo d h mi s = N at *
          go_wp2_with fail
          refine (unhide HS _).mono ?_
          rintro e x5 ⟨rfl, hb5⟩
          have T5 := hide ((unhide T4).later hb5)
          clear hb5 T4 p0 p1 p2 p3 p4 p5 q0 q1 q2 q3 q4 q5
          obtain ⟨⟨p0, p1, p2, p3, p4, p5⟩, _⟩ := (unhide T5).cells
          go_wp2_with fail
          refine (unhide HS _).mono ?_
          rintro e x6 ⟨rfl, hb6⟩
          go_wp2
          go_ret
          exact ⟨ret_bool (by simp), ((unhide T5).later hb6).bel⟩
        · have e : stI y' mo' d' h' mi' s' = stN y' mo' d' h' mi' s' := by simp [stI, hk']
          rw [e]
          clear e
          obtain ⟨m0, m1⟩ := stN_bd hk'
          have HO := hide (fun k hk6 he hn => st_ord hk hk' k hk6 he hn)
          have HE := hide (fun he => @st_same y mo d h mi s y' mo' d' h' mi' s' he)
          clear hk hk'
          generalize stN y mo d h mi s = N at *
          generalize stN y' mo' d' h' mi' s' = M at *
          go_wp2_with fail
          refine (unhide HS _).mono ?_
          rintro e x5 ⟨rfl, hb5⟩
          have T5 := hide ((unhide T4).later hb5)
          clear hb5 T4 p0 p1 p2 p3 p4 p5 q0 q1 q2 q3 q4 q5
          obtain ⟨⟨p0, p1, p2, p3, p4, p5⟩, ⟨q0, q1, q2, q3, q4, q5⟩⟩ := (unhide T5).cells
          clear HS
          have hl1 : x1.heap.size < x5.heap.size := (unhide T5).1.2.2
          have hl2 : x2.heap.size < x5.heap.size := (unhide T5).2.1.2.2
          have hW6 : ∃ W, W = (x5.alloc (.cells #[.int .i64 y, .int .i64 mo, .int .i64 d, .int .i64 h, .int .i64 mi, .int .i64 s] 3)).alloc (.cells #[.int .i64 y', .int .i64 mo', .int .i64 d', .int .i64 h', .int .i64 mi', .int .i64 s'] 3) := ⟨_, rfl⟩
          obtain ⟨W6, hW6⟩ := hW6
          have HP : Hid (∀ j, j < 6 → W6.cell? ⟨x5.heap.size, j, none⟩ = some (.int .i64 (fld y mo d h mi s j))) := by
            intro j hj
            rw [hW6]
            match j, hj with
            | 0, _ => simp [fld]
            | 1, _ => simp [fld]
            | 2, _ => simp [fld]
            | 3, _ => simp [fld]
            | 4, _ => simp [fld]
            | 5, _ => simp [fld]
          have HQ : Hid (∀ j, j < 6 → W6.cell? ⟨x5.heap.size + 1, j, none⟩ = some (.int .i64 (fld y' mo' d' h' mi' s' j))) := by
            intro j hj
            rw [hW6]
            match j, hj with
            | 0, _ => simp [fld]
            | 1, _ => simp [fld]
            | 2, _ => simp [fld]
            | 3, _ => simp [fld]
            | 4, _ => simp [fld]
            | 5, _ => simp [fld]
          have HB : Hid (Below w.heap.size w W6) := by
            rw [hW6]
            have hb := (unhide T5).bel
            exact (hb.alloc hb.size _).alloc (by simp; have := hb.size; omega) _
          have HW := hide hW6
          clear hW6 T5
          go_wp2_with fail
          rw [← unhide HW]
          go_loopw [11] (fun i wr => ∃ k : Nat, k ≤ 6 ∧ i = .int .i64 k ∧ (∀ j, j < k → fld y mo d h mi s j = fld y' mo' d' h' mi' s' j) ∧ (∀ j, j < 6 → wr.cell? ⟨x5.heap.size, j, none⟩ = some (.int .i64 (fld y mo d h mi s j))) ∧ (∀ j, j < 6 → wr.cell? ⟨x5.heap.size + 1, j, none⟩ = some (.int .i64 (fld y' mo' d' h' mi' s' j))) ∧ Below w.heap.size w wr) (fun i _ => 6 - (intOf i).toNat)
          case atStart => exact ⟨0, by omega, rfl, fun j hj => by omega, unhide HP, unhide HQ, unhide HB⟩
          case round =>
            clear HP HQ HB
            obtain ⟨k, hk, rfl, he, hP, hQ, hB⟩ := hrel
            have HEk := hide he
            have HP := hide hP
            have HQ := hide hQ
            have HB := hide hB
            clear he hP hQ hB
            by_cases hk6 : k < 6
            · have kI : (k : Int) < 6 := by omega
              have c1 := unhide HP k hk6
              have c2 := unhide HQ k hk6
              have HPf := hide (fun n => show ∀ j, j < 6 → (wr.drewN n).cell? ⟨x5.heap.size, j, none⟩ = some (.int .i64 (fld y mo d h mi s j)) from unhide HP)
              have HQf := hide (fun n => show ∀ j, j < 6 → (wr.drewN n).cell? ⟨x5.heap.size + 1, j, none⟩ = some (.int .i64 (fld y' mo' d' h' mi' s' j)) from unhide HQ)
              have HPX := HPf
              have HQX := HQf
              clear HPf HQf
              have HOk := hide (unhide HO k hk6 (unhide HEk))
              have HK := hide hk6
              have HN : Hid (fld y mo d h mi s k = fld y' mo' d' h' mi' s' k → ∀ j, j < k + 1 → fld y mo d h mi s j = fld y' mo' d' h' mi' s' j) := by
                intro e j hj
                by_cases hjk : j = k
                · rw [hjk]; exact e
                · exact unhide HEk j (by omega)
              clear HEk hk hk6
              generalize fld y mo d h mi s k = pk at *
              generalize fld y' mo' d' h' mi' s' k = qk at *
              by_cases hpq : pk = qk
              · have HN2 := hide (unhide HN hpq)
                clear HN
                subst hpq
                go_wp2_with fail
                go_quiet (fail)
                go_wp2
                go_roundw
                case rel => exact ⟨k + 1, by have := unhide HK; omega, by go_num, unhide HN2, unhide HPX _, unhide HQX _, below_drewN (unhide HB) _⟩
                case measure => have := unhide HK; simp [intOf]; omega
              · obtain ⟨o1, o2⟩ := unhide HOk hpq
                rcases Int.lt_or_le pk qk with hp | hp
                · have hNM := o1.1 hp
                  clear HOk
                  go_wp2_with fail
                  go_quiet (fail)
                  go_wp2
                  go_quiet (fail)
                  go_wp2
                  go_ret
                  exact ⟨ret_bool (by simp [o2]), below_drewN (below_drewN (unhide HB) _) _⟩
                · have hNM : ¬ N < M := fun e => by have := o1.2 e; omega
                  have hp' : ¬ pk < qk := by omega
                  clear HOk
                  go_wp2_with fail
                  go_quiet (fail)
                  go_wp2
                  go_quiet (fail)
                  go_wp2
                  go_ret
                  exact ⟨ret_bool (by simp [o2]), below_drewN (below_drewN (unhide HB) _) _⟩
            · obtain rfl : k = 6 := by omega
              have hNM := unhide HE (unhide HEk)
              clear HEk HO HE
              subst hNM
              go_wp2
              go_ret
              exact ⟨ret_bool (by simp), unhide HB⟩
    · go_enter Try.func7, Try.ntmps7
      go_wp2
      go_ret
      exact ⟨rfl, Below.refl _ _⟩
  · go_enter Try.func7, Try.ntmps7
    go_wp2
    go_ret
    exact ⟨rfl, Below.refl _ _⟩

end Go.Proofs.Ythokkljiccgpiaa
