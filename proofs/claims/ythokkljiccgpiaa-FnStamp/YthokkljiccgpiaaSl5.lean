/- The walk of the law of stamps read back. -/
import Derived.Test.YthokkljiccgpiaaSl4
import Derived.Lib.QuietBelow
namespace Go.Proofs.Ythokkljiccgpiaa
open Go.RowKit

set_option maxHeartbeats 8000000 in
theorem fnStamp_walk (a : Option Addr) (len cap : Nat) (zs : List Int) (a' : Option Addr) (len' cap' : Nat) (zs' : List Int) (w : World) (w0 : IsRow .u8 w a len cap zs) (w1 : IsRow .u8 w a' len' cap' zs') :
    Calls Try.prog 6 #[.slice a len cap, .slice a' len' cap'] w fun e w' => e = .returned (.bool true) ∧ Below w.heap.size w w' := by
  obtain ⟨⟨z, hsrc⟩, hc, hm⟩ := src_of w0
  obtain ⟨⟨z', hsrc'⟩, hc', hm2⟩ := src_of w1
  have hm' := hide hm
  have hm2' := hide hm2
  unfold maxLen at hm hm2
  clear w0 w1
  have hmix : Try.prog.follows .mixedOrders = true := by kernel_rfl
  by_cases hl : (len : Int) ≤ 1048576
  · by_cases hl' : (len' : Int) ≤ 1048576
    · have HS' := hide hsrc'
      clear hsrc'
      go_enter Try.func6, Try.ntmps6
      go_wp2_with fail
      refine (drawStampPut_any a len cap z _ hsrc hc (unhide hm')).mono ?_
      rintro e x1 ⟨y, mo, d, h, mi, s, rfl, ds, hb1⟩
      clear hsrc ds
      go_wp2_with fail
      refine (implStampPut_any y mo d h mi s _).mono ?_
      rintro e x2 ⟨rfl, hb2⟩
      obtain ⟨X2, b2⟩ := six_call hb2
      have B2 := hide (bnext hb1 b2)
      have H2 := hide X2
      clear hb1 hb2 b2 X2
      cases hk : stOk y mo d h mi s
      · have e : stI y mo d h mi s = -1 := by simp [stI, hk]
        rw [e]
        have eg : gOk (-1) = false := by decide
        go_wp2_with fail
        refine (implStampGet_any (-1) _ (wf_of _ (by omega) (by omega))).mono ?_
        rintro e x3 ⟨rfl, hb3⟩
        rw [stG_no eg, eg]
        clear eg
        have H3 := hide ((unhide H2).later hb3 (unhide H2).2.2)
        have B3 := hide (bnext (unhide B2) hb3)
        clear hb3 H2 B2
        have hT := hide (show Twin w x1.heap.size x3.heap.size y mo d h mi s 0 0 0 0 0 0 (x3.alloc (.cells #[.int .i64 0, .int .i64 0, .int .i64 0, .int .i64 0, .int .i64 0, .int .i64 0] 25)) from
          ⟨(unhide H3).later ((Below.refl _ _).alloc (Nat.le_refl _) _) (unhide H3).2.2, six_alloc _ _ _ _ _ _ _ _, (unhide B3).alloc (unhide B3).size _⟩)
        obtain ⟨⟨c0, c1, c2, c3, c4, c5⟩, _, hlt⟩ := unhide H3
        have CPut := hide (fun W => specStampPut_any y mo d h mi s W)
        have CIOk := hide (fun W => implStampOk_any y mo d h mi s W)
        have CSOk := hide (fun W => specStampOk_any y mo d h mi s W)
        rw [e] at CPut
        rw [hk] at CIOk CSOk
        clear e hk H3 B3
        go_wp2_with fail
        clear c0 c1 c2 c3 c4 c5
        obtain ⟨W6, hW6⟩ : ∃ W, W = x3.alloc (.cells #[.int .i64 0, .int .i64 0, .int .i64 0, .int .i64 0, .int .i64 0, .int .i64 0] 25) := ⟨_, rfl⟩
        rw [← hW6]
        rw [← hW6] at hT
        obtain ⟨⟨u0, u1, u2, u3, u4, u5⟩, ⟨v0, v1, v2, v3, v4, v5⟩⟩ := (unhide hT).cells
        have HBW := hide (unhide hT).bel
        have k0 := cell_regrown u0
        have k1 := cell_regrown u1
        have k2 := cell_regrown u2
        have k3 := cell_regrown u3
        have k4 := cell_regrown u4
        have k5 := cell_regrown u5
        have l0 := cell_regrown v0
        have l1 := cell_regrown v1
        have l2 := cell_regrown v2
        have l3 := cell_regrown v3
        have l4 := cell_regrown v4
        have l5 := cell_regrown v5
        have cPut := fun d os => Calls.regrown_of (w := W6) (d := d) (os := os) (unhide CPut _)
        have cIOk := fun d os => Calls.regrown_of (w := W6) (d := d) (os := os) (unhide CIOk _)
        have cSOk := fun d os => Calls.regrown_of (w := W6) (d := d) (os := os) (unhide CSOk _)
        clear hT hW6 u0 u1 u2 u3 u4 u5 v0 v1 v2 v3 v4 v5
        refine wp_region_quiet_below hmix (by kernel_rfl) ?_
        repeat (quiet_step (first | exact cPut _ _ | exact cIOk _ _ | exact cSOk _ _))
        refine wpQuiet_nil ?_
        intro zw hw'
        obtain ⟨⟨dq, osq⟩, hw2⟩ := hw'
        have HZ := below_regrown W6 dq osq
        rw [← hw2] at HZ
        have BZ := hide (bnext (unhide HBW) HZ)
        clear hw2 HZ k0 k1 k2 k3 k4 k5 l0 l1 l2 l3 l4 l5 cPut cIOk cSOk HBW
        clear CPut CIOk CSOk
        go_wp2_with fail
        refine (drawStampGet_any a' len' cap' z' _ ((unhide HS').later (unhide BZ)) hc' (unhide hm2')).mono ?_
        rintro e y1 ⟨n, rfl, ⟨q0, q1⟩, hb1⟩
        have C1 := hide (bnext (unhide BZ) hb1)
        clear hb1 BZ
        go_wp2_with fail
        refine (implStampGet_any n _ (wf_of n (by omega) (by omega))).mono ?_
        rintro e y2 ⟨rfl, hb2⟩
        rw [show stG n = .agg #[.int .i64 (zz (gOk n) (gY n)), .int .i64 (zz (gOk n) (gM n)), .int .i64 (zz (gOk n) (gD n)), .int .i64 (zz (gOk n) (gH n)), .int .i64 (zz (gOk n) (gI n)), .int .i64 (zz (gOk n) (gS n))] from rfl]
        have hG2 : ∀ W, Calls Try.prog 15 #[.int .i64 n] W fun e w' => e = .returned (.tuple #[.agg #[.int .i64 (zz (gOk n) (gY n)), .int .i64 (zz (gOk n) (gM n)), .int .i64 (zz (gOk n) (gD n)), .int .i64 (zz (gOk n) (gH n)), .int .i64 (zz (gOk n) (gI n)), .int .i64 (zz (gOk n) (gS n))], .bool (gOk n)]) ∧ Below W.heap.size W w' := fun W => specStampGet_any n W
        have HG2 := hide hG2
        have HI : Hid (gOk n = true → stI (zz (gOk n) (gY n)) (zz (gOk n) (gM n)) (zz (gOk n) (gD n)) (zz (gOk n) (gH n)) (zz (gOk n) (gI n)) (zz (gOk n) (gS n)) = n) := fun k => by
          simp only [zz, k, if_true]
          exact get_stN k
        clear hG2
        generalize zz (gOk n) (gY n) = fy at *
        generalize zz (gOk n) (gM n) = fm at *
        generalize zz (gOk n) (gD n) = fd at *
        generalize zz (gOk n) (gH n) = fh at *
        generalize zz (gOk n) (gI n) = fi at *
        generalize zz (gOk n) (gS n) = fs at *
        generalize gOk n = fk at *
        have E1 := hide (six_alloc y2 fy fm fd fh fi fs 25)
        have C2 := hide ((bnext (unhide C1) hb2).alloc (bnext (unhide C1) hb2).size (.cells #[.int .i64 fy, .int .i64 fm, .int .i64 fd, .int .i64 fh, .int .i64 fi, .int .i64 fs] 25))
        clear hb2 C1
        go_wp2_with fail
        refine (unhide HG2 _).mono ?_
        rintro e y3 ⟨rfl, hb3⟩
        have E2 := hide ((unhide E1).later hb3 (unhide E1).2.2)
        have C3 := hide (bnext (unhide C2) hb3)
        clear hb3 E1 C2 HG2
        obtain ⟨⟨i0, i1, i2, i3, i4, i5⟩, _, hlt3⟩ := unhide E2
        cases fk
        · go_wp2_with fail
          go_ret
          exact ⟨rfl, (unhide C3).alloc (unhide C3).size _⟩
        · have hI := unhide HI rfl
          go_wp2_with fail
          refine (implStampPut_any fy fm fd fh fi fs _).mono ?_
          rintro e y4 ⟨rfl, hb4⟩
          rw [hI]
          go_wp2
          go_ret
          exact ⟨ret_bool (by simp), bnext ((unhide C3).alloc (unhide C3).size _) hb4⟩
      · have e : stI y mo d h mi s = stN y mo d h mi s := by simp [stI, hk]
        rw [e]
        obtain ⟨eg, g0, g1, g2, g3, g4, g5⟩ := stN_get hk
        obtain ⟨n0, n1⟩ := stN_bd hk
        have HG := hide (implStampGet_any (stN y mo d h mi s))
        rw [stG_yes eg, eg, g0, g1, g2, g3, g4, g5] at HG
        clear g0 g1 g2 g3 g4 g5 eg
        have E := hide e
        clear e
        generalize stN y mo d h mi s = N at *
        go_wp2_with fail
        refine (unhide HG _ (wf_of _ (by omega) (by omega))).mono ?_
        rintro e x3 ⟨rfl, hb3⟩
        have H3 := hide ((unhide H2).later hb3 (unhide H2).2.2)
        have B3 := hide (bnext (unhide B2) hb3)
        clear hb3 H2 B2 HG
        have hT := hide (show Twin w x1.heap.size x3.heap.size y mo d h mi s y mo d h mi s (x3.alloc (.cells #[.int .i64 y, .int .i64 mo, .int .i64 d, .int .i64 h, .int .i64 mi, .int .i64 s] 25)) from
          ⟨(unhide H3).later ((Below.refl _ _).alloc (Nat.le_refl _) _) (unhide H3).2.2, six_alloc _ _ _ _ _ _ _ _, (unhide B3).alloc (unhide B3).size _⟩)
        obtain ⟨⟨c0, c1, c2, c3, c4, c5⟩, _, hlt⟩ := unhide H3
        have CPut := hide (fun W => specStampPut_any y mo d h mi s W)
        have CIOk := hide (fun W => implStampOk_any y mo d h mi s W)
        have CSOk := hide (fun W => specStampOk_any y mo d h mi s W)
        rw [unhide E] at CPut
        rw [hk] at CIOk CSOk
        have k1 : decide (0 ≤ N) = true := by simp; omega
        clear hk H3 B3 E
        go_wp2_with fail
        clear c0 c1 c2 c3 c4 c5
        obtain ⟨W6, hW6⟩ : ∃ W, W = x3.alloc (.cells #[.int .i64 y, .int .i64 mo, .int .i64 d, .int .i64 h, .int .i64 mi, .int .i64 s] 25) := ⟨_, rfl⟩
        rw [← hW6]
        rw [← hW6] at hT
        obtain ⟨⟨u0, u1, u2, u3, u4, u5⟩, ⟨v0, v1, v2, v3, v4, v5⟩⟩ := (unhide hT).cells
        have HBW := hide (unhide hT).bel
        have k0 := cell_regrown u0
        have k1 := cell_regrown u1
        have k2 := cell_regrown u2
        have k3 := cell_regrown u3
        have k4 := cell_regrown u4
        have k5 := cell_regrown u5
        have l0 := cell_regrown v0
        have l1 := cell_regrown v1
        have l2 := cell_regrown v2
        have l3 := cell_regrown v3
        have l4 := cell_regrown v4
        have l5 := cell_regrown v5
        have cPut := fun d os => Calls.regrown_of (w := W6) (d := d) (os := os) (unhide CPut _)
        have cIOk := fun d os => Calls.regrown_of (w := W6) (d := d) (os := os) (unhide CIOk _)
        have cSOk := fun d os => Calls.regrown_of (w := W6) (d := d) (os := os) (unhide CSOk _)
        clear hT hW6 u0 u1 u2 u3 u4 u5 v0 v1 v2 v3 v4 v5
        refine wp_region_quiet_below hmix (by kernel_rfl) ?_
        repeat (quiet_step (first | exact cPut _ _ | exact cIOk _ _ | exact cSOk _ _))
        refine wpQuiet_nil ?_
        intro zw hw'
        obtain ⟨⟨dq, osq⟩, hw2⟩ := hw'
        have HZ := below_regrown W6 dq osq
        rw [← hw2] at HZ
        have BZ := hide (bnext (unhide HBW) HZ)
        clear hw2 HZ k0 k1 k2 k3 k4 k5 l0 l1 l2 l3 l4 l5 cPut cIOk cSOk HBW
        clear CPut CIOk CSOk
        go_wp2_with fail
        refine (drawStampGet_any a' len' cap' z' _ ((unhide HS').later (unhide BZ)) hc' (unhide hm2')).mono ?_
        rintro e y1 ⟨n, rfl, ⟨q0, q1⟩, hb1⟩
        have C1 := hide (bnext (unhide BZ) hb1)
        clear hb1 BZ
        go_wp2_with fail
        refine (implStampGet_any n _ (wf_of n (by omega) (by omega))).mono ?_
        rintro e y2 ⟨rfl, hb2⟩
        rw [show stG n = .agg #[.int .i64 (zz (gOk n) (gY n)), .int .i64 (zz (gOk n) (gM n)), .int .i64 (zz (gOk n) (gD n)), .int .i64 (zz (gOk n) (gH n)), .int .i64 (zz (gOk n) (gI n)), .int .i64 (zz (gOk n) (gS n))] from rfl]
        have hG2 : ∀ W, Calls Try.prog 15 #[.int .i64 n] W fun e w' => e = .returned (.tuple #[.agg #[.int .i64 (zz (gOk n) (gY n)), .int .i64 (zz (gOk n) (gM n)), .int .i64 (zz (gOk n) (gD n)), .int .i64 (zz (gOk n) (gH n)), .int .i64 (zz (gOk n) (gI n)), .int .i64 (zz (gOk n) (gS n))], .bool (gOk n)]) ∧ Below W.heap.size W w' := fun W => specStampGet_any n W
        have HG2 := hide hG2
        have HI : Hid (gOk n = true → stI (zz (gOk n) (gY n)) (zz (gOk n) (gM n)) (zz (gOk n) (gD n)) (zz (gOk n) (gH n)) (zz (gOk n) (gI n)) (zz (gOk n) (gS n)) = n) := fun k => by
          simp only [zz, k, if_true]
          exact get_stN k
        clear hG2
        generalize zz (gOk n) (gY n) = fy at *
        generalize zz (gOk n) (gM n) = fm at *
        generalize zz (gOk n) (gD n) = fd at *
        generalize zz (gOk n) (gH n) = fh at *
        generalize zz (gOk n) (gI n) = fi at *
        generalize zz (gOk n) (gS n) = fs at *
        generalize gOk n = fk at *
        have E1 := hide (six_alloc y2 fy fm fd fh fi fs 25)
        have C2 := hide ((bnext (unhide C1) hb2).alloc (bnext (unhide C1) hb2).size (.cells #[.int .i64 fy, .int .i64 fm, .int .i64 fd, .int .i64 fh, .int .i64 fi, .int .i64 fs] 25))
        clear hb2 C1
        go_wp2_with fail
        refine (unhide HG2 _).mono ?_
        rintro e y3 ⟨rfl, hb3⟩
        have E2 := hide ((unhide E1).later hb3 (unhide E1).2.2)
        have C3 := hide (bnext (unhide C2) hb3)
        clear hb3 E1 C2 HG2
        obtain ⟨⟨i0, i1, i2, i3, i4, i5⟩, _, hlt3⟩ := unhide E2
        cases fk
        · go_wp2_with fail
          go_ret
          exact ⟨rfl, (unhide C3).alloc (unhide C3).size _⟩
        · have hI := unhide HI rfl
          go_wp2_with fail
          refine (implStampPut_any fy fm fd fh fi fs _).mono ?_
          rintro e y4 ⟨rfl, hb4⟩
          rw [hI]
          go_wp2
          go_ret
          exact ⟨ret_bool (by simp), bnext ((unhide C3).alloc (unhide C3).size _) hb4⟩
    · go_enter Try.func6, Try.ntmps6
      go_wp2
      go_ret
      exact ⟨rfl, Below.refl _ _⟩
  · go_enter Try.func6, Try.ntmps6
    go_wp2
    go_ret
    exact ⟨rfl, Below.refl _ _⟩

end Go.Proofs.Ythokkljiccgpiaa
