/- The draw of a number, and the walk of the law of stamps read back. -/
import Derived.Test.YthokkljiccgpiaaSl2
namespace Go.Proofs.Ythokkljiccgpiaa
open Go.RowKit

theorem put_bd {y mo d h mi s : Int} (k : DrS y mo d h mi s) : -1099511627776 ≤ (((((y - 1980) * 16 + mo) * 32 + d) * 32 + h) * 64 + mi) * 32 + Int.tdiv s 2 ∧ (((((y - 1980) * 16 + mo) * 32 + d) * 32 + h) * 64 + mi) * 32 + Int.tdiv s 2 ≤ 1099511627776 := by
  obtain ⟨⟨a0, a1⟩, ⟨b0, b1⟩, ⟨c0, c1⟩, ⟨d0, d1⟩, ⟨e0, e1⟩, f0, f1⟩ := k
  have t0 : -50 ≤ Int.tdiv s 2 := by have := Int.tdiv_le_tdiv (c := 2) (by omega) (show -100 ≤ s by omega); simpa using this
  have t1 : Int.tdiv s 2 ≤ 50 := by have := Int.tdiv_le_tdiv (c := 2) (by omega) (show s ≤ 100 by omega); simpa using this
  omega

set_option maxHeartbeats 1600000 in
theorem drawStampGet_any (a : Option Addr) (len cap : Nat) (z : Nat → Int) (w : World) (h : Src w a len z) (hc : len ≤ cap) (hm : len ≤ maxLen) :
    Calls Try.prog 19 #[.slice a len cap] w fun e w' => ∃ n : Int, e = .returned (.int .i64 n) ∧ (-1099511627776 ≤ n ∧ n ≤ 1099511627776) ∧ Below w.heap.size w w' := by
  go_enter Try.func19, Try.ntmps19
  go_wp2_with fail
  refine (l1Open_any a len cap z _ h hc hm).mono ?_
  rintro e w1 ⟨rfl, hrd, hbel, hsz⟩
  have R1 := hide hrd
  have B1 := hide hbel
  clear hrd hbel hsz h
  go_wp2_with fail
  refine (l11Stamp_any w.heap.size w.heap.size 0 _ (unhide R1) (by omega)).mono ?_
  rintro e w2 ⟨y, mo, d, h, mi, s, rfl, ds, r2, k2⟩
  have R2 := hide r2
  have B2 := hide ((unhide B1).trans (k2.below (Nat.le_refl _)))
  have hp1 := put_bd ds
  have D2 := hide ds
  clear r2 k2 ds R1 B1
  go_wp2_with fail
  refine (l6Put_any y mo d h mi s _ (by obtain ⟨⟨a0, a1⟩, ⟨b0, b1⟩, ⟨c0, c1⟩, ⟨d0, d1⟩, ⟨e0, e1⟩, f0, f1⟩ := unhide D2; omega)).mono ?_
  rintro e w3 ⟨rfl, hb3⟩
  generalize (((((y - 1980) * 16 + mo) * 32 + d) * 32 + h) * 64 + mi) * 32 + Int.tdiv s 2 = P1 at *
  have R3 := hide ((unhide R2).kept (hb3.mono (unhide R2).lt))
  have B3 := hide (bnext (unhide B2) hb3)
  clear hb3 R2 B2 D2
  obtain ⟨p0, p1⟩ := hp1
  go_wp2_with fail
  refine (l11AnyStamp_any w.heap.size w.heap.size _ _ (unhide R3) (by omega)).mono ?_
  rintro e w4 ⟨y, mo, d, h, mi, s, rfl, ds, r4, k4⟩
  have R4 := hide r4
  have B4 := hide ((unhide B3).trans (k4.below (Nat.le_refl _)))
  have hp2 := put_bd ds
  have D4 := hide ds
  clear r4 k4 ds R3 B3
  go_wp2_with fail
  refine (l6Put_any y mo d h mi s _ (by obtain ⟨⟨a0, a1⟩, ⟨b0, b1⟩, ⟨c0, c1⟩, ⟨d0, d1⟩, ⟨e0, e1⟩, f0, f1⟩ := unhide D4; omega)).mono ?_
  rintro e w5 ⟨rfl, hb5⟩
  generalize (((((y - 1980) * 16 + mo) * 32 + d) * 32 + h) * 64 + mi) * 32 + Int.tdiv s 2 = P2 at *
  have R5 := hide ((unhide R4).kept (hb5.mono (unhide R4).lt))
  have B5 := hide (bnext (unhide B4) hb5)
  clear hb5 R4 B4 D4
  obtain ⟨p2, p3⟩ := hp2
  go_wp2_with fail
  refine (one_kb w.heap.size w.heap.size _ 6 w5.heap.size [P1, P2, 0, -1, 4294967295, 4294967296] 3 w5 rfl rfl (unhide R5) (by omega) (by omega) (by omega)).mono ?_
  rintro e w6 ⟨v, hv, rfl, r6, k6⟩
  have B6 := hide ((unhide B5).trans (k6.below (Nat.le_refl _)))
  have HV : Hid (-1099511627776 ≤ v ∧ v ≤ 1099511627776) := by
    simp only [List.mem_cons, List.not_mem_nil, or_false] at hv
    show _ ∧ _
    rcases hv with rfl | rfl | rfl | rfl | rfl | rfl <;> omega
  clear hv r6 k6
  go_wp2
  go_ret
  exact ⟨v, rfl, unhide HV, unhide B6⟩

theorem stN_get {y mo d h mi s : Int} (k : stOk y mo d h mi s = true) : gOk (stN y mo d h mi s) = true ∧ gY (stN y mo d h mi s) = y ∧ gM (stN y mo d h mi s) = mo ∧ gD (stN y mo d h mi s) = d ∧ gH (stN y mo d h mi s) = h ∧ gI (stN y mo d h mi s) = mi ∧ gS (stN y mo d h mi s) = s := by
  have e : gY (stN y mo d h mi s) = y ∧ gM (stN y mo d h mi s) = mo ∧ gD (stN y mo d h mi s) = d ∧ gH (stN y mo d h mi s) = h ∧ gI (stN y mo d h mi s) = mi ∧ gS (stN y mo d h mi s) = s := by
    obtain ⟨⟨a0, a1⟩, ⟨b0, b1⟩, ⟨c0, _, c1⟩, ⟨d0, d1⟩, ⟨e0, e1⟩, ⟨f0, f1⟩, f2⟩ := st_bd k
    simp only [gY, gM, gD, gH, gI, gS, stN]
    omega
  refine ⟨?_, e⟩
  obtain ⟨e0, e1, e2, e3, e4, e5⟩ := e
  have hb := stN_bd k
  rw [gOk_nn hb.1, e0, e1, e2, e3, e4, e5, k]
theorem get_stN {n : Int} (k : gOk n = true) : stI (gY n) (gM n) (gD n) (gH n) (gI n) (gS n) = n := by
  simp only [gOk, Bool.and_eq_true] at k
  obtain ⟨k1, k2⟩ := k
  obtain ⟨n0, n1⟩ := inB_true.1 k1
  rw [stI, if_pos k2]
  simp only [gY, gM, gD, gH, gI, gS, stN]
  omega
theorem wf_of (n : Int) (h0 : -9223372036854775808 ≤ n) (h1 : n ≤ 9223372036854775807) : (Lit.int .i64 n).wf = true := by
  simp [Lit.wf, IntKind.min, IntKind.max, IntKind.bits, IntKind.signed]; omega

end Go.Proofs.Ythokkljiccgpiaa
