/- The program's heap of groups: what sinks. -/
import Derived.Test.YtkkhaleiehnihaaHp3
namespace Go.Proofs.Ytkkhaleiehnihaa
open Go.RowKit Corb

/-- The least of the two below a place. -/
theorem two_min {L : List Grp} {k c : Nat} (hc : (c = 2 * k + 1 ∧ (L.length ≤ 2 * k + 2 ∨ lessG (L.getD (2 * k + 2) g0) (L.getD (2 * k + 1) g0) = false)) ∨ (c = 2 * k + 2 ∧ lessG (L.getD (2 * k + 2) g0) (L.getD (2 * k + 1) g0) = true)) :
    ∀ i, 0 < i → i < L.length → (i - 1) / 2 = k → lessG (L.getD i g0) (L.getD c g0) = false := by
  intro i i0 hi hp
  have hi2 : i = 2 * k + 1 ∨ i = 2 * k + 2 := by omega
  rcases hc with ⟨rfl, h | h⟩ | ⟨rfl, h⟩
  · rcases hi2 with rfl | rfl
    · exact less_irrefl _
    · omega
  · rcases hi2 with rfl | rfl
    · exact less_irrefl _
    · exact h
  · rcases hi2 with rfl | rfl
    · exact less_asymm h
    · exact less_irrefl _

set_option maxHeartbeats 3200000 in
theorem heapSink_any (b g n cap p : Nat) (L : List Grp) (w : World) (hS : Syms w (b + 1) L) (hn : L.length = n) (hm : n ≤ 300) (h : Heap w b (b + 1) (.slice (some ⟨g, 0, none⟩) n cap) L) (hp : p ≤ n) (hu : DnI L p) :
    Calls Try.prog 45 #[.iface 40 (.pointer (some ⟨b, 0, none⟩)), .int .i64 (p : Nat)] w fun e w' => e = .returned (.tuple #[]) ∧ ∃ M : List Grp, M.Perm L ∧ HP M ∧ Heap w' b (b + 1) (.slice (some ⟨g, 0, none⟩) n cap) M ∧ Below b w w' ∧ KeepG g w w' := by
  have m1 := methBefore ⟨b, 0, none⟩
  have m2 := methSwap ⟨b, 0, none⟩
  have m3 := methSize ⟨b, 0, none⟩
  have hmI : (n : Int) ≤ 300 := by omega
  have HS := hide hS
  have HN := hide (And.intro hn hm)
  have H0 := hide (And.intro h (And.intro hp hu))
  clear hS hn hm h hp hu
  go_enter Try.func45, Try.ntmps45
  go_wp2_with fail
  go_loopw [1, 4] (fun p _ wr => ∃ (k : Nat) (M : List Grp), p = .int .i64 k ∧ k ≤ n ∧ M.Perm L ∧ DnI M k ∧ Heap wr b (b + 1) (.slice (some ⟨g, 0, none⟩) n cap) M ∧ Below b w wr ∧ KeepG g w wr) (fun p _ _ => n - (intOf p).toNat)
  case atStart => exact ⟨p, L, rfl, (unhide H0).2.1, List.Perm.refl _, (unhide H0).2.2, (unhide H0).1, Below.refl _ _, KeepG.refl _ _⟩
  case round =>
    obtain ⟨k, M, rfl, hk, hM, hu, hh, hbel, hke⟩ := hrel
    have hkI : (k : Int) ≤ (n : Int) := by omega
    have hMn : M.length = n := hM.length_eq.trans (unhide HN).1
    have HQ := hide (And.intro hk (And.intro hM (And.intro hu (And.intro hh (And.intro hbel (And.intro hke hMn))))))
    have HZ := hide (heapSize_any b (b + 1) n cap _ M wr hh)
    have hsy : Syms wr (b + 1) M := (hke.syms (unhide HS)).perm hM
    obtain ⟨c1, hc1⟩ : ∃ q, q = 2 * k + 1 := ⟨_, rfl⟩
    have hc1I : 2 * (k : Int) + 1 = (c1 : Int) := by omega
    have HC1 := hide hc1
    by_cases h1 : c1 < n
    · have h1I : (c1 : Int) < (n : Int) := by omega
      obtain ⟨c2, hc2⟩ : ∃ q, q = 2 * k + 2 := ⟨_, rfl⟩
      have hc2I : (c1 : Int) + 1 = (c2 : Int) := by omega
      have HC2 := hide hc2
      by_cases h2 : c2 < n
      · have h2I : (c2 : Int) < (n : Int) := by omega
        have HB := hide (before_any b (b + 1) (b + 1) g n cap c2 c1 M wr hsy hMn (unhide HN).2 hh h2 h1)
        clear hk hM hu hh hbel hke hMn hc1 hc2 h1 h2 hsy
        cases hl : lessG (M.getD c2 g0) (M.getD c1 g0)
        · rw [hl] at HB
          have HL := hide hl
          clear hl
          go_wp2_with fail
          refine (unhide HZ).mono ?_
          rintro e y1 ⟨rfl, hy1⟩
          rw [hy1]
          clear hy1 y1
          go_wp2_with fail
          refine (unhide HZ).mono ?_
          rintro e y1 ⟨rfl, hy1⟩
          rw [hy1]
          clear hy1 y1
          go_wp2_with fail
          refine (unhide HB).mono ?_
          rintro e x1 ⟨rfl, hb1⟩
          have HX : Hid (Heap x1 b (b + 1) (.slice (some ⟨g, 0, none⟩) n cap) M ∧ Below b w x1 ∧ KeepG g w x1 ∧ c1 < n ∧ 0 < c1 ∧ (c1 - 1) / 2 = k ∧ (∀ i, 0 < i → i < M.length → (i - 1) / 2 = k → lessG (M.getD i g0) (M.getD c1 g0) = false)) := by
            obtain ⟨hk, hM, hu, hh, hbel, hke, hMn⟩ := unhide HQ
            refine ⟨(hh.later hb1), (hbel.trans (hb1.mono (Nat.le_of_lt (hh.lt)))), (hke.trans (KeepG.below hb1)), by omega, ?_, ?_, two_min (k := k) (.inl ⟨unhide HC1, .inr (by rw [← unhide HC1, ← unhide HC2]; exact unhide HL)⟩)⟩
            · have := unhide HC1; omega
            · have := unhide HC1; omega
          have HB2 : Hid (Calls Try.prog 63 #[.pointer (some ⟨b, 0, none⟩), .int .i64 (c1 : Nat), .int .i64 (k : Nat)] x1 fun e w' => e = .returned (.bool (lessG (M.getD c1 g0) (M.getD k g0))) ∧ Below (x1).heap.size x1 w') := by
            obtain ⟨hk, hM, hu, hh, hbel, hke, hMn⟩ := unhide HQ
            obtain ⟨xh, xb, xk, xc, xc0, xp, xm⟩ := unhide HX
            exact before_any b (b + 1) (b + 1) g n cap c1 k M x1 ((xk.syms (unhide HS)).perm hM) hMn (unhide HN).2 xh xc (by omega)
          cases hl2 : lessG (M.getD c1 g0) (M.getD k g0)
          · rw [hl2] at HB2
            have HL2 := hide hl2
            clear hl2
            go_wp2_with fail
            refine (unhide HB2).mono ?_
            rintro e x2 ⟨rfl, hb2⟩
            go_wp2
            refine bodyPost_ret (results_none rfl _ _ _) rfl ?_
            obtain ⟨hk, hM, hu, hh, hbel, hke, hMn⟩ := unhide HQ
            obtain ⟨xh, xb, xk, xc, xc0, xp, xm⟩ := unhide HX
            exact ⟨rfl, M, hM, dn_end hu (fun c c0 hc hp => less_ntrans (xm c c0 hc hp) (unhide HL2)), xh.later hb2, xb.trans (hb2.mono (Nat.le_of_lt (xh.lt))), xk.trans (KeepG.below hb2)⟩
          · rw [hl2] at HB2
            have HL2 := hide hl2
            clear hl2
            go_wp2_with fail
            refine (unhide HB2).mono ?_
            rintro e x2 ⟨rfl, hb2⟩
            have HW : Hid (Calls Try.prog 44 #[.pointer (some ⟨b, 0, none⟩), .int .i64 (c1 : Nat), .int .i64 (k : Nat)] x2 fun e w' => e = .returned (.tuple #[]) ∧ Heap w' b (b + 1) (.slice (some ⟨g, 0, none⟩) n cap) (swapG M c1 k) ∧ Below b x2 w' ∧ KeepG g x2 w') := by
              obtain ⟨hk, hM, hu, hh, hbel, hke, hMn⟩ := unhide HQ
              obtain ⟨xh, xb, xk, xc, xc0, xp, xm⟩ := unhide HX
              exact swap_any b (b + 1) (b + 1) g n cap c1 k M x2 (((xk.trans (KeepG.below hb2)).syms (unhide HS)).perm hM) hMn (unhide HN).2 (xh.later hb2) (Nat.lt_succ_self _) xc (by omega)
            go_wp2_with fail
            refine (unhide HW).mono ?_
            rintro e x3 ⟨rfl, hh3, hb3, hk3⟩
            go_wp2
            go_roundw
            case rel =>
              obtain ⟨hk, hM, hu, hh, hbel, hke, hMn⟩ := unhide HQ
              obtain ⟨xh, xb, xk, xc, xc0, xp, xm⟩ := unhide HX
              exact ⟨c1, swapG M c1 k, rfl, by omega, (swapG_perm (by omega) (by omega)).trans hM, dn_step hu (by omega) (by omega) xc0 xp xm (unhide HL2), hh3, (xb.trans (hb2.mono (Nat.le_of_lt (xh.lt)))).trans hb3, (xk.trans (KeepG.below hb2)).trans hk3⟩
            case measure =>
              obtain ⟨xh, xb, xk, xc, xc0, xp, xm⟩ := unhide HX
              simp [intOf]; omega
        · rw [hl] at HB
          have HL := hide hl
          clear hl
          go_wp2_with fail
          refine (unhide HZ).mono ?_
          rintro e y1 ⟨rfl, hy1⟩
          rw [hy1]
          clear hy1 y1
          go_wp2_with fail
          refine (unhide HZ).mono ?_
          rintro e y1 ⟨rfl, hy1⟩
          rw [hy1]
          clear hy1 y1
          go_wp2_with fail
          refine (unhide HB).mono ?_
          rintro e x1 ⟨rfl, hb1⟩
          have HX : Hid (Heap x1 b (b + 1) (.slice (some ⟨g, 0, none⟩) n cap) M ∧ Below b w x1 ∧ KeepG g w x1 ∧ c2 < n ∧ 0 < c2 ∧ (c2 - 1) / 2 = k ∧ (∀ i, 0 < i → i < M.length → (i - 1) / 2 = k → lessG (M.getD i g0) (M.getD c2 g0) = false)) := by
            obtain ⟨hk, hM, hu, hh, hbel, hke, hMn⟩ := unhide HQ
            refine ⟨(hh.later hb1), (hbel.trans (hb1.mono (Nat.le_of_lt (hh.lt)))), (hke.trans (KeepG.below hb1)), by omega, ?_, ?_, two_min (k := k) (.inr ⟨unhide HC2, by rw [← unhide HC1, ← unhide HC2]; exact unhide HL⟩)⟩
            · have := unhide HC2; omega
            · have := unhide HC2; omega
          have HB2 : Hid (Calls Try.prog 63 #[.pointer (some ⟨b, 0, none⟩), .int .i64 (c2 : Nat), .int .i64 (k : Nat)] x1 fun e w' => e = .returned (.bool (lessG (M.getD c2 g0) (M.getD k g0))) ∧ Below (x1).heap.size x1 w') := by
            obtain ⟨hk, hM, hu, hh, hbel, hke, hMn⟩ := unhide HQ
            obtain ⟨xh, xb, xk, xc, xc0, xp, xm⟩ := unhide HX
            exact before_any b (b + 1) (b + 1) g n cap c2 k M x1 ((xk.syms (unhide HS)).perm hM) hMn (unhide HN).2 xh xc (by omega)
          cases hl2 : lessG (M.getD c2 g0) (M.getD k g0)
          · rw [hl2] at HB2
            have HL2 := hide hl2
            clear hl2
            go_wp2_with fail
            refine (unhide HB2).mono ?_
            rintro e x2 ⟨rfl, hb2⟩
            go_wp2
            refine bodyPost_ret (results_none rfl _ _ _) rfl ?_
            obtain ⟨hk, hM, hu, hh, hbel, hke, hMn⟩ := unhide HQ
            obtain ⟨xh, xb, xk, xc, xc0, xp, xm⟩ := unhide HX
            exact ⟨rfl, M, hM, dn_end hu (fun c c0 hc hp => less_ntrans (xm c c0 hc hp) (unhide HL2)), xh.later hb2, xb.trans (hb2.mono (Nat.le_of_lt (xh.lt))), xk.trans (KeepG.below hb2)⟩
          · rw [hl2] at HB2
            have HL2 := hide hl2
            clear hl2
            go_wp2_with fail
            refine (unhide HB2).mono ?_
            rintro e x2 ⟨rfl, hb2⟩
            have HW : Hid (Calls Try.prog 44 #[.pointer (some ⟨b, 0, none⟩), .int .i64 (c2 : Nat), .int .i64 (k : Nat)] x2 fun e w' => e = .returned (.tuple #[]) ∧ Heap w' b (b + 1) (.slice (some ⟨g, 0, none⟩) n cap) (swapG M c2 k) ∧ Below b x2 w' ∧ KeepG g x2 w') := by
              obtain ⟨hk, hM, hu, hh, hbel, hke, hMn⟩ := unhide HQ
              obtain ⟨xh, xb, xk, xc, xc0, xp, xm⟩ := unhide HX
              exact swap_any b (b + 1) (b + 1) g n cap c2 k M x2 (((xk.trans (KeepG.below hb2)).syms (unhide HS)).perm hM) hMn (unhide HN).2 (xh.later hb2) (Nat.lt_succ_self _) xc (by omega)
            go_wp2_with fail
            refine (unhide HW).mono ?_
            rintro e x3 ⟨rfl, hh3, hb3, hk3⟩
            go_wp2
            go_roundw
            case rel =>
              obtain ⟨hk, hM, hu, hh, hbel, hke, hMn⟩ := unhide HQ
              obtain ⟨xh, xb, xk, xc, xc0, xp, xm⟩ := unhide HX
              exact ⟨c2, swapG M c2 k, rfl, by omega, (swapG_perm (by omega) (by omega)).trans hM, dn_step hu (by omega) (by omega) xc0 xp xm (unhide HL2), hh3, (xb.trans (hb2.mono (Nat.le_of_lt (xh.lt)))).trans hb3, (xk.trans (KeepG.below hb2)).trans hk3⟩
            case measure =>
              obtain ⟨xh, xb, xk, xc, xc0, xp, xm⟩ := unhide HX
              simp [intOf]; omega
      · have h2I : ¬ (c2 : Int) < (n : Int) := by omega
        have hnn : Hid (n ≤ c2) := by show n ≤ c2; omega
        clear hk hM hu hh hbel hke hMn hc1 hc2 h1 h2 hsy
        go_wp2_with fail
        refine (unhide HZ).mono ?_
        rintro e y1 ⟨rfl, hy1⟩
        rw [hy1]
        clear hy1 y1
        go_wp2_with fail
        refine (unhide HZ).mono ?_
        rintro e y1 ⟨rfl, hy1⟩
        rw [hy1]
        clear hy1 y1
        have HX : Hid (Heap wr b (b + 1) (.slice (some ⟨g, 0, none⟩) n cap) M ∧ Below b w wr ∧ KeepG g w wr ∧ c1 < n ∧ 0 < c1 ∧ (c1 - 1) / 2 = k ∧ (∀ i, 0 < i → i < M.length → (i - 1) / 2 = k → lessG (M.getD i g0) (M.getD c1 g0) = false)) := by
          obtain ⟨hk, hM, hu, hh, hbel, hke, hMn⟩ := unhide HQ
          refine ⟨hh, hbel, hke, by omega, ?_, ?_, two_min (k := k) (.inl ⟨unhide HC1, .inl (by rw [hMn, ← unhide HC2]; exact unhide hnn)⟩)⟩
          · have := unhide HC1; omega
          · have := unhide HC1; omega
        have HB2 : Hid (Calls Try.prog 63 #[.pointer (some ⟨b, 0, none⟩), .int .i64 (c1 : Nat), .int .i64 (k : Nat)] wr fun e w' => e = .returned (.bool (lessG (M.getD c1 g0) (M.getD k g0))) ∧ Below (wr).heap.size wr w') := by
          obtain ⟨hk, hM, hu, hh, hbel, hke, hMn⟩ := unhide HQ
          obtain ⟨xh, xb, xk, xc, xc0, xp, xm⟩ := unhide HX
          exact before_any b (b + 1) (b + 1) g n cap c1 k M wr ((xk.syms (unhide HS)).perm hM) hMn (unhide HN).2 xh xc (by omega)
        cases hl2 : lessG (M.getD c1 g0) (M.getD k g0)
        · rw [hl2] at HB2
          have HL2 := hide hl2
          clear hl2
          go_wp2_with fail
          refine (unhide HB2).mono ?_
          rintro e x2 ⟨rfl, hb2⟩
          go_wp2
          refine bodyPost_ret (results_none rfl _ _ _) rfl ?_
          obtain ⟨hk, hM, hu, hh, hbel, hke, hMn⟩ := unhide HQ
          obtain ⟨xh, xb, xk, xc, xc0, xp, xm⟩ := unhide HX
          exact ⟨rfl, M, hM, dn_end hu (fun c c0 hc hp => less_ntrans (xm c c0 hc hp) (unhide HL2)), xh.later hb2, xb.trans (hb2.mono (Nat.le_of_lt (xh.lt))), xk.trans (KeepG.below hb2)⟩
        · rw [hl2] at HB2
          have HL2 := hide hl2
          clear hl2
          go_wp2_with fail
          refine (unhide HB2).mono ?_
          rintro e x2 ⟨rfl, hb2⟩
          have HW : Hid (Calls Try.prog 44 #[.pointer (some ⟨b, 0, none⟩), .int .i64 (c1 : Nat), .int .i64 (k : Nat)] x2 fun e w' => e = .returned (.tuple #[]) ∧ Heap w' b (b + 1) (.slice (some ⟨g, 0, none⟩) n cap) (swapG M c1 k) ∧ Below b x2 w' ∧ KeepG g x2 w') := by
            obtain ⟨hk, hM, hu, hh, hbel, hke, hMn⟩ := unhide HQ
            obtain ⟨xh, xb, xk, xc, xc0, xp, xm⟩ := unhide HX
            exact swap_any b (b + 1) (b + 1) g n cap c1 k M x2 (((xk.trans (KeepG.below hb2)).syms (unhide HS)).perm hM) hMn (unhide HN).2 (xh.later hb2) (Nat.lt_succ_self _) xc (by omega)
          go_wp2_with fail
          refine (unhide HW).mono ?_
          rintro e x3 ⟨rfl, hh3, hb3, hk3⟩
          go_wp2
          go_roundw
          case rel =>
            obtain ⟨hk, hM, hu, hh, hbel, hke, hMn⟩ := unhide HQ
            obtain ⟨xh, xb, xk, xc, xc0, xp, xm⟩ := unhide HX
            exact ⟨c1, swapG M c1 k, rfl, by omega, (swapG_perm (by omega) (by omega)).trans hM, dn_step hu (by omega) (by omega) xc0 xp xm (unhide HL2), hh3, (xb.trans (hb2.mono (Nat.le_of_lt (xh.lt)))).trans hb3, (xk.trans (KeepG.below hb2)).trans hk3⟩
          case measure =>
            obtain ⟨xh, xb, xk, xc, xc0, xp, xm⟩ := unhide HX
            simp [intOf]; omega
    · have h1I : ¬ (c1 : Int) < (n : Int) := by omega
      have hnn : Hid (n ≤ c1) := by show n ≤ c1; omega
      clear hk hM hu hh hbel hke hMn hc1 h1 hsy
      go_wp2_with fail
      refine (unhide HZ).mono ?_
      rintro e y1 ⟨rfl, hy1⟩
      rw [hy1]
      clear hy1 y1
      go_wp2
      go_end0
      obtain ⟨hk, hM, hu, hh, hbel, hke, hMn⟩ := unhide HQ
      have hc1 := unhide HC1
      have hnn' := unhide hnn
      exact ⟨rfl, M, hM, dn_end hu (fun c c0 hc hp => by omega), hh, hbel, hke⟩

end Go.Proofs.Ytkkhaleiehnihaa
