/- The program's heap of groups: what rises and what sinks. -/
import Derived.Test.YtkkhaleiehnihaaHp2
namespace Go.Proofs.Ytkkhaleiehnihaa
open Go.RowKit Corb

theorem methSize (a : Addr) (w : World) : (method 180 40 (.pointer (some a)) "loop.example/corbel/impl.size").run Try.prog w = .ok (38, .pointer (some a)) w := by kernel_rfl
theorem methBefore (a : Addr) (w : World) : (method 180 40 (.pointer (some a)) "loop.example/corbel/impl.before").run Try.prog w = .ok (63, .pointer (some a)) w := by kernel_rfl
theorem methSwap (a : Addr) (w : World) : (method 180 40 (.pointer (some a)) "loop.example/corbel/impl.swap").run Try.prog w = .ok (44, .pointer (some a)) w := by kernel_rfl

theorem Heap.later {w w' : World} {b base : Nat} {v : Value} {L : List Grp} (h : Heap w b base v L) (hb : Below w.heap.size w w') : Heap w' b base v L :=
  ⟨(hb.block b h.lt).trans h.1, h.2.later hb (Nat.le_refl _)⟩

set_option maxHeartbeats 1600000 in
theorem heapRise_any (b g n cap p : Nat) (L : List Grp) (w : World) (hS : Syms w (b + 1) L) (hn : L.length = n) (hm : n ≤ 300) (h : Heap w b (b + 1) (.slice (some ⟨g, 0, none⟩) n cap) L) (hp : p < n) (hu : UpI L p) :
    Calls Try.prog 47 #[.iface 40 (.pointer (some ⟨b, 0, none⟩)), .int .i64 (p : Nat)] w fun e w' => e = .returned (.tuple #[]) ∧ ∃ M : List Grp, M.Perm L ∧ HP M ∧ Heap w' b (b + 1) (.slice (some ⟨g, 0, none⟩) n cap) M ∧ Below b w w' ∧ KeepG g w w' := by
  have m1 := methBefore ⟨b, 0, none⟩
  have m2 := methSwap ⟨b, 0, none⟩
  have hmI : (n : Int) ≤ 300 := by omega
  have HS := hide hS
  have HN := hide (And.intro hn hm)
  have H0 := hide (And.intro h (And.intro hp hu))
  clear hS hn hm h hp hu
  go_enter Try.func47, Try.ntmps47
  go_wp2_with fail
  go_loopw [1] (fun p wr => ∃ (k : Nat) (M : List Grp), p = .int .i64 k ∧ k < n ∧ M.Perm L ∧ UpI M k ∧ Heap wr b (b + 1) (.slice (some ⟨g, 0, none⟩) n cap) M ∧ Below b w wr ∧ KeepG g w wr) (fun p _ => (intOf p).toNat)
  case atStart => exact ⟨p, L, rfl, (unhide H0).2.1, List.Perm.refl _, (unhide H0).2.2, (unhide H0).1, Below.refl _ _, KeepG.refl _ _⟩
  case round =>
    obtain ⟨k, M, rfl, hk, hM, hu, hh, hbel, hke⟩ := hrel
    have hkI : (k : Int) < (n : Int) := by omega
    have hMn : M.length = n := hM.length_eq.trans (unhide HN).1
    have HQ := hide (And.intro hk (And.intro hM (And.intro hu (And.intro hh (And.intro hbel (And.intro hke hMn))))))
    by_cases h0 : k = 0
    · subst h0
      clear hk hM hu hh hbel hke hMn
      go_wp2
      go_end0
      obtain ⟨hk, hM, hu, hh, hbel, hke, hMn⟩ := unhide HQ
      exact ⟨rfl, M, hM, up_end hu (.inl rfl), hh, hbel, hke⟩
    · have hsy : Syms wr (b + 1) M := (hke.syms (unhide HS)).perm hM
      obtain ⟨q, hq⟩ : ∃ q, q = (k - 1) / 2 := ⟨_, rfl⟩
      have hqI : ((k : Int) - 1) / 2 = (q : Int) := by omega
      have hq0 : (q : Int) < (n : Int) := by omega
      have h1I : (1 : Int) ≤ (k : Int) := by omega
      have HB := hide (before_any b (b + 1) (b + 1) g n cap k q M wr hsy hMn (unhide HN).2 hh hk (by omega))
      have HQQ := hide hq
      clear hk hM hu hh hbel hke hMn hq
      cases hl : lessG (M.getD k g0) (M.getD q g0)
      · rw [hl] at HB
        have HL := hide hl
        clear hl
        go_wp2_with fail
        refine (unhide HB).mono ?_
        rintro e x1 ⟨rfl, hb1⟩
        go_wp2
        go_end0
        obtain ⟨hk, hM, hu, hh, hbel, hke, hMn⟩ := unhide HQ
        exact ⟨rfl, M, hM, up_end hu (.inr (by rw [← unhide HQQ]; exact unhide HL)), hh.later hb1, hbel.trans (hb1.mono (Nat.le_of_lt (hh.lt))), hke.trans (KeepG.below hb1)⟩
      · rw [hl] at HB
        have HL := hide hl
        clear hl
        go_wp2_with fail
        refine (unhide HB).mono ?_
        rintro e x1 ⟨rfl, hb1⟩
        have HW : Hid (Calls Try.prog 44 #[.pointer (some ⟨b, 0, none⟩), .int .i64 (k : Nat), .int .i64 (q : Nat)] x1 fun e w' => e = .returned (.tuple #[]) ∧ Heap w' b (b + 1) (.slice (some ⟨g, 0, none⟩) n cap) (swapG M k q) ∧ Below b x1 w' ∧ KeepG g x1 w') := by
          obtain ⟨hk, hM, hu, hh, hbel, hke, hMn⟩ := unhide HQ
          exact swap_any b (b + 1) (b + 1) g n cap k q M x1 (((hke.trans (KeepG.below hb1)).syms (unhide HS)).perm hM) hMn (unhide HN).2 (hh.later hb1) (Nat.lt_succ_self _) hk (by omega)
        go_wp2_with fail
        refine (unhide HW).mono ?_
        rintro e x2 ⟨rfl, hh2, hb2, hk2⟩
        go_wp2
        go_roundw
        case rel =>
          obtain ⟨hk, hM, hu, hh, hbel, hke, hMn⟩ := unhide HQ
          have hq := unhide HQQ
          refine ⟨q, swapG M k q, by first | rfl | go_num, by omega, (swapG_perm (by omega) (by omega)).trans hM, ?_, hh2, (hbel.trans (hb1.mono (Nat.le_of_lt (hh.lt)))).trans hb2, (hke.trans (KeepG.below hb1)).trans hk2⟩
          subst hq
          exact up_step hu (by omega) (by omega) (unhide HL)
        case measure =>
          have hq := unhide HQQ
          simp [intOf]; omega

end Go.Proofs.Ytkkhaleiehnihaa
