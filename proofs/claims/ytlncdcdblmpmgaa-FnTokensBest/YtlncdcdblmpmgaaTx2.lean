/- The walk of the exact statement of TokensOf, over this seat's program. -/
import Derived.Test.YtlncdcdblmpmgaaTo5
import Derived.Test.YtlncdcdblmpmgaaTk2
namespace Go.Proofs.Ytlncdcdblmpmgaa
open Go.RowKit

theorem toksOf_len (L : List UInt8) : (toksOf L).length ≤ 300 := by
  unfold toksOf
  split
  · have := toksP_len L L.length 0 (by omega); omega
  · simp

theorem implTokensOf_any (s : ByteArray) (w : World) (hs : s.size ≤ 1048576) :
    Calls Try.prog 25 #[.string s] w fun e w' => ∃ v, e = .returned v ∧ KOwn w' w.heap.size v (toksOf s.data.toList) ∧ Below w.heap.size w w' := by
  have hsI : (s.size : Int) ≤ 1048576 := by omega
  by_cases h3 : s.size ≤ 300
  · have e : toksOf s.data.toList = toksP s.data.toList 0 := by unfold toksOf; rw [if_pos (by rw [str_len]; exact h3)]
    rw [e]
    exact implToks_any s w h3
  · have hI : (300 : Int) < (s.size : Int) := by omega
    have e : Hid (toksOf s.data.toList = []) := by show _ = _; unfold toksOf; rw [if_neg (by rw [str_len]; exact h3)]
    clear hs h3
    go_enter Try.func25, Try.ntmps25
    go_wp2
    go_ret
    exact ⟨_, rfl, by rw [unhide e]; exact KOwn.nil _ _, Below.refl _ _⟩

set_option maxHeartbeats 1600000 in
theorem exTokensOf_walk (s : ByteArray) (hs : s.size ≤ maxLen) (w : World) :
    Calls Try.prog 6 #[.string s] w fun e w' => e = .returned (.bool true) ∧ Below w.heap.size w w' := by
  unfold maxLen at hs
  by_cases hl : (s.size : Int) ≤ 1048576
  · have hspec := hide (fun W => specTokensOf_any s W (by omega))
    have himpl := hide (fun W => implTokensOf_any s W (by omega))
    have hlen := toksOf_len s.data.toList
    generalize toksOf s.data.toList = R at *
    obtain ⟨m, hm⟩ : ∃ m, R.length = m := ⟨_, rfl⟩
    have HR := hide hm
    have HM : Hid (m ≤ 2000000) := by show m ≤ 2000000; omega
    have hmI : (m : Int) ≤ 300 := by omega
    clear hs hlen hm
    go_enter Try.func6, Try.ntmps6
    go_wp2_with fail
    refine (unhide hspec _).mono ?_
    rintro e x1 ⟨v1, rfl, hw1, hb1⟩
    obtain ⟨wa, wc, rfl⟩ := hw1.formN (unhide HR)
    go_wp2_with fail
    refine (unhide himpl _).mono ?_
    rintro e x2 ⟨v2, rfl, hg2, hb2⟩
    obtain ⟨ga, gc, rfl⟩ := hg2.formN (unhide HR)
    have hw2 := hw1.later hb2 (Nat.le_refl _)
    go_wp2_with fail
    refine (eqTokenS_same _ _ _ _ m R _ (unhide HR) (hg2.rowN (unhide HR)) (hw2.rowN (unhide HR)) (unhide HM)).mono ?_
    rintro e x3 ⟨rfl, hb3⟩
    have hg3 := hg2.later hb3 (Nat.le_refl _)
    have h13 := bnext hb2 hb3
    clear hg2 hw2 hb2 hb3
    go_wp2_with fail
    refine (markTokenS_any _ _ m x1.heap.size R _ (unhide HR) hg3 (unhide HM)).mono ?_
    rintro e x4 ⟨rfl, hg4, hb4, _⟩
    have h14 := h13.trans hb4
    clear hg3 h13 hb4
    go_wp2_with fail
    refine (heldTokenS_any _ _ m _ (hg4.rowN (upsK_len m)) (unhide HM)).mono ?_
    rintro e x5 ⟨rfl, hb5⟩
    have hg5 := hg4.later hb5 (Nat.le_refl _)
    have h15 := bnext h14 hb5
    clear hg4 h14 hb5
    go_wp2_with fail
    refine (unhide himpl _).mono ?_
    rintro e x6 ⟨v6, rfl, hh6, hb6⟩
    obtain ⟨ha, hc, rfl⟩ := hh6.formN (unhide HR)
    have hg6 := hg5.later hb6 (Nat.le_refl _)
    have h16 := bnext h15 hb6
    have hw6 := hw1.later h16 (Nat.le_refl _)
    clear hg5 h15 hb6
    go_wp2_with fail
    refine (eqTokenS_same _ _ _ _ m R _ (unhide HR) (hh6.rowN (unhide HR)) (hw6.rowN (unhide HR)) (unhide HM)).mono ?_
    rintro e x7 ⟨rfl, hb7⟩
    have hg7 := hg6.later hb7 (Nat.le_refl _)
    have h17 := bnext h16 hb7
    clear hg6 h16 hb7 hh6 hw6
    go_wp2_with fail
    refine (heldTokenS_any _ _ m _ (hg7.rowN (upsK_len m)) (unhide HM)).mono ?_
    rintro e x8 ⟨rfl, hb8⟩
    go_wp2
    go_ret
    exact ⟨rfl, bnext hb1 (bnext h17 hb8)⟩
  · have hlI : (1048576 : Int) < (s.size : Int) := by omega
    go_enter Try.func6, Try.ntmps6
    go_wp2
    go_ret
    exact ⟨rfl, Below.refl _ _⟩

end Go.Proofs.Ytlncdcdblmpmgaa
