/- The walks of the exact statements of TokensOk, TokensText, TokensLong, over this seat's program. -/
import Derived.Test.YtlncdcdblmpmgaaTi3
namespace Go.Proofs.Ytlncdcdblmpmgaa
open Go.RowKit

set_option maxHeartbeats 1600000 in
theorem exTokensOk_walk (a : Option Addr) (len cap : Nat) (l : List Tk) (w : World) (w0 : KRow w a l ∧ l.length = len ∧ len ≤ maxLen) :
    Calls Try.prog 3 #[.slice a len cap] w fun e w' => e = .returned (.bool true) ∧ Below w.heap.size w w' := by
  obtain ⟨hrow, hn, hm⟩ := w0
  unfold maxLen at hm
  have HZ := hide (szTokenS_any a cap len w (by omega))
  by_cases hl : (len : Int) ≤ 1048576
  · rw [if_pos hl] at HZ
    have hz0 : ¬ (1048576 : Int) - (len : Int) < 0 := by omega
    have Hn := hide hn
    have HL : Hid (len ≤ 1048576) := by show len ≤ 1048576; omega
    clear hn hm
    go_enter Try.func3, Try.ntmps3
    go_wp2_with fail
    refine (unhide HZ).mono ?_
    rintro e y1 ⟨rfl, hy1⟩
    rw [hy1]
    clear hy1 y1
    go_wp2_with fail
    refine (toTokenS_any a cap len l _ (unhide Hn) hrow (unhide HL)).mono ?_
    rintro e x1 ⟨rfl, ht1, hb1⟩
    go_wp2_with fail
    refine (specTokensOk_any _ _ len l _ (unhide Hn) (ht1.rowN (unhide Hn)) (unhide HL)).mono ?_
    rintro e x2 ⟨rfl, hb2⟩
    have hb12 := bnext hb1 hb2
    clear ht1 hb1 hb2
    go_wp2_with fail
    refine (toTokenS_any a cap len l _ (unhide Hn) (hrow.later hb12) (unhide HL)).mono ?_
    rintro e x3 ⟨rfl, hx3, hb3⟩
    go_wp2_with fail
    refine (implTokensOk_any _ _ len l _ (unhide Hn) (hx3.rowN (unhide Hn)) (unhide HL)).mono ?_
    rintro e x4 ⟨rfl, hb4⟩
    have hx4 := hx3.later hb4 (Nat.le_refl _)
    have hb14 := bnext hb12 (bnext hb3 hb4)
    clear hx3 hb3 hb4 hb12
    generalize textB l = B at *
    go_wp2_with fail
    refine (toTokenS_any a cap len l _ (unhide Hn) (hrow.later hb14) (unhide HL)).mono ?_
    rintro e x5 ⟨rfl, hx5, hb5⟩
    have hx45 := hx4.later hb5 (Nat.le_refl _)
    go_wp2_with fail
    refine (eqTokenS_same _ _ _ _ len l _ (unhide Hn) (hx45.rowN (unhide Hn)) (hx5.rowN (unhide Hn)) (by have := unhide HL; omega)).mono ?_
    rintro e x6 ⟨rfl, hb6⟩
    go_wp2
    go_ret
    exact ⟨rfl, bnext hb14 (bnext hb5 hb6)⟩
  · rw [if_neg hl] at HZ
    clear hn hm
    go_enter Try.func3, Try.ntmps3
    go_wp2_with fail
    refine (unhide HZ).mono ?_
    rintro e y1 ⟨rfl, hy1⟩
    rw [hy1]
    clear hy1 y1
    go_wp2
    go_ret
    exact ⟨rfl, Below.refl _ _⟩

set_option maxHeartbeats 1600000 in
theorem exTokensText_walk (a : Option Addr) (len cap : Nat) (l : List Tk) (w : World) (w0 : KRow w a l ∧ l.length = len ∧ len ≤ maxLen) :
    Calls Try.prog 4 #[.slice a len cap] w fun e w' => e = .returned (.bool true) ∧ Below w.heap.size w w' := by
  obtain ⟨hrow, hn, hm⟩ := w0
  unfold maxLen at hm
  have HZ := hide (szTokenS_any a cap len w (by omega))
  by_cases hl : (len : Int) ≤ 1048576
  · rw [if_pos hl] at HZ
    have hz0 : ¬ (1048576 : Int) - (len : Int) < 0 := by omega
    have Hn := hide hn
    have HL : Hid (len ≤ 1048576) := by show len ≤ 1048576; omega
    clear hn hm
    go_enter Try.func4, Try.ntmps4
    go_wp2_with fail
    refine (unhide HZ).mono ?_
    rintro e y1 ⟨rfl, hy1⟩
    rw [hy1]
    clear hy1 y1
    go_wp2_with fail
    refine (toTokenS_any a cap len l _ (unhide Hn) hrow (unhide HL)).mono ?_
    rintro e x1 ⟨rfl, ht1, hb1⟩
    go_wp2_with fail
    refine (specTokensText_any _ _ len l _ (unhide Hn) (ht1.rowN (unhide Hn)) (unhide HL)).mono ?_
    rintro e x2 ⟨rfl, hb2⟩
    have hb12 := bnext hb1 hb2
    clear ht1 hb1 hb2
    go_wp2_with fail
    refine (toTokenS_any a cap len l _ (unhide Hn) (hrow.later hb12) (unhide HL)).mono ?_
    rintro e x3 ⟨rfl, hx3, hb3⟩
    go_wp2_with fail
    refine (implTokensText_any _ _ len l _ (unhide Hn) (hx3.rowN (unhide Hn)) (unhide HL)).mono ?_
    rintro e x4 ⟨rfl, hb4⟩
    have hx4 := hx3.later hb4 (Nat.le_refl _)
    have hb14 := bnext hb12 (bnext hb3 hb4)
    clear hx3 hb3 hb4 hb12
    generalize textB l = B at *
    generalize (⟨(textS l).toArray⟩ : ByteArray) = S at *
    go_wp2_with fail
    refine (toTokenS_any a cap len l _ (unhide Hn) (hrow.later hb14) (unhide HL)).mono ?_
    rintro e x5 ⟨rfl, hx5, hb5⟩
    have hx45 := hx4.later hb5 (Nat.le_refl _)
    go_wp2_with fail
    refine (eqTokenS_same _ _ _ _ len l _ (unhide Hn) (hx45.rowN (unhide Hn)) (hx5.rowN (unhide Hn)) (by have := unhide HL; omega)).mono ?_
    rintro e x6 ⟨rfl, hb6⟩
    go_wp2
    go_ret
    exact ⟨rfl, bnext hb14 (bnext hb5 hb6)⟩
  · rw [if_neg hl] at HZ
    clear hn hm
    go_enter Try.func4, Try.ntmps4
    go_wp2_with fail
    refine (unhide HZ).mono ?_
    rintro e y1 ⟨rfl, hy1⟩
    rw [hy1]
    clear hy1 y1
    go_wp2
    go_ret
    exact ⟨rfl, Below.refl _ _⟩

set_option maxHeartbeats 1600000 in
theorem exTokensLong_walk (a : Option Addr) (len cap : Nat) (l : List Tk) (w : World) (w0 : KRow w a l ∧ l.length = len ∧ len ≤ maxLen) :
    Calls Try.prog 5 #[.slice a len cap] w fun e w' => e = .returned (.bool true) ∧ Below w.heap.size w w' := by
  obtain ⟨hrow, hn, hm⟩ := w0
  unfold maxLen at hm
  have HZ := hide (szTokenS_any a cap len w (by omega))
  by_cases hl : (len : Int) ≤ 1048576
  · rw [if_pos hl] at HZ
    have hz0 : ¬ (1048576 : Int) - (len : Int) < 0 := by omega
    have Hn := hide hn
    have HL : Hid (len ≤ 1048576) := by show len ≤ 1048576; omega
    clear hn hm
    go_enter Try.func5, Try.ntmps5
    go_wp2_with fail
    refine (unhide HZ).mono ?_
    rintro e y1 ⟨rfl, hy1⟩
    rw [hy1]
    clear hy1 y1
    go_wp2_with fail
    refine (toTokenS_any a cap len l _ (unhide Hn) hrow (unhide HL)).mono ?_
    rintro e x1 ⟨rfl, ht1, hb1⟩
    go_wp2_with fail
    refine (specTokensLong_any _ _ len l _ (unhide Hn) (ht1.rowN (unhide Hn)) (unhide HL)).mono ?_
    rintro e x2 ⟨rfl, hb2⟩
    have hb12 := bnext hb1 hb2
    clear ht1 hb1 hb2
    go_wp2_with fail
    refine (toTokenS_any a cap len l _ (unhide Hn) (hrow.later hb12) (unhide HL)).mono ?_
    rintro e x3 ⟨rfl, hx3, hb3⟩
    go_wp2_with fail
    refine (implTokensLong_any _ _ len l _ (unhide Hn) (hx3.rowN (unhide Hn)) (unhide HL)).mono ?_
    rintro e x4 ⟨rfl, hb4⟩
    have hx4 := hx3.later hb4 (Nat.le_refl _)
    have hb14 := bnext hb12 (bnext hb3 hb4)
    clear hx3 hb3 hb4 hb12
    generalize textN l = N at *
    go_wp2_with fail
    refine (toTokenS_any a cap len l _ (unhide Hn) (hrow.later hb14) (unhide HL)).mono ?_
    rintro e x5 ⟨rfl, hx5, hb5⟩
    have hx45 := hx4.later hb5 (Nat.le_refl _)
    go_wp2_with fail
    refine (eqTokenS_same _ _ _ _ len l _ (unhide Hn) (hx45.rowN (unhide Hn)) (hx5.rowN (unhide Hn)) (by have := unhide HL; omega)).mono ?_
    rintro e x6 ⟨rfl, hb6⟩
    go_wp2
    go_ret
    exact ⟨rfl, bnext hb14 (bnext hb5 hb6)⟩
  · rw [if_neg hl] at HZ
    clear hn hm
    go_enter Try.func5, Try.ntmps5
    go_wp2_with fail
    refine (unhide HZ).mono ?_
    rintro e y1 ⟨rfl, hy1⟩
    rw [hy1]
    clear hy1 y1
    go_wp2
    go_ret
    exact ⟨rfl, Below.refl _ _⟩

end Go.Proofs.Ytlncdcdblmpmgaa
