/- The walk of the statement: a text is read back from its tokens. -/
import Derived.Test.YtlncdcdblmpmgaaDt1
import Derived.Test.YtlncdcdblmpmgaaTm3
import Derived.Test.YtlncdcdblmpmgaaTx2
import Derived.Test.YtlncdcdblmpmgaaTi3
namespace Go.Proofs.Ytlncdcdblmpmgaa
open Go.RowKit

theorem str_back (s : ByteArray) : (⟨s.data.toList.toArray⟩ : ByteArray) = s := by cases s; simp
theorem implText_yes (a : Option Addr) (cap n : Nat) (ts : List Tk) (s : ByteArray) (w : World) (hn : ts.length = n) (h : KRow w a ts) (hm : n ≤ 1048576) (ht : textT ts = some s.data.toList) :
    Calls Try.prog 21 #[.slice a n cap] w fun e w' => e = .returned (.tuple #[.string s, .bool true]) ∧ Below w.heap.size w w' := by
  refine (implTokensText_any a cap n ts w hn h hm).mono ?_
  obtain ⟨h1, h2, _⟩ := textAll ht
  rintro e w' ⟨rfl, hb⟩
  rw [h1, h2, str_back]
  exact ⟨rfl, hb⟩
theorem implText_no (a : Option Addr) (cap n : Nat) (ts : List Tk) (w : World) (hn : ts.length = n) (h : KRow w a ts) (hm : n ≤ 1048576) (ht : textT ts = none) :
    Calls Try.prog 21 #[.slice a n cap] w fun e w' => e = .returned (.tuple #[.string ⟨#[]⟩, .bool false]) ∧ Below w.heap.size w w' := by
  refine (implTokensText_any a cap n ts w hn h hm).mono ?_
  obtain ⟨h1, h2, _⟩ := textNone ht
  rintro e w' ⟨rfl, hb⟩
  rw [h1, h2]
  exact ⟨rfl, hb⟩
theorem implOk_yes (a : Option Addr) (cap n : Nat) (ts : List Tk) (s : List UInt8) (w : World) (hn : ts.length = n) (h : KRow w a ts) (hm : n ≤ 1048576) (ht : textT ts = some s) :
    Calls Try.prog 18 #[.slice a n cap] w fun e w' => e = .returned (.bool true) ∧ Below w.heap.size w w' := by
  refine (implTokensOk_any a cap n ts w hn h hm).mono ?_
  obtain ⟨h1, h2, _⟩ := textAll ht
  rintro e w' ⟨rfl, hb⟩
  rw [h2]
  exact ⟨rfl, hb⟩
theorem implLong_yes (a : Option Addr) (cap n k : Nat) (ts : List Tk) (s : List UInt8) (w : World) (hn : ts.length = n) (h : KRow w a ts) (hm : n ≤ 1048576) (ht : textT ts = some s) (hk : s.length = k) :
    Calls Try.prog 23 #[.slice a n cap] w fun e w' => e = .returned (.int .i64 (k : Nat)) ∧ Below w.heap.size w w' := by
  refine (implTokensLong_any a cap n ts w hn h hm).mono ?_
  obtain ⟨_, _, h3⟩ := textAll ht
  rintro e w' ⟨rfl, hb⟩
  rw [h3, hk]
  exact ⟨rfl, hb⟩
theorem implLong_no (a : Option Addr) (cap n : Nat) (ts : List Tk) (w : World) (hn : ts.length = n) (h : KRow w a ts) (hm : n ≤ 1048576) (ht : textT ts = none) :
    Calls Try.prog 23 #[.slice a n cap] w fun e w' => e = .returned (.int .i64 (-1)) ∧ Below w.heap.size w w' := by
  refine (implTokensLong_any a cap n ts w hn h hm).mono ?_
  obtain ⟨_, _, h3⟩ := textNone ht
  rintro e w' ⟨rfl, hb⟩
  rw [h3]
  exact ⟨rfl, hb⟩

set_option maxHeartbeats 3200000 in
theorem fnTokens_walk (a : Option Addr) (len cap : Nat) (zs : List Int) (w : World) (w0 : IsRow .u8 w a len cap zs) :
    Calls Try.prog 7 #[.slice a len cap] w fun e w' => e = .returned (.bool true) ∧ Below w.heap.size w w' := by
  obtain ⟨⟨z, hsrc⟩, hc, hm⟩ := src_of w0
  have hm' := hide hm
  unfold maxLen at hm
  clear w0
  by_cases hl : (len : Int) ≤ 1048576
  · go_enter Try.func7, Try.ntmps7
    go_wp2_with fail
    refine (drawTokensOf_any a len cap z _ hsrc hc (unhide hm')).mono ?_
    rintro e w1 ⟨⟨s, rfl, hs⟩, hb1⟩
    have HB1 := hide hb1
    have hsI : (s.size : Int) ≤ 400 := by omega
    have HS := hide hs
    have hspec := hide (fun W => specTokensOf_any s W (by omega))
    have himpl := hide (fun W => implTokensOf_any s W (by omega))
    have hlen := toksOf_less s.data.toList
    rw [str_len] at hlen
    have htx : Hid (s.size ≤ 300 → textT (toksOf s.data.toList) = some s.data.toList) := fun h => toksOf_text (by rw [str_len]; exact h)
    have hL := hide (str_len s)
    generalize toksOf s.data.toList = R at *
    obtain ⟨m, hRm⟩ : ∃ m, R.length = m := ⟨_, rfl⟩
    have HR := hide hRm
    have hmI : (m : Int) ≤ (s.size : Int) := by omega
    have HM : Hid (m ≤ 1048576) := by show m ≤ 1048576; omega
    clear hs hlen hRm hb1 hsrc hc hm
    go_wp2_with fail
    refine (unhide himpl _).mono ?_
    rintro e x1 ⟨v1, rfl, hg1, hb1⟩
    obtain ⟨ga, gc, rfl⟩ := hg1.formN (unhide HR)
    go_wp2_with fail
    refine (unhide hspec _).mono ?_
    rintro e x2 ⟨v2, rfl, hw2, hb2⟩
    obtain ⟨wa, wc, rfl⟩ := hw2.formN (unhide HR)
    have hg2 := hg1.later hb2 (Nat.le_refl _)
    have h02 := bnext (unhide HB1) (bnext hb1 hb2)
    clear hb1 hb2 hg1
    go_wp2_with fail
    refine (cbTokens_same _ _ _ _ m R _ (unhide HR) (hg2.rowN (unhide HR)) (hw2.rowN (unhide HR)) (by have := unhide HM; omega)).mono ?_
    rintro e x3 ⟨rfl, hb3⟩
    have hg3 := hg2.later hb3 (Nat.le_refl _)
    have h03 := bnext h02 hb3
    clear hg2 hw2 hb3 h02
    by_cases h3 : (s.size : Int) ≤ 300
    · have hT := hide (unhide htx (by omega))
      go_wp2_with fail
      refine (implText_yes _ _ m R s _ (unhide HR) (hg3.rowN (unhide HR)) (unhide HM) (unhide hT)).mono ?_
      rintro e x4 ⟨rfl, hb4⟩
      have hg4 := hg3.later hb4 (Nat.le_refl _)
      have h04 := bnext h03 hb4
      clear hg3 hb4 h03
      go_wp2_with fail
      refine (implOk_yes _ _ m R _ _ (unhide HR) (hg4.rowN (unhide HR)) (unhide HM) (unhide hT)).mono ?_
      rintro e x5 ⟨rfl, hb5⟩
      have hg5 := hg4.later hb5 (Nat.le_refl _)
      have h05 := bnext h04 hb5
      clear hg4 hb5 h04
      go_wp2_with fail
      refine (implLong_yes _ _ m s.size R _ _ (unhide HR) (hg5.rowN (unhide HR)) (unhide HM) (unhide hT) (unhide hL)).mono ?_
      rintro e x6 ⟨rfl, hb6⟩
      go_wp2
      go_ret
      exact ⟨rfl, bnext h05 hb6⟩
    · go_wp2_with fail
      refine (unhide hspec _).mono ?_
      rintro e x4 ⟨v4, rfl, hw4, hb4⟩
      obtain ⟨wa', wc', rfl⟩ := hw4.formN (unhide HR)
      have hg4 := hg3.later hb4 (Nat.le_refl _)
      have h04 := bnext h03 hb4
      clear hb4 hg3 h03
      go_wp2_with fail
      refine (cbTokens_same _ _ _ _ m R _ (unhide HR) (hg4.rowN (unhide HR)) (hw4.rowN (unhide HR)) (by have := unhide HM; omega)).mono ?_
      rintro e x5 ⟨rfl, hb5⟩
      go_wp2
      go_ret
      exact ⟨rfl, bnext h04 hb5⟩
  · clear hsrc
    go_enter Try.func7, Try.ntmps7
    go_wp2
    go_ret
    exact ⟨rfl, Below.refl _ _⟩

end Go.Proofs.Ytlncdcdblmpmgaa
