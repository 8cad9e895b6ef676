/- The walk of the statement: tokens that make a text make as many bytes as they tell. -/
import Derived.Test.YtlncdcdblmpmgaaTw1
import Derived.Test.YtlncdcdblmpmgaaTw3
import Derived.Test.YtlncdcdblmpmgaaDt2
namespace Go.Proofs.Ytlncdcdblmpmgaa
open Go.RowKit

theorem KRow.fore {w : World} {a : Option Addr} {l r : List Tk} (h : KRow w a (l ++ r)) : KRow w a l := by
  intro h0
  obtain ⟨g, o, e, hlt, hc⟩ := h (by rw [List.length_append]; omega)
  refine ⟨g, o, e, hlt, fun i hi => ?_⟩
  have := hc i (by rw [List.length_append]; omega)
  have e2 : (l ++ r).getD i k0 = l.getD i k0 := by
    simp only [List.getD_eq_getElem?_getD]
    rw [List.getElem?_append_left hi]
  rw [e2] at this
  exact this
theorem rep_more (s : List UInt8) (b : Nat) : ∀ n, ∃ r, rep s b n = s ++ r ∧ r.length = n := by
  intro n
  induction n with
  | zero => exact ⟨[], by simp [rep], rfl⟩
  | succ n ih =>
    obtain ⟨r, h1, h2⟩ := ih
    refine ⟨r ++ [(rep s b n).getD ((rep s b n).length - b) 0], ?_, by simp [h2]⟩
    simp only [rep]
    rw [← List.append_assoc, ← h1]
theorem addL_more {s x : List UInt8} {t : Tk} (h : addL s t = some x) : ∃ r, x = s ++ r ∧ 1 ≤ r.length := by
  unfold addL addT at h
  cases hB : isB t
  · rw [hB] at h
    simp only [Bool.false_eq_true, if_false] at h
    split at h
    · rename_i hk
      simp only [Option.bind_some] at h
      split at h
      · simp only [Option.some.injEq] at h
        obtain ⟨r, h1, h2⟩ := rep_more s t.2.2.toNat t.2.1.toNat
        refine ⟨r, by rw [← h, h1], ?_⟩
        simp only [isK, inB, Bool.and_eq_true, decide_eq_true_eq] at hk
        omega
      · cases h
    · cases h
  · rw [hB] at h
    simp only [if_true, Option.bind_some] at h
    split at h
    · simp only [Option.some.injEq] at h
      exact ⟨_, h.symm, by simp⟩
    · cases h
/-- Tokens without the last make how the text begins. -/
theorem less_text {ts : List Tk} {s : List UInt8} {n : Nat} (h : textT ts = some s) (hn : ts.length = n + 1) : ∃ D t x r, ts = D ++ [t] ∧ D.length = n ∧ textT D = some x ∧ s = x ++ r ∧ 1 ≤ r.length := by
  have hne : ts ≠ [] := by intro e; rw [e] at hn; simp at hn
  obtain ⟨D, t, rfl⟩ : ∃ D t, ts = D ++ [t] := ⟨ts.dropLast, ts.getLast hne, (List.dropLast_concat_getLast hne).symm⟩
  rw [textT_snoc] at h
  cases hD : textT D with
  | none => rw [hD] at h; cases h
  | some x =>
    rw [hD] at h
    obtain ⟨r, h1, h2⟩ := addL_more h
    exact ⟨D, t, x, r, rfl, by simpa using hn, hD, h1, h2⟩
theorem specLong_yes (a : Option Addr) (cap n k : Nat) (ts : List Tk) (s : List UInt8) (w : World) (hn : ts.length = n) (h : KRow w a ts) (hm : n ≤ 1048576) (ht : textT ts = some s) (hk : s.length = k) :
    Calls Try.prog 22 #[.slice a n cap] w fun e w' => e = .returned (.int .i64 (k : Nat)) ∧ Below w.heap.size w w' := by
  refine (specTokensLong_any a cap n ts w hn h hm).mono ?_
  obtain ⟨_, _, h3⟩ := textAll ht
  rintro e w' ⟨rfl, hb⟩
  rw [h3, hk]
  exact ⟨rfl, hb⟩
theorem specLong_no (a : Option Addr) (cap n : Nat) (ts : List Tk) (w : World) (hn : ts.length = n) (h : KRow w a ts) (hm : n ≤ 1048576) (ht : textT ts = none) :
    Calls Try.prog 22 #[.slice a n cap] w fun e w' => e = .returned (.int .i64 (-1)) ∧ Below w.heap.size w w' := by
  refine (specTokensLong_any a cap n ts w hn h hm).mono ?_
  obtain ⟨_, _, h3⟩ := textNone ht
  rintro e w' ⟨rfl, hb⟩
  rw [h3]
  exact ⟨rfl, hb⟩
theorem implOk_no (a : Option Addr) (cap n : Nat) (ts : List Tk) (w : World) (hn : ts.length = n) (h : KRow w a ts) (hm : n ≤ 1048576) (ht : textT ts = none) :
    Calls Try.prog 18 #[.slice a n cap] w fun e w' => e = .returned (.bool false) ∧ Below w.heap.size w w' := by
  refine (implTokensOk_any a cap n ts w hn h hm).mono ?_
  obtain ⟨h1, h2, _⟩ := textNone ht
  rintro e w' ⟨rfl, hb⟩
  rw [h2]
  exact ⟨rfl, hb⟩
theorem front_eq {X Y : ByteArray} {r : List UInt8} (h : X.data.toList = Y.data.toList ++ r) : X.extract 0 Y.size = Y := by
  apply ByteArray.ext
  rw [ByteArray.data_extract]
  apply Array.ext'
  rw [Array.toList_extract, h]
  have e : Y.size = Y.data.toList.length := (str_len Y).symm
  rw [e]
  simp
theorem bytes_of (l : List UInt8) : ∃ X : ByteArray, X.data.toList = l ∧ X.size = l.length := ⟨⟨l.toArray⟩, by simp, by rw [← str_len]⟩

set_option maxRecDepth 100000 in
set_option maxHeartbeats 3200000 in
theorem fnTokensText_walk (a : Option Addr) (len cap : Nat) (zs : List Int) (w : World) (w0 : IsRow .u8 w a len cap zs) :
    Calls Try.prog 8 #[.slice a len cap] w fun e w' => e = .returned (.bool true) ∧ Below w.heap.size w w' := by
  obtain ⟨⟨z, hsrc⟩, hc, hm⟩ := src_of w0
  have hm' := hide hm
  unfold maxLen at hm
  clear w0
  by_cases hl : (len : Int) ≤ 1048576
  · go_enter Try.func8, Try.ntmps8
    go_wp2_with fail
    refine (drawTokensText_any a len cap z _ hsrc hc (unhide hm')).mono ?_
    rintro e w1 ⟨⟨ts, ta, n, tc, rfl, hn, hcap, hn5, hrow⟩, hb1⟩
    have HN := hide hn
    have hnI : (n : Int) ≤ 500 := by omega
    have hcI : (n : Int) ≤ (tc : Int) := by omega
    have HM := hide (show n ≤ 1048576 by omega)
    clear hsrc hc hm hn hn5
    cases hT : textT ts with
    | none =>
      have HT := hide hT
      clear hT
      go_wp2_with fail
      refine (implText_no _ _ n ts _ (unhide HN) hrow (unhide HM) (unhide HT)).mono ?_
      rintro e x1 ⟨rfl, h1⟩
      have hr1 := hrow.later h1
      have g1 := bnext hb1 h1
      clear hrow h1 hb1
      go_wp2_with fail
      refine (specText_no _ _ n ts _ (unhide HN) hr1 (unhide HM) (unhide HT)).mono ?_
      rintro e x2 ⟨rfl, h2⟩
      have hr2 := hr1.later h2
      have g2 := bnext g1 h2
      clear hr1 h2 g1
      go_wp2_with fail
      refine (implLong_no _ _ n ts _ (unhide HN) hr2 (unhide HM) (unhide HT)).mono ?_
      rintro e x3 ⟨rfl, h3⟩
      have hr3 := hr2.later h3
      have g3 := bnext g2 h3
      clear hr2 h3 g2
      go_wp2_with fail
      refine (implOk_no _ _ n ts _ (unhide HN) hr3 (unhide HM) (unhide HT)).mono ?_
      rintro e x4 ⟨rfl, h4⟩
      have hr4 := hr3.later h4
      have g4 := bnext g3 h4
      clear hr3 h4 g3
      go_wp2_with fail
      refine (specLong_no _ _ n ts _ (unhide HN) hr4 (unhide HM) (unhide HT)).mono ?_
      rintro e x5 ⟨rfl, h5⟩
      have hr5 := hr4.later h5
      have g5 := bnext g4 h5
      clear hr4 h5 g4
      go_wp2_with fail
      refine (implOk_no _ _ n ts _ (unhide HN) hr5 (unhide HM) (unhide HT)).mono ?_
      rintro e x6 ⟨rfl, h6⟩
      have hr6 := hr5.later h6
      have g6 := bnext g5 h6
      clear hr5 h6 g5
      go_wp2_with fail
      refine (specLong_no _ _ n ts _ (unhide HN) hr6 (unhide HM) (unhide HT)).mono ?_
      rintro e x7 ⟨rfl, h7⟩
      go_wp2
      go_ret
      exact ⟨rfl, bnext g6 h7⟩
    | some s =>
      obtain ⟨X, hX, hXs⟩ := bytes_of s
      rw [← hX] at hT hXs
      have HT := hide hT
      have hl3 := textK_len hT
      rw [str_len] at hl3
      have hXI : (X.size : Int) ≤ 300 := by omega
      have hL := hide (str_len X)
      clear hT hXs hX hl3
      go_wp2_with fail
      refine (implText_yes _ _ n ts X _ (unhide HN) hrow (unhide HM) (unhide HT)).mono ?_
      rintro e x1 ⟨rfl, h1⟩
      have hr1 := hrow.later h1
      have g1 := bnext hb1 h1
      clear hrow h1 hb1
      go_wp2_with fail
      refine (specText_yes _ _ n ts X _ (unhide HN) hr1 (unhide HM) (unhide HT)).mono ?_
      rintro e x2 ⟨rfl, h2⟩
      have hr2 := hr1.later h2
      have g2 := bnext g1 h2
      clear hr1 h2 g1
      go_wp2_with fail
      refine (implLong_yes _ _ n X.size ts _ _ (unhide HN) hr2 (unhide HM) (unhide HT) (unhide hL)).mono ?_
      rintro e x3 ⟨rfl, h3⟩
      have hr3 := hr2.later h3
      have g3 := bnext g2 h3
      clear hr2 h3 g2
      go_wp2_with fail
      refine (implOk_yes _ _ n ts _ _ (unhide HN) hr3 (unhide HM) (unhide HT)).mono ?_
      rintro e x4 ⟨rfl, h4⟩
      have hr4 := hr3.later h4
      have g4 := bnext g3 h4
      clear hr3 h4 g3
      go_wp2_with fail
      refine (specLong_yes _ _ n X.size ts _ _ (unhide HN) hr4 (unhide HM) (unhide HT) (unhide hL)).mono ?_
      rintro e x5 ⟨rfl, h5⟩
      have hr5 := hr4.later h5
      have g5 := bnext g4 h5
      clear hr4 h5 g4
      by_cases hz : n = 0
      · subst hz
        go_wp2_with fail
        refine (implOk_yes _ _ 0 ts _ _ (unhide HN) hr5 (unhide HM) (unhide HT)).mono ?_
        rintro e x6 ⟨rfl, h6⟩
        have hr6 := hr5.later h6
        have g6 := bnext g5 h6
        clear hr5 h6 g5
        go_wp2_with fail
        refine (specLong_yes _ _ 0 X.size ts _ _ (unhide HN) hr6 (unhide HM) (unhide HT) (unhide hL)).mono ?_
        rintro e x7 ⟨rfl, h7⟩
        go_wp2
        go_ret
        exact ⟨rfl, bnext g6 h7⟩
      · obtain ⟨q, hq⟩ : ∃ q, n = q + 1 := ⟨n - 1, by omega⟩
        obtain ⟨D, t, y, r, hD, hDl, hDt, hs, hr⟩ := less_text (unhide HT) ((unhide HN).trans hq)
        obtain ⟨Y, hY, hYs⟩ := bytes_of y
        rw [← hY] at hDt
        have hYl : Y.size < X.size := by rw [← str_len X, hs, List.length_append, hYs]; omega
        have hYI : (Y.size : Int) < (X.size : Int) := by omega
        have hqI : (n : Int) - 1 = (q : Int) := by omega
        have hnz : ((n : Int) == 0) = false := by simp; omega
        have hrq : Hid (∀ W, KRow W ta ts → KRow W ta D) := fun W h => by rw [hD] at h; exact h.fore
        have HD := hide (And.intro hDl (And.intro hDt (show q ≤ 1048576 by omega)))
        have HX : Hid (X.data.toList = Y.data.toList ++ r) := by show _ = _; rw [hs, hY]
        have hqc : (q : Int) ≤ (tc : Int) := by omega
        clear hz hq hD hDl hDt hs hr hY hYs hYl
        go_wp2_with fail
        refine (implText_yes _ _ q D Y _ (unhide HD).1 (unhide hrq _ hr5) (unhide HD).2.2 (unhide HD).2.1).mono ?_
        rintro e x6 ⟨rfl, h6⟩
        have g6 := bnext g5 h6
        clear hr5 h6 g5
        go_wp2
        go_ret
        exact ⟨ret_bool (by rw [front_eq (unhide HX)]; simp), g6⟩
  · clear hsrc
    go_enter Try.func8, Try.ntmps8
    go_wp2
    go_ret
    exact ⟨rfl, Below.refl _ _⟩

end Go.Proofs.Ytlncdcdblmpmgaa
