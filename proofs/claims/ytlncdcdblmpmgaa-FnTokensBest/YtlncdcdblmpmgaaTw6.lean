/- The walk of the statement: no token leads back behind the beginning. -/
import Derived.Test.YtlncdcdblmpmgaaTw1
namespace Go.Proofs.Ytlncdcdblmpmgaa
open Go.RowKit

theorem toksOf_none {L : List UInt8} (h : ¬ L.length ≤ 300) : toksOf L = [] := by unfold toksOf; rw [if_neg h]
/-- The token at a place of the list, and where it stands. -/
theorem at_tok {L : List UInt8} {R : List Tk} {i p : Nat} (h : R.take i ++ toksP L p = R) (hi : i < R.length) : p < L.length ∧ R.getD i k0 = tokP L p ∧ R.take (i + 1) ++ toksP L (p + sizP L p) = R := by
  have hp : p < L.length := by
    by_cases hp : p < L.length
    · exact hp
    · rw [toksP_end hp, List.append_nil] at h
      have := congrArg List.length h
      rw [List.length_take] at this
      omega
  have hl : (R.take i).length = i := by rw [List.length_take]; omega
  rw [toksP_step hp] at h
  have e : R.getD i k0 = tokP L p := by
    rw [← h, List.getD_eq_getElem?_getD, List.getElem?_append_right (by omega), hl]
    simp
  refine ⟨hp, e, ?_⟩
  rw [take_snocK R i hi, e, List.append_assoc]
  exact h
theorem end_tok {L : List UInt8} {R : List Tk} {i p : Nat} (h : R.take i ++ toksP L p = R) (hi : ¬ i < R.length) (hp : p ≤ L.length) : p = L.length := by
  by_cases e : p < L.length
  · rw [toksP_step e] at h
    have := congrArg List.length h
    rw [List.length_append, List.length_take, List.length_cons] at this
    omega
  · omega
/-- What the token at a place is. -/
theorem what_tok (L : List UInt8) (p : Nat) : (∃ x : Int, 0 ≤ x ∧ x ≤ 255 ∧ tokP L p = (x, 0, 0) ∧ sizP L p = 1) ∨ (∃ n b : Nat, 3 ≤ n ∧ n ≤ 60 ∧ 1 ≤ b ∧ b ≤ p ∧ b ≤ 250 ∧ tokP L p = (0, (n : Int), (b : Int)) ∧ sizP L p = n ∧ bestF L p (min p 250) = (n, b)) := by
  obtain ⟨h1, h2, h3, _⟩ := bestF_le L p (min p 250)
  unfold tokP sizP
  by_cases hc : (bestF L p (min p 250)).1 < 3
  · left
    rw [if_pos hc, if_pos hc]
    have := UInt8.toNat_lt (L.getD p 0)
    exact ⟨_, by omega, by omega, rfl, rfl⟩
  · right
    rw [if_neg hc, if_neg hc]
    obtain ⟨h5, _⟩ := h3 (by omega)
    exact ⟨_, _, by omega, by omega, h5, by omega, by omega, rfl, rfl, rfl⟩
set_option maxRecDepth 100000 in
set_option maxHeartbeats 3200000 in
theorem fnTokensFar_walk (a : Option Addr) (len cap : Nat) (zs : List Int) (w : World) (w0 : IsRow .u8 w a len cap zs) :
    Calls Try.prog 11 #[.slice a len cap] w fun e w' => e = .returned (.bool true) ∧ Below w.heap.size w w' := by
  obtain ⟨⟨z, hsrc⟩, hc, hm⟩ := src_of w0
  have hm' := hide hm
  unfold maxLen at hm
  clear w0
  by_cases hl : (len : Int) ≤ 1048576
  · go_enter Try.func11, Try.ntmps11
    go_wp2_with fail
    refine (drawTokensOf_any a len cap z _ hsrc hc (unhide hm')).mono ?_
    rintro e w1 ⟨⟨s, rfl, hs⟩, hb1⟩
    have HB1 := hide hb1
    have hsI : (s.size : Int) ≤ 400 := by omega
    have HS := hide hs
    have hspec := hide (fun W => specTokensOf_any s W (by omega))
    have himpl := hide (fun W => implTokensOf_any s W (by omega))
    have hlen := toksOf_less s.data.toList
    rw [str_len] at hlen
    have hL := hide (str_len s)
    have hyes : Hid (s.size ≤ 300 → (toksOf s.data.toList).take 0 ++ toksP s.data.toList 0 = toksOf s.data.toList) := fun h => by unfold toksOf; rw [if_pos (by rw [unhide hL]; exact h)]; simp
    have hnil : Hid (¬ s.size ≤ 300 → toksOf s.data.toList = []) := fun h => toksOf_none (by rw [str_len]; exact h)
    generalize toksOf s.data.toList = R at *
    obtain ⟨m, hRm⟩ : ∃ m, R.length = m := ⟨_, rfl⟩
    have HR := hide hRm
    have hmI : (m : Int) ≤ (s.size : Int) := by omega
    have HM : Hid (m ≤ 100000) := by show m ≤ 100000; omega
    clear hs hlen hRm hb1 hsrc hc hm
    go_wp2_with fail
    refine (unhide himpl _).mono ?_
    rintro e x1 ⟨v1, rfl, hg1, hb1⟩
    obtain ⟨ga, gc, rfl⟩ := hg1.formN (unhide HR)
    go_wp2_with fail
    refine (unhide hspec _).mono ?_
    rintro e x2 ⟨v2, rfl, hw2, hb2⟩
    obtain ⟨wa, wc, rfl⟩ := hw2.formN (unhide HR)
    have hg2 := hg1.later hb2 (Nat.le_refl _)
    have h02 := bnext (unhide HB1) (bnext hb1 hb2)
    clear hb1 hb2 hg1
    go_wp2_with fail
    refine (cbTokens_same _ _ _ _ m R _ (unhide HR) (hg2.rowN (unhide HR)) (hw2.rowN (unhide HR)) (by have := unhide HM; omega)).mono ?_
    rintro e x3 ⟨rfl, hb3⟩
    have hg3 := hg2.later hb3 (Nat.le_refl _)
    have h03 := bnext h02 hb3
    have hr3 := hg3.rowN (unhide HR)
    clear hg2 hw2 hb3 h02 hg3
    by_cases h3 : (s.size : Int) ≤ 300
    · have h0 := hide (unhide hyes (by omega))
      clear hyes hnil
      go_wp2_with fail
      go_loopw [5, 6, 7] (fun at_ i _ wr => ∃ k p : Nat, k ≤ m ∧ i = .int .i64 k ∧ at_ = .int .i64 p ∧ p ≤ s.size ∧ R.take k ++ toksP s.data.toList p = R ∧ Below x3.heap.size x3 wr) (fun _ i _ _ => m - (intOf i).toNat)
      case atStart => exact ⟨0, 0, Nat.zero_le _, rfl, rfl, Nat.zero_le _, unhide h0, Below.refl _ _⟩
      case round =>
        obtain ⟨k, p, hk, rfl, rfl, hp, hinv, hbel⟩ := hrel
        have hpI : (p : Int) ≤ (s.size : Int) := by omega
        by_cases hlt : k < m
        · have hltI : (k : Int) < (m : Int) := by omega
          obtain ⟨hpl, hget, hnext⟩ := at_tok hinv (by rw [unhide HR]; exact hlt)
          have hin := sizP_in hpl
          rw [unhide hL] at hin
          obtain ⟨g, o, rfl, hg, hc⟩ := (hr3.later hbel) (by rw [unhide HR]; omega)
          obtain ⟨c0, c1, c2⟩ := hc k (by rw [unhide HR]; exact hlt)
          rw [hget] at c0 c1 c2
          have HN := hide (And.intro hnext (And.intro hin hk))
          have HBel := hide hbel
          clear hc hinv hget hnext hin hk hpl hbel
          rcases what_tok s.data.toList p with ⟨x, x0, x1', ex, ez⟩ | ⟨n, b, n3, n6, b1, bp, b2, ex, ez, _⟩
          · rw [ex] at c0 c1 c2
            simp only at c0 c1 c2
            have EZ := hide ez
            clear ex ez
            have d1 : decide (x < 0) = false := decide_eq_false (by omega)
            have d2 : decide ((255 : Int) < x) = false := decide_eq_false (by omega)
            go_wp2
            go_roundw
            case rel =>
              obtain ⟨h1, h2, h4⟩ := unhide HN
              rw [unhide EZ] at h1 h2
              exact ⟨k + 1, p + 1, by omega, by go_num, by go_num, h2, h1, (unhide HBel).alloc (unhide HBel).size _⟩
            case measure => simp [intOf]; omega
          · rw [ex] at c0 c1 c2
            simp only at c0 c1 c2
            have EZ := hide ez
            clear ex ez
            have n3I : (3 : Int) ≤ (n : Int) := by omega
            have n6I : (n : Int) ≤ 60 := by omega
            have b1I : (1 : Int) ≤ (b : Int) := by omega
            have bpI : (b : Int) ≤ (p : Int) := by omega
            have b2I : (b : Int) ≤ 250 := by omega
            have d0 : decide ((0 : Int) < (n : Int)) = true := decide_eq_true (by omega)
            have d1 : decide ((b : Int) < 1) = false := decide_eq_false (by omega)
            have d2 : decide ((p : Int) < (b : Int)) = false := decide_eq_false (by omega)
            have d3 : decide ((250 : Int) < (b : Int)) = false := decide_eq_false (by omega)
            have d4 : decide ((n : Int) < 3) = false := decide_eq_false (by omega)
            have d5 : decide ((60 : Int) < (n : Int)) = false := decide_eq_false (by omega)
            have d6 : ((n : Int) == 0) = false := by simp; omega
            go_wp2
            go_roundw
            case rel =>
              obtain ⟨h1, h2, h4⟩ := unhide HN
              rw [unhide EZ] at h1 h2
              exact ⟨k + 1, p + n, by omega, by go_num, by go_num, h2, h1, (unhide HBel).alloc (unhide HBel).size _⟩
            case measure => simp [intOf]; omega
        · have he : p = s.size := by
            have := end_tok hinv (by rw [unhide HR]; exact hlt) (by rw [unhide hL]; exact hp)
            rw [this, unhide hL]
          subst he
          clear hinv hr3
          go_wp2
          go_ret
          exact ⟨rfl, bnext h03 hbel⟩
    · have hR0 : R = [] := unhide hnil (by omega)
      have hm0 : m = 0 := by rw [← unhide HR, hR0]; rfl
      subst hm0
      have hd : decide ((300 : Int) < (s.size : Int)) = true := decide_eq_true (by omega)
      clear hyes hnil hR0 hr3
      go_wp2_with fail
      go_loopw [5, 6, 7] (fun at_ i _ wr => i = .int .i64 0 ∧ at_ = .int .i64 0 ∧ wr = x3) (fun _ _ _ _ => 0)
      case atStart => exact ⟨rfl, rfl, rfl⟩
      case round =>
        obtain ⟨rfl, rfl, hwr⟩ := hrel
        rw [hwr]
        have hne : ((0 : Int) == (s.size : Int)) = false := by simp; omega
        go_wp2
        go_ret
        exact ⟨rfl, h03⟩
  · clear hsrc
    go_enter Try.func11, Try.ntmps11
    go_wp2
    go_ret
    exact ⟨rfl, Below.refl _ _⟩

end Go.Proofs.Ytlncdcdblmpmgaa
