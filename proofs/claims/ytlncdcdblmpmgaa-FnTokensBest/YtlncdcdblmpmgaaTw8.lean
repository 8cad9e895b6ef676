/- The walk of the statement: a text has no more tokens than any that make it begin with. -/
import Derived.Test.YtlncdcdblmpmgaaTw6
import Derived.Test.YtlncdcdblmpmgaaTw7
import Derived.BigQuiet
namespace Go.Proofs.Ytlncdcdblmpmgaa
open Go.RowKit

/-- The token at a place: none is longer, and none as long is nearer. -/
theorem best_tok (L : List UInt8) (p : Nat) : ∃ (x : Int) (Y Z : Nat), tokP L p = (x, (Y : Int), (Z : Int)) ∧ Y ≤ 60 ∧ Z ≤ 250 ∧ (Y = 0 → sizP L p = 1) ∧ (Y ≠ 0 → sizP L p = Y) ∧ ∀ b, 1 ≤ b → b ≤ p → b ≤ 250 → 3 ≤ agN L p b → agN L p b ≤ Y ∧ (agN L p b = Y → Z ≤ b) := by
  obtain ⟨h1, h2, h3, h4⟩ := bestF_le L p (min p 250)
  unfold tokP sizP
  by_cases hc : (bestF L p (min p 250)).1 < 3
  · rw [if_pos hc, if_pos hc]
    refine ⟨_, 0, 0, rfl, by omega, by omega, fun _ => rfl, fun h => absurd rfl h, fun b b1 b2 b3 h => ?_⟩
    have := (h4 b b1 (by omega)).1
    omega
  · rw [if_neg hc, if_neg hc]
    refine ⟨_, _, _, rfl, h1, by omega, fun h => by omega, fun _ => rfl, fun b b1 b2 b3 h => ?_⟩
    obtain ⟨h5, h6⟩ := h4 b b1 (by omega)
    exact ⟨h5, fun e => h6 e (by omega)⟩

set_option maxRecDepth 100000 in
set_option maxHeartbeats 12800000 in
theorem fnTokensBest_walk (a : Option Addr) (len cap : Nat) (zs : List Int) (w : World) (w0 : IsRow .u8 w a len cap zs) :
    Calls Try.prog 9 #[.slice a len cap] w fun e w' => e = .returned (.bool true) ∧ Below w.heap.size w w' := by
  obtain ⟨⟨z, hsrc⟩, hc, hm⟩ := src_of w0
  have hm' := hide hm
  unfold maxLen at hm
  clear w0
  by_cases hl : (len : Int) ≤ 1048576
  · go_enter Try.func9, Try.ntmps9
    go_wp2_with fail
    refine (drawTokensText_any a len cap z _ hsrc hc (unhide hm')).mono ?_
    rintro e w1 ⟨⟨ts, ta, n, tc, rfl, hn, hcap, hn5, hrow⟩, hb1⟩
    have HN := hide hn
    have hnI : (n : Int) ≤ 500 := by omega
    have HM := hide (show n ≤ 1048576 by omega)
    clear hsrc hc hm hn hn5 hcap
    cases hT : textT ts with
    | none =>
      have HT := hide hT
      clear hT
      go_wp2_with fail
      refine (implText_no _ _ n ts _ (unhide HN) hrow (unhide HM) (unhide HT)).mono ?_
      rintro e x1 ⟨rfl, h1⟩
      have hr1 := hrow.later h1
      have g1 := bnext hb1 h1
      clear hrow h1 hb1
      go_wp2_with fail
      refine (specText_no _ _ n ts _ (unhide HN) hr1 (unhide HM) (unhide HT)).mono ?_
      rintro e x2 ⟨rfl, h2⟩
      go_wp2
      go_ret
      exact ⟨rfl, bnext g1 h2⟩
    | some s =>
      obtain ⟨X, hX, hXs⟩ := bytes_of s
      rw [← hX] at hT hXs
      have HT := hide hT
      have hl3 := textK_len hT
      rw [str_len] at hl3
      have hXI : (X.size : Int) ≤ 300 := by omega
      have hL := hide (str_len X)
      clear hT hXs hX
      go_wp2_with fail
      refine (implText_yes _ _ n ts X _ (unhide HN) hrow (unhide HM) (unhide HT)).mono ?_
      rintro e x1 ⟨rfl, h1⟩
      have hr1 := hrow.later h1
      have g1 := bnext hb1 h1
      clear hrow h1 hb1
      go_wp2_with fail
      refine (specText_yes _ _ n ts X _ (unhide HN) hr1 (unhide HM) (unhide HT)).mono ?_
      rintro e x2 ⟨rfl, h2⟩
      have g2 := bnext g1 h2
      clear hr1 h2 g1
      have himpl := hide (fun W => implTokensOf_any X W (by omega))
      have hlen := toksOf_less X.data.toList
      rw [str_len] at hlen
      have h0 : Hid ((toksOf X.data.toList).take 0 ++ toksP X.data.toList 0 = toksOf X.data.toList) := by show _ = _; unfold toksOf; rw [if_pos (by rw [unhide hL]; exact hl3)]; simp
      generalize toksOf X.data.toList = R at *
      obtain ⟨m, hRm⟩ : ∃ m, R.length = m := ⟨_, rfl⟩
      have HR := hide hRm
      have hmI : (m : Int) ≤ (X.size : Int) := by omega
      have HS := hide hl3
      clear hlen hRm hl3
      go_wp2_with fail
      refine (unhide himpl _).mono ?_
      rintro e x3 ⟨v3, rfl, hg3, hb3⟩
      obtain ⟨ga, gc, rfl⟩ := hg3.formN (unhide HR)
      have hr3 := hg3.rowN (unhide HR)
      have g3 := hide (bnext g2 hb3)
      clear himpl hg3 hb3 g2
      go_wp2_with fail
      go_loopw [9, 10, 11, 12, 13] (fun at_ i _ _ _ wr => ∃ k p : Nat, k ≤ m ∧ i = .int .i64 k ∧ at_ = .int .i64 p ∧ p ≤ X.size ∧ R.take k ++ toksP X.data.toList p = R ∧ Below x3.heap.size x3 wr) (fun _ i _ _ _ _ => m - (intOf i).toNat)
      case atStart => exact ⟨0, 0, Nat.zero_le _, rfl, rfl, Nat.zero_le _, unhide h0, Below.refl _ _⟩
      case round =>
        obtain ⟨k, p, hk, rfl, rfl, hp, hinv, hbel⟩ := hrel
        have hpI : (p : Int) ≤ (X.size : Int) := by omega
        by_cases hlt : k < m
        · have hltI : (k : Int) < (m : Int) := by omega
          obtain ⟨hpl, hget, hnext⟩ := at_tok hinv (by rw [unhide HR]; exact hlt)
          have hin := sizP_in hpl
          rw [unhide hL] at hin hpl
          obtain ⟨g, o, rfl, hg, hc⟩ := (hr3.later hbel) (by rw [unhide HR]; omega)
          obtain ⟨c0, c1, c2⟩ := hc k (by rw [unhide HR]; exact hlt)
          rw [hget] at c0 c1 c2
          obtain ⟨x, Y, Z, ex, hY, hZ, hs1, hs2, hbest⟩ := best_tok X.data.toList p
          rw [ex] at c0 c1 c2
          simp only at c0 c1 c2
          have hYI : (Y : Int) ≤ 60 := by omega
          have HBest := hide hbest
          have HNx := hide (And.intro hnext (And.intro hin (And.intro hs1 (And.intro hs2 hk))))
          have HBel := hide hbel
          clear hc hinv hget hnext hin hk hbel ex hs1 hs2 hbest hY hZ
          go_wp2_with fail
          have hbox : (wr.alloc (.cells #[.int .i64 x, .int .i64 (Y : Nat), .int .i64 (Z : Nat)] 40)).heap[wr.heap.size]? = some (Obj.cells #[.int .i64 x, .int .i64 (Y : Nat), .int .i64 (Z : Nat)] 40) := alloc_at _ _
          have hb1 : Hid (Below x3.heap.size x3 (wr.alloc (.cells #[.int .i64 x, .int .i64 (Y : Nat), .int .i64 (Z : Nat)] 40))) := (unhide HBel).alloc (unhide HBel).size _
          clear HBel c0 c1 c2 hg
          generalize wr.alloc (.cells #[.int .i64 x, .int .i64 (Y : Nat), .int .i64 (Z : Nat)] 40) = W1 at *
          generalize wr.heap.size = G at *
          have HBox := hide hbox
          have hGW := (Array.getElem?_eq_some_iff.1 hbox).1
          have hkeep : Hid (∀ W, Below W1.heap.size W1 W → W.cell? ⟨G, 1, none⟩ = some (.int .i64 (Y : Nat)) ∧ W.cell? ⟨G, 2, none⟩ = some (.int .i64 (Z : Nat))) := fun W h => by
            have hb := (h.block G hGW).trans (unhide HBox)
            exact ⟨by simp [World.cell?, hb], by simp [World.cell?, hb]⟩
          clear hbox hGW
          go_loopw [12, 13] (fun ba _ wq => ∃ b : Nat, 1 ≤ b ∧ b ≤ 251 ∧ ba = .int .i64 b ∧ Below W1.heap.size W1 wq) (fun ba _ _ => 252 - (intOf ba).toNat)
          case atStart => exact ⟨1, by omega, by omega, rfl, Below.refl _ _⟩
          case round =>
            obtain ⟨b, hb1', hb2', rfl, hbq⟩ := hrel
            have hb1I : (1 : Int) ≤ (b : Int) := by omega
            have hb2I : (b : Int) ≤ 251 := by omega
            by_cases hbp : (b : Int) ≤ (p : Int)
            · have dbp : decide ((b : Int) ≤ (p : Int)) = true := decide_eq_true hbp
              by_cases h250 : (b : Int) ≤ 250
              · have d250 : decide ((b : Int) ≤ 250) = true := decide_eq_true h250
                have HA0 : Hid (3 ≤ agN X.data.toList p b → agN X.data.toList p b ≤ Y ∧ (agN X.data.toList p b = Y → Z ≤ b)) := unhide HBest b (by omega) (by omega) (by omega)
                have HB := hide hbq
                clear hbq
                go_wp2_with fail
                go_loopw [13] (fun i wz => ∃ j : Nat, j ≤ 60 ∧ i = .int .i64 j ∧ agF X.data.toList p b (60 - j) j = agN X.data.toList p b ∧ Below W1.heap.size W1 wz) (fun i _ => 60 - (intOf i).toNat)
                case atStart => exact ⟨0, Nat.zero_le _, rfl, rfl, unhide HB⟩
                case round =>
                  obtain ⟨j, hj, rfl, hag, hbz⟩ := hrel
                  have HG := hide (And.intro hag hj)
                  have hjI : (j : Int) ≤ 60 := by omega
                  obtain ⟨c, hcj⟩ : ∃ c : Nat, p + j = c := ⟨_, rfl⟩
                  have hcI : (p : Int) + (j : Int) = (c : Int) := by omega
                  have hcb : (c : Int) ≤ 2000000 := by omega
                  have hwc : IntKind.i64.wrap (c : Int) = (c : Int) := i64_wrap_nat _ (by omega)
                  have HC := hide hcj
                  clear hag hj hcj
                  by_cases hin : (c : Int) < (X.size : Int)
                  · have din : decide ((c : Int) < (X.size : Int)) = true := decide_eq_true hin
                    by_cases h60 : (j : Int) < 60
                    · have d60 : decide ((j : Int) < 60) = true := decide_eq_true h60
                      obtain ⟨q, hq⟩ : ∃ q : Nat, p + j - b = q := ⟨_, rfl⟩
                      have hqI : (c : Int) - (b : Int) = (q : Int) := by have := unhide HC; omega
                      have hwq : IntKind.i64.wrap (q : Int) = (q : Int) := i64_wrap_nat _ (by omega)
                      have hcs : c < X.size := by omega
                      have hqs : q < X.size := by omega
                      have hqsI : (q : Int) < (X.size : Int) := by omega
                      have f1 := hide (str_at X c hcs)
                      have f2 := hide (str_at X q hqs)
                      have HQ := hide hq
                      clear hq
                      by_cases hee : X[c] = X[q]
                      · have hst : Hid (agF X.data.toList p b (60 - (j + 1)) (j + 1) = agN X.data.toList p b) := by
                          show _ = _
                          rw [← (unhide HG).1, ← agF_step (by omega) (by rw [str_len, unhide HC]; exact hcs) (by rw [unhide HC] at *; rw [show c - b = q by have := unhide HQ; omega, unhide f1, unhide f2]; exact hee)]
                        have hej : (X[c].toNat : Int) = (X[q].toNat : Int) := by rw [hee]
                        have hbj : ((X[c].toNat : Int) == (X[q].toNat : Int)) = true := by simp [hee]
                        go_wp2_with fail
                        go_quiet (fail)
                        go_wp2
                        go_roundw
                        case rel => exact ⟨j + 1, by omega, by go_num, unhide hst, below_drewN hbz _⟩
                        case measure => simp [intOf]; omega
                      · have hst : agN X.data.toList p b = j := by
                          rw [← (unhide HG).1]
                          refine agF_stop (.inr (.inr ?_)) (by omega)
                          rw [unhide HC, show c - b = q by have := unhide HQ; omega, unhide f1, unhide f2]
                          exact hee
                        have HA : Hid (3 ≤ j → j ≤ Y ∧ (j = Y → Z ≤ b)) := by rw [hst] at HA0; exact HA0
                        have hne : ¬ X[c].toNat = X[q].toNat := fun e => hee (UInt8.toNat_inj.1 e)
                        have hbj : ((X[c].toNat : Int) == (X[q].toNat : Int)) = false := by simp; omega
                        clear hst HA0
                        go_wp2_with fail
                        go_quiet (fail)
                        have hbz2 := below_drewN hbz nq
                        generalize World.drewN _ nq = W2 at *
                        obtain ⟨e1, e2⟩ := unhide hkeep _ hbz2
                        by_cases hA3 : (3 : Int) ≤ (j : Int)
                        · have dA : decide ((3 : Int) ≤ (j : Int)) = true := decide_eq_true hA3
                          obtain ⟨hle, heq⟩ := unhide HA (by omega)
                          have dY : decide ((Y : Int) < (j : Int)) = false := decide_eq_false (by omega)
                          by_cases hjY : j = Y
                          · have hjE : (j : Int) = (Y : Int) := by omega
                            have hjB : ((j : Int) == (Y : Int)) = true := by simp; omega
                            have dZ : decide ((b : Int) < (Z : Int)) = false := decide_eq_false (by have := heq hjY; omega)
                            have dZn : decide (b < Z) = false := decide_eq_false (by have := heq hjY; omega)
                            have dYn : decide (Y < j) = false := decide_eq_false (by omega)
                            subst hjY
                            clear heq hle hjE
                            go_wp2
                            go_roundw
                            case rel => exact ⟨b + 1, by omega, by omega, by go_num, hbz2⟩
                            case measure => simp [intOf]; omega
                          · have hjE : ((j : Int) == (Y : Int)) = false := by simp; omega
                            have dYn : decide (Y < j) = false := decide_eq_false (by omega)
                            clear heq hjY
                            go_wp2
                            go_roundw
                            case rel => exact ⟨b + 1, by omega, by omega, by go_num, hbz2⟩
                            case measure => simp [intOf]; omega
                        · have dA : decide ((3 : Int) ≤ (j : Int)) = false := decide_eq_false hA3
                          go_wp2
                          go_roundw
                          case rel => exact ⟨b + 1, by omega, by omega, by go_num, hbz2⟩
                          case measure => simp [intOf]; omega
                    · have d60 : decide ((j : Int) < 60) = false := decide_eq_false h60
                      have hst : agN X.data.toList p b = j := by rw [← (unhide HG).1]; exact agF_stop (.inl (by omega)) (by omega)
                      have HA : Hid (3 ≤ j → j ≤ Y ∧ (j = Y → Z ≤ b)) := by rw [hst] at HA0; exact HA0
                      clear hst HA0
                      go_wp2_with fail
                      go_quiet (fail)
                      have hbz2 := below_drewN hbz nq
                      generalize World.drewN _ nq = W2 at *
                      obtain ⟨e1, e2⟩ := unhide hkeep _ hbz2
                      by_cases hA3 : (3 : Int) ≤ (j : Int)
                      · have dA : decide ((3 : Int) ≤ (j : Int)) = true := decide_eq_true hA3
                        obtain ⟨hle, heq⟩ := unhide HA (by omega)
                        have dY : decide ((Y : Int) < (j : Int)) = false := decide_eq_false (by omega)
                        by_cases hjY : j = Y
                        · have hjE : (j : Int) = (Y : Int) := by omega
                          have hjB : ((j : Int) == (Y : Int)) = true := by simp; omega
                          have dZ : decide ((b : Int) < (Z : Int)) = false := decide_eq_false (by have := heq hjY; omega)
                          have dZn : decide (b < Z) = false := decide_eq_false (by have := heq hjY; omega)
                          have dYn : decide (Y < j) = false := decide_eq_false (by omega)
                          subst hjY
                          clear heq hle hjE
                          go_wp2
                          go_roundw
                          case rel => exact ⟨b + 1, by omega, by omega, by go_num, hbz2⟩
                          case measure => simp [intOf]; omega
                        · have hjE : ((j : Int) == (Y : Int)) = false := by simp; omega
                          have dYn : decide (Y < j) = false := decide_eq_false (by omega)
                          clear heq hjY
                          go_wp2
                          go_roundw
                          case rel => exact ⟨b + 1, by omega, by omega, by go_num, hbz2⟩
                          case measure => simp [intOf]; omega
                      · have dA : decide ((3 : Int) ≤ (j : Int)) = false := decide_eq_false hA3
                        go_wp2
                        go_roundw
                        case rel => exact ⟨b + 1, by omega, by omega, by go_num, hbz2⟩
                        case measure => simp [intOf]; omega
                  · have din : decide ((c : Int) < (X.size : Int)) = false := decide_eq_false hin
                    have dinN : decide (c < X.size) = false := decide_eq_false (by omega)
                    have hst : agN X.data.toList p b = j := by rw [← (unhide HG).1]; exact agF_stop (.inr (.inl (by rw [unhide HC, str_len]; omega))) (by omega)
                    have HA : Hid (3 ≤ j → j ≤ Y ∧ (j = Y → Z ≤ b)) := by rw [hst] at HA0; exact HA0
                    clear hst HA0
                    go_wp2_with fail
                    go_quiet (fail)
                    have hbz2 := below_drewN hbz nq
                    generalize World.drewN _ nq = W2 at *
                    obtain ⟨e1, e2⟩ := unhide hkeep _ hbz2
                    by_cases hA3 : (3 : Int) ≤ (j : Int)
                    · have dA : decide ((3 : Int) ≤ (j : Int)) = true := decide_eq_true hA3
                      obtain ⟨hle, heq⟩ := unhide HA (by omega)
                      have dY : decide ((Y : Int) < (j : Int)) = false := decide_eq_false (by omega)
                      by_cases hjY : j = Y
                      · have hjE : (j : Int) = (Y : Int) := by omega
                        have hjB : ((j : Int) == (Y : Int)) = true := by simp; omega
                        have dZ : decide ((b : Int) < (Z : Int)) = false := decide_eq_false (by have := heq hjY; omega)
                        have dZn : decide (b < Z) = false := decide_eq_false (by have := heq hjY; omega)
                        have dYn : decide (Y < j) = false := decide_eq_false (by omega)
                        subst hjY
                        clear heq hle hjE
                        go_wp2
                        go_roundw
                        case rel => exact ⟨b + 1, by omega, by omega, by go_num, hbz2⟩
                        case measure => simp [intOf]; omega
                      · have hjE : ((j : Int) == (Y : Int)) = false := by simp; omega
                        have dYn : decide (Y < j) = false := decide_eq_false (by omega)
                        clear heq hjY
                        go_wp2
                        go_roundw
                        case rel => exact ⟨b + 1, by omega, by omega, by go_num, hbz2⟩
                        case measure => simp [intOf]; omega
                    · have dA : decide ((3 : Int) ≤ (j : Int)) = false := decide_eq_false hA3
                      go_wp2
                      go_roundw
                      case rel => exact ⟨b + 1, by omega, by omega, by go_num, hbz2⟩
                      case measure => simp [intOf]; omega
              · have d250 : decide ((b : Int) ≤ 250) = false := decide_eq_false h250
                obtain ⟨e1, e2⟩ := unhide hkeep _ hbq
                by_cases hY0 : Y = 0
                · subst hY0
                  go_wp2
                  go_roundw
                  case rel =>
                    obtain ⟨q1, q2, q3, q4, q5⟩ := unhide HNx
                    rw [q3 rfl] at q1 q2
                    exact ⟨k + 1, p + 1, by omega, by go_num, by go_num, q2, q1, (unhide hb1).trans (hbq.mono (unhide hb1).size)⟩
                  case measure => simp [intOf]; omega
                · have hYn : ((Y : Int) == 0) = false := by simp; omega
                  have HY0 := hide hY0
                  clear hY0
                  go_wp2
                  go_roundw
                  case rel =>
                    obtain ⟨q1, q2, q3, q4, q5⟩ := unhide HNx
                    rw [q4 (unhide HY0)] at q1 q2
                    exact ⟨k + 1, p + Y, by omega, by go_num, by go_num, q2, q1, (unhide hb1).trans (hbq.mono (unhide hb1).size)⟩
                  case measure => simp [intOf]; omega
            · have dbp : decide ((b : Int) ≤ (p : Int)) = false := decide_eq_false hbp
              have dbpN : decide (b ≤ p) = false := decide_eq_false (by omega)
              obtain ⟨e1, e2⟩ := unhide hkeep _ hbq
              by_cases hY0 : Y = 0
              · subst hY0
                go_wp2
                go_roundw
                case rel =>
                  obtain ⟨q1, q2, q3, q4, q5⟩ := unhide HNx
                  rw [q3 rfl] at q1 q2
                  exact ⟨k + 1, p + 1, by omega, by go_num, by go_num, q2, q1, (unhide hb1).trans (hbq.mono (unhide hb1).size)⟩
                case measure => simp [intOf]; omega
              · have hYn : ((Y : Int) == 0) = false := by simp; omega
                have HY0 := hide hY0
                clear hY0
                go_wp2
                go_roundw
                case rel =>
                  obtain ⟨q1, q2, q3, q4, q5⟩ := unhide HNx
                  rw [q4 (unhide HY0)] at q1 q2
                  exact ⟨k + 1, p + Y, by omega, by go_num, by go_num, q2, q1, (unhide hb1).trans (hbq.mono (unhide hb1).size)⟩
                case measure => simp [intOf]; omega
        · have he : p = X.size := by
            have := end_tok hinv (by rw [unhide HR]; exact hlt) (by rw [unhide hL]; exact hp)
            rw [this, unhide hL]
          subst he
          clear hinv hr3
          go_wp2
          go_ret
          exact ⟨rfl, bnext (unhide g3) hbel⟩
  · clear hsrc
    go_enter Try.func9, Try.ntmps9
    go_wp2
    go_ret
    exact ⟨rfl, Below.refl _ _⟩

end Go.Proofs.Ytlncdcdblmpmgaa
