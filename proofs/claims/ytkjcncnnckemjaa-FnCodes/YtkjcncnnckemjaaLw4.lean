/- The walk of a law: no code begins another one. -/
import Derived.Test.YtkjcncnnckemjaaLw3
import Derived.Deep.RegionHeld3
namespace Go.Proofs.Ytkjcncnnckemjaa
open Go.RowKit Corb

theorem codes_bd {l : List Int} (hok : lensOk l = true) {i : Nat} (hi : i < l.length) : 0 ≤ (outN l 15).2.getD i 0 ∧ (outN l 15).2.getD i 0 < (p2 (l.getD i 0).toNat : Nat) := by
  rw [codes_get hok hi]
  by_cases h : 1 ≤ l.getD i 0
  · rw [if_pos h]
    have := (codeAt_lt hok hi h).1
    omega
  · rw [if_neg h]
    have := p2_pos (l.getD i 0).toNat
    omega

set_option maxRecDepth 100000 in
set_option maxHeartbeats 6400000 in
theorem fnCodes_walk (a : Option Addr) (len cap : Nat) (zs : List Int) (w : World) (w0 : IsRow .u8 w a len cap zs) :
    Calls Try.prog 3 #[.slice a len cap] w fun e w' => e = .returned (.bool true) ∧ Below w.heap.size w w' := by
  obtain ⟨⟨z, hsrc⟩, hc, hm⟩ := src_of w0
  have hm' := hide hm
  unfold maxLen at hm
  clear w0
  by_cases hl : (len : Int) ≤ 1048576
  · go_enter Try.func3, Try.ntmps3
    go_wp2_with fail
    refine (drawCodesOf_any a len cap z _ hsrc hc (unhide hm')).mono ?_
    rintro e x1 ⟨⟨l, va, vc, n, rfl, hn, ho1, hn3⟩, hb1⟩
    have HN := hide hn
    have H3 := hide hn3
    have hnI : (n : Int) ≤ 301 := by omega
    have HR := hide (fun (W : World) (h : Below x1.heap.size x1 W) => (ho1.later h (Nat.le_refl _)).rowN hn)
    have hRm : ∃ m, (codesL l).length = m := ⟨_, rfl⟩
    obtain ⟨m, hRm⟩ := hRm
    have HIM := hide (implCodes_n va vc n m l (codesL l) x1 hn (unhide HR x1 (Below.refl _ _)) (by omega) rfl hRm)
    have HSP := hide (fun (W : World) (h : Below x1.heap.size x1 W) => specCodes_n va vc n m l (codesL l) W hn (unhide HR W h) (by omega) rfl hRm)
    have HLI := hide (fun (W : World) (h : Below x1.heap.size x1 W) => implLensOk_any va vc n l W hn (unhide HR W h) (by omega))
    have HLS := hide (fun (W : World) (h : Below x1.heap.size x1 W) => specLensOk_any va vc n l W hn (unhide HR W h) (by omega))
    have HM := hide hRm
    have hmb := codesL_len l
    have hmI : (m : Int) ≤ 300 := by omega
    have HB1 := hide hb1
    clear hn hn3 ho1 hsrc hm hc hRm hmb hb1
    go_wp2_with fail
    refine (unhide HIM).mono ?_
    rintro e x2 ⟨ca, cc, rfl, hc2, hb2⟩
    go_wp2_with fail
    refine (unhide HLI x2 hb2).mono ?_
    rintro e y2 ⟨rfl, hy2⟩
    rw [hy2]
    clear hy2 y2
    cases hok : lensOk l
    · go_wp2_with fail
      refine (unhide HLS x2 hb2).mono ?_
      rintro e y3 ⟨rfl, hy3⟩
      rw [hy3, hok]
      clear hy3 y3
      go_wp2_with fail
      refine (unhide HSP x2 hb2).mono ?_
      rintro e x3 ⟨da, dc, rfl, hd3, hb3⟩
      have hc3 := hc2.later hb3 (Nat.le_refl _)
      have hB3 := bnext hb2 hb3
      go_wp2_with fail
      refine (cbInts_n _ _ _ _ m (codesL l) _ (unhide HM) (hc3.rowN (unhide HM)) (hd3.rowN (unhide HM)) (by have := codesL_len l; omega)).mono ?_
      rintro e x4 ⟨rfl, hb4⟩
      have hc4 := hc3.later hb4 (Nat.le_refl _)
      have hB4 := bnext hB3 hb4
      clear hc3 hd3 hb4 hB3 hc2 hb2 hb3
      go_wp2_with fail
      refine (unhide HLS x4 hB4).mono ?_
      rintro e y3 ⟨rfl, hy3⟩
      rw [hy3, hok]
      clear hy3 y3
      go_wp2_with fail
      refine (unhide HSP x4 hB4).mono ?_
      rintro e x5 ⟨ea, ec, rfl, he5, hb5⟩
      have hc5 := hc4.later hb5 (Nat.le_refl _)
      go_wp2_with fail
      refine (cbInts_n _ _ _ _ m (codesL l) _ (unhide HM) (hc5.rowN (unhide HM)) (he5.rowN (unhide HM)) (by have := codesL_len l; omega)).mono ?_
      rintro e x6 ⟨rfl, hb6⟩
      go_wp2
      go_ret
      exact ⟨rfl, bnext (unhide HB1) (bnext (bnext hB4 hb5) hb6)⟩
    · go_wp2_with fail
      refine (unhide HLS x2 hb2).mono ?_
      rintro e y3 ⟨rfl, hy3⟩
      rw [hy3, hok]
      clear hy3 y3
      go_wp2_with fail
      refine (unhide HSP x2 hb2).mono ?_
      rintro e x3 ⟨da, dc, rfl, hd3, hb3⟩
      have hc3 := hc2.later hb3 (Nat.le_refl _)
      have hB3 := bnext hb2 hb3
      go_wp2_with fail
      refine (cbInts_n _ _ _ _ m (codesL l) _ (unhide HM) (hc3.rowN (unhide HM)) (hd3.rowN (unhide HM)) (by have := codesL_len l; omega)).mono ?_
      rintro e x4 ⟨rfl, hb4⟩
      have hc4 := hc3.later hb4 (Nat.le_refl _)
      have hB4 := bnext hB3 hb4
      clear hc3 hd3 hb4 hB3 hc2 hb2 hb3
      have hco := codesL_yes hok
      have hmn : m = n := by have := unhide HM; rw [hco, outN_len, unhide HN] at this; exact this.symm
      subst hmn
      have HCR := hide (fun (W : World) (h : Below x4.heap.size x4 W) => (hc4.later h (Nat.le_refl _)).rowN (unhide HM))
      rw [hco] at HCR
      have HB4 := hide hB4
      have HOK := hide hok
      have HLR := hide (fun (W : World) (h : Below x4.heap.size x4 W) => unhide HR W (bnext hB4 h))
      clear hc4 hco hB4 hok HIM HSP HLI HLS
      go_wp2_with fail
      go_loopw [2, 6, 7, 8, 9] (fun _ i _ _ _ wr => ∃ k : Nat, k ≤ m ∧ i = .int .i64 k ∧ Below x4.heap.size x4 wr) (fun _ i _ _ _ _ => m - (intOf i).toNat)
      case atStart => exact ⟨0, Nat.zero_le _, rfl, Below.refl _ _⟩
      case round =>
        obtain ⟨i, hi, rfl, hbel⟩ := hrel
        have HI := hide hi
        have HB := hide hbel
        clear hi hbel
        by_cases hlt : i < m
        · have hltI : (i : Int) < (m : Int) := by omega
          have hi0 : (0 : Int) ≤ (i : Int) := by omega
          obtain ⟨g, o, rfl, hg, hcc⟩ := unhide HLR wr (unhide HB) (by rw [unhide HN]; omega)
          have li := hcc i (by rw [unhide HN]; exact hlt)
          obtain ⟨g', o', rfl, hg', hcc'⟩ := unhide HCR wr (unhide HB) (by rw [outN_len, unhide HN]; omega)
          have ci := hcc' i (by rw [outN_len, unhide HN]; exact hlt)
          have hil : Hid (i < l.length) := by show i < l.length; rw [unhide HN]; exact hlt
          have hcb := codes_bd (unhide HOK) (unhide hil)
          have hlb := inL_bd (lensOk_in (unhide HOK)) (unhide hil)
          have hpw := hide (fun W => cbPow_any (l.getD i 0) W (by omega))
          have hpb := pow_bd (l.getD i 0) (by omega)
          have HCE := hide (codes_get (unhide HOK) (unhide hil))
          clear hcc hcc'
          generalize hyi : l.getD i 0 = yi at *
          generalize hci : (outN l 15).2.getD i 0 = ci' at *
          have HYI := hide hyi
          have HCI := hide hci
          clear hyi hci
          have d0 : decide (ci' < 0) = false := decide_eq_false (by omega)
          have d1 : decide (((p2 yi.toNat : Nat) : Int) ≤ ci') = false := decide_eq_false (by omega)
          go_wp2_with fail
          go_quiet (first | (go_at_call 13; exact Calls.quiet_of_same (unhide hpw _)))
          clear hpw
          go_wp2_with fail
          have HB2 : Hid (Below x4.heap.size x4 (wr.drewN nq)) := below_drewN (unhide HB) nq
          go_loopw [2, 7, 8, 9] (fun _ q _ _ wq => ∃ k : Nat, k ≤ i ∧ q = .int .i64 k ∧ Below x4.heap.size x4 wq) (fun _ q _ _ _ => i - (intOf q).toNat)
          case atStart => exact ⟨0, Nat.zero_le _, rfl, unhide HB2⟩
          case round =>
            obtain ⟨k, hki0, rfl, hbk⟩ := hrel
            have HKI := hide hki0
            have HBk := hide hbk
            clear hki0 hbk li ci
            obtain ⟨g1, o1, eg, hg1, hcc⟩ := unhide HLR wr (unhide HBk) (by rw [unhide HN]; omega)
            simp only [Option.some.injEq, Addr.mk.injEq, and_true] at eg
            obtain ⟨rfl, rfl⟩ := eg
            have li := hcc i (by rw [unhide HN]; exact hlt)
            rw [unhide HYI] at li
            by_cases hki : k < i
            · have kI : (k : Int) < (i : Int) := by omega
              have k0 : (0 : Int) ≤ (k : Int) := by omega
              have km : (k : Int) < (m : Int) := by omega
              have tk : decide ((k : Int) < (i : Int)) = true := decide_eq_true kI
              by_cases hyi0 : 0 < yi
              · have ty : decide (0 < yi) = true := decide_eq_true hyi0
                have lk := hcc k (by rw [unhide HN]; omega)
                have hkl : Hid (k < l.length) := by show k < l.length; rw [unhide HN]; omega
                obtain ⟨g2, o2, eg2, hg2, hcc2⟩ := unhide HCR wr (unhide HBk) (by rw [outN_len, unhide HN]; omega)
                simp only [Option.some.injEq, Addr.mk.injEq, and_true] at eg2
                obtain ⟨rfl, rfl⟩ := eg2
                have ci := hcc2 i (by rw [outN_len, unhide HN]; exact hlt)
                have ck := hcc2 k (by rw [outN_len, unhide HN]; omega)
                rw [unhide HCI] at ci
                have hckb := codes_bd (unhide HOK) (unhide hkl)
                have hlkb := inL_bd (lensOk_in (unhide HOK)) (unhide hkl)
                have HCK := codes_get (unhide HOK) (unhide hkl)
                have hcie : ci' = ((codeAt l i : Nat) : Int) := by have := unhide HCE; rw [if_pos (by omega)] at this; exact this
                clear hcc hcc2
                generalize hyk : l.getD k 0 = yk at *
                generalize hckk : (outN l 15).2.getD k 0 = ck' at *
                have HYK := hide hyk
                clear hyk hckk
                by_cases hyk0 : yk = 0
                · have ez : (yk == 0) = true := by simp [hyk0]
                  have ez2 : yk = 0 := hyk0
                  clear HCK hcie hckb
                  go_wp2
                  go_roundw
                  case rel => exact ⟨k + 1, by omega, by go_num, unhide HBk⟩
                  case measure => simp [intOf]; omega
                · have ez : (yk == 0) = false := by rw [beq_eq_false_iff_ne]; exact hyk0
                  have hcke : ck' = ((codeAt l k : Nat) : Int) := by rw [if_pos (by omega)] at HCK; exact HCK
                  have hpbk := pow_bd yk (by omega)
                  clear HCK
                  by_cases hgt : yk < yi
                  · have t1 : decide (yk < yi) = true := decide_eq_true hgt
                    have hb2 := no_begin (unhide HOK) (unhide hkl) (by rw [unhide HYK]; omega) (show l.getD k 0 < l.getD i 0 by rw [unhide HYK, unhide HYI]; exact hgt)
                    rw [unhide HYI, unhide HYK] at hb2
                    have hpw := hide (fun W => cbPow_any (yi - yk) W (by omega))
                    have hw := wrap_id (yi - yk) (by omega) (by omega)
                    have hp1 := p2_pos (yi - yk).toNat
                    have hpm : p2 (yi - yk).toNat ≤ 32768 := by
                      have h1 : p2 (yi - yk).toNat ≤ p2 15 := Nat.pow_le_pow_right (by omega) (by omega)
                      exact h1
                    generalize p2 (yi - yk).toNat = PW at *
                    have hQ : ((codeAt l i : Nat) : Int) / (PW : Int) = ((codeAt l i / PW : Nat) : Int) := by simp
                    have hQle : codeAt l i / PW ≤ codeAt l i := Nat.div_le_self _ _
                    rw [hcie] at hcb
                    subst hcie
                    subst hcke
                    generalize codeAt l i / PW = Q at *
                    generalize codeAt l i = CI at *
                    generalize codeAt l k = CK at *
                    have n1 : ¬ PW = 0 := by omega
                    have n2 : ¬ (PW : Int) = 0 := by omega
                    have n3 : (0 : Int) < (PW : Int) := by omega
                    have q1 : Int.tdiv (CI : Int) (PW : Int) = (Q : Int) := by rw [Int.tdiv_eq_ediv_of_nonneg (by omega), hQ]
                    have q2 : IntKind.i64.wrap (Q : Int) = (Q : Int) := wrap_id _ (by omega) (by omega)
                    have f1 : ((Q : Int) == (CK : Int)) = false := by rw [beq_eq_false_iff_ne]; omega
                    have f2 : (yi == yk) = false := by rw [beq_eq_false_iff_ne]; omega
                    clear hb2 hQle hp1 hpm
                    go_wp2_with fail
                    go_quiet (fail)
                    go_wp2_with fail
                    go_region_held3 (fun W => W.cell? ⟨g, o + i, none⟩ = some (.int .i64 yi) ∧ W.cell? ⟨g, o + k, none⟩ = some (.int .i64 yk)) (first | exact ⟨li, lk⟩ | assumption) (first | (go_at_call 13; refine (unhide hpw _).mono ?_; rintro e w' ⟨rfl, hw'⟩; rw [hw']; clear hw'))
                    go_wp2_with fail
                    go_quiet (fail)
                    go_wp2
                    go_roundw
                    case rel => exact ⟨k + 1, by omega, by go_num, below_drewN (unhide HBk) _⟩
                    case measure => simp [intOf]; omega
                  · by_cases hlt2 : yi < yk
                    · have t1 : decide (yk < yi) = false := decide_eq_false hgt
                      have hb2 := no_begin (unhide HOK) (unhide hil) (by rw [unhide HYI]; omega) (show l.getD i 0 < l.getD k 0 by rw [unhide HYK, unhide HYI]; exact hlt2)
                      rw [unhide HYI, unhide HYK] at hb2
                      have hpw := hide (fun W => cbPow_any (yk - yi) W (by omega))
                      have hw := wrap_id (yk - yi) (by omega) (by omega)
                      have hp1 := p2_pos (yk - yi).toNat
                      have hpm : p2 (yk - yi).toNat ≤ 32768 := by
                        have h1 : p2 (yk - yi).toNat ≤ p2 15 := Nat.pow_le_pow_right (by omega) (by omega)
                        exact h1
                      generalize p2 (yk - yi).toNat = PW at *
                      have hQ : ((codeAt l k : Nat) : Int) / (PW : Int) = ((codeAt l k / PW : Nat) : Int) := by simp
                      have hQle : codeAt l k / PW ≤ codeAt l k := Nat.div_le_self _ _
                      rw [hcke] at hckb
                      subst hcie
                      subst hcke
                      generalize codeAt l k / PW = Q at *
                      generalize codeAt l i = CI at *
                      generalize codeAt l k = CK at *
                      have n1 : ¬ PW = 0 := by omega
                      have n2 : ¬ (PW : Int) = 0 := by omega
                      have n3 : (0 : Int) < (PW : Int) := by omega
                      have q1 : Int.tdiv (CK : Int) (PW : Int) = (Q : Int) := by rw [Int.tdiv_eq_ediv_of_nonneg (by omega), hQ]
                      have q2 : IntKind.i64.wrap (Q : Int) = (Q : Int) := wrap_id _ (by omega) (by omega)
                      have f1 : ((CI : Int) == (Q : Int)) = false := by rw [beq_eq_false_iff_ne]; omega
                      have f2 : (yi == yk) = false := by rw [beq_eq_false_iff_ne]; omega
                      clear hb2 hQle hp1 hpm
                      go_wp2_with fail
                      go_quiet (fail)
                      go_wp2_with fail
                      go_region_held3 (fun W => W.cell? ⟨g, o + i, none⟩ = some (.int .i64 yi) ∧ W.cell? ⟨g, o + k, none⟩ = some (.int .i64 yk)) (first | exact ⟨li, lk⟩ | assumption) (first | (go_at_call 13; refine (unhide hpw _).mono ?_; rintro e w' ⟨rfl, hw'⟩; rw [hw']; clear hw'))
                      go_wp2_with fail
                      go_quiet (fail)
                      go_wp2
                      go_roundw
                      case rel => exact ⟨k + 1, by omega, by go_num, below_drewN (unhide HBk) _⟩
                      case measure => simp [intOf]; omega
                    · have heq : yi = yk := by omega
                      have hb2 := same_more (l := l) hki (by rw [unhide HYK, unhide HYI, heq])
                      subst heq
                      have t1 : decide (yi < yi) = false := decide_eq_false hgt
                      have hpw := hide (fun W => cbPow_any 0 W (by omega))
                      have hp1 : p2 (0 : Int).toNat = 1 := rfl
                      generalize p2 (0 : Int).toNat = PW at *
                      have n1 : ¬ PW = 0 := by omega
                      have n2 : ¬ (PW : Int) = 0 := by omega
                      have n3 : (0 : Int) < (PW : Int) := by omega
                      have hdv : ∀ x : Int, x / (PW : Int) = x := fun x => by rw [hp1]; simp
                      have hsub : yi - yi = 0 := by omega
                      rw [hcke] at hckb
                      subst hcie
                      subst hcke
                      generalize codeAt l i = CI at *
                      generalize codeAt l k = CK at *
                      obtain ⟨Q, hQC⟩ : ∃ Q : Nat, Q = CK := ⟨CK, rfl⟩
                      have hQ : (CK : Int) / (PW : Int) = (Q : Int) := by rw [hdv, hQC]
                      have q1 : Int.tdiv (CK : Int) (PW : Int) = (Q : Int) := by rw [Int.tdiv_eq_ediv_of_nonneg (by omega), hQ]
                      have q2 : IntKind.i64.wrap (Q : Int) = (Q : Int) := wrap_id _ (by omega) (by omega)
                      have f1 : ((CI : Int) == (Q : Int)) = false := by rw [beq_eq_false_iff_ne]; omega
                      clear hdv hQC
                      have f3 : ¬ (CI : Int) ≤ (CK : Int) := by omega
                      have f4 : (CK : Int) < (CI : Int) := by omega
                      have f5 : decide ((CI : Int) ≤ (CK : Int)) = false := decide_eq_false f3
                      clear hb2 hp1
                      go_wp2_with fail
                      go_quiet (fail)
                      go_wp2_with fail
                      go_region_held3 (fun W => W.cell? ⟨g, o + i, none⟩ = some (.int .i64 yi) ∧ W.cell? ⟨g, o + k, none⟩ = some (.int .i64 yi)) (first | exact ⟨li, lk⟩ | assumption) (first | (go_at_call 13; refine (unhide hpw _).mono ?_; rintro e w' ⟨rfl, hw'⟩; rw [hw']; clear hw'))
                      go_wp2_with fail
                      go_quiet (fail)
                      go_wp2
                      go_roundw
                      case rel => exact ⟨k + 1, by omega, by go_num, below_drewN (unhide HBk) _⟩
                      case measure => simp [intOf]; omega
              · have ty : decide (0 < yi) = false := decide_eq_false hyi0
                clear hcc
                go_wp2
                go_roundw
                case rel => exact ⟨i + 1, by have := unhide HI; omega, by go_num, unhide HBk⟩
                case measure => simp [intOf]; omega
            · have tk : decide ((k : Int) < (i : Int)) = false := decide_eq_false (by omega)
              clear hcc
              go_wp2
              go_roundw
              case rel => exact ⟨i + 1, by have := unhide HI; omega, by go_num, unhide HBk⟩
              case measure => simp [intOf]; omega
        · have hltI : ¬ (i : Int) < (m : Int) := by omega
          go_wp2
          go_ret
          exact ⟨by simp, bnext (unhide HB1) (bnext (unhide HB4) (unhide HB))⟩
  · go_enter Try.func3, Try.ntmps3
    go_wp2
    go_ret
    exact ⟨rfl, Below.refl _ _⟩

end Go.Proofs.Ytkjcncnnckemjaa
