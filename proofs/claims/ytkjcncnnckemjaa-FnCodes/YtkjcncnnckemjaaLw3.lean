/- The walk of a law: the first of the shortest codes is noughts. -/
import Derived.Test.YtkjcncnnckemjaaDl1
import Derived.Test.YtkjcncnnckemjaaCm2
import Derived.Test.YtkjcncnnckemjaaCb1
namespace Go.Proofs.Ytkjcncnnckemjaa
open Go.RowKit Corb

/-- What the law has found among the first k. -/
def FL (l : List Int) (k : Nat) (f g : Int) : Prop :=
  (f = -1 ∧ g = -1 ∧ ∀ j, j < k → l.getD j 0 ≤ 0) ∨
  ∃ p q : Nat, p < k ∧ q < k ∧ f = (p : Int) ∧ g = (q : Int) ∧ 0 < l.getD p 0 ∧ 0 < l.getD q 0 ∧ (∀ j, j < k → 0 < l.getD j 0 → l.getD p 0 ≤ l.getD j 0 ∧ (l.getD j 0 = l.getD p 0 → p ≤ j)) ∧ (∀ j, j < k → 0 < l.getD j 0 → l.getD j 0 ≤ l.getD q 0 ∧ (l.getD j 0 = l.getD q 0 → j ≤ q))
theorem FL.skip {l : List Int} {k : Nat} {f g : Int} (h : FL l k f g) (hy : l.getD k 0 ≤ 0) : FL l (k + 1) f g := by
  rcases h with ⟨h1, h2, h3⟩ | ⟨p, q, hp, hq, h1, h2, h3, h4, h5, h6⟩
  · refine .inl ⟨h1, h2, fun j hj => ?_⟩
    by_cases e : j = k
    · subst e; exact hy
    · exact h3 j (by omega)
  · refine .inr ⟨p, q, by omega, by omega, h1, h2, h3, h4, fun j hj hpos => ?_, fun j hj hpos => ?_⟩
    · by_cases e : j = k
      · subst e; omega
      · exact h5 j (by omega) hpos
    · by_cases e : j = k
      · subst e; omega
      · exact h6 j (by omega) hpos
theorem FL.start {l : List Int} {k : Nat} (h : ∀ j, j < k → l.getD j 0 ≤ 0) (hy : 0 < l.getD k 0) : FL l (k + 1) (k : Int) (k : Int) := by
  refine .inr ⟨k, k, by omega, by omega, rfl, rfl, hy, hy, fun j hj hpos => ?_, fun j hj hpos => ?_⟩
  · by_cases e : j = k
    · subst e; omega
    · have := h j (by omega); omega
  · by_cases e : j = k
    · subst e; omega
    · have := h j (by omega); omega
theorem FL.more {l : List Int} {k p q : Nat} (hp : p < k) (hq : q < k) (h3 : 0 < l.getD p 0) (h4 : 0 < l.getD q 0) (h5 : ∀ j, j < k → 0 < l.getD j 0 → l.getD p 0 ≤ l.getD j 0 ∧ (l.getD j 0 = l.getD p 0 → p ≤ j)) (h6 : ∀ j, j < k → 0 < l.getD j 0 → l.getD j 0 ≤ l.getD q 0 ∧ (l.getD j 0 = l.getD q 0 → j ≤ q)) (hy : 0 < l.getD k 0) :
    FL l (k + 1) (if l.getD k 0 < l.getD p 0 then (k : Int) else (p : Int)) (if l.getD q 0 ≤ l.getD k 0 then (k : Int) else (q : Int)) := by
  refine .inr ⟨if l.getD k 0 < l.getD p 0 then k else p, if l.getD q 0 ≤ l.getD k 0 then k else q, by split <;> omega, by split <;> omega, by split <;> rfl, by split <;> rfl, by split <;> assumption, by split <;> assumption, ?_, ?_⟩
  · intro j hj hpos
    by_cases e : j = k
    · subst e
      split
      · exact ⟨Int.le_refl _, fun _ => Nat.le_refl _⟩
      · exact ⟨by omega, fun _ => by omega⟩
    · have := h5 j (by omega) hpos
      split
      · exact ⟨by omega, fun he => by omega⟩
      · exact this
  · intro j hj hpos
    by_cases e : j = k
    · subst e
      split
      · exact ⟨Int.le_refl _, fun _ => Nat.le_refl _⟩
      · exact ⟨by omega, fun he => by omega⟩
    · have := h6 j (by omega) hpos
      split
      · exact ⟨by omega, fun _ => by omega⟩
      · exact this
theorem FL.done {l : List Int} {f g : Int} (hok : lensOk l = true) (h : FL l l.length f g) : ∃ p q : Nat, p < l.length ∧ q < l.length ∧ f = (p : Int) ∧ g = (q : Int) ∧ 0 < l.getD q 0 ∧ (outN l 15).2.getD p 0 = 0 ∧ (us l ≠ 1 → (outN l 15).2.getD q 0 = (p2 (l.getD q 0).toNat : Nat) - 1) := by
  rcases h with ⟨_, _, h3⟩ | ⟨p, q, hp, hq, h1, h2, h3, h4, h5, h6⟩
  · have hz : kr l = 0 := by
      have : ∀ m : List Int, (∀ b ∈ m, b ≤ 0) → kr m = 0 := by
        intro m hm
        induction m with
        | nil => rfl
        | cons b m ih =>
          have h1 := ih (fun x hx => hm x (by simp [hx]))
          have h2 := hm b (by simp)
          simp only [kr, krN, List.map_cons, List.sum_cons] at h1 ⊢
          rw [h1, if_neg (by omega)]
      apply this
      intro b hb
      obtain ⟨i, hi, rfl⟩ := List.getElem_of_mem hb
      have := h3 i hi
      have e : l.getD i 0 = l[i] := by simp [List.getD, hi]
      rw [e] at this
      exact this
    simp only [lensOk, wholeL, Bool.and_eq_true, Bool.or_eq_true, decide_eq_true_iff] at hok
    omega
  · refine ⟨p, q, hp, hq, h1, h2, h4, ?_, fun hu => ?_⟩
    · rw [codes_get hok hp, if_pos (by omega), first_zero h3 h5 hp]; rfl
    · rw [codes_get hok hq, if_pos (by omega), last_full hok hu h4 h6 hq]
theorem lensOk_pos {l : List Int} (hok : lensOk l = true) : 0 < l.length := by
  rcases Nat.eq_zero_or_pos l.length with h | h
  · have : l = [] := List.eq_nil_of_length_eq_zero h
    subst this
    exact absurd hok (by decide)
  · exact h

set_option maxHeartbeats 3200000 in
theorem fnCodesFirst_walk (a : Option Addr) (len cap : Nat) (zs : List Int) (w : World) (w0 : IsRow .u8 w a len cap zs) :
    Calls Try.prog 4 #[.slice a len cap] w fun e w' => e = .returned (.bool true) ∧ Below w.heap.size w w' := by
  obtain ⟨⟨z, hsrc⟩, hc, hm⟩ := src_of w0
  have hm' := hide hm
  unfold maxLen at hm
  clear w0
  by_cases hl : (len : Int) ≤ 1048576
  · go_enter Try.func4, Try.ntmps4
    go_wp2_with fail
    refine (drawCodesOf_any a len cap z _ hsrc hc (unhide hm')).mono ?_
    rintro e x1 ⟨⟨l, va, vc, n, rfl, hn, ho1, hn3⟩, hb1⟩
    have HN := hide hn
    have H3 := hide hn3
    have hnI : (n : Int) ≤ 301 := by omega
    have HR := hide (fun (W : World) (h : Below x1.heap.size x1 W) => (ho1.later h (Nat.le_refl _)).rowN hn)
    have hRm : ∃ m, (codesL l).length = m := ⟨_, rfl⟩
    obtain ⟨m, hRm⟩ := hRm
    have HIM := hide (implCodes_n va vc n m l (codesL l) x1 hn (unhide HR x1 (Below.refl _ _)) (by omega) rfl hRm)
    have HSP := hide (fun (W : World) (h : Below x1.heap.size x1 W) => specCodes_n va vc n m l (codesL l) W hn (unhide HR W h) (by omega) rfl hRm)
    have HM := hide hRm
    have hmb := codesL_len l
    have hmI : (m : Int) ≤ 300 := by omega
    have HB1 := hide hb1
    clear hn hn3 ho1 hsrc hm hc hRm hmb hb1
    go_wp2_with fail
    refine (unhide HIM).mono ?_
    rintro e x2 ⟨ca, cc, rfl, hc2, hb2⟩
    go_wp2_with fail
    refine (unhide HSP x2 hb2).mono ?_
    rintro e x3 ⟨da, dc, rfl, hd3, hb3⟩
    have hc3 := hc2.later hb3 (Nat.le_refl _)
    have hB3 := bnext hb2 hb3
    clear hc2 hb2 hb3
    go_wp2_with fail
    refine (cbInts_n _ _ _ _ m (codesL l) _ (unhide HM) (hc3.rowN (unhide HM)) (hd3.rowN (unhide HM)) (by have := codesL_len l; omega)).mono ?_
    rintro e x4 ⟨rfl, hb4⟩
    have hc4 := hc3.later hb4 (Nat.le_refl _)
    have hB4 := bnext hB3 hb4
    clear hc3 hd3 hb4 hB3
    cases hok : lensOk l
    · have hm0 : m = 0 := by have := unhide HM; rw [codesL_no hok] at this; simpa using this.symm
      subst hm0
      go_wp2_with fail
      refine (unhide HSP x4 hB4).mono ?_
      rintro e x5 ⟨ea, ec, rfl, he5, hb5⟩
      have hc5 := hc4.later hb5 (Nat.le_refl _)
      go_wp2_with fail
      refine (cbInts_n _ _ _ _ 0 (codesL l) _ (unhide HM) (hc5.rowN (unhide HM)) (he5.rowN (unhide HM)) (by have := codesL_len l; omega)).mono ?_
      rintro e x6 ⟨rfl, hb6⟩
      go_wp2
      go_ret
      exact ⟨rfl, bnext (unhide HB1) (bnext (bnext hB4 hb5) hb6)⟩
    · have hco := codesL_yes hok
      have hmn : m = n := by have := unhide HM; rw [hco, outN_len, unhide HN] at this; exact this.symm
      subst hmn
      have hn0 := lensOk_pos hok
      have hz : ((m : Int) == 0) = false := by rw [beq_eq_false_iff_ne]; have := unhide HN; omega
      have HCR := hide (fun (W : World) (h : Below x4.heap.size x4 W) => (hc4.later h (Nat.le_refl _)).rowN (unhide HM))
      rw [hco] at HCR
      have HB4 := hide hB4
      have HOK := hide hok
      have HLR := hide (fun (W : World) (h : Below x4.heap.size x4 W) => unhide HR W (bnext hB4 h))
      clear hc4 hco hn0 hB4 hok HIM HSP
      go_wp2_with fail
      go_loopw [5, 6, 7] (fun f g i wr => ∃ (k : Nat) (fi gi : Int), k ≤ m ∧ i = .int .i64 k ∧ f = .int .i64 fi ∧ g = .int .i64 gi ∧ FL l k fi gi ∧ Below x4.heap.size x4 wr) (fun _ _ i _ => m - (intOf i).toNat)
      case atStart => exact ⟨0, -1, -1, Nat.zero_le _, rfl, rfl, rfl, .inl ⟨rfl, rfl, fun j hj => absurd hj (by omega)⟩, Below.refl _ _⟩
      case round =>
        obtain ⟨k, fi, gi, hk, rfl, rfl, rfl, hfl, hbel⟩ := hrel
        have HK := hide hk
        have HF := hide hfl
        have HB := hide hbel
        clear hk hfl hbel
        by_cases hlt : k < m
        · have hltI : (k : Int) < (m : Int) := by omega
          have hk0 : (0 : Int) ≤ (k : Int) := by omega
          obtain ⟨g, o, rfl, hg, hcc⟩ := unhide HLR wr (unhide HB) (by rw [unhide HN]; omega)
          have c0 := hcc k (by rw [unhide HN]; exact hlt)
          by_cases hy : 0 < l.getD k 0
          · have e2 : decide (0 < l.getD k 0) = true := decide_eq_true hy
            rcases unhide HF with ⟨rfl, rfl, h3⟩ | ⟨p, q, hp, hq, rfl, rfl, h3, h4, h5, h6⟩
            · have HN2 := hide (FL.start h3 hy)
              clear hcc h3
              generalize l.getD k 0 = y at *
              go_wp2_with fail
              go_quiet (fail)
              go_wp2
              go_quiet (fail)
              go_wp2
              go_roundw
              case rel => exact ⟨k + 1, k, k, by have := unhide HK; omega, by go_num, rfl, rfl, unhide HN2, below_drewN (unhide HB) _⟩
              case measure => simp [intOf]; omega
            · have HN2 := hide (FL.more hp hq h3 h4 h5 h6 hy)
              have cp := hcc p (by rw [unhide HN]; omega)
              have cq := hcc q (by rw [unhide HN]; omega)
              have pI : (p : Int) < (m : Int) := by omega
              have qI : (q : Int) < (m : Int) := by omega
              have p0 : (0 : Int) ≤ (p : Int) := by omega
              have q0 : (0 : Int) ≤ (q : Int) := by omega
              have ep : decide ((p : Int) < 0) = false := decide_eq_false (by omega)
              have eq' : decide ((q : Int) < 0) = false := decide_eq_false (by omega)
              clear hcc h5 h6 h3 h4
              generalize l.getD k 0 = y at *
              generalize l.getD p 0 = yp at *
              generalize l.getD q 0 = yq at *
              by_cases g1 : y < yp
              · have d1 : decide (y < yp) = true := decide_eq_true g1
                by_cases g2 : yq ≤ y
                · have d2 : decide (yq ≤ y) = true := decide_eq_true g2
                  have HN3 : Hid (FL l (k + 1) k k) := by have := unhide HN2; rw [if_pos g1, if_pos g2] at this; exact this
                  go_wp2_with fail
                  go_quiet (fail)
                  go_wp2
                  go_quiet (fail)
                  go_wp2
                  go_roundw
                  case rel => exact ⟨k + 1, k, k, by have := unhide HK; omega, by go_num, rfl, rfl, unhide HN3, below_drewN (unhide HB) _⟩
                  case measure => simp [intOf]; omega
                · have d2 : decide (yq ≤ y) = false := decide_eq_false g2
                  have HN3 : Hid (FL l (k + 1) k q) := by have := unhide HN2; rw [if_pos g1, if_neg g2] at this; exact this
                  go_wp2_with fail
                  go_quiet (fail)
                  go_wp2
                  go_quiet (fail)
                  go_wp2
                  go_roundw
                  case rel => exact ⟨k + 1, k, q, by have := unhide HK; omega, by go_num, rfl, rfl, unhide HN3, below_drewN (unhide HB) _⟩
                  case measure => simp [intOf]; omega
              · have d1 : decide (y < yp) = false := decide_eq_false g1
                by_cases g2 : yq ≤ y
                · have d2 : decide (yq ≤ y) = true := decide_eq_true g2
                  have HN3 : Hid (FL l (k + 1) p k) := by have := unhide HN2; rw [if_neg g1, if_pos g2] at this; exact this
                  go_wp2_with fail
                  go_quiet (fail)
                  go_wp2
                  go_quiet (fail)
                  go_wp2
                  go_roundw
                  case rel => exact ⟨k + 1, p, k, by have := unhide HK; omega, by go_num, rfl, rfl, unhide HN3, below_drewN (unhide HB) _⟩
                  case measure => simp [intOf]; omega
                · have d2 : decide (yq ≤ y) = false := decide_eq_false g2
                  have HN3 : Hid (FL l (k + 1) p q) := by have := unhide HN2; rw [if_neg g1, if_neg g2] at this; exact this
                  go_wp2_with fail
                  go_quiet (fail)
                  go_wp2
                  go_quiet (fail)
                  go_wp2
                  go_roundw
                  case rel => exact ⟨k + 1, p, q, by have := unhide HK; omega, by go_num, rfl, rfl, unhide HN3, below_drewN (unhide HB) _⟩
                  case measure => simp [intOf]; omega
          · have e2 : decide (0 < l.getD k 0) = false := decide_eq_false hy
            have HN2 := hide ((unhide HF).skip (by omega))
            clear hcc
            generalize l.getD k 0 = y at *
            go_wp2_with fail
            go_quiet (fail)
            go_wp2
            go_quiet (fail)
            go_wp2
            go_roundw
            case rel => exact ⟨k + 1, fi, gi, by have := unhide HK; omega, by go_num, rfl, rfl, unhide HN2, below_drewN (unhide HB) _⟩
            case measure => simp [intOf]; omega
        · have hkm : k = l.length := by have := unhide HK; have := unhide HN; omega
          have hfl := unhide HF
          rw [hkm] at hfl
          obtain ⟨p, q, hp, hq, rfl, rfl, hq0, hc0, hcl⟩ := hfl.done (unhide HOK)
          have hltI : ¬ (k : Int) < (m : Int) := by omega
          have hN := unhide HN
          obtain ⟨g, o, rfl, hg, hcc⟩ := unhide HLR wr (unhide HB) (by omega)
          have cq := hcc q (by omega)
          obtain ⟨g', o', rfl, hg', hcc'⟩ := unhide HCR wr (unhide HB) (by rw [outN_len]; omega)
          have dp := hcc' p (by rw [outN_len]; omega)
          have dq := hcc' q (by rw [outN_len]; omega)
          rw [hc0] at dp
          have pI : (p : Int) < (m : Int) := by omega
          have qI : (q : Int) < (m : Int) := by omega
          have p0 : (0 : Int) ≤ (p : Int) := by omega
          have q0 : (0 : Int) ≤ (q : Int) := by omega
          have HUS := hide (fun (W : World) (h : Below x4.heap.size x4 W) => cbUsed_any (some ⟨g, o, none⟩) vc m l W (unhide HN) (unhide HLR W h) (by omega))
          have hub := us_le l
          have huI : ((us l : Nat) : Int) ≤ 301 := by omega
          have hyb := inL_bd (lensOk_in (unhide HOK)) hq
          clear hcc hcc' hc0 hfl hkm hN hub
          by_cases hu : us l = 1
          · have eu : (((us l : Nat) : Int) == 1) = true := by rw [hu]; rfl
            rw [hu] at HUS
            go_wp2_with fail
            go_quiet (first | (go_at_call 14; exact Calls.quiet_of_same (unhide HUS _ (below_drewN (unhide HB) _))) | (go_at_call 14; exact Calls.quiet_of_same (unhide HUS _ (unhide HB))))
            go_wp2
            go_ret
            exact ⟨rfl, bnext (unhide HB1) (bnext (unhide HB4) (below_drewN (unhide HB) _))⟩
          · have hcl2 := hcl hu
            rw [hcl2] at dq
            have eu : (((us l : Nat) : Int) == 1) = false := by rw [beq_eq_false_iff_ne]; omega
            have hpw := hide (fun W => cbPow_any (l.getD q 0) W (by omega))
            have hpb := (pow_bd (l.getD q 0) (by omega))
            clear hcl hcl2
            generalize l.getD q 0 = yq at *
            generalize p2 yq.toNat = PW at *
            have e1 : IntKind.i64.wrap ((PW : Int) - 1) = (PW : Int) - 1 := wrap_id _ (by omega) (by omega)
            have e2 : (((PW : Int) - 1) == ((PW : Int) - 1)) = true := by simp
            go_wp2_with fail
            go_quiet (first | (go_at_call 14; exact Calls.quiet_of_same (unhide HUS _ (below_drewN (unhide HB) _))) | (go_at_call 13; exact Calls.quiet_of_same (unhide hpw _)))
            go_wp2
            go_ret
            exact ⟨rfl, bnext (unhide HB1) (bnext (unhide HB4) (below_drewN (unhide HB) _))⟩
  · go_enter Try.func4, Try.ntmps4
    go_wp2
    go_ret
    exact ⟨rfl, Below.refl _ _⟩

end Go.Proofs.Ytkjcncnnckemjaa
