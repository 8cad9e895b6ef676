/- A symbol read by a code: the model's, over this seat's program. -/
import Derived.Test.YtnomiopdpmecbaaSg2
namespace Go.Proofs.Ytnomiopdpmecbaa
open Go.RowKit Corb

/-- What the model's reading of a symbol answers. -/
def SymPost (w : World) (b : Nat) (s : ByteArray) (d : Option (Int × Nat)) (e : Ending) (w' : World) : Prop :=
  Keep1 b w w' ∧ match d with
    | none => ∃ x v, e = .returned (.int .i64 x) ∧ Three w' b (.string s) v (.bool true)
    | some (i, q) => e = .returned (.int .i64 i) ∧ Rdr w' b s q
theorem Rdr.three {w : World} {b p : Nat} {s : ByteArray} (h : Rdr w b s p) (hp : 8 * s.size < p) : Three w b (.string s) (.int .i64 (min p (8 * s.size) : Nat)) (.bool true) := by
  unfold Rdr at h
  rwa [decide_eq_true hp] at h
theorem keep1_set0 (w : World) (b o : Nat) (u : Value) : Keep1 b w (w.setCell ⟨b, o, none⟩ u) :=
  ⟨below_set (Below.refl _ _) (Nat.le_refl _) _, fun k _ hk => Below.heap_setCell w ⟨b, o, none⟩ u k hk⟩

set_option maxHeartbeats 3200000 in
theorem symbol_any (a ac : Option Addr) (cap cc n b p : Nat) (l : List Int) (s : ByteArray) (w : World) (hn : l.length = n) (hok : lensOk l = true)
    (hs : s.size ≤ 2000000) (hr : Rdr w b s p) (hp : p ≤ 8 * s.size) (hrl : ∀ W, Keep1 b w W → IRow W a l) (hrc : ∀ W, Keep1 b w W → IRow W ac (outN l 15).2) :
    Calls Try.prog 34 #[.pointer (some ⟨b, 0, none⟩), .slice a n cap, .slice ac n cc] w (SymPost w b s (dec l (numB s) (8 * s.size) p)) := by
  have HN := hide hn
  have HS := hide hs
  have HOK := hide hok
  have HRL := hide hrl
  have HRC := hide hrc
  have hnI : (n : Int) ≤ 300 := by have := lensOk_len hok; omega
  clear hn hs hok hrl hrc
  go_enter Try.func34, Try.ntmps34
  go_wp2_with fail
  go_loopw [6, 7, 8, 9] (fun _ c lg _ wr => ∃ (N : Nat) (x : Int), N ≤ 15 ∧ lg = .int .i64 ((N : Int) + 1) ∧ c = .int .i64 x ∧ Keep1 b w wr ∧ ((x = (cd (numB s) p N : Nat) ∧ nx l N ≤ cd (numB s) p N ∧ Rdr wr b s (p + N) ∧ p + N ≤ 8 * s.size ∧ dec l (numB s) (8 * s.size) p = decF l (numB s) (8 * s.size) p (15 - N) N) ∨ (dec l (numB s) (8 * s.size) p = none ∧ ∃ v, Three wr b (.string s) v (.bool true)))) (fun _ _ lg _ _ => 16 - (intOf lg).toNat)
  case atStart => exact ⟨0, 0, by omega, rfl, rfl, Keep1.refl _ _, .inl ⟨rfl, Nat.le_refl _, hr, by omega, rfl⟩⟩
  case round =>
    obtain ⟨N, x, hN, rfl, rfl, hkp, hcase⟩ := hrel
    clear hr hp
    have hNI : (N : Int) ≤ 15 := by omega
    rcases hcase with ⟨rfl, hge, hrd, hpN, hdec⟩ | ⟨hno, v, h3⟩
    · have h3 := hrd.at hpN
      obtain ⟨q0, q1, q2, g0, g1, g2, hb3⟩ := h3
      have HP := hide hpN
      have HGE := hide hge
      have HD := hide hdec
      have c1 := hide (cd_bd (numB s) p N hN)
      have cI : (cd (numB s) p N : Int) ≤ 32768 := by have := unhide c1; omega
      clear hpN hge hdec
      by_cases hlt : N < 15
      · have hN15 : (N : Int) < 15 := by omega
        have hd15 : decide ((N : Int) + 1 ≤ 15) = true := decide_eq_true (by omega)
        have hbit : (numB s / 2 ^ (p + N) % 2 : Nat) = bitV (numB s) (p + N) := rfl
        have hb1 := bitV_le (numB s) (p + N)
        have hcd : Hid (2 * (cd (numB s) p N : Int) + (bitV (numB s) (p + N) : Int) = (cd (numB s) p (N + 1) : Int)) := by
          show 2 * (cd (numB s) p N : Int) + (bitV (numB s) (p + N) : Int) = (cd (numB s) p (N + 1) : Int)
          simp only [cd]; omega
        have hcg : Hid (2 * nx l N ≤ cd (numB s) p (N + 1)) := by
          show 2 * nx l N ≤ cd (numB s) p (N + 1)
          have := unhide HGE
          simp only [cd]; omega
        have Hhit := hide (fun h1 h2 => decF_hit (l := l) (V := numB s) (sz := 8 * s.size) (p := p) (f := 14 - N) (n := N) h1 h2)
        have Hnext := hide (fun h1 h2 => decF_next (l := l) (V := numB s) (sz := 8 * s.size) (p := p) (f := 14 - N) (n := N) h1 h2)
        have Hshort := hide (fun h1 => decF_short (l := l) (V := numB s) (sz := 8 * s.size) (p := p) (f := 14 - N) (n := N) h1)
        have e15 : 15 - N = (14 - N) + 1 := by omega
        have e14 : 14 - N = 15 - (N + 1) := by omega
        rw [e15] at HD
        have bI : (bitV (numB s) (p + N) : Int) ≤ 1 := by omega
        have hcb := hide (cd_bd (numB s) p (N + 1) (by omega))
        clear hb1 g0 g1 g2 q0 q1 hb3
        go_wp2_with fail
        refine (srcBit_any b (p + N) s _ hrd (unhide HS)).mono ?_
        rintro e x1 ⟨rfl, hrd1, hk1⟩
        rw [hbit]
        have hkp1 := hkp.trans hk1
        have HIL := hide (unhide HRL x1 hkp1)
        have HIC := hide (unhide HRC x1 hkp1)
        have HKP := hide hkp1
        have HRD := hide hrd1
        clear hrd hkp hk1 hkp1 hrd1 hbit q2
        go_wp2_with fail
        rw [unhide hcd]
        have xI : (cd (numB s) p (N + 1) : Int) < 32768 := by have := unhide hcb; omega
        go_loopw [6, 9] (fun _ i wr => ∃ k : Nat, k ≤ n ∧ i = .int .i64 k ∧ wr = x1 ∧ ∀ j, j < k → l.getD j 0 = (N : Int) + 1 → codeAt l j ≠ cd (numB s) p (N + 1)) (fun _ i _ => n - (intOf i).toNat)
        case atStart => exact ⟨0, Nat.zero_le _, rfl, rfl, fun j hj => absurd hj (by omega)⟩
        case round =>
          obtain ⟨k, hk, rfl, rfl, hnot⟩ := hrel
          have HNT := hide hnot
          clear hnot
          by_cases hkn : k < n
          · have hkl : Hid (k < l.length) := by show k < l.length; rw [unhide HN]; exact hkn
            obtain ⟨g, o, rfl, hg, hcl⟩ := unhide HIL (by rw [unhide HN]; omega)
            have d0 := hcl k (by rw [unhide HN]; exact hkn)
            obtain ⟨g', o', rfl, hg', hcc⟩ := unhide HIC (by rw [outN_len, unhide HN]; omega)
            have d1 := hcc k (by rw [outN_len, unhide HN]; exact hkn)
            have hcg2 := hide (codes_get (unhide HOK) (unhide hkl))
            have Hk := hide hk
            have hY := hide (fun h => codeAt_lt (unhide HOK) (unhide hkl) h)
            have hone := hide (fun (i : Nat) (h1 : l.getD i 0 = l.getD k 0) (h2 : codeAt l i = codeAt l k) => sym_one h1 h2)
            clear hcl hcc hk HIL HIC
            generalize hy' : l.getD k 0 = y at *
            have EY := hide hy'
            clear hy'
            by_cases hy : y = (N : Int) + 1
            · have hcg3 : (outN l 15).2.getD k 0 = (codeAt l k : Int) := by have := unhide hcg2; rw [if_pos (by omega)] at this; exact this
              rw [hcg3] at d1
              subst hy
              by_cases hc : codeAt l k = cd (numB s) p (N + 1)
              · have hlt2 := unhide hY (by omega)
                have eN : ((N : Int) + 1).toNat = N + 1 := by omega
                rw [eN] at hlt2
                rw [hc] at d1
                have HRES : Hid (SymPost w b s (dec l (numB s) (8 * s.size) p) (.returned (.int .i64 (k : Int))) wr) := by
                  show SymPost w b s (dec l (numB s) (8 * s.size) p) (.returned (.int .i64 (k : Int))) wr
                  refine ⟨unhide HKP, ?_⟩
                  by_cases hsh : 8 * s.size < p + N + 1
                  · rw [unhide HD, unhide Hshort hsh]
                    exact ⟨_, _, rfl, (unhide HRD).three hsh⟩
                  · have hlt3 : cd (numB s) p (N + 1) < nx l (N + 1) := by rw [← hc]; exact hlt2.2
                    rw [unhide HD, unhide Hhit hsh hlt3]
                    obtain ⟨i, hi, h1, h2, h3⟩ := sym_there (l := l) hlt (unhide hcg) hlt3
                    have : i = k := sym_one (h1.trans (unhide EY).symm) (h2.trans hc.symm)
                    subst this
                    exact ⟨by rw [h3], unhide HRD⟩
                clear hlt2
                generalize cd (numB s) p (N + 1) = X at *
                go_wp2
                go_ret
                exact unhide HRES
              · have g1 : ((codeAt l k : Int) == (cd (numB s) p (N + 1) : Int)) = false := by rw [beq_eq_false_iff_ne]; omega
                have HNT2 : Hid (∀ j, j < k + 1 → l.getD j 0 = (N : Int) + 1 → codeAt l j ≠ cd (numB s) p (N + 1)) := by
                  show ∀ j, j < k + 1 → l.getD j 0 = (N : Int) + 1 → codeAt l j ≠ cd (numB s) p (N + 1)
                  intro j hj h1
                  by_cases e : j = k
                  · subst e; exact hc
                  · exact unhide HNT j (by omega) h1
                go_wp2
                go_roundw
                case rel => exact ⟨k + 1, by have := unhide Hk; omega, by go_num, by first | rfl | trivial, unhide HNT2⟩
                case measure => simp [intOf]; omega
            · have g1 : (y == (N : Int) + 1) = false := by simpa using hy
              have HNT2 : Hid (∀ j, j < k + 1 → l.getD j 0 = (N : Int) + 1 → codeAt l j ≠ cd (numB s) p (N + 1)) := by
                show ∀ j, j < k + 1 → l.getD j 0 = (N : Int) + 1 → codeAt l j ≠ cd (numB s) p (N + 1)
                intro j hj h1
                by_cases e : j = k
                · subst e
                  rw [unhide EY] at h1
                  exact absurd h1 hy
                · exact unhide HNT j (by omega) h1
              go_wp2
              go_roundw
              case rel => exact ⟨k + 1, by have := unhide Hk; omega, by go_num, by first | rfl | trivial, unhide HNT2⟩
              case measure => simp [intOf]; omega
          · have hkl : k = l.length := by have := unhide HN; omega
            subst hkl
            have HC2 : Hid ((cd (numB s) p (N + 1) : Int) = ((cd (numB s) p (N + 1) : Nat) : Int) ∧ ((nx l (N + 1) ≤ cd (numB s) p (N + 1) ∧ Rdr wr b s (p + (N + 1)) ∧ p + (N + 1) ≤ 8 * s.size ∧ dec l (numB s) (8 * s.size) p = decF l (numB s) (8 * s.size) p (15 - (N + 1)) (N + 1)) ∨ (dec l (numB s) (8 * s.size) p = none ∧ ∃ v, Three wr b (.string s) v (.bool true)))) := by
              refine ⟨rfl, ?_⟩
              by_cases hsh : 8 * s.size < p + N + 1
              · exact .inr ⟨by rw [unhide HD, unhide Hshort hsh], _, (unhide HRD).three hsh⟩
              · have hge : nx l (N + 1) ≤ cd (numB s) p (N + 1) := by
                  rcases Nat.lt_or_ge (cd (numB s) p (N + 1)) (nx l (N + 1)) with h | h
                  · obtain ⟨i, hi, h1, h2, h3⟩ := sym_there (l := l) hlt (unhide hcg) h
                    exact absurd h2 (unhide HNT i hi h1)
                  · exact h
                exact .inl ⟨hge, unhide HRD, by omega, by rw [unhide HD, unhide Hnext hsh (by omega), e14]⟩
            clear HIL HIC
            go_wp2
            go_roundw
            case rel =>
              refine ⟨N + 1, (cd (numB s) p (N + 1) : Nat), by omega, by go_num, rfl, unhide HKP, ?_⟩
              rcases (unhide HC2).2 with h | h
              · exact .inl ⟨rfl, h⟩
              · exact .inr h
            case measure => simp [intOf]; omega
      · obtain rfl : N = 15 := by omega
        have Hn : Hid (dec l (numB s) (8 * s.size) p = none) := unhide HD
        have h3' := hide (hrd.at (unhide HP))
        have HKP := hide hkp
        clear hrd hkp
        go_wp2
        go_ret
        unfold SymPost
        rw [unhide Hn]
        exact ⟨(unhide HKP).trans (keep1_set0 _ _ _ _), _, _, rfl, (unhide h3').set2 _⟩
    · have h3' := hide h3
      have HKP := hide hkp
      have Hn := hide hno
      obtain ⟨q0, q1, q2, g0, g1, g2, hb3⟩ := h3
      clear hkp hno
      by_cases hlt : (N : Int) < 15
      · have hd15 : decide ((N : Int) + 1 ≤ 15) = true := decide_eq_true (by omega)
        go_wp2
        go_ret
        unfold SymPost
        rw [unhide Hn]
        exact ⟨(unhide HKP).trans (keep1_set0 _ _ _ _), _, _, rfl, (unhide h3').set2 _⟩
      · have hd15 : decide ((N : Int) + 1 ≤ 15) = false := decide_eq_false (by omega)
        go_wp2
        go_ret
        unfold SymPost
        rw [unhide Hn]
        exact ⟨(unhide HKP).trans (keep1_set0 _ _ _ _), _, _, rfl, (unhide h3').set2 _⟩

end Go.Proofs.Ytnomiopdpmecbaa
