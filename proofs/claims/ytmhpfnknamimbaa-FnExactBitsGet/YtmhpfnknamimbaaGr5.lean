/- The model's reading of numbers, over this seat's program. -/
import Derived.Test.YtmhpfnknamimbaaGr4
namespace Go.Proofs.Ytmhpfnknamimbaa
open Go.RowKit Corb

theorem inB_bits {l : List Int} {k : Nat} (h : k < l.length) (hn : inB (l.getD k 0) 0 16 = false) : bitsOk l = false := by
  rcases hb : bitsOk l with _ | _
  · rfl
  · have := bitsOk_get hb k h
    rw [inB_false] at hn
    omega
theorem bitsOk_snoc (l : List Int) (b : Int) : bitsOk (l ++ [b]) = (bitsOk l && inB b 0 16) := by simp [bitsOk, inB]
theorem ret_two {v : Value} {a b : Bool} (h : a = b) : Ending.returned (.tuple #[v, .bool a]) = .returned (.tuple #[v, .bool b]) := by rw [h]

set_option maxHeartbeats 3200000 in
theorem specBitsGet_any (s : ByteArray) (a : Option Addr) (cap : Nat) (l : List Int) (w : World) (h : IRow w a l) (hs : s.size ≤ 2000000) (hl : l.length ≤ 2000000) :
    Calls Try.prog 25 #[.string s, .slice a l.length cap] w fun e w' => ∃ v, e = .returned (.tuple #[v, .bool (getOk s.data.toList l)]) ∧ IOwn w' w.heap.size v (getL s.data.toList l) ∧ Below w.heap.size w w' := by
  obtain ⟨i0, hi, hz0, hz1, hz2⟩ := info_parts Try.infoInt
  have hsI : (s.size : Int) ≤ 2000000 := by omega
  have hlI : (l.length : Int) ≤ 2000000 := by omega
  have Hs := hide hs
  have Hl := hide hl
  have hR0 := rdr_new w s 73
  have hB0 : Below w.heap.size w (w.alloc (.cells #[.string s, .int .i64 0, .bool false] 73)) := (Below.refl _ _).alloc (Nat.le_refl _) _
  have hsz : (w.alloc (.cells #[.string s, .int .i64 0, .bool false] 73)).heap.size = w.heap.size + 1 := by simp
  clear hs hl
  go_enter Try.func25, Try.ntmps25
  go_wp2_with fail
  generalize w.alloc (.cells #[.string s, .int .i64 0, .bool false] 73) = w1 at *
  have hI0 := IOwn.lit w1 (w.heap.size + 1) (by omega)
  have hR1 := hR0.alloc (.cells #[] 3)
  have hB1 := hB0.alloc (by omega) (.cells #[] 3)
  rw [hsz] at hI0
  clear hR0 hB0
  go_loopw [7, 8] (fun v i wr => ∃ k : Nat, k ≤ l.length ∧ i = .int .i64 k ∧ bitsOk (l.take k) = true ∧ (0 < k → l.length ≤ 4000) ∧ IOwn wr (w.heap.size + 1) v (readV (numB s) 0 (l.take k)) ∧ Rdr wr w.heap.size s (sumN (l.take k)) ∧ Below w.heap.size w wr) (fun _ i _ => l.length - (intOf i).toNat)
  case atStart => exact ⟨0, Nat.zero_le _, rfl, rfl, fun h => absurd h (by omega), hI0, hR1, hB1⟩
  case round =>
    obtain ⟨k, hk, rfl, hbo, h4, hown, hr, hbel⟩ := hrel
    clear hI0 hR1 hB1 hsz
    have hbs := hbel.size
    have hrl := hr.lt
    have Hbo := hide hbo
    have Hk := hide hk
    have H4 := hide h4
    clear hbo h4
    by_cases hlt : k < l.length
    · obtain ⟨g, o, rfl, hg, hc⟩ := (h.below (Nat.le_refl _) hbel) (by omega)
      have c0 := hc k hlt
      have hin := hide (fun hn => inB_bits hlt hn)
      have htk := hide (take_snocI l k hlt)
      have hsn := hide (bitsOk_snoc (l.take k) (l.getD k 0))
      have hrd := hide (readV_append (numB s) 0 (l.take k) [l.getD k 0])
      have hsu := hide (sumN_append (l.take k) [l.getD k 0])
      have hlk : (readV (numB s) 0 (l.take k)).length = k := by rw [readV_len]; simp; omega
      have Hlk := hide hlk
      clear hc hk h hlk
      generalize l.getD k 0 = y at *
      cases hy : inB y 0 16
      · have hno := hide (getOk_no (s := s.data.toList) (Or.inl (unhide hin hy)))
        go_wp2_with fail
        refine (l1In_any _ _ _ _).mono ?_
        rintro e x1 ⟨rfl, rfl⟩
        rw [hy]
        go_wp2
        go_ret2
        refine ⟨_, ret_two (unhide hno).1.symm, ?_, hbel.alloc (by omega) _⟩
        rw [(unhide hno).2]
        exact IOwn.lit _ _ hbs
      · obtain ⟨y0, y1⟩ := inB_true.1 hy
        by_cases h4 : (l.length : Int) ≤ 4000
        · obtain ⟨c, rfl⟩ := Int.eq_ofNat_of_zero_le y0
          go_wp2_with fail
          refine (l1In_any _ _ _ _).mono ?_
          rintro e x1 ⟨rfl, rfl⟩
          rw [hy]
          go_wp2_with fail
          refine (srcNum_any w.heap.size (sumN (l.take k)) c s _ hr (unhide Hs) (by omega)).mono ?_
          rintro e x2 ⟨rfl, hr2, hk2⟩
          have hown2 : IOwn x2 (w.heap.size + 1) u7 (readV (numB s) 0 (l.take k)) := hk2.own hown (Nat.lt_succ_self _)
          have hbel2 := hbel.trans hk2.1
          have hr2l := hr2.lt
          generalize hX : numB s / 2 ^ sumN (l.take k) % 2 ^ c = X at *
          have HX := hide hX
          clear hX hown hr hbel hk2
          go_wp2_with (at_builtin; refine wpList_append_own _ rfl _ _ 27 rfl (w.heap.size + 1) 3 i0 (.int .i64 0) 1 8 Try.underlying27 hi hz0 hz1 hz2 rfl (by decide) _ _ _ rfl (World.ownsRow.alloc hown2 _) ⟨x2.heap.size, 0, none⟩ 1 1 [.int .i64 (X : Int)] rfl rfl (by intro j u hj; match j, hj with | 0, hj => simp at hj; subst hj; simp [Addr.add]) (by intro u hu; simp at hu; subst hu; rfl) (by have := unhide Hlk; have := unhide Hl; unfold maxLen; omega) (by have := unhide Hlk; have := unhide Hl; omega) (by simp; omega) ?_; intro v' x3 hown hgrow hnil; clear hnil)
          have hr3 : Rdr x3 w.heap.size s (sumN (l.take k) + c) := hr2.kept (grown_step (v := u7) hgrow hown2 (Nat.le_refl _) (by omega) (Below.refl _ _))
          have hbel3 : Below w.heap.size w x3 := grown_step (v := u7) hgrow hown2 (Nat.le_succ _) (by omega) hbel2
          have hown3 := iown_snoc hown
          clear hown hgrow hown2 hr2 hbel2
          go_wp2
          go_roundw
          case rel =>
            refine ⟨k + 1, by omega, by go_num, ?_, fun _ => by omega, ?_, ?_, hbel3⟩
            · rw [unhide htk, unhide hsn, unhide Hbo, hy]; rfl
            · rw [unhide htk, unhide hrd]
              simp only [readV, Nat.zero_add, Int.toNat_natCast]
              rw [unhide HX]
              exact hown3
            · rw [unhide htk, unhide hsu]
              simp only [sumN, List.map_cons, List.map_nil, List.sum_cons, List.sum_nil, Int.toNat_natCast, Nat.add_zero]
              exact hr3
          case measure => simp [intOf]; omega
        · have hno := hide (getOk_no (s := s.data.toList) (l := l) (Or.inr (by omega)))
          go_wp2_with fail
          refine (l1In_any _ _ _ _).mono ?_
          rintro e x1 ⟨rfl, rfl⟩
          rw [hy]
          go_wp2
          go_ret2
          refine ⟨_, ret_two (unhide hno).1.symm, ?_, hbel.alloc (by omega) _⟩
          rw [(unhide hno).2]
          exact IOwn.lit _ _ hbs
    · have hlk2 : l.take k = l := List.take_of_length_le (by omega)
      rw [hlk2] at hown hr Hbo
      have h4 : l.length ≤ 4000 := by
        rcases Nat.eq_zero_or_pos k with h0 | h0
        · omega
        · exact unhide H4 h0
      have hge := hide (getOk_eq (s := s.data.toList) (unhide Hbo) h4)
      have hsd : s.data.toList.length = s.size := by simp
      have hsb := sumN_bd (unhide Hbo)
      have hS : (sumN l : Int) ≤ 64000 := by omega
      have hcl := hide (rest_clear s.data.toList (sumN l))
      rw [hsd] at hge hcl
      have HB := hide hsb
      clear hlk2 h hk Hbo H4 hsb
      have hyes := hide (getL_yes (s := s.data.toList) (l := l))
      have hnot := hide (getL_no (s := s.data.toList) (l := l))
      have hV : valB s.data.toList = numB s := rfl
      rw [hV] at hge hcl hyes
      by_cases hA : 8 * s.size < sumN l
      · have hno : getOk s.data.toList l = false := by
          rw [unhide hge, decide_eq_false (by omega)]; rfl
        have hL := unhide hnot hno
        have HNO := hide hno
        have HL := hide hL
        obtain ⟨c0, c1, c2, f0, f1, f2, hb3⟩ := hr.over hA
        have HA := hide hA
        clear hno hL hA
        go_wp2_with fail
        refine (srcWhole_past w.heap.size (sumN l) s _ hr (unhide Hs) (unhide HA)).mono ?_
        rintro e x1 ⟨rfl, rfl⟩
        go_wp2
        go_ret2
        refine ⟨_, ret_two (unhide HNO).symm, ?_, hbel.alloc (by omega) _⟩
        rw [unhide HL]
        exact IOwn.lit _ _ hbs
      · have Hpl := hide (show sumN l + (8 - sumN l % 8) % 8 ≤ 8 * s.size by omega)
        go_wp2_with fail
        refine (srcWhole_any w.heap.size (sumN l) s _ hr (unhide Hs) (by omega)).mono ?_
        rintro e x1 ⟨rfl, hr1, hk1⟩
        have hown1 : IOwn x1 (w.heap.size + 1) u7 (readV (numB s) 0 l) := hk1.own hown (Nat.lt_succ_self _)
        have hbel1 := hbel.trans hk1.1
        obtain ⟨c0, c1, c2, f0, f1, f2, hb3⟩ := hr1.at (unhide Hpl)
        have hbs1 := hbel1.size
        clear hown hr hbel hk1 hr1
        by_cases hC : numB s / 2 ^ sumN l % 2 ^ ((8 - sumN l % 8) % 8) = 0
        · have hdC : decide (numB s / 2 ^ sumN l % 2 ^ ((8 - sumN l % 8) % 8) = 0) = true := decide_eq_true hC
          rw [hdC]
          by_cases hE : ((sumN l + (8 - sumN l % 8) % 8 : Nat) : Int) = 8 * (s.size : Int)
          · have he : s.size = (sumN l + 7) / 8 := by omega
            have hok : getOk s.data.toList l = true := by
              rw [unhide hge, decide_eq_true he, decide_eq_true ((unhide hcl he).1 hC)]; rfl
            have HOK := hide hok
            obtain ⟨va, vc, rfl⟩ := hown1.form
            clear hok he hC hdC
            generalize ((sumN l + (8 - sumN l % 8) % 8 : Nat) : Int) = PP at *
            subst hE
            go_wp2
            go_ret2
            refine ⟨_, ret_two (unhide HOK).symm, ?_, hbel1⟩
            rw [unhide hyes (unhide HOK)]
            exact hown1.mono (Nat.le_succ _)
          · have hno : getOk s.data.toList l = false := by
              rw [unhide hge, decide_eq_false (by omega)]; rfl
            have hL := hide (unhide hnot hno)
            have HNO := hide hno
            clear hno hC hdC
            generalize ((sumN l + (8 - sumN l % 8) % 8 : Nat) : Int) = PP at *
            go_wp2
            go_ret2
            refine ⟨_, ret_two (unhide HNO).symm, ?_, hbel1.alloc (by omega) _⟩
            rw [unhide hL]
            exact IOwn.lit _ _ hbs1
        · have hdC : decide (numB s / 2 ^ sumN l % 2 ^ ((8 - sumN l % 8) % 8) = 0) = false := decide_eq_false hC
          rw [hdC]
          have hno : getOk s.data.toList l = false := by
            rw [unhide hge]
            by_cases he : s.size = (sumN l + 7) / 8
            · rw [decide_eq_false (fun h => hC ((unhide hcl he).2 h))]; simp
            · rw [decide_eq_false he]; rfl
          have hL := hide (unhide hnot hno)
          have HNO := hide hno
          clear hno hC hdC
          go_wp2
          go_ret2
          refine ⟨_, ret_two (unhide HNO).symm, ?_, hbel1.alloc (by omega) _⟩
          rw [unhide hL]
          exact IOwn.lit _ _ hbs1

end Go.Proofs.Ytmhpfnknamimbaa
