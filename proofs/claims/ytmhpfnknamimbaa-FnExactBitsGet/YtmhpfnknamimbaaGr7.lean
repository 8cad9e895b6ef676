/- The program's reading of numbers: the whole, over this seat's program. -/
import Derived.Test.YtmhpfnknamimbaaGr6
import Derived.Test.YtmhpfnknamimbaaStepG
namespace Go.Proofs.Ytmhpfnknamimbaa
open Go.RowKit Corb

theorem methPassR (a : Addr) (w : World) : (method 202 66 (.pointer (some a)) "loop.example/corbel/impl.pass").run Try.prog w = .ok (78, .pointer (some a)) w := by kernel_rfl

set_option maxHeartbeats 3200000 in
theorem eachR_any (b : Nat) (s : ByteArray) (a : Option Addr) (cap : Nat) (l : List Int) (w : World) (h : PRow w a (blank l)) (hbo : bitsOk l = true) (h4 : l.length ≤ 4000) (hs : s.size ≤ 2000000) (hr : Rdr w b s 0) (hb : ∀ g o, a = some ⟨g, o, none⟩ → 0 < l.length → g < b) :
    Calls Try.prog 58 #[.slice a l.length cap, .func (.method "loop.example/corbel/impl.pass") #[.iface 66 (.pointer (some ⟨b, 0, none⟩))] #[]] w fun e w' =>
      ∃ v, e = .returned v ∧ IOwn w' (b + 1) v (readV (numB s) 0 l) ∧ Rdr w' b s (sumN l) ∧ Below b w w' := by
  have Hbo := hide hbo
  have H4 := hide h4
  have Hs := hide hs
  have h4' : (l.length : Int) ≤ 4000 := by omega
  have hbl := blank_len l
  clear hbo h4 hs
  obtain ⟨i0, hi, hz0, hz1, hz2⟩ := info_parts Try.infoInt
  have mp := methPassR ⟨b, 0, none⟩
  have Hb := hide hb
  clear hb
  go_enter Try.func58, Try.ntmps58
  go_wp2_with fail
  go_loopw [5, 7, 10] (fun o _ i wr => ∃ k : Nat, k ≤ l.length ∧ i = .int .i64 k ∧ IOwn wr (b + 1) o (readV (numB s) 0 (l.take k)) ∧ Rdr wr b s (sumN (l.take k)) ∧ Below b w wr) (fun _ _ i _ => l.length - (intOf i).toNat)
  case atStart => exact ⟨0, Nat.zero_le _, rfl, IOwn.nil _ _, hr, Below.refl _ _⟩
  case round =>
    obtain ⟨k, hk, rfl, hown, hrr, hbel⟩ := hrel
    have hrl := hrr.lt
    by_cases hlt : k < l.length
    · obtain ⟨g, o, rfl, hg, hc⟩ := h (by omega)
      have hgb := unhide Hb g o rfl (by omega)
      have hck := hc k (by omega)
      rw [blank_get l k hlt] at hck
      have c0 := (hbel.cell (p := ⟨g, o + k * 2, none⟩) hgb).trans hck.1
      have c1 := (hbel.cell (p := ⟨g, o + k * 2 + 1, none⟩) hgb).trans hck.2
      have htk := hide (take_snocI l k hlt)
      have hrd := hide (readV_append (numB s) 0 (l.take k) [l.getD k 0])
      have hsu := hide (sumN_append (l.take k) [l.getD k 0])
      have hlk : Hid ((readV (numB s) 0 (l.take k)).length = k) := by show (readV (numB s) 0 (l.take k)).length = k; rw [readV_len]; simp; omega
      obtain ⟨y0, y1⟩ := bitsOk_get (unhide Hbo) k hlt
      have HK := hide hk
      clear hc hk h hr hck hbl
      generalize l.getD k 0 = y at *
      obtain ⟨c, rfl⟩ := Int.eq_ofNat_of_zero_le y0
      go_wp2_with fail
      refine (rdPass_any b (sumN (l.take k)) c 0 s _ (hrr.alloc _) (unhide Hs) (by omega)).mono ?_
      rintro e x1 ⟨rfl, hr1, hk1⟩
      have hown1 : IOwn x1 (b + 1) u5 (readV (numB s) 0 (l.take k)) := hk1.own (World.ownsRow.alloc hown _) (Nat.lt_succ_self _)
      have hbel1 := (hbel.alloc (Nat.le_of_lt hrl) (.cells #[.int .i64 0, .int .i64 (c : Int)] 29)).trans hk1.1
      have hr1l := hr1.lt
      generalize hX : numB s / 2 ^ sumN (l.take k) % 2 ^ c = X at *
      have HX := hide hX
      clear hX hown hrr hbel hk1
      go_wp2_with (at_builtin; refine wpList_append_own _ rfl _ _ 27 rfl (b + 1) 3 i0 (.int .i64 0) 1 8 Try.underlying27 hi hz0 hz1 hz2 rfl (by decide) _ _ _ rfl (World.ownsRow.alloc hown1 _) ⟨x1.heap.size, 0, none⟩ 1 1 [.int .i64 (X : Int)] rfl rfl (by intro j u hj; match j, hj with | 0, hj => simp at hj; subst hj; simp [Addr.add]) (by intro u hu; simp at hu; subst hu; rfl) (by have := unhide hlk; have := unhide H4; unfold maxLen; omega) (by have := unhide hlk; have := unhide H4; omega) (by simp; omega) ?_; intro v' x3 hown hgrow hnil; clear hnil)
      have hr3 : Rdr x3 b s (sumN (l.take k) + c) := hr1.kept (grown_step (v := u5) hgrow hown1 (Nat.le_refl _) (by omega) (Below.refl _ _))
      have hbel3 : Below b w x3 := grown_step (v := u5) hgrow hown1 (Nat.le_succ _) (by omega) hbel1
      have hown3 := iown_snoc hown
      clear hown hgrow hown1 hr1 hbel1
      go_wp2
      go_roundw
      case rel =>
        refine ⟨k + 1, by have := unhide HK; omega, by go_num, ?_, ?_, hbel3⟩
        · rw [unhide htk, unhide hrd]
          simp only [readV, Nat.zero_add, Int.toNat_natCast]
          rw [unhide HX]
          exact hown3
        · rw [unhide htk, unhide hsu]
          simp only [sumN, List.map_cons, List.map_nil, List.sum_cons, List.sum_nil, Int.toNat_natCast, Nat.add_zero]
          exact hr3
      case measure => simp [intOf]; omega
    · have hlk2 : l.take k = l := List.take_of_length_le (by omega)
      rw [hlk2] at hown hrr
      obtain ⟨va, vc, rfl⟩ := hown.form
      clear hlk2 h hr
      go_wp2
      go_ret
      exact ⟨_, rfl, hown, hrr, hbel⟩

set_option maxHeartbeats 800000 in
theorem walkR_any (b : Nat) (s : ByteArray) (a : Option Addr) (cap : Nat) (l : List Int) (w : World) (h : PRow w a (blank l)) (hbo : bitsOk l = true) (h4 : l.length ≤ 4000) (hs : s.size ≤ 2000000) (hr : Rdr w b s 0) (hb : ∀ g o, a = some ⟨g, o, none⟩ → 0 < l.length → g < b) :
    Calls Try.prog 40 #[.iface 66 (.pointer (some ⟨b, 0, none⟩)), .slice a l.length cap] w fun e w' =>
      ∃ v, e = .returned v ∧ IOwn w' (b + 1) v (readV (numB s) 0 l) ∧ Rdr w' b s (sumN l) ∧ Below b w w' := by
  go_enter Try.func40, Try.ntmps40
  go_wp2_with fail
  refine (eachR_any b s a cap l _ h hbo h4 hs hr hb).mono ?_
  rintro e w1 ⟨v, rfl, hown, hrr, hbel⟩
  obtain ⟨va, vc, rfl⟩ := hown.form
  go_wp2
  go_ret
  exact ⟨_, rfl, hown, hrr, hbel⟩

set_option maxHeartbeats 3200000 in
theorem implBitsGet_any (s : ByteArray) (a : Option Addr) (cap : Nat) (l : List Int) (w : World) (h : IRow w a l) (hs : s.size ≤ 2000000) (hl : l.length ≤ 2000000) :
    Calls Try.prog 22 #[.string s, .slice a l.length cap] w fun e w' => ∃ v, e = .returned (.tuple #[v, .bool (getOk s.data.toList l)]) ∧ IOwn w' w.heap.size v (getL s.data.toList l) ∧ Below w.heap.size w w' := by
  have hsI : (s.size : Int) ≤ 2000000 := by omega
  have hlI : (l.length : Int) ≤ 2000000 := by omega
  have Hs := hide hs
  clear hs hl
  by_cases h4 : l.length ≤ 4000
  · have h4I : (l.length : Int) ≤ 4000 := by omega
    have H4 := hide h4
    have hlong := hide (blank_long l h4)
    have hbl := hide (blank_len l)
    go_enter Try.func22, Try.ntmps22
    go_wp2_with fail
    refine (eachB_any a cap l _ h (unhide H4)).mono ?_
    rintro e x1 ⟨v, rfl, hq, hb1⟩
    obtain ⟨va, vc, rfl⟩ := hq.formN (unhide hbl)
    have hrow := hq.rowN (unhide hbl)
    clear h h4
    go_wp2_with fail
    refine (implBitsLong_n va vc l.length (blank l) _ (unhide hbl) hrow (by have := unhide H4; omega)).mono ?_
    rintro e x2 ⟨rfl, hb2⟩
    rw [unhide hlong]
    have hq2 := hq.later hb2 (Nat.le_refl _)
    have hrow2 := hq2.rowN (unhide hbl)
    have hbel2 := bnext hb1 hb2
    have hws := hide hbel2.size
    clear hrow hb1 hb2 hq
    rcases hbo : bitsOk l with _ | _
    · have hno := hide (getOk_no (s := s.data.toList) (Or.inl hbo))
      rw [if_neg (by simp)]
      go_wp2
      go_ret2
      refine ⟨_, ret_two (unhide hno).1.symm, ?_, hbel2⟩
      rw [(unhide hno).2]
      exact IOwn.nil _ _
    · have Hbo := hide hbo
      have hge := hide (getOk_eq (s := s.data.toList) hbo (unhide H4))
      have hsd : s.data.toList.length = s.size := by simp
      have hsb := sumN_bd hbo
      have hS : (sumN l : Int) ≤ 64000 := by have := unhide H4; omega
      have hS0 : (0 : Int) ≤ (sumN l : Int) := by omega
      have hcl := hide (rest_clear s.data.toList (sumN l))
      rw [hsd] at hge hcl
      rw [if_pos rfl]
      have hyes := hide (getL_yes (s := s.data.toList) (l := l))
      have hnot := hide (getL_no (s := s.data.toList) (l := l))
      have hV : valB s.data.toList = numB s := rfl
      rw [hV] at hge hcl hyes
      clear hbo hsb hsd hV
      generalize hm : sumN l = m at *
      have Hm := hide hm
      clear hm
      by_cases he : (s.size : Int) = ((m : Int) + 7) / 8
      · have he' : s.size = (m + 7) / 8 := by omega
        have hR0 := rdr_new x2 s 68
        have hB0 : Below x2.heap.size x2 (x2.alloc (.cells #[.string s, .int .i64 0, .bool false] 68)) := (Below.refl _ _).alloc (Nat.le_refl _) _
        have hrow3 := hrow2.later hB0
        have hgb : ∀ g o, va = some ⟨g, o, none⟩ → 0 < l.length → g < x2.heap.size := by
          intro g o e h0
          obtain ⟨g', o', e', hg', _⟩ := hrow2 (by rw [unhide hbl]; exact h0)
          rw [e] at e'
          simp only [Option.some.injEq, Addr.mk.injEq, and_true] at e'
          omega
        have HE := hide he'
        have HG := hide hgb
        clear he' hgb hrow2
        go_wp2_with fail
        refine (walkR_any x2.heap.size s va vc l _ hrow3 (unhide Hbo) (unhide H4) (unhide Hs) hR0 (unhide HG)).mono ?_
        rintro e x3 ⟨v, rfl, hown, hrr, hb3⟩
        have hbel3 := bnext hbel2 (hB0.trans hb3)
        rw [unhide Hm] at hrr
        clear hR0 hB0 hrow3 hb3 hbel2 hq2
        obtain ⟨va', vc', rfl⟩ := hown.form
        go_wp2_with fail
        refine (rdClear_any x2.heap.size m s _ hrr (unhide Hs) (by have := unhide HE; omega)).mono ?_
        rintro e x4 ⟨rfl, hr4, hk4⟩
        have hown4 := hk4.own hown (Nat.lt_succ_self _)
        have hbel4 := hbel3.trans (hk4.1.mono (unhide hws))
        clear hown hrr hr4 hk4 hbel3
        by_cases hC : numB s / 2 ^ m % 2 ^ ((8 - m % 8) % 8) = 0
        · rw [decide_eq_true hC]
          have hok : getOk s.data.toList l = true := by
            rw [unhide hge, decide_eq_true (unhide HE), decide_eq_true ((unhide hcl (unhide HE)).1 hC)]; rfl
          have HOK := hide hok
          clear hok hC
          go_wp2
          go_ret2
          refine ⟨_, ret_two (unhide HOK).symm, ?_, hbel4⟩
          rw [unhide hyes (unhide HOK)]
          exact IOwn.mono hown4 (Nat.le_succ_of_le (unhide hws))
        · rw [decide_eq_false hC]
          have hno : getOk s.data.toList l = false := by
            rw [unhide hge, decide_eq_false (fun h => hC ((unhide hcl (unhide HE)).2 h))]; simp
          have HNO := hide hno
          have HL := hide (unhide hnot hno)
          clear hno hC
          go_wp2
          go_ret2
          refine ⟨_, ret_two (unhide HNO).symm, ?_, hbel4⟩
          rw [unhide HL]
          exact IOwn.nil _ _
      · have hno : getOk s.data.toList l = false := by
          rw [unhide hge, decide_eq_false (by omega)]; rfl
        have hne : ((s.size : Int) != ((m : Int) + 7) / 8) = true := by simpa using he
        have HNO := hide hno
        have HL := hide (unhide hnot hno)
        clear hno
        go_wp2
        go_ret2
        refine ⟨_, ret_two (unhide HNO).symm, ?_, hbel2⟩
        rw [unhide HL]
        exact IOwn.nil _ _
  · have hno := hide (getOk_no (s := s.data.toList) (l := l) (Or.inr (by omega)))
    have h4I : 4000 < (l.length : Int) := by omega
    clear h4
    go_enter Try.func22, Try.ntmps22
    go_wp2
    go_ret2
    refine ⟨_, ret_two (unhide hno).1.symm, ?_, Below.refl _ _⟩
    rw [(unhide hno).2]
    exact IOwn.nil _ _

end Go.Proofs.Ytmhpfnknamimbaa
