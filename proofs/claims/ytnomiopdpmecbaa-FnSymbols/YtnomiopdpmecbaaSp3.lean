/- Symbols written by a code: the program's, over this seat's program. -/
import Derived.Test.YtnomiopdpmecbaaSp2
namespace Go.Proofs.Ytnomiopdpmecbaa
open Go.RowKit Corb

set_option maxHeartbeats 1600000 in
theorem eachP_any (a ac b : Option Addr) (cap cc bc n m : Nat) (vs : Value) (f : Nat → Nat) (C : Array Value) (l t : List Int) (w : World) (hC : C = (bookCells (.slice a n cap) (.slice ac n cc) vs f).toArray) (hn : l.length = n) (h : IRow w a l) (hm : n ≤ 300) (hc : IRow w ac (outN l 15).2) (hnt : t.length = m) (ht : IRow w b t) (hmt : m ≤ 1048576) (hall : t.all (hasS l) = true) :
    Calls Try.prog 22 #[.slice b m bc, .func (.func 23) #[.agg C] #[]] w fun e w' => ∃ v, e = .returned v ∧ Pcs w' w.heap.size v (symP l t) ∧ Below w.heap.size w w' := by
  have hmI : (m : Int) ≤ 1048576 := by omega
  have Hn := hide hn
  have Hm := hide hm
  have Hnt := hide hnt
  have Hmt := hide hmt
  have HA := hide hall
  have HC := hide hC
  clear hn hm hnt hmt hall hC
  obtain ⟨i0, hi, hz0, hz1, hz2⟩ := info_parts Try.infoPiece
  go_enter Try.func22, Try.ntmps22
  go_wp2_with fail
  go_loopw [5, 7, 10] (fun o _ i wr => ∃ k : Nat, k ≤ m ∧ i = .int .i64 k ∧ Pcs wr w.heap.size o (symP l (t.take k)) ∧ Below w.heap.size w wr) (fun _ _ i _ => m - (intOf i).toNat)
  case atStart => exact ⟨0, Nat.zero_le _, rfl, World.ownsRow_nil _ _ _ _, Below.refl _ _⟩
  case round =>
    obtain ⟨k, hk, rfl, hq, hbel⟩ := hrel
    have hbs := hbel.size
    by_cases hlt : k < m
    · obtain ⟨g, o, rfl, hg, hcc⟩ := (ht.later hbel) (by rw [unhide Hnt]; omega)
      have c0 := hcc k (by rw [unhide Hnt]; exact hlt)
      have hst := hide (symP_take l t k (by rw [unhide Hnt]; exact hlt))
      have hlk : Hid ((symP l (t.take k)).length = k) := by show (symP l (t.take k)).length = k; rw [symP_len]; have := unhide Hnt; simp; omega
      have hhas : hasS l (t.getD k 0) = true := List.all_eq_true.1 (unhide HA) (t.getD k 0) (by have := unhide Hnt; simp [List.getD, show k < t.length by omega])
      obtain ⟨s0, s1, _⟩ := hasS_true hhas
      have Hk := hide hk
      clear hcc hk ht hhas
      generalize t.getD k 0 = s at *
      obtain ⟨q, rfl⟩ := Int.eq_ofNat_of_zero_le s0
      have hq' : q < n := by have := unhide Hn; omega
      have HP := hide (bookPut_any a ac cap n cc q vs f C l (outN l 15).2 wr (unhide HC) (unhide Hn) ((outN_len l 15).trans (unhide Hn)) (h.later hbel) (hc.later hbel) hq' (unhide Hm))
      have hpc : Hid (pcOf l (q : Int) = (btI ((outN l 15).2.getD q 0) (l.getD q 0), l.getD q 0)) := by
        show pcOf l (q : Int) = _
        unfold pcOf
        rw [Int.toNat_natCast]
      generalize btI ((outN l 15).2.getD q 0) (l.getD q 0) = R at *
      generalize l.getD q 0 = y at *
      clear h hc
      go_wp2_with fail
      refine (unhide HP).mono ?_
      rintro e x1 ⟨rfl, hb1⟩
      have hq1 := Pcs.later hq hb1 (Nat.le_refl _)
      have hbel1 := bnext hbel hb1
      have hbs1 := hbel1.size
      have hlen1 : Hid ((symP l (t.take k)).length + 1 ≤ maxLen ∧ ((symP l (t.take k)).length + 1) * 16 ≤ 140737488355328) := by
        show _ ∧ _
        rw [unhide hlk]
        have := unhide Hmt
        unfold maxLen
        omega
      clear hq hbel hb1 HP
      go_wp2_with (at_builtin; refine wpList_append_own _ rfl _ _ 26 rfl w.heap.size 50 i0 (.agg #[.int .i64 0, .int .i64 0]) 2 16 Try.underlying26 hi hz0 hz1 hz2 rfl (by decide) _ _ _ rfl (World.ownsRow.alloc hq1 _) ⟨x1.heap.size, 0, none⟩ 1 1 [.int .i64 R, .int .i64 y] rfl rfl (two_new x1 _ _ _) (two_int _ _) (unhide hlen1).1 (unhide hlen1).2 (size_alloc_le hbs1 _) ?_; intro v' x2 hown hgrow hnil; clear hnil)
      have hb2 := grown_step (v := u5) hgrow hq1 (Nat.le_refl _) hbs1 hbel1
      have hq2 := pcs_snoc hown
      rw [← unhide hpc, ← unhide hst] at hq2
      clear hown hgrow hq1
      go_wp2
      go_roundw
      case rel => exact ⟨k + 1, by have := unhide Hk; omega, by go_num, hq2, hb2⟩
      case measure => simp [intOf]; omega
    · have hlk2 : t.take k = t := List.take_of_length_le (by rw [unhide Hnt]; omega)
      rw [hlk2] at hq
      obtain ⟨va, vc, rfl⟩ := hq.form
      clear hlk2 h hc ht
      go_wp2
      go_ret
      exact ⟨_, rfl, hq, hbel⟩

set_option maxHeartbeats 3200000 in
theorem implSymbolsPut_any (a b : Option Addr) (cap bc n m : Nat) (l t : List Int) (w : World) (hn : l.length = n) (h : IRow w a l) (hm : n ≤ 1048576) (hnt : t.length = m) (ht : IRow w b t) (hmt : m ≤ 1048576) :
    Calls Try.prog 7 #[.slice a n cap, .slice b m bc] w fun e w' => ∃ v, e = .returned v ∧ Pcs w' w.heap.size v (symPut l t) ∧ Below w.heap.size w w' := by
  have hmI : (m : Int) ≤ 1048576 := by omega
  have Hn := hide hn
  have Hnt := hide hnt
  have Hmt := hide hmt
  have HL := hide (implLensOk_any a cap n l w hn h hm)
  clear hn hm hnt hmt
  cases hok : lensOk l
  · have Hr := hide (symPut_no1 (t := t) hok)
    go_enter Try.func7, Try.ntmps7
    go_wp2_with fail
    refine (unhide HL).mono ?_
    rintro e x1 ⟨rfl, hx⟩
    subst hx
    rw [hok]
    go_wp2
    go_ret
    exact ⟨_, rfl, by rw [unhide Hr]; exact World.ownsRow_nil _ _ _ _, Below.refl _ _⟩
  · have hl := lensOk_len hok
    have hm3 : Hid (n ≤ 300) := by show n ≤ 300; rw [← unhide Hn]; exact hl
    have HC := hide (codeBook_any a cap n l w (unhide Hn) h (unhide hm3))
    have HK := hide hok
    clear hl
    go_enter Try.func7, Try.ntmps7
    go_wp2_with fail
    refine (unhide HL).mono ?_
    rintro e x1 ⟨rfl, hx⟩
    subst hx
    rw [hok]
    clear hok HL
    go_wp2_with fail
    refine (unhide HC).mono ?_
    rintro e x2 ⟨vs, C, rfl, hC, hc2, hs2, hb2⟩
    obtain ⟨sa, sc, hvs⟩ := hs2.form
    have h1 : vs.oneCell' = true := by rw [hvs]; rfl
    have HCC := hide hC
    have H1 := hide h1
    have h12 := hb2.size
    clear hC hvs hs2 h1 HC
    go_wp2_with (refine wpList_store_book rfl 45 (.tmp 5) (.tmp 12) rfl x2.heap.size _ _ _ _ _ rfl rfl (unhide HCC) (there_new x2 _ _ _ rfl) (frozen_new x2 _ _) Try.infoBook ⟨rfl, rfl, unhide H1⟩ ?_; intro x3 hbk hbl hsz hap)
    have hb3 : Below x1.heap.size x1 x3 := (bnext hb2 ((Below.refl _ _).alloc (Nat.le_refl _) _)).trans (hbl.mono h12)
    have hc3 : IOwn x3 (x1.heap.size + 1) (.slice (some ⟨x1.heap.size + 1, 0, none⟩) n n) (outN l 15).2 := (hc2.later ((Below.refl x2.heap.size x2).alloc (Nat.le_refl _) _) (Nat.le_refl _)).under hbl hc2.below.2
    have hs3 : x2.heap.size < x3.heap.size := by rw [hsz]; simp
    generalize x2.heap.size = B at *
    clear hap hsz hbl hc2 hb2
    go_loopw [7, 15] (fun _ i wr => ∃ k : Nat, k ≤ m ∧ i = .int .i64 k ∧ (t.take k).all (hasS l) = true ∧ Below x3.heap.size x3 wr) (fun _ i _ => m - (intOf i).toNat)
    case atStart => exact ⟨0, Nat.zero_le _, rfl, rfl, Below.refl _ _⟩
    case round =>
      obtain ⟨k, hk, rfl, hall, hbel⟩ := hrel
      have HA := hide hall
      have hb13 := bnext hb3 hbel
      have hbk' := hbk.kept (hbel.mono hs3)
      clear hall
      by_cases hlt : k < m
      · obtain ⟨g, o, rfl, hg, hcc⟩ := (ht.later hb13) (by rw [unhide Hnt]; omega)
        have c0 := hcc k (by rw [unhide Hnt]; exact hlt)
        have hal := hide (all_take (hasS l) t k (by rw [unhide Hnt]; exact hlt))
        have hno := hide (fun hp => symPut_no2 (l := l) (all_not (p := hasS l) (t := t) (k := k) (by rw [unhide Hnt]; exact hlt) hp))
        have Hk := hide hk
        have HH := hide (has_any a cap n (.slice (some ⟨x1.heap.size + 1, 0, none⟩) n n) vs (manyN l 15) _ l (t.getD k 0) wr rfl (unhide Hn) (h.later hb13) (unhide hm3))
        clear hcc hk ht
        generalize t.getD k 0 = s at *
        cases hhas : hasS l s
        · have hno' := hide (unhide hno hhas)
          go_wp2_with (first
            | (refine wpList_load_mid rfl 45 (.tmp 5) rfl B 0 rfl _ _ hbk'.range Try.underlying45 rfl (by rw [bookCells_len]; exact Try.infoBook) ?_)
            | (go_at_call 21; refine (unhide HH).mono ?_; rintro e x4 ⟨rfl, hb4⟩; rw [hhas]))
          go_ret
          exact ⟨_, rfl, by rw [unhide hno']; exact World.ownsRow_nil _ _ _ _, bnext hb13 hb4⟩
        · go_wp2_with (first
            | (refine wpList_load_mid rfl 45 (.tmp 5) rfl B 0 rfl _ _ hbk'.range Try.underlying45 rfl (by rw [bookCells_len]; exact Try.infoBook) ?_)
            | (go_at_call 21; refine (unhide HH).mono ?_; rintro e x4 ⟨rfl, hb4⟩; rw [hhas]))
          go_roundw
          case rel => exact ⟨k + 1, by have := unhide Hk; omega, by go_num, by rw [unhide hal, unhide HA, hhas]; rfl, bnext hbel hb4⟩
          case measure => simp [intOf]; omega
      · have hkt : t.take k = t := List.take_of_length_le (by rw [unhide Hnt]; omega)
        rw [hkt] at HA
        have Hr := hide (symPut_yes (unhide HK) (unhide HA))
        have HE := hide (eachP_any a (some ⟨x1.heap.size + 1, 0, none⟩) b cap n bc n m vs (manyN l 15) _ l t wr rfl (unhide Hn) (h.later hb13) (unhide hm3) ((hc3.later hbel (Nat.le_refl _)).rowN ((outN_len l 15).trans (unhide Hn))) (unhide Hnt) (ht.later hb13) (unhide Hmt) (unhide HA))
        clear hkt ht h
        go_wp2_with (first
          | (refine wpList_load_mid rfl 45 (.tmp 5) rfl B 0 rfl _ _ hbk'.range Try.underlying45 rfl (by rw [bookCells_len]; exact Try.infoBook) ?_)
          | (go_at_call 22; refine (unhide HE).mono ?_; rintro e x4 ⟨v, rfl, hp4, hb4⟩; obtain ⟨va, vc, rfl⟩ := hp4.form))
        go_ret
        have hs := hb13.size
        exact ⟨_, rfl, by rw [unhide Hr]; exact ⟨hp4.1, hp4.2.imp id fun ⟨g, c, u, e, hb, r⟩ => ⟨g, c, u, e, Nat.le_trans hs hb, r⟩⟩, bnext hb13 hb4⟩

theorem specSymbolsPut_n (a b : Option Addr) (cap bc n m q : Nat) (l t : List Int) (R : List (Int × Int)) (w : World) (hn : l.length = n) (h : IRow w a l) (hm : n ≤ 1048576) (hnt : t.length = m) (ht : IRow w b t) (hmt : m ≤ 1048576) (hR : symPut l t = R) (hq : R.length = q) :
    Calls Try.prog 9 #[.slice a n cap, .slice b m bc] w fun e w' => ∃ va vc, e = .returned (.slice va q vc) ∧ Pcs w' w.heap.size (.slice va q vc) R ∧ Below w.heap.size w w' :=
  (specSymbolsPut_any a b cap bc n m l t w hn h hm hnt ht hmt).mono fun e w' ⟨v, he, ho, hb⟩ => by
    rw [hR] at ho
    obtain ⟨va, vc, rfl⟩ := ho.formN hq
    exact ⟨va, vc, he, ho, hb⟩
theorem implSymbolsPut_n (a b : Option Addr) (cap bc n m q : Nat) (l t : List Int) (R : List (Int × Int)) (w : World) (hn : l.length = n) (h : IRow w a l) (hm : n ≤ 1048576) (hnt : t.length = m) (ht : IRow w b t) (hmt : m ≤ 1048576) (hR : symPut l t = R) (hq : R.length = q) :
    Calls Try.prog 7 #[.slice a n cap, .slice b m bc] w fun e w' => ∃ va vc, e = .returned (.slice va q vc) ∧ Pcs w' w.heap.size (.slice va q vc) R ∧ Below w.heap.size w w' :=
  (implSymbolsPut_any a b cap bc n m l t w hn h hm hnt ht hmt).mono fun e w' ⟨v, he, ho, hb⟩ => by
    rw [hR] at ho
    obtain ⟨va, vc, rfl⟩ := ho.formN hq
    exact ⟨va, vc, he, ho, hb⟩

end Go.Proofs.Ytnomiopdpmecbaa
