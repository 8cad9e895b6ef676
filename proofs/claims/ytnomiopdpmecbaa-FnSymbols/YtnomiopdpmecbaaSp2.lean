/- Symbols written by a code: the model's and the program's, over this seat's program. -/
import Derived.Test.YtnomiopdpmecbaaSp1
import Derived.Test.YtnomiopdpmecbaaPr1
namespace Go.Proofs.Ytnomiopdpmecbaa
open Go.RowKit Corb

def pcOf (l : List Int) (s : Int) : Int × Int := (btI ((outN l 15).2.getD s.toNat 0) (l.getD s.toNat 0), l.getD s.toNat 0)
def symP (l t : List Int) : List (Int × Int) := t.map (pcOf l)
def symPut (l t : List Int) : List (Int × Int) := if lensOk l && t.all (hasS l) then symP l t else []
theorem symPut_yes {l t : List Int} (h : lensOk l = true) (ht : t.all (hasS l) = true) : symPut l t = symP l t := by simp only [symPut, h, ht]; rfl
theorem symPut_no1 {l t : List Int} (h : lensOk l = false) : symPut l t = [] := by simp [symPut, h]
theorem symPut_no2 {l t : List Int} (ht : t.all (hasS l) = false) : symPut l t = [] := by
  unfold symPut
  rw [ht, Bool.and_false]; rfl
theorem symP_len (l t : List Int) : (symP l t).length = t.length := by simp [symP]
theorem symPut_len (l t : List Int) : (symPut l t).length ≤ t.length := by
  unfold symPut
  split
  · rw [symP_len]; exact Nat.le_refl _
  · simp
theorem symP_take (l t : List Int) (k : Nat) (h : k < t.length) : symP l (t.take (k + 1)) = symP l (t.take k) ++ [pcOf l (t.getD k 0)] := by
  rw [take_snocI t k h]; simp [symP]
theorem all_take (p : Int → Bool) (t : List Int) (k : Nat) (h : k < t.length) : (t.take (k + 1)).all p = ((t.take k).all p && p (t.getD k 0)) := by
  rw [take_snocI t k h]; simp
theorem all_not {p : Int → Bool} {t : List Int} {k : Nat} (h : k < t.length) (hp : p (t.getD k 0) = false) : t.all p = false := by
  rcases hb : t.all p with _ | _
  · rfl
  · have := List.all_eq_true.1 hb (t.getD k 0) (by simp [List.getD, h])
    rw [hp] at this
    exact absurd this (by simp)
theorem hasS_true {l : List Int} {s : Int} (h : hasS l s = true) : 0 ≤ s ∧ s < (l.length : Int) ∧ 0 < l.getD s.toNat 0 := by
  simp only [hasS, Bool.and_eq_true, decide_eq_true_iff] at h
  exact ⟨h.1.1, h.1.2, h.2⟩
/-- The piece of a symbol that has a code: its number is turned, and of as many bits. -/
theorem pcOf_eq {l : List Int} (hok : lensOk l = true) {k : Nat} (hk : k < l.length) (hp : 0 < l.getD k 0) : (outN l 15).2.getD k 0 = (codeAt l k : Int) ∧ pOk (codeAt l k : Int) (l.getD k 0) = true ∧ btI ((outN l 15).2.getD k 0) (l.getD k 0) = (rv (l.getD k 0).toNat ((outN l 15).2.getD k 0).toNat : Nat) := by
  have hc := codes_get hok hk
  rw [if_pos (by omega)] at hc
  have hlt := (codeAt_lt hok hk (by omega)).1
  have hb := inL_bd (lensOk_in hok) hk
  have hok2 : pOk (codeAt l k : Int) (l.getD k 0) = true := by
    rw [pOk_true]
    exact ⟨⟨by omega, by omega⟩, by omega, by omega⟩
  refine ⟨hc, hok2, ?_⟩
  rw [hc, btI_yes hok2]

set_option maxHeartbeats 3200000 in
theorem specSymbolsPut_any (a b : Option Addr) (cap bc n m : Nat) (l t : List Int) (w : World) (hn : l.length = n) (h : IRow w a l) (hm : n ≤ 1048576) (hnt : t.length = m) (ht : IRow w b t) (hmt : m ≤ 1048576) :
    Calls Try.prog 9 #[.slice a n cap, .slice b m bc] w fun e w' => ∃ v, e = .returned v ∧ Pcs w' w.heap.size v (symPut l t) ∧ Below w.heap.size w w' := by
  have hnI : (n : Int) ≤ 1048576 := by omega
  have hmI : (m : Int) ≤ 1048576 := by omega
  obtain ⟨i0, hi, hz0, hz1, hz2⟩ := info_parts Try.infoPiece
  have hB0 : Below w.heap.size w (w.alloc (.cells #[] 50)) := (Below.refl _ _).alloc (Nat.le_refl _) _
  have hp0 : Pcs (w.alloc (.cells #[] 50)) w.heap.size (.slice (some ⟨w.heap.size, 0, none⟩) 0 0) [] := World.ownsRow_lit w #[] 0 (Nat.le_refl _) (by unfold maxLen; omega) rfl
  have HL := hide (specLensOk_any a cap n l (w.alloc (.cells #[] 50)) hn (h.later hB0) hm)
  have Hn := hide hn
  have Hm := hide hm
  have Hnt := hide hnt
  have Hmt := hide hmt
  clear hn hm hnt hmt
  cases hok : lensOk l
  · have Hr := hide (symPut_no1 (t := t) hok)
    go_enter Try.func9, Try.ntmps9
    go_wp2_with fail
    refine (unhide HL).mono ?_
    rintro e x1 ⟨rfl, hx⟩
    rw [hx, hok]
    go_wp2
    go_ret
    exact ⟨_, rfl, by rw [unhide Hr]; exact hp0, hB0⟩
  · have hl := lensOk_len hok
    have HC := hide (l3Codes_any a cap n l (w.alloc (.cells #[] 50)) (unhide Hn) (h.later hB0) (by rw [← unhide Hn]; exact hl))
    have hn3 : (n : Int) ≤ 300 := by rw [← unhide Hn]; omega
    have HK := hide hok
    have Hl := hide hl
    clear hl
    go_enter Try.func9, Try.ntmps9
    go_wp2_with fail
    refine (unhide HL).mono ?_
    rintro e x1 ⟨rfl, hx⟩
    rw [hx, hok]
    clear hx HL
    go_wp2_with fail
    refine (unhide HC).mono ?_
    rintro e x2 ⟨rfl, hc2, hb2⟩
    have hp2 := Pcs.later hp0 hb2 (Nat.le_refl _)
    have hB2 := bnext hB0 hb2
    clear hp0 hb2 hB0 HC x1
    have hsz1 : (w.alloc (.cells #[] 50)).heap.size = w.heap.size + 1 := by simp
    rw [hsz1] at hc2 ⊢
    clear hok
    go_wp2_with fail
    go_loopw [5, 7] (fun v i wr => ∃ k : Nat, k ≤ m ∧ i = .int .i64 k ∧ (t.take k).all (hasS l) = true ∧ Pcs wr w.heap.size v (symP l (t.take k)) ∧ IOwn wr (w.heap.size + 1) (.slice (some ⟨w.heap.size + 1, 0, none⟩) n n) (outN l 15).2 ∧ Below w.heap.size w wr) (fun _ i _ => m - (intOf i).toNat)
    case atStart => exact ⟨0, Nat.zero_le _, rfl, rfl, hp2, hc2, hB2⟩
    case round =>
      obtain ⟨k, hk, rfl, hall, hp, hc, hbel⟩ := hrel
      clear hp2 hc2 hB2
      have hbs := hbel.size
      have HA := hide hall
      clear hall
      by_cases hlt : k < m
      · obtain ⟨g, o, rfl, hg, hcc⟩ := (ht.later hbel) (by rw [unhide Hnt]; omega)
        have c0 := hcc k (by rw [unhide Hnt]; exact hlt)
        have hst := hide (symP_take l t k (by rw [unhide Hnt]; exact hlt))
        have hal := hide (all_take (hasS l) t k (by rw [unhide Hnt]; exact hlt))
        have hno := hide (fun hp => symPut_no2 (l := l) (all_not (p := hasS l) (t := t) (k := k) (by rw [unhide Hnt]; exact hlt) hp))
        have hlk : Hid ((symP l (t.take k)).length = k) := by show (symP l (t.take k)).length = k; rw [symP_len]; have := unhide Hnt; simp; omega
        have hlenc : Hid ((outN l 15).2.length = n) := (outN_len l 15).trans (unhide Hn)
        have Hk := hide hk
        clear hcc hk ht
        generalize t.getD k 0 = s at *
        cases hin : inB s 0 ((n : Int) - 1)
        · have hno' := hide (unhide hno (by
            rw [inB_false] at hin
            unfold hasS
            rcases hin with h1 | h1
            · rw [decide_eq_false (by omega)]; rfl
            · rw [decide_eq_false (p := s < (l.length : Int)) (by rw [unhide Hn]; omega)]; simp))
          go_wp2_with fail
          refine (l1In_any _ _ _ _).mono ?_
          rintro e x3 ⟨rfl, hx⟩
          subst hx
          rw [hin]
          go_wp2
          go_ret
          exact ⟨_, rfl, by rw [unhide hno']; exact World.ownsRow_lit x3 #[] 0 hbs (by unfold maxLen; omega) rfl, hbel.alloc hbs _⟩
        · obtain ⟨s0, s1⟩ := inB_true.1 hin
          obtain ⟨q, rfl⟩ := Int.eq_ofNat_of_zero_le s0
          have hq : q < n := by omega
          obtain ⟨gl, ol, rfl, hgl, hcl⟩ := (h.later hbel) (by rw [unhide Hn]; omega)
          have c1 := hcl q (by rw [unhide Hn]; exact hq)
          have hb := inL_bd (lensOk_in (unhide HK)) (show q < l.length by rw [unhide Hn]; exact hq)
          by_cases hz : 0 < l.getD q 0
          · have hhas : Hid (hasS l (q : Int) = true) := by
              show hasS l (q : Int) = true
              unfold hasS
              rw [decide_eq_true s0, decide_eq_true (by rw [unhide Hn]; omega), Int.toNat_natCast, decide_eq_true hz]; rfl
            obtain ⟨e1, e2, e3⟩ := pcOf_eq (unhide HK) (show q < l.length by rw [unhide Hn]; exact hq) hz
            have hpc : Hid (pcOf l (q : Int) = (((rv (l.getD q 0).toNat ((outN l 15).2.getD q 0).toNat : Nat) : Int), l.getD q 0)) := by
              show pcOf l (q : Int) = _
              unfold pcOf
              rw [Int.toNat_natCast, e3]
            obtain ⟨⟨_, _⟩, z0, z1⟩ := pOk_true.1 e2
            have zb := (pow_bd (l.getD q 0) (by omega)).2
            have HP := hide (l3Piece_any (some ⟨gl, ol, none⟩) (some ⟨w.heap.size + 1, 0, none⟩) cap n n q l (outN l 15).2 wr (unhide Hn) (unhide hlenc) (h.later hbel) (hc.rowN (unhide hlenc)) hq (by omega) ⟨hb.1, hb.2⟩ (by rw [e1]; exact ⟨z0, Int.lt_of_lt_of_le z1 zb⟩))
            have g0 : (l.getD q 0 == 0) = false := by rw [beq_eq_false_iff_ne]; omega
            have hne := hide (type_apart hc hp (by decide))
            generalize (rv (l.getD q 0).toNat ((outN l 15).2.getD q 0).toNat) = R at *
            clear e1 e2 e3 z0 z1 zb hb hz hcl h
            generalize l.getD q 0 = y at *
            go_wp2_with fail
            refine (l1In_any _ _ _ _).mono ?_
            rintro e x3 ⟨rfl, hx⟩
            subst hx
            rw [hin]
            go_wp2_with fail
            refine (unhide HP).mono ?_
            rintro e x4 ⟨rfl, hb4⟩
            have hp4 := Pcs.later hp hb4 (Nat.le_refl _)
            have hc4 := hc.later hb4 (Nat.le_refl _)
            have hB4 := bnext hbel hb4
            have hbs4 := hB4.size
            have hlen1 : Hid ((symP l (t.take k)).length + 1 ≤ maxLen ∧ ((symP l (t.take k)).length + 1) * 16 ≤ 140737488355328) := by
              show _ ∧ _
              rw [unhide hlk]
              have := unhide Hmt
              unfold maxLen
              omega
            clear hp hc hbel HP hb4
            go_wp2_with (at_builtin; refine wpList_append_own _ rfl _ _ 26 rfl w.heap.size 50 i0 (.agg #[.int .i64 0, .int .i64 0]) 2 16 Try.underlying26 hi hz0 hz1 hz2 rfl (by decide) _ _ _ rfl (World.ownsRow.alloc hp4 _) ⟨x4.heap.size, 0, none⟩ 1 1 [.int .i64 (R : Nat), .int .i64 y] rfl rfl (two_new x4 _ _ _) (two_int _ _) (unhide hlen1).1 (unhide hlen1).2 (size_alloc_le hbs4 _) ?_; intro v' x5 hown hgrow hnil; clear hnil)
            have hb5 := grown_step (v := u5) hgrow hp4 (Nat.le_refl _) hbs4 hB4
            have hc5 : IOwn x5 (w.heap.size + 1) (.slice (some ⟨w.heap.size + 1, 0, none⟩) n n) (outN l 15).2 := (World.ownsRow.alloc hc4 _).kept hgrow (unhide hne)
            have hp5 := pcs_snoc hown
            rw [← unhide hpc, ← unhide hst] at hp5
            clear hown hgrow hp4 hc4
            go_wp2
            go_roundw
            case rel => exact ⟨k + 1, by have := unhide Hk; omega, by go_num, by rw [unhide hal, unhide HA, unhide hhas]; rfl, hp5, hc5, hb5⟩
            case measure => simp [intOf]; omega
          · have hy0 : l.getD q 0 = 0 := by omega
            rw [hy0] at c1
            have hno' := hide (unhide hno (by
              unfold hasS
              rw [Int.toNat_natCast, hy0]; simp))
            clear hb hz hcl h
            go_wp2_with fail
            refine (l1In_any _ _ _ _).mono ?_
            rintro e x3 ⟨rfl, hx⟩
            subst hx
            rw [hin]
            go_wp2
            go_ret
            exact ⟨_, rfl, by rw [unhide hno']; exact World.ownsRow_lit x3 #[] 0 hbs (by unfold maxLen; omega) rfl, hbel.alloc hbs _⟩
      · have hkt : t.take k = t := List.take_of_length_le (by rw [unhide Hnt]; omega)
        rw [hkt] at hp HA
        have Hr := hide (symPut_yes (unhide HK) (unhide HA))
        obtain ⟨va, vc, rfl⟩ := hp.form
        clear hkt ht h
        go_wp2
        go_ret
        exact ⟨_, rfl, by rw [unhide Hr]; exact hp, hbel⟩

end Go.Proofs.Ytnomiopdpmecbaa
