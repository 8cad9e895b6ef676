/- Of what the proof is made: 3 texts, one behind the other. -/
import Derived.Test.YtnomiopdpmecbaaM6
import Derived.Test.YtnomiopdpmecbaaM3
import Derived.Deep.RegionHeld3
import Derived.Test.YtnomiopdpmecbaaM5
/- Symbols by a book: whether one has a code, and its piece, over this seat's program. -/
namespace Go.Proofs.Ytnomiopdpmecbaa
open Go.RowKit Corb

def hasS (l : List Int) (s : Int) : Bool := decide (0 ≤ s) && decide (s < (l.length : Int)) && decide (0 < l.getD s.toNat 0)
theorem book_new (w : World) (vl vc vs : Value) (m : Nat → Nat) (t : TypeId) : Book (w.alloc (.cells (bookCells vl vc vs m).toArray t)) w.heap.size vl vc vs m := by
  refine Book.of_range ?_ (fun o => frozen_new w _ _ o) (by simp)
  intro j v hv
  rw [Nat.zero_add, cell_of_row _ _ _ _ t (0, 0) (heap_alloc_new w _)]
  simpa using hv

set_option maxHeartbeats 800000 in
theorem has_any (a : Option Addr) (cap n : Nat) (vc vs : Value) (m : Nat → Nat) (C : Array Value) (l : List Int) (s : Int) (w : World) (hC : C = (bookCells (.slice a n cap) vc vs m).toArray) (hn : l.length = n) (h : IRow w a l) (hm : n ≤ 300) :
    Calls Try.prog 21 #[.agg C, .int .i64 s] w fun e w' => e = .returned (.bool (hasS l s)) ∧ Below w.heap.size w w' := by
  have hB := book_new w (.slice a n cap) vc vs m 45
  rw [← hC] at hB
  have hmI : (n : Int) ≤ 300 := by omega
  clear hC
  by_cases h0 : 0 ≤ s
  · by_cases h1 : s < (n : Int)
    · obtain ⟨k, rfl⟩ := Int.eq_ofNat_of_zero_le h0
      obtain ⟨c0, _⟩ := hB
      have hb : Below w.heap.size w (w.alloc (.cells C 45)) := (Below.refl _ _).alloc (Nat.le_refl _) _
      obtain ⟨g, o, rfl, hg, hc⟩ := (h.later hb) (by omega)
      have c1 := hc k (by omega)
      have hr : Hid (hasS l (k : Int) = decide (0 < l.getD k 0)) := by
        show hasS l (k : Int) = decide (0 < l.getD k 0)
        unfold hasS
        rw [decide_eq_true h0, decide_eq_true (by omega), Int.toNat_natCast]; rfl
      clear hc h hm
      generalize l.getD k 0 = y at *
      go_enter Try.func21, Try.ntmps21
      go_wp2
      go_ret
      exact ⟨ret_bool (unhide hr).symm, hb⟩
    · have hr : Hid (hasS l s = false) := by
        show hasS l s = false
        unfold hasS
        rw [decide_eq_false (p := s < (l.length : Int)) (by omega)]; simp
      obtain ⟨c0, _⟩ := hB
      have hb : Below w.heap.size w (w.alloc (.cells C 45)) := (Below.refl _ _).alloc (Nat.le_refl _) _
      clear hm h
      go_enter Try.func21, Try.ntmps21
      go_wp2
      go_ret
      exact ⟨ret_bool (unhide hr).symm, hb⟩
  · have hr : Hid (hasS l s = false) := by
      show hasS l s = false
      unfold hasS
      rw [decide_eq_false h0]; simp
    have hb : Below w.heap.size w (w.alloc (.cells C 45)) := (Below.refl _ _).alloc (Nat.le_refl _) _
    clear hm h hB
    go_enter Try.func21, Try.ntmps21
    go_wp2
    go_ret
    exact ⟨ret_bool (unhide hr).symm, hb⟩

set_option maxHeartbeats 800000 in
theorem bookPut_any (a ac : Option Addr) (cap n cc k : Nat) (vs : Value) (m : Nat → Nat) (C : Array Value) (l c : List Int) (w : World) (hC : C = (bookCells (.slice a n cap) (.slice ac n cc) vs m).toArray) (hn : l.length = n) (hnc : c.length = n) (h : IRow w a l) (hcr : IRow w ac c) (hk : k < n) (hm : n ≤ 300) :
    Calls Try.prog 23 #[.agg C, .int .i64 (k : Int)] w fun e w' => e = .returned (.agg #[.int .i64 (btI (c.getD k 0) (l.getD k 0)), .int .i64 (l.getD k 0)]) ∧ Below w.heap.size w w' := by
  have e0 : C[0]? = some (.slice a n cap) := by subst hC; rfl
  have e1 : C[1]? = some (.slice ac n cc) := by subst hC; rfl
  have hmI : (n : Int) ≤ 300 := by omega
  have hkI : (k : Int) < (n : Int) := by omega
  clear hC
  obtain ⟨g, o, rfl, hg, hc⟩ := h (by omega)
  obtain ⟨g', o', rfl, hg', hc'⟩ := hcr (by omega)
  have d0 := hc k (by omega)
  have d1 := hc' k (by omega)
  have hb : Below w.heap.size w ((w.alloc (.cells C 45)).alloc (.cells #[.int .i64 0, .int .i64 0] 50)) := ((Below.refl _ _).alloc (Nat.le_refl _) _).alloc (by simp) _
  have r0 : ((w.alloc (.cells C 45)).alloc (.cells #[.int .i64 0, .int .i64 0] 50)).cell? ⟨w.heap.size + 1, 0, none⟩ = some (.int .i64 0) := by
    have := cell_of_row ((w.alloc (.cells C 45)).alloc (.cells #[.int .i64 0, .int .i64 0] 50)) (w.heap.size + 1) 0 #[.int .i64 0, .int .i64 0] 50 (0, 0) (heap_alloc2_new w _ _)
    rw [this]; rfl
  have r1 : ((w.alloc (.cells C 45)).alloc (.cells #[.int .i64 0, .int .i64 0] 50)).cell? ⟨w.heap.size + 1, 1, none⟩ = some (.int .i64 0) := by
    have := cell_of_row ((w.alloc (.cells C 45)).alloc (.cells #[.int .i64 0, .int .i64 0] 50)) (w.heap.size + 1) 1 #[.int .i64 0, .int .i64 0] 50 (0, 0) (heap_alloc2_new w _ _)
    rw [this]; rfl
  have hs2 : ((w.alloc (.cells C 45)).alloc (.cells #[.int .i64 0, .int .i64 0] 50)).heap.size = w.heap.size + 2 := by simp
  have HR := hide (And.intro r0 (And.intro r1 (And.intro hs2 hb)))
  clear hc hc' h hcr r0 r1 hs2 hb
  generalize l.getD k 0 = y at *
  generalize c.getD k 0 = z at *
  go_enter Try.func23, Try.ntmps23
  go_wp2_with fail
  refine (implBitsTurn_any _ _ _).mono ?_
  rintro e x1 ⟨rfl, hb1⟩
  obtain ⟨r0, r1, hs2, hb⟩ := unhide HR
  have q0 := (hb1.cell (p := ⟨w.heap.size + 1, 0, none⟩) (by rw [hs2]; exact Nat.lt_succ_self _)).trans r0
  have q1 := (hb1.cell (p := ⟨w.heap.size + 1, 1, none⟩) (by rw [hs2]; exact Nat.lt_succ_self _)).trans r1
  have f0 := hb1.frozen (p := ⟨w.heap.size + 1, 0, none⟩) (by rw [hs2]; exact Nat.lt_succ_self _)
  have f1 := hb1.frozen (p := ⟨w.heap.size + 1, 1, none⟩) (by rw [hs2]; exact Nat.lt_succ_self _)
  have hbn := hb.trans (hb1.mono hb.size)
  clear HR r0 r1 hb hb1
  go_wp2_with fail
  exact bodyPost_ret (v := .agg #[.int .i64 (btI z y), .int .i64 y]) (by simp [results, Try.results23, go_sem, q0, q1]) rfl ⟨rfl, below_set (below_set hbn (Nat.le_succ _) _) (Nat.le_succ _) _⟩

set_option maxHeartbeats 1600000 in
theorem l3Piece_any (a ac : Option Addr) (cap n cc k : Nat) (l c : List Int) (w : World) (hn : l.length = n) (hnc : c.length = n) (h : IRow w a l) (hcr : IRow w ac c) (hk : k < n) (hm : n ≤ 300) (hy : 0 ≤ l.getD k 0 ∧ l.getD k 0 ≤ 15) (hz : 0 ≤ c.getD k 0 ∧ c.getD k 0 < 65536) :
    Calls Try.prog 27 #[.slice a n cap, .slice ac n cc, .int .i64 (k : Int)] w fun e w' => e = .returned (.agg #[.int .i64 (rv (l.getD k 0).toNat (c.getD k 0).toNat : Nat), .int .i64 (l.getD k 0)]) ∧ Below w.heap.size w w' := by
  have hmI : (n : Int) ≤ 300 := by omega
  have hkI : (k : Int) < (n : Int) := by omega
  obtain ⟨g, o, rfl, hg, hc⟩ := h (by omega)
  obtain ⟨g', o', rfl, hg', hc'⟩ := hcr (by omega)
  have d0 := hc k (by omega)
  have d1 := hc' k (by omega)
  obtain ⟨y0, y1⟩ := hy
  obtain ⟨z0, z1⟩ := hz
  clear hc hc' h hcr
  generalize l.getD k 0 = y at *
  generalize c.getD k 0 = z at *
  have hb : Below w.heap.size w (w.alloc (.cells #[.int .i64 0, .int .i64 0] 50)) := (Below.refl _ _).alloc (Nat.le_refl _) _
  have y2 : y ≤ 16 := by omega
  go_enter Try.func27, Try.ntmps27
  have HC : ∀ A : Array Value, (w.alloc (.cells A 50)).drew.cell? ⟨g, o + k, none⟩ = some (.int .i64 y) ∧ (w.alloc (.cells A 50)).drew.cell? ⟨g', o' + k, none⟩ = some (.int .i64 z) := fun A => by
    have hb : Below w.heap.size w (w.alloc (.cells A 50)) := (Below.refl _ _).alloc (Nat.le_refl _) _
    exact ⟨(hb.cell (p := ⟨g, o + k, none⟩) hg).trans d0, (hb.cell (p := ⟨g', o' + k, none⟩) hg').trans d1⟩
  go_wp2_with fail
  go_region_held3 (fun W => W.cell? ⟨g, o + k, none⟩ = some (.int .i64 y) ∧ W.cell? ⟨g', o' + k, none⟩ = some (.int .i64 z)) (first | exact HC _ | assumption) (first | (go_at_call 42; refine (l1Turn_any _ _ _ z0 z1 y0 y2).mono ?_; rintro e x1 ⟨rfl, hx⟩; subst hx))
  go_wp2
  exact bodyPost_ret (v := .agg #[.int .i64 (rv y.toNat z.toNat : Nat), .int .i64 y]) (by simp [results, Try.results27, go_sem]) rfl ⟨rfl, ((Below.refl _ _).alloc (Nat.le_refl _) _).drew⟩

end Go.Proofs.Ytnomiopdpmecbaa
/- Symbols written by a code: the model's and the program's, over this seat's program. -/
namespace Go.Proofs.Ytnomiopdpmecbaa
open Go.RowKit Corb

def pcOf (l : List Int) (s : Int) : Int × Int := (btI ((outN l 15).2.getD s.toNat 0) (l.getD s.toNat 0), l.getD s.toNat 0)
def symP (l t : List Int) : List (Int × Int) := t.map (pcOf l)
def symPut (l t : List Int) : List (Int × Int) := if lensOk l && t.all (hasS l) then symP l t else []
theorem symPut_yes {l t : List Int} (h : lensOk l = true) (ht : t.all (hasS l) = true) : symPut l t = symP l t := by simp only [symPut, h, ht]; rfl
theorem symPut_no1 {l t : List Int} (h : lensOk l = false) : symPut l t = [] := by simp [symPut, h]
theorem symPut_no2 {l t : List Int} (ht : t.all (hasS l) = false) : symPut l t = [] := by
  unfold symPut
  rw [ht, Bool.and_false]; rfl
theorem symP_len (l t : List Int) : (symP l t).length = t.length := by simp [symP]
theorem symPut_len (l t : List Int) : (symPut l t).length ≤ t.length := by
  unfold symPut
  split
  · rw [symP_len]; exact Nat.le_refl _
  · simp
theorem symP_take (l t : List Int) (k : Nat) (h : k < t.length) : symP l (t.take (k + 1)) = symP l (t.take k) ++ [pcOf l (t.getD k 0)] := by
  rw [take_snocI t k h]; simp [symP]
theorem all_take (p : Int → Bool) (t : List Int) (k : Nat) (h : k < t.length) : (t.take (k + 1)).all p = ((t.take k).all p && p (t.getD k 0)) := by
  rw [take_snocI t k h]; simp
theorem all_not {p : Int → Bool} {t : List Int} {k : Nat} (h : k < t.length) (hp : p (t.getD k 0) = false) : t.all p = false := by
  rcases hb : t.all p with _ | _
  · rfl
  · have := List.all_eq_true.1 hb (t.getD k 0) (by simp [List.getD, h])
    rw [hp] at this
    exact absurd this (by simp)
theorem hasS_true {l : List Int} {s : Int} (h : hasS l s = true) : 0 ≤ s ∧ s < (l.length : Int) ∧ 0 < l.getD s.toNat 0 := by
  simp only [hasS, Bool.and_eq_true, decide_eq_true_iff] at h
  exact ⟨h.1.1, h.1.2, h.2⟩
/-- The piece of a symbol that has a code: its number is turned, and of as many bits. -/
theorem pcOf_eq {l : List Int} (hok : lensOk l = true) {k : Nat} (hk : k < l.length) (hp : 0 < l.getD k 0) : (outN l 15).2.getD k 0 = (codeAt l k : Int) ∧ pOk (codeAt l k : Int) (l.getD k 0) = true ∧ btI ((outN l 15).2.getD k 0) (l.getD k 0) = (rv (l.getD k 0).toNat ((outN l 15).2.getD k 0).toNat : Nat) := by
  have hc := codes_get hok hk
  rw [if_pos (by omega)] at hc
  have hlt := (codeAt_lt hok hk (by omega)).1
  have hb := inL_bd (lensOk_in hok) hk
  have hok2 : pOk (codeAt l k : Int) (l.getD k 0) = true := by
    rw [pOk_true]
    exact ⟨⟨by omega, by omega⟩, by omega, by omega⟩
  refine ⟨hc, hok2, ?_⟩
  rw [hc, btI_yes hok2]

set_option maxHeartbeats 3200000 in
theorem specSymbolsPut_any (a b : Option Addr) (cap bc n m : Nat) (l t : List Int) (w : World) (hn : l.length = n) (h : IRow w a l) (hm : n ≤ 1048576) (hnt : t.length = m) (ht : IRow w b t) (hmt : m ≤ 1048576) :
    Calls Try.prog 9 #[.slice a n cap, .slice b m bc] w fun e w' => ∃ v, e = .returned v ∧ Pcs w' w.heap.size v (symPut l t) ∧ Below w.heap.size w w' := by
  have hnI : (n : Int) ≤ 1048576 := by omega
  have hmI : (m : Int) ≤ 1048576 := by omega
  obtain ⟨i0, hi, hz0, hz1, hz2⟩ := info_parts Try.infoPiece
  have hB0 : Below w.heap.size w (w.alloc (.cells #[] 50)) := (Below.refl _ _).alloc (Nat.le_refl _) _
  have hp0 : Pcs (w.alloc (.cells #[] 50)) w.heap.size (.slice (some ⟨w.heap.size, 0, none⟩) 0 0) [] := World.ownsRow_lit w #[] 0 (Nat.le_refl _) (by unfold maxLen; omega) rfl
  have HL := hide (specLensOk_any a cap n l (w.alloc (.cells #[] 50)) hn (h.later hB0) hm)
  have Hn := hide hn
  have Hm := hide hm
  have Hnt := hide hnt
  have Hmt := hide hmt
  clear hn hm hnt hmt
  cases hok : lensOk l
  · have Hr := hide (symPut_no1 (t := t) hok)
    go_enter Try.func9, Try.ntmps9
    go_wp2_with fail
    refine (unhide HL).mono ?_
    rintro e x1 ⟨rfl, hx⟩
    rw [hx, hok]
    go_wp2
    go_ret
    exact ⟨_, rfl, by rw [unhide Hr]; exact hp0, hB0⟩
  · have hl := lensOk_len hok
    have HC := hide (l3Codes_any a cap n l (w.alloc (.cells #[] 50)) (unhide Hn) (h.later hB0) (by rw [← unhide Hn]; exact hl))
    have hn3 : (n : Int) ≤ 300 := by rw [← unhide Hn]; omega
    have HK := hide hok
    have Hl := hide hl
    clear hl
    go_enter Try.func9, Try.ntmps9
    go_wp2_with fail
    refine (unhide HL).mono ?_
    rintro e x1 ⟨rfl, hx⟩
    rw [hx, hok]
    clear hx HL
    go_wp2_with fail
    refine (unhide HC).mono ?_
    rintro e x2 ⟨rfl, hc2, hb2⟩
    have hp2 := Pcs.later hp0 hb2 (Nat.le_refl _)
    have hB2 := bnext hB0 hb2
    clear hp0 hb2 hB0 HC x1
    have hsz1 : (w.alloc (.cells #[] 50)).heap.size = w.heap.size + 1 := by simp
    rw [hsz1] at hc2 ⊢
    clear hok
    go_wp2_with fail
    go_loopw [5, 7] (fun v i wr => ∃ k : Nat, k ≤ m ∧ i = .int .i64 k ∧ (t.take k).all (hasS l) = true ∧ Pcs wr w.heap.size v (symP l (t.take k)) ∧ IOwn wr (w.heap.size + 1) (.slice (some ⟨w.heap.size + 1, 0, none⟩) n n) (outN l 15).2 ∧ Below w.heap.size w wr) (fun _ i _ => m - (intOf i).toNat)
    case atStart => exact ⟨0, Nat.zero_le _, rfl, rfl, hp2, hc2, hB2⟩
    case round =>
      obtain ⟨k, hk, rfl, hall, hp, hc, hbel⟩ := hrel
      clear hp2 hc2 hB2
      have hbs := hbel.size
      have HA := hide hall
      clear hall
      by_cases hlt : k < m
      · obtain ⟨g, o, rfl, hg, hcc⟩ := (ht.later hbel) (by rw [unhide Hnt]; omega)
        have c0 := hcc k (by rw [unhide Hnt]; exact hlt)
        have hst := hide (symP_take l t k (by rw [unhide Hnt]; exact hlt))
        have hal := hide (all_take (hasS l) t k (by rw [unhide Hnt]; exact hlt))
        have hno := hide (fun hp => symPut_no2 (l := l) (all_not (p := hasS l) (t := t) (k := k) (by rw [unhide Hnt]; exact hlt) hp))
        have hlk : Hid ((symP l (t.take k)).length = k) := by show (symP l (t.take k)).length = k; rw [symP_len]; have := unhide Hnt; simp; omega
        have hlenc : Hid ((outN l 15).2.length = n) := (outN_len l 15).trans (unhide Hn)
        have Hk := hide hk
        clear hcc hk ht
        generalize t.getD k 0 = s at *
        cases hin : inB s 0 ((n : Int) - 1)
        · have hno' := hide (unhide hno (by
            rw [inB_false] at hin
            unfold hasS
            rcases hin with h1 | h1
            · rw [decide_eq_false (by omega)]; rfl
            · rw [decide_eq_false (p := s < (l.length : Int)) (by rw [unhide Hn]; omega)]; simp))
          go_wp2_with fail
          refine (l1In_any _ _ _ _).mono ?_
          rintro e x3 ⟨rfl, hx⟩
          subst hx
          rw [hin]
          go_wp2
          go_ret
          exact ⟨_, rfl, by rw [unhide hno']; exact World.ownsRow_lit x3 #[] 0 hbs (by unfold maxLen; omega) rfl, hbel.alloc hbs _⟩
        · obtain ⟨s0, s1⟩ := inB_true.1 hin
          obtain ⟨q, rfl⟩ := Int.eq_ofNat_of_zero_le s0
          have hq : q < n := by omega
          obtain ⟨gl, ol, rfl, hgl, hcl⟩ := (h.later hbel) (by rw [unhide Hn]; omega)
          have c1 := hcl q (by rw [unhide Hn]; exact hq)
          have hb := inL_bd (lensOk_in (unhide HK)) (show q < l.length by rw [unhide Hn]; exact hq)
          by_cases hz : 0 < l.getD q 0
          · have hhas : Hid (hasS l (q : Int) = true) := by
              show hasS l (q : Int) = true
              unfold hasS
              rw [decide_eq_true s0, decide_eq_true (by rw [unhide Hn]; omega), Int.toNat_natCast, decide_eq_true hz]; rfl
            obtain ⟨e1, e2, e3⟩ := pcOf_eq (unhide HK) (show q < l.length by rw [unhide Hn]; exact hq) hz
            have hpc : Hid (pcOf l (q : Int) = (((rv (l.getD q 0).toNat ((outN l 15).2.getD q 0).toNat : Nat) : Int), l.getD q 0)) := by
              show pcOf l (q : Int) = _
              unfold pcOf
              rw [Int.toNat_natCast, e3]
            obtain ⟨⟨_, _⟩, z0, z1⟩ := pOk_true.1 e2
            have zb := (pow_bd (l.getD q 0) (by omega)).2
            have HP := hide (l3Piece_any (some ⟨gl, ol, none⟩) (some ⟨w.heap.size + 1, 0, none⟩) cap n n q l (outN l 15).2 wr (unhide Hn) (unhide hlenc) (h.later hbel) (hc.rowN (unhide hlenc)) hq (by omega) ⟨hb.1, hb.2⟩ (by rw [e1]; exact ⟨z0, Int.lt_of_lt_of_le z1 zb⟩))
            have g0 : (l.getD q 0 == 0) = false := by rw [beq_eq_false_iff_ne]; omega
            have hne := hide (type_apart hc hp (by decide))
            generalize (rv (l.getD q 0).toNat ((outN l 15).2.getD q 0).toNat) = R at *
            clear e1 e2 e3 z0 z1 zb hb hz hcl h
            generalize l.getD q 0 = y at *
            go_wp2_with fail
            refine (l1In_any _ _ _ _).mono ?_
            rintro e x3 ⟨rfl, hx⟩
            subst hx
            rw [hin]
            go_wp2_with fail
            refine (unhide HP).mono ?_
            rintro e x4 ⟨rfl, hb4⟩
            have hp4 := Pcs.later hp hb4 (Nat.le_refl _)
            have hc4 := hc.later hb4 (Nat.le_refl _)
            have hB4 := bnext hbel hb4
            have hbs4 := hB4.size
            have hlen1 : Hid ((symP l (t.take k)).length + 1 ≤ maxLen ∧ ((symP l (t.take k)).length + 1) * 16 ≤ 140737488355328) := by
              show _ ∧ _
              rw [unhide hlk]
              have := unhide Hmt
              unfold maxLen
              omega
            clear hp hc hbel HP hb4
            go_wp2_with (at_builtin; refine wpList_append_own _ rfl _ _ 26 rfl w.heap.size 50 i0 (.agg #[.int .i64 0, .int .i64 0]) 2 16 Try.underlying26 hi hz0 hz1 hz2 rfl (by decide) _ _ _ rfl (World.ownsRow.alloc hp4 _) ⟨x4.heap.size, 0, none⟩ 1 1 [.int .i64 (R : Nat), .int .i64 y] rfl rfl (two_new x4 _ _ _) (two_int _ _) (unhide hlen1).1 (unhide hlen1).2 (size_alloc_le hbs4 _) ?_; intro v' x5 hown hgrow hnil; clear hnil)
            have hb5 := grown_step (v := u5) hgrow hp4 (Nat.le_refl _) hbs4 hB4
            have hc5 : IOwn x5 (w.heap.size + 1) (.slice (some ⟨w.heap.size + 1, 0, none⟩) n n) (outN l 15).2 := (World.ownsRow.alloc hc4 _).kept hgrow (unhide hne)
            have hp5 := pcs_snoc hown
            rw [← unhide hpc, ← unhide hst] at hp5
            clear hown hgrow hp4 hc4
            go_wp2
            go_roundw
            case rel => exact ⟨k + 1, by have := unhide Hk; omega, by go_num, by rw [unhide hal, unhide HA, unhide hhas]; rfl, hp5, hc5, hb5⟩
            case measure => simp [intOf]; omega
          · have hy0 : l.getD q 0 = 0 := by omega
            rw [hy0] at c1
            have hno' := hide (unhide hno (by
              unfold hasS
              rw [Int.toNat_natCast, hy0]; simp))
            clear hb hz hcl h
            go_wp2_with fail
            refine (l1In_any _ _ _ _).mono ?_
            rintro e x3 ⟨rfl, hx⟩
            subst hx
            rw [hin]
            go_wp2
            go_ret
            exact ⟨_, rfl, by rw [unhide hno']; exact World.ownsRow_lit x3 #[] 0 hbs (by unfold maxLen; omega) rfl, hbel.alloc hbs _⟩
      · have hkt : t.take k = t := List.take_of_length_le (by rw [unhide Hnt]; omega)
        rw [hkt] at hp HA
        have Hr := hide (symPut_yes (unhide HK) (unhide HA))
        obtain ⟨va, vc, rfl⟩ := hp.form
        clear hkt ht h
        go_wp2
        go_ret
        exact ⟨_, rfl, by rw [unhide Hr]; exact hp, hbel⟩

end Go.Proofs.Ytnomiopdpmecbaa
/- Symbols written by a code: the program's, over this seat's program. -/
namespace Go.Proofs.Ytnomiopdpmecbaa
open Go.RowKit Corb

set_option maxHeartbeats 1600000 in
theorem eachP_any (a ac b : Option Addr) (cap cc bc n m : Nat) (vs : Value) (f : Nat → Nat) (C : Array Value) (l t : List Int) (w : World) (hC : C = (bookCells (.slice a n cap) (.slice ac n cc) vs f).toArray) (hn : l.length = n) (h : IRow w a l) (hm : n ≤ 300) (hc : IRow w ac (outN l 15).2) (hnt : t.length = m) (ht : IRow w b t) (hmt : m ≤ 1048576) (hall : t.all (hasS l) = true) :
    Calls Try.prog 22 #[.slice b m bc, .func (.func 23) #[.agg C] #[]] w fun e w' => ∃ v, e = .returned v ∧ Pcs w' w.heap.size v (symP l t) ∧ Below w.heap.size w w' := by
  have hmI : (m : Int) ≤ 1048576 := by omega
  have Hn := hide hn
  have Hm := hide hm
  have Hnt := hide hnt
  have Hmt := hide hmt
  have HA := hide hall
  have HC := hide hC
  clear hn hm hnt hmt hall hC
  obtain ⟨i0, hi, hz0, hz1, hz2⟩ := info_parts Try.infoPiece
  go_enter Try.func22, Try.ntmps22
  go_wp2_with fail
  go_loopw [5, 7, 10] (fun o _ i wr => ∃ k : Nat, k ≤ m ∧ i = .int .i64 k ∧ Pcs wr w.heap.size o (symP l (t.take k)) ∧ Below w.heap.size w wr) (fun _ _ i _ => m - (intOf i).toNat)
  case atStart => exact ⟨0, Nat.zero_le _, rfl, World.ownsRow_nil _ _ _ _, Below.refl _ _⟩
  case round =>
    obtain ⟨k, hk, rfl, hq, hbel⟩ := hrel
    have hbs := hbel.size
    by_cases hlt : k < m
    · obtain ⟨g, o, rfl, hg, hcc⟩ := (ht.later hbel) (by rw [unhide Hnt]; omega)
      have c0 := hcc k (by rw [unhide Hnt]; exact hlt)
      have hst := hide (symP_take l t k (by rw [unhide Hnt]; exact hlt))
      have hlk : Hid ((symP l (t.take k)).length = k) := by show (symP l (t.take k)).length = k; rw [symP_len]; have := unhide Hnt; simp; omega
      have hhas : hasS l (t.getD k 0) = true := List.all_eq_true.1 (unhide HA) (t.getD k 0) (by have := unhide Hnt; simp [List.getD, show k < t.length by omega])
      obtain ⟨s0, s1, _⟩ := hasS_true hhas
      have Hk := hide hk
      clear hcc hk ht hhas
      generalize t.getD k 0 = s at *
      obtain ⟨q, rfl⟩ := Int.eq_ofNat_of_zero_le s0
      have hq' : q < n := by have := unhide Hn; omega
      have HP := hide (bookPut_any a ac cap n cc q vs f C l (outN l 15).2 wr (unhide HC) (unhide Hn) ((outN_len l 15).trans (unhide Hn)) (h.later hbel) (hc.later hbel) hq' (unhide Hm))
      have hpc : Hid (pcOf l (q : Int) = (btI ((outN l 15).2.getD q 0) (l.getD q 0), l.getD q 0)) := by
        show pcOf l (q : Int) = _
        unfold pcOf
        rw [Int.toNat_natCast]
      generalize btI ((outN l 15).2.getD q 0) (l.getD q 0) = R at *
      generalize l.getD q 0 = y at *
      clear h hc
      go_wp2_with fail
      refine (unhide HP).mono ?_
      rintro e x1 ⟨rfl, hb1⟩
      have hq1 := Pcs.later hq hb1 (Nat.le_refl _)
      have hbel1 := bnext hbel hb1
      have hbs1 := hbel1.size
      have hlen1 : Hid ((symP l (t.take k)).length + 1 ≤ maxLen ∧ ((symP l (t.take k)).length + 1) * 16 ≤ 140737488355328) := by
        show _ ∧ _
        rw [unhide hlk]
        have := unhide Hmt
        unfold maxLen
        omega
      clear hq hbel hb1 HP
      go_wp2_with (at_builtin; refine wpList_append_own _ rfl _ _ 26 rfl w.heap.size 50 i0 (.agg #[.int .i64 0, .int .i64 0]) 2 16 Try.underlying26 hi hz0 hz1 hz2 rfl (by decide) _ _ _ rfl (World.ownsRow.alloc hq1 _) ⟨x1.heap.size, 0, none⟩ 1 1 [.int .i64 R, .int .i64 y] rfl rfl (two_new x1 _ _ _) (two_int _ _) (unhide hlen1).1 (unhide hlen1).2 (size_alloc_le hbs1 _) ?_; intro v' x2 hown hgrow hnil; clear hnil)
      have hb2 := grown_step (v := u5) hgrow hq1 (Nat.le_refl _) hbs1 hbel1
      have hq2 := pcs_snoc hown
      rw [← unhide hpc, ← unhide hst] at hq2
      clear hown hgrow hq1
      go_wp2
      go_roundw
      case rel => exact ⟨k + 1, by have := unhide Hk; omega, by go_num, hq2, hb2⟩
      case measure => simp [intOf]; omega
    · have hlk2 : t.take k = t := List.take_of_length_le (by rw [unhide Hnt]; omega)
      rw [hlk2] at hq
      obtain ⟨va, vc, rfl⟩ := hq.form
      clear hlk2 h hc ht
      go_wp2
      go_ret
      exact ⟨_, rfl, hq, hbel⟩

set_option maxHeartbeats 3200000 in
theorem implSymbolsPut_any (a b : Option Addr) (cap bc n m : Nat) (l t : List Int) (w : World) (hn : l.length = n) (h : IRow w a l) (hm : n ≤ 1048576) (hnt : t.length = m) (ht : IRow w b t) (hmt : m ≤ 1048576) :
    Calls Try.prog 7 #[.slice a n cap, .slice b m bc] w fun e w' => ∃ v, e = .returned v ∧ Pcs w' w.heap.size v (symPut l t) ∧ Below w.heap.size w w' := by
  have hmI : (m : Int) ≤ 1048576 := by omega
  have Hn := hide hn
  have Hnt := hide hnt
  have Hmt := hide hmt
  have HL := hide (implLensOk_any a cap n l w hn h hm)
  clear hn hm hnt hmt
  cases hok : lensOk l
  · have Hr := hide (symPut_no1 (t := t) hok)
    go_enter Try.func7, Try.ntmps7
    go_wp2_with fail
    refine (unhide HL).mono ?_
    rintro e x1 ⟨rfl, hx⟩
    subst hx
    rw [hok]
    go_wp2
    go_ret
    exact ⟨_, rfl, by rw [unhide Hr]; exact World.ownsRow_nil _ _ _ _, Below.refl _ _⟩
  · have hl := lensOk_len hok
    have hm3 : Hid (n ≤ 300) := by show n ≤ 300; rw [← unhide Hn]; exact hl
    have HC := hide (codeBook_any a cap n l w (unhide Hn) h (unhide hm3))
    have HK := hide hok
    clear hl
    go_enter Try.func7, Try.ntmps7
    go_wp2_with fail
    refine (unhide HL).mono ?_
    rintro e x1 ⟨rfl, hx⟩
    subst hx
    rw [hok]
    clear hok HL
    go_wp2_with fail
    refine (unhide HC).mono ?_
    rintro e x2 ⟨vs, C, rfl, hC, hc2, hs2, hb2⟩
    obtain ⟨sa, sc, hvs⟩ := hs2.form
    have h1 : vs.oneCell' = true := by rw [hvs]; rfl
    have HCC := hide hC
    have H1 := hide h1
    have h12 := hb2.size
    clear hC hvs hs2 h1 HC
    go_wp2_with (refine wpList_store_book rfl 45 (.tmp 5) (.tmp 12) rfl x2.heap.size _ _ _ _ _ rfl rfl (unhide HCC) (there_new x2 _ _ _ rfl) (frozen_new x2 _ _) Try.infoBook ⟨rfl, rfl, unhide H1⟩ ?_; intro x3 hbk hbl hsz hap)
    have hb3 : Below x1.heap.size x1 x3 := (bnext hb2 ((Below.refl _ _).alloc (Nat.le_refl _) _)).trans (hbl.mono h12)
    have hc3 : IOwn x3 (x1.heap.size + 1) (.slice (some ⟨x1.heap.size + 1, 0, none⟩) n n) (outN l 15).2 := (hc2.later ((Below.refl x2.heap.size x2).alloc (Nat.le_refl _) _) (Nat.le_refl _)).under hbl hc2.below.2
    have hs3 : x2.heap.size < x3.heap.size := by rw [hsz]; simp
    generalize x2.heap.size = B at *
    clear hap hsz hbl hc2 hb2
    go_loopw [7, 15] (fun _ i wr => ∃ k : Nat, k ≤ m ∧ i = .int .i64 k ∧ (t.take k).all (hasS l) = true ∧ Below x3.heap.size x3 wr) (fun _ i _ => m - (intOf i).toNat)
    case atStart => exact ⟨0, Nat.zero_le _, rfl, rfl, Below.refl _ _⟩
    case round =>
      obtain ⟨k, hk, rfl, hall, hbel⟩ := hrel
      have HA := hide hall
      have hb13 := bnext hb3 hbel
      have hbk' := hbk.kept (hbel.mono hs3)
      clear hall
      by_cases hlt : k < m
      · obtain ⟨g, o, rfl, hg, hcc⟩ := (ht.later hb13) (by rw [unhide Hnt]; omega)
        have c0 := hcc k (by rw [unhide Hnt]; exact hlt)
        have hal := hide (all_take (hasS l) t k (by rw [unhide Hnt]; exact hlt))
        have hno := hide (fun hp => symPut_no2 (l := l) (all_not (p := hasS l) (t := t) (k := k) (by rw [unhide Hnt]; exact hlt) hp))
        have Hk := hide hk
        have HH := hide (has_any a cap n (.slice (some ⟨x1.heap.size + 1, 0, none⟩) n n) vs (manyN l 15) _ l (t.getD k 0) wr rfl (unhide Hn) (h.later hb13) (unhide hm3))
        clear hcc hk ht
        generalize t.getD k 0 = s at *
        cases hhas : hasS l s
        · have hno' := hide (unhide hno hhas)
          go_wp2_with (first
            | (refine wpList_load_mid rfl 45 (.tmp 5) rfl B 0 rfl _ _ hbk'.range Try.underlying45 rfl (by rw [bookCells_len]; exact Try.infoBook) ?_)
            | (go_at_call 21; refine (unhide HH).mono ?_; rintro e x4 ⟨rfl, hb4⟩; rw [hhas]))
          go_ret
          exact ⟨_, rfl, by rw [unhide hno']; exact World.ownsRow_nil _ _ _ _, bnext hb13 hb4⟩
        · go_wp2_with (first
            | (refine wpList_load_mid rfl 45 (.tmp 5) rfl B 0 rfl _ _ hbk'.range Try.underlying45 rfl (by rw [bookCells_len]; exact Try.infoBook) ?_)
            | (go_at_call 21; refine (unhide HH).mono ?_; rintro e x4 ⟨rfl, hb4⟩; rw [hhas]))
          go_roundw
          case rel => exact ⟨k + 1, by have := unhide Hk; omega, by go_num, by rw [unhide hal, unhide HA, hhas]; rfl, bnext hbel hb4⟩
          case measure => simp [intOf]; omega
      · have hkt : t.take k = t := List.take_of_length_le (by rw [unhide Hnt]; omega)
        rw [hkt] at HA
        have Hr := hide (symPut_yes (unhide HK) (unhide HA))
        have HE := hide (eachP_any a (some ⟨x1.heap.size + 1, 0, none⟩) b cap n bc n m vs (manyN l 15) _ l t wr rfl (unhide Hn) (h.later hb13) (unhide hm3) ((hc3.later hbel (Nat.le_refl _)).rowN ((outN_len l 15).trans (unhide Hn))) (unhide Hnt) (ht.later hb13) (unhide Hmt) (unhide HA))
        clear hkt ht h
        go_wp2_with (first
          | (refine wpList_load_mid rfl 45 (.tmp 5) rfl B 0 rfl _ _ hbk'.range Try.underlying45 rfl (by rw [bookCells_len]; exact Try.infoBook) ?_)
          | (go_at_call 22; refine (unhide HE).mono ?_; rintro e x4 ⟨v, rfl, hp4, hb4⟩; obtain ⟨va, vc, rfl⟩ := hp4.form))
        go_ret
        have hs := hb13.size
        exact ⟨_, rfl, by rw [unhide Hr]; exact ⟨hp4.1, hp4.2.imp id fun ⟨g, c, u, e, hb, r⟩ => ⟨g, c, u, e, Nat.le_trans hs hb, r⟩⟩, bnext hb13 hb4⟩

theorem specSymbolsPut_n (a b : Option Addr) (cap bc n m q : Nat) (l t : List Int) (R : List (Int × Int)) (w : World) (hn : l.length = n) (h : IRow w a l) (hm : n ≤ 1048576) (hnt : t.length = m) (ht : IRow w b t) (hmt : m ≤ 1048576) (hR : symPut l t = R) (hq : R.length = q) :
    Calls Try.prog 9 #[.slice a n cap, .slice b m bc] w fun e w' => ∃ va vc, e = .returned (.slice va q vc) ∧ Pcs w' w.heap.size (.slice va q vc) R ∧ Below w.heap.size w w' :=
  (specSymbolsPut_any a b cap bc n m l t w hn h hm hnt ht hmt).mono fun e w' ⟨v, he, ho, hb⟩ => by
    rw [hR] at ho
    obtain ⟨va, vc, rfl⟩ := ho.formN hq
    exact ⟨va, vc, he, ho, hb⟩
theorem implSymbolsPut_n (a b : Option Addr) (cap bc n m q : Nat) (l t : List Int) (R : List (Int × Int)) (w : World) (hn : l.length = n) (h : IRow w a l) (hm : n ≤ 1048576) (hnt : t.length = m) (ht : IRow w b t) (hmt : m ≤ 1048576) (hR : symPut l t = R) (hq : R.length = q) :
    Calls Try.prog 7 #[.slice a n cap, .slice b m bc] w fun e w' => ∃ va vc, e = .returned (.slice va q vc) ∧ Pcs w' w.heap.size (.slice va q vc) R ∧ Below w.heap.size w w' :=
  (implSymbolsPut_any a b cap bc n m l t w hn h hm hnt ht hmt).mono fun e w' ⟨v, he, ho, hb⟩ => by
    rw [hR] at ho
    obtain ⟨va, vc, rfl⟩ := ho.formN hq
    exact ⟨va, vc, he, ho, hb⟩

end Go.Proofs.Ytnomiopdpmecbaa
