/- The walk of a law of bits: what is read of bits is written just so. -/
import Derived.Test.YtmhpfnknamimbaaLg4
import Derived.Test.YtmhpfnknamimbaaLc4
namespace Go.Proofs.Ytmhpfnknamimbaa
open Go.RowKit Corb

theorem zip_get (a b : List Int) (k n : Nat) (ha : a.length = n) (hb : b.length = n) (hk : k < n) : (a.zip b).getD k (0, 0) = (a.getD k 0, b.getD k 0) := by
  simp [List.getD, ha, hb, hk]

theorem two_cells (W : World) (t : TypeId) (a b : Int) : ∀ (j : Nat) (u : Value), [Value.int .i64 a, .int .i64 b][j]? = some u →
    (W.alloc (.cells #[.int .i64 a, .int .i64 b] t)).cell? ((⟨W.heap.size, 0, none⟩ : Addr).add j) = some u := by
  intro j u hj
  match j, hj with
  | 0, hj => simp at hj; subst hj; simp [Addr.add]
  | 1, hj => simp at hj; subst hj; simp [Addr.add]
theorem two_one (a b : Int) : ∀ u ∈ [Value.int .i64 a, .int .i64 b], u.oneCell' = true := by
  intro u hu
  simp at hu
  rcases hu with rfl | rfl <;> rfl

theorem implGet_n (s : ByteArray) (a : Option Addr) (cap n m : Nat) (l R : List Int) (ok : Bool) (w : World) (hn : l.length = n) (h : IRow w a l) (hs : s.size ≤ 2000000) (hl : l.length ≤ 2000000) (hok : getOk s.data.toList l = ok) (hR : getL s.data.toList l = R) (hm : R.length = m) :
    Calls Try.prog 22 #[.string s, .slice a n cap] w fun e w' => (∃ b c, e = .returned (.tuple #[.slice b m c, .bool ok]) ∧ IOwn w' w.heap.size (.slice b m c) R) ∧ Below w.heap.size w w' := by
  subst hn
  refine (implBitsGet_any s a cap l w h hs hl).mono ?_
  rintro e w' ⟨v, rfl, ho, hb⟩
  rw [hR] at ho
  obtain ⟨va, vc, rfl⟩ := ho.formN hm
  rw [hok]
  exact ⟨⟨_, _, rfl, ho⟩, hb⟩
theorem specGet_n (s : ByteArray) (a : Option Addr) (cap n m : Nat) (l R : List Int) (ok : Bool) (w : World) (hn : l.length = n) (h : IRow w a l) (hs : s.size ≤ 2000000) (hl : l.length ≤ 2000000) (hok : getOk s.data.toList l = ok) (hR : getL s.data.toList l = R) (hm : R.length = m) :
    Calls Try.prog 25 #[.string s, .slice a n cap] w fun e w' => (∃ b c, e = .returned (.tuple #[.slice b m c, .bool ok]) ∧ IOwn w' w.heap.size (.slice b m c) R) ∧ Below w.heap.size w w' := by
  subst hn
  refine (specBitsGet_any s a cap l w h hs hl).mono ?_
  rintro e w' ⟨v, rfl, ho, hb⟩
  rw [hR] at ho
  obtain ⟨va, vc, rfl⟩ := ho.formN hm
  rw [hok]
  exact ⟨⟨_, _, rfl, ho⟩, hb⟩
theorem implPut_n2 (a : Option Addr) (cap n : Nat) (l : List (Int × Int)) (B : ByteArray) (w : World) (hn : l.length = n) (h : PRow w a l) (hm : n ≤ 1000000000) (hB : putS l = B.data.toList) :
    Calls Try.prog 18 #[.slice a n cap] w fun e w' => e = .returned (.string B) ∧ Below w.heap.size w w' := by
  subst hn
  exact implPut_eq a cap l B w h hm hB.symm

attribute [local go_sem ↓] Go.wp_at_zero Go.wp_at_succ
set_option maxHeartbeats 3200000 in
theorem fnBitsGet_walk (a : Option Addr) (len cap : Nat) (zs : List Int) (w : World) (w0 : IsRow .u8 w a len cap zs) :
    Calls Try.prog 4 #[.slice a len cap] w fun e w' => e = .returned (.bool true) ∧ Below w.heap.size w w' := by
  obtain ⟨⟨z, hsrc⟩, hc, hm⟩ := src_of w0
  have hm' := hide hm
  unfold maxLen at hm
  clear w0
  obtain ⟨i0, hi, hz0, hz1, hz2⟩ := info_parts Try.infoPiece
  by_cases hl : (len : Int) ≤ 1048576
  · go_enter Try.func4, Try.ntmps4
    go_wp2_with fail
    refine (drawBitsGet_any a len cap z _ hsrc hc (unhide hm')).mono ?_
    rintro e x1 ⟨⟨s, l, va, vc, n, rfl, hn, ho, hs, hl13⟩, hb1⟩
    have Hn := hide hn
    have Hs := hide hs
    have HL := hide hl13
    have hrow := ho.rowN hn
    have hnI : (n : Int) ≤ 13 := by omega
    obtain ⟨R, hR⟩ : ∃ R, getL s.data.toList l = R := ⟨_, rfl⟩
    obtain ⟨ok, hok⟩ : ∃ ok, getOk s.data.toList l = ok := ⟨_, rfl⟩
    have HR := hide hR
    have HO := hide hok
    have hRl : ok = true → R.length = n := by
      intro h
      rw [← hR, getL_yes (hok.trans h), readV_len, hn]
    have hRl0 : R.length ≤ 13 := by
      rw [← hR]
      unfold getL
      split
      · rw [readV_len]; exact hl13
      · simp
    have hpg : ok = true → putS (R.zip l) = s.data.toList := by
      intro h
      rw [← hR]
      exact put_get (hok.trans h)
    have HRl := hide hRl
    have HPG := hide hpg
    obtain ⟨m, hRm⟩ : ∃ m, R.length = m := ⟨_, rfl⟩
    have hmI : (m : Int) ≤ 13 := by omega
    have HRm := hide hRm
    clear hn hs hl13 ho hR hok hRl hpg hRl0 hRm
    go_wp2_with fail
    refine (implGet_n s _ _ _ m l R ok _ (unhide Hn) hrow (by have := unhide Hs; omega) (by have := unhide HL; omega) (unhide HO) (unhide HR) (unhide HRm)).mono ?_
    rintro e x2 ⟨⟨b2, c2, rfl, ho2⟩, hb2⟩
    have hrow2 := hrow.later hb2
    go_wp2_with fail
    refine (specGet_n s _ _ _ m l R ok _ (unhide Hn) hrow2 (by have := unhide Hs; omega) (by have := unhide HL; omega) (unhide HO) (unhide HR) (unhide HRm)).mono ?_
    rintro e x3 ⟨⟨b3, c3, rfl, ho3⟩, hb3⟩
    have hrow3 := hrow2.later hb3
    have hnum3 := (ho2.rowN (unhide HRm)).later hb3
    have hwant3 := ho3.rowN (unhide HRm)
    have hbA := bnext (bnext hb1 hb2) hb3
    clear hrow hrow2 ho2 ho3 hb1 hb2 hb3
    cases ok
    · go_wp2_with fail
      refine (cbInts_n _ _ _ _ _ R _ (unhide HRm) hnum3 hwant3 (by have := unhide HRm; omega)).mono ?_
      rintro e x4 ⟨rfl, hb4⟩
      have hnum4 := hnum3.later hb4
      have hwant4 := hwant3.later hb4
      go_wp2_with fail
      refine (cbInts_n _ _ _ _ _ R _ (unhide HRm) hnum4 hwant4 (by have := unhide HRm; omega)).mono ?_
      rintro e x5 ⟨rfl, hb5⟩
      go_wp2
      go_ret
      exact ⟨rfl, bnext (bnext hbA hb4) hb5⟩
    · obtain rfl : m = n := (unhide HRm).symm.trans (unhide HRl rfl)
      have HPG' := hide (unhide HPG rfl)
      clear HPG HRl
      go_wp2_with fail
      refine (cbInts_n _ _ _ _ _ R _ (unhide HRm) hnum3 hwant3 (by have := unhide HRm; omega)).mono ?_
      rintro e x4 ⟨rfl, hb4⟩
      have hnum4 := hnum3.later hb4
      have hrow4 := hrow3.later hb4
      have hbB := bnext hbA hb4
      have hzl : Hid ((R.zip l).length = m) := by show (R.zip l).length = m; rw [List.length_zip, unhide HRm, unhide Hn]; omega
      have hq0 : Pcs (x4.alloc (.cells #[] 29)) x4.heap.size (.slice (some ⟨x4.heap.size, 0, none⟩) 0 0) ((R.zip l).take 0) :=
        World.ownsRow_lit x4 #[] 0 (Nat.le_refl _) (by unfold maxLen; omega) rfl
      have hb0 : Below x4.heap.size x4 (x4.alloc (.cells #[] 29)) := (Below.refl _ _).alloc (Nat.le_refl _) _
      clear hnum3 hrow3 hwant3 hbA hb4
      go_wp2_with fail
      go_loopw [9, 10] (fun v i wr => ∃ k : Nat, k ≤ m ∧ i = .int .i64 k ∧ Pcs wr x4.heap.size v ((R.zip l).take k) ∧ Below x4.heap.size x4 wr) (fun _ i _ => m - (intOf i).toNat)
      case atStart => exact ⟨0, Nat.zero_le _, rfl, hq0, hb0⟩
      case round =>
        obtain ⟨k, hk, rfl, hq, hbel⟩ := hrel
        clear hq0 hb0
        have hbs := hbel.size
        by_cases hlt : k < m
        · obtain ⟨g1, o1, rfl, hg1, hc1⟩ := hnum4 (by rw [unhide HRm]; omega)
          obtain ⟨g2, o2, rfl, hg2, hc2⟩ := hrow4 (by rw [unhide Hn]; omega)
          have hc1k := hc1 k (by rw [unhide HRm]; exact hlt)
          have hc2k := hc2 k (by rw [unhide Hn]; exact hlt)
          have htk := take_snocP (R.zip l) k (by rw [unhide hzl]; exact hlt)
          rw [zip_get R l k m (unhide HRm) (unhide Hn) hlt] at htk
          have HTK := hide htk
          have hlenk : Hid (((R.zip l).take k).length = k) := by show ((R.zip l).take k).length = k; rw [List.length_take, unhide hzl]; omega
          have HK := hide hk
          clear hc1 hc2 hk htk
          generalize R.getD k 0 = x at *
          generalize l.getD k 0 = y at *
          have HC : ∀ W, Below x4.heap.size x4 W → W.cell? ⟨g1, o1 + k, none⟩ = some (.int .i64 x) ∧ W.cell? ⟨g2, o2 + k, none⟩ = some (.int .i64 y) :=
            fun W hW => ⟨(hW.cell (p := ⟨g1, o1 + k, none⟩) hg1).trans hc1k, (hW.cell (p := ⟨g2, o2 + k, none⟩) hg2).trans hc2k⟩
          obtain ⟨c0, c1⟩ := HC _ hbel
          have hbA' : Below x4.heap.size x4 (wr.alloc (.cells #[.int .i64 x, .int .i64 y] 29)).drew := (hbel.alloc hbs _).drew
          have hqA : World.ownsRow (wr.alloc (.cells #[.int .i64 x, .int .i64 y] 29)).drew x4.heap.size 29 2 u9 ((R.zip l).take k).length (pcells ((R.zip l).take k)) := World.ownsRow.alloc hq _
          have hcA := hide (two_cells wr 29 x y)
          have bd1 : Hid (((R.zip l).take k).length + 1 ≤ maxLen) := by have := unhide hlenk; show _ ≤ _; unfold maxLen; omega
          have bd2 : Hid ((((R.zip l).take k).length + 1) * 16 ≤ 140737488355328) := by have := unhide hlenk; show _ ≤ _; omega
          have k0 : (0 : Int) ≤ (k : Int) := by omega
          have k1 : (k : Int) < (m : Int) := by omega
          go_wp2_with fail
          go_region_held3 (fun W => W.cell? ⟨g1, o1 + k, none⟩ = some (.int .i64 x) ∧ W.cell? ⟨g2, o2 + k, none⟩ = some (.int .i64 y)) (first | exact HC _ hbel.drew | assumption | exact HC _ hbA') (first
            | (refine step_append_own rfl (.tmp 59) (.tmp 69) 23 rfl x4.heap.size 29 i0 (.agg #[.int .i64 0, .int .i64 0]) 2 16 Try.underlying23 hi hz0 hz1 hz2 rfl (Nat.zero_lt_succ 1) u9 _ _ rfl hqA ⟨wr.heap.size, 0, none⟩ 1 1 [.int .i64 x, .int .i64 y] rfl rfl (unhide hcA) (two_one _ _) (unhide bd1) (unhide bd2) hbA'.size ?_; intro v' x5 hown hgrow hnil; clear hnil; have hb5 := grown_below hgrow hqA hbA'; have hq5 := pcs_snoc hown; clear hown hgrow; have hC5 := HC _ hb5))
          all_goals
            clear hqA hcA hbA' hq hbel
            rw [← unhide HTK] at hq5
            go_wp2
            go_roundw
            case rel => exact ⟨k + 1, by omega, by go_num, hq5, hb5⟩
            case measure => simp [intOf]; omega
        · have hlk2 : (R.zip l).take k = R.zip l := List.take_of_length_le (by rw [unhide hzl]; omega)
          rw [hlk2] at hq
          obtain ⟨va', vc', rfl⟩ := hq.formN (unhide hzl)
          have hbC := bnext hbB hbel
          clear hlk2 hbel hbB hnum4 hrow4
          go_wp2_with fail
          refine (implPut_n2 _ _ _ (R.zip l) s _ (unhide hzl) (hq.rowN (unhide hzl)) (by omega) (unhide HPG')).mono ?_
          rintro e y1 ⟨rfl, hd1⟩
          go_wp2
          go_ret
          exact ⟨ret_bool (by simp), bnext hbC hd1⟩
  · go_enter Try.func4, Try.ntmps4
    go_wp2
    go_ret
    exact ⟨rfl, Below.refl _ _⟩

end Go.Proofs.Ytmhpfnknamimbaa
