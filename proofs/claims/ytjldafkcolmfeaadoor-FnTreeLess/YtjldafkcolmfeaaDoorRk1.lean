/- Draws of texts, all blocks but the reader's kept. -/
import Derived.Test.YtjldafkcolmfeaaDoorRd4
import Derived.Test.YtjldafkcolmfeaaDoorKb1
namespace Go.Proofs.YtjldafkcolmfeaaDoor
open Go.RowKit

theorem kn_grown {b : Nat} {a w w' : World} {row : Option Nat} (h : Kn b a w) (hg : w.grownBy w' row) (hr : ∀ j, row = some j → a.heap.size ≤ j) (hb : b < a.heap.size) : Kn b a w' :=
  ⟨h.1.grown hg (Nat.le_trans (Nat.le_of_lt hb) h.2.2) (fun j hj => Nat.le_trans (Nat.le_of_lt hb) (hr j hj)),
   fun k hk hkb => (hg.block k (Nat.lt_of_lt_of_le hk h.2.2) (fun e => by have := hr k e.symm; omega)).trans (h.2.1 k hk hkb),
   Nat.le_trans h.2.2 hg.size⟩

set_option maxHeartbeats 1600000 in
theorem l11TextK_any (B b m : Nat) (w : World) (h : Rd w B b m) (hm : m ≤ 90000) :
    Calls Tryd.prog 24 #[.pointer (some ⟨b, 0, none⟩)] w fun e w' => (∃ s : ByteArray, e = .returned (.string s) ∧ s.size ≤ 400) ∧ Rd w' B b (m + 50) ∧ Kn b w w' := by
  obtain ⟨i0, hi, hz0, hz1, hz2⟩ := info_parts Tryd.infoByte
  have hbw := h.lt
  go_enter Tryd.func24, Tryd.ntmps24
  go_wp2_with fail
  refine (pick_any B b m _ _ h (by omega) (by omega) (by omega)).mono ?_
  rintro e w1 ⟨r, rfl, r0, r1, hrd1, hon1⟩
  have hlt1 := hrd1.lt
  by_cases h0 : r = 0
  · subst h0
    go_wp2
    go_ret
    exact ⟨⟨_, rfl, by decide⟩, hrd1.mono (by omega), hon1.kn⟩
  have g0 : (r == 0) = false := by simpa using h0
  by_cases h1 : r = 1
  · subst h1
    clear h0 g0
    go_wp2_with fail
    refine (of_le B b (m + 1) w1.heap.size 0 4 4 6 _ _ (hrd1.alloc _) (by omega) (by omega) (by omega) (Nat.ne_of_gt hlt1) (fourS_cells w1 _ _ _ _ _) (four_size (by decide) (by decide) (by decide) (by decide))).mono ?_
    rintro e w2 ⟨t0, hsz, rfl, hrd2, hon2⟩
    go_wp2_with fail
    refine (pick_any B b (m + 2) _ _ hrd2 (by omega) (by omega) (by omega)).mono ?_
    rintro e w3 ⟨r', rfl, r0', r1', hrd3, hon3⟩
    go_wp2_with fail
    refine (l1Many_any _ _ _ (by omega) (by omega) (by omega)).mono ?_
    rintro e w4 ⟨⟨t, rfl, ht⟩, rfl⟩
    go_wp2
    go_ret
    refine ⟨⟨t, rfl, ?_⟩, hrd3.mono (by omega), ((hon1.kn.trans (kn_alloc w1 _ hlt1)).trans hon2.kn).trans hon3.kn⟩
    rw [ht]
    have := Nat.mul_le_mul hsz (show (1 + r').toNat ≤ 40 by omega)
    omega
  have g1 : (r == 1) = false := by simpa using h1
  by_cases h2 : r = 2
  · subst h2
    clear h0 h1 g0 g1
    go_wp2_with fail
    refine (pick_any B b (m + 1) _ _ (hrd1.alloc _) (by omega) (by omega) (by omega)).mono ?_
    rintro e w2 ⟨r', rfl, r0', r1', hrd2, hon2⟩
    obtain ⟨n0, rfl⟩ := Int.eq_ofNat_of_zero_le r0'
    have hown0 : w2.ownsRow w.heap.size 5 1 (.slice (some ⟨w1.heap.size, 0, none⟩) 0 0) 0 [] :=
      owns_only (World.ownsRow_lit w1 #[] 0 hon1.kn.2.2 (by unfold maxLen; omega) rfl) hon2 hbw
    have hbel2 := (hon1.kn.trans (kn_alloc w1 (.cells #[] 5) hlt1)).trans hon2.kn
    go_wp2_with fail
    go_loopw [3, 4] (fun o n wr => ∃ (l : List UInt8) (k : Nat), n = .int .i64 k ∧ k ≤ 39 ∧ l.length + k ≤ 39 ∧ o ≠ .slice none 0 0 ∧ wr.ownsRow w.heap.size 5 1 o l.length (l.map fun x => Value.int .u8 (x.toNat : Int)) ∧ Rd wr B b (m + 42 - k) ∧ Kn b w wr) (fun _ n _ => (intOf n).toNat)
    case atStart => exact ⟨[], n0, rfl, by omega, by simp; omega, by simp, hown0, hrd2.mono (by omega), hbel2⟩
    case round =>
      obtain ⟨l, k, rfl, hk, hlk, hnn, hown, hrd, hbel⟩ := hrel
      have hltr := hrd.lt
      have hk' : (k : Int) ≤ 39 := by omega
      have HL := hide hlk
      clear hk hlk hrd1 hrd2 hon1 hon2 hbel2 hown0
      by_cases hp : (0 : Int) < (k : Int)
      · go_wp2_with fail
        refine (pick_any B b (m + 42 - k) _ _ hrd (by omega) (by omega) (by omega)).mono ?_
        rintro e w3 ⟨q, rfl, q0, q1, hrd3, hon3⟩
        obtain ⟨x, rfl⟩ := byte_of q q0 q1
        have hown3 := owns_only hown hon3 hbw
        have hblk : ∀ j, u3.ownBlock = some j → w.heap.size ≤ j := fun j hj => (hown3.lt j hj).1
        have hlt3 := hrd3.lt
        have hbel3 := hbel.trans hon3.kn
        clear hown hrd hon3
        go_wp2_with (at_builtin; refine wpList_append_own _ rfl _ _ 22 rfl w.heap.size 5 i0 (.int .u8 0) 1 1 Tryd.underlying22 hi hz0 hz1 hz2 rfl (by decide) _ _ _ rfl (hown3.alloc _) ⟨w3.heap.size, 0, none⟩ 1 1 [.int .u8 (x.toNat : Int)] rfl rfl ?c1 ?c2 ?c3 ?c4 ?c5 ?_)
        case c1 =>
          intro j u hj
          match j, hj with
          | 0, hj => simp at hj; subst hj; simp [Addr.add]
        case c2 => intro u hu; simp at hu; subst hu; rfl
        case c3 => have := unhide HL; unfold maxLen; omega
        case c4 => have := unhide HL; omega
        case c5 => have := hbel3.2.2; simp; omega
        intro v' w4 hown4 hgrow hnil
        have hb4 : Rd w4 B b (m + 42 - k + 1) := (hrd3.alloc _).grown hgrow (fun j hj => Nat.lt_of_lt_of_le hbw (hblk j hj))
        have hbel4 : Kn b w w4 := kn_grown (hbel3.trans (kn_alloc w3 _ hlt3)) hgrow hblk hbw
        have hnn4 : v' ≠ .slice none 0 0 := hnil
        have hown5 : w4.ownsRow w.heap.size 5 1 v' (l ++ [x]).length ((l ++ [x]).map fun x => Value.int .u8 (x.toNat : Int)) := by simpa using hown4
        clear hown4 hgrow hown3 hrd3 hbel3 hnil
        go_wp2
        go_roundw
        case rel => exact ⟨l ++ [x], k - 1, by go_num, by omega, by have := unhide HL; simp; omega, hnn4, hown5, hb4.mono (by omega), hbel4⟩
        case measure => simp [intOf]; omega
      · obtain ⟨g, cap, rfl⟩ : ∃ g cap, u3 = .slice (some ⟨g, 0, none⟩) l.length cap := by
          rcases hown.2 with ⟨e, _⟩ | ⟨g, cap, _, e, _⟩
          · exact absurd e hnn
          · exact ⟨g, cap, e⟩
        have hback := bytes_back hown
        go_wp2
        go_ret
        exact ⟨⟨_, rfl, by have := unhide HL; simp [ByteArray.size]; omega⟩, hrd.mono (by omega), hbel⟩
  have g2 : (r == 2) = false := by simpa using h2
  by_cases h3 : r = 3
  · subst h3
    clear h0 h1 h2 g0 g1 g2
    go_wp2_with (go_at_call 26; refine (l1Many_any _ _ _ (by omega) (by omega) (by decide)).mono ?_; rintro e w' ⟨⟨t, rfl, ht⟩, rfl⟩)
    go_ret
    exact ⟨⟨t, rfl, by rw [ht]; decide⟩, hrd1.mono (by omega), hon1.kn⟩
  have g3 : (r == 3) = false := by simpa using h3
  clear h0 h1 h2 h3
  go_wp2_with fail
  refine (pick_any B b (m + 1) _ _ hrd1 (by omega) (by omega) (by omega)).mono ?_
  rintro e w2 ⟨r', rfl, r0', r1', hrd2, hon2⟩
  obtain ⟨n0, rfl⟩ := Int.eq_ofNat_of_zero_le r0'
  have hbel2 := hon1.kn.trans hon2.kn
  go_wp2_with fail
  go_loopw [5, 6] (fun o n wr => ∃ (s : ByteArray) (k : Nat), o = .string s ∧ n = .int .i64 k ∧ k ≤ 11 ∧ s.size + 6 * k ≤ 66 ∧ Rd wr B b (m + 20 - k) ∧ Kn b w wr) (fun _ n _ => (intOf n).toNat)
  case atStart => exact ⟨ByteArray.empty, n0, rfl, rfl, by omega, by show 0 + 6 * n0 ≤ 66; omega, hrd2.mono (by omega), hbel2⟩
  case round =>
    obtain ⟨s, k, rfl, rfl, hk, hsz, hrd, hbel⟩ := hrel
    have hltr := hrd.lt
    have hk' : (k : Int) ≤ 11 := by omega
    have hsz' : (s.size : Int) + 6 * k ≤ 66 := by omega
    have HK := hide hk
    clear hk hsz hrd1 hrd2 hon1 hon2 hbel2 hi hz0 hz1 hz2
    by_cases hp : (0 : Int) < (k : Int)
    · go_wp2_with fail
      refine (of_le B b (m + 20 - k) wr.heap.size 0 7 7 6 _ _ (hrd.alloc _) (by omega) (by omega) (by omega) (Nat.ne_of_gt hltr) (seven_cells wr _ _ _ _ _ _ _ _) (seven_size (by decide) (by decide) (by decide) (by decide) (by decide) (by decide) (by decide))).mono ?_
      rintro e w3 ⟨t0, hsz0, rfl, hrd3, hon3⟩
      go_wp2
      go_roundw
      case rel => exact ⟨s ++ t0, k - 1, rfl, by go_num, by omega, by rw [ByteArray.size_append]; omega, hrd3.mono (by omega), (hbel.trans (kn_alloc wr _ hltr)).trans hon3.kn⟩
      case measure => simp [intOf]; omega
    · go_wp2
      go_ret
      exact ⟨⟨s, rfl, by omega⟩, hrd.mono (by omega), hbel⟩

theorem l11AnyTextK_any (B b m : Nat) (w : World) (h : Rd w B b m) (hm : m ≤ 80000) :
    Calls Tryd.prog 16 #[.pointer (some ⟨b, 0, none⟩)] w fun e w' => (∃ s : ByteArray, e = .returned (.string s) ∧ s.size ≤ 400) ∧ Rd w' B b (m + 60) ∧ Kn b w w' := by
  go_enter Tryd.func16, Tryd.ntmps16
  go_wp2_with fail
  refine (pick_any B b m _ _ h (by omega) (by omega) (by omega)).mono ?_
  rintro e w1 ⟨r, rfl, r0, r1, hrd1, hon1⟩
  by_cases h0 : r = 0
  · subst h0
    go_wp2_with (go_at_call 26; refine (l1Many_any _ _ _ (by omega) (by omega) (by decide)).mono ?_; rintro e w' ⟨⟨t, rfl, ht⟩, rfl⟩)
    go_ret
    exact ⟨⟨t, rfl, by rw [ht]; decide⟩, hrd1.mono (by omega), hon1.kn⟩
  · have g0 : (r == 0) = false := by simpa using h0
    clear h0
    go_wp2_with (go_at_call 24; refine (l11TextK_any B b (m + 1) _ hrd1 (by omega)).mono ?_; rintro e w2 ⟨⟨s, rfl, hs⟩, hrd2, hbel2⟩)
    go_ret
    exact ⟨⟨s, rfl, hs⟩, hrd2.mono (by omega), hon1.kn.trans hbel2⟩

end Go.Proofs.YtjldafkcolmfeaaDoor
