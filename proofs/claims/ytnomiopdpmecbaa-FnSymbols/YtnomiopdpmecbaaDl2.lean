/- Contracts of the draws of symbols, over this seat's program. -/
import Derived.Test.YtnomiopdpmecbaaDl1
namespace Go.Proofs.Ytnomiopdpmecbaa
open Go.RowKit

theorem kept_low {y y' : World} {base B : Nat} {vl v : Value} {l : List Int} (h : IOwn y base vl l) (hlow : ∀ g, vl.ownBlock = some g → g < B) (hg : y.grownBy y' v.ownBlock) (hv : ∀ j, v.ownBlock = some j → B ≤ j) : IOwn y' base vl l := by
  refine World.ownsRow.kept h hg ?_
  cases hb : vl.ownBlock with
  | none => exact .inl rfl
  | some g =>
    refine .inr (fun e => ?_)
    have h1 := hlow g hb
    have h2 := hv g e.symm
    omega
theorem pick_only_lt {w : World} {base : Nat} {v : Value} {l : List Int} (h : IOwn w base v l) : ∀ g, v.ownBlock = some g → g < w.heap.size := fun g hg => (World.ownsRow.lt h g hg).2

set_option maxHeartbeats 3200000 in
theorem l11Syms_any (B b m vn vc : Nat) (va : Option Addr) (l : List Int) (w : World) (h : Rd w B b m) (hm : m ≤ 70000) (hn : l.length = vn) (hl : IOwn w (b + 1) (.slice va vn vc) l) (h1 : 1 ≤ vn) (h3 : vn ≤ 301) :
    Calls Try.prog 19 #[.pointer (some ⟨b, 0, none⟩), .slice va vn vc] w fun e w' => (∃ (t : List Int) (v : Value), e = .returned v ∧ IOwn w' w.heap.size v t ∧ t.length ≤ 12) ∧ IOwn w' (b + 1) (.slice va vn vc) l ∧ Rd w' B b (m + 60) ∧ Below b w w' := by
  obtain ⟨i0, hi, hz0, hz1, hz2⟩ := info_parts Try.infoInt
  have hltw := h.lt
  have HN := hide hn
  have hnI : (vn : Int) ≤ 301 := by omega
  have h1I : (1 : Int) ≤ (vn : Int) := by omega
  have hlow := hide (pick_only_lt hl)
  clear hn
  go_enter Try.func19, Try.ntmps19
  go_wp2_with fail
  refine (pick_any B b m _ _ (h.alloc _) (by omega) (by omega) (by omega)).mono ?_
  rintro e w1 ⟨r, rfl, r0, r1, hrd1, hon1⟩
  obtain ⟨n0, rfl⟩ := Int.eq_ofNat_of_zero_le r0
  have hown0 : IOwn w1 w.heap.size (.slice (some ⟨w.heap.size, 0, none⟩) 0 0) [] :=
    owns_only (World.ownsRow_lit w #[] 0 (Nat.le_refl _) (by unfold maxLen; omega) rfl) hon1 hltw
  have hl0 : IOwn w1 (b + 1) (.slice va vn vc) l := owns_only (World.ownsRow.alloc hl _) hon1 (by omega)
  have hbel1 := ((Below.refl b w).alloc (Nat.le_of_lt hltw) (.cells #[] 3)).trans hon1.1
  have hs1 : w.heap.size ≤ w1.heap.size := by rw [hon1.2.2]; simp
  have n11 : n0 ≤ 11 := by omega
  have r1' : (n0 : Int) ≤ 11 := by omega
  clear h hon1 r0 r1 hl
  go_wp2_with fail
  go_loopw [5, 6, 7] (fun o n _ wr => ∃ (t : List Int) (k : Nat), n = .int .i64 k ∧ t.length + k ≤ 11 ∧ IOwn wr w.heap.size o t ∧ IOwn wr (b + 1) (.slice va vn vc) l ∧ Rd wr B b (m + 40 - 2 * k) ∧ Below b w wr ∧ w.heap.size ≤ wr.heap.size) (fun _ n _ _ => (intOf n).toNat)
  case atStart => exact ⟨[], n0, by go_num, by simp; omega, hown0, hl0, hrd1.mono (by omega), hbel1, hs1⟩
  case round =>
    obtain ⟨t, k, rfl, hlk, hown, hlw, hrd, hbel, hss⟩ := hrel
    have hltr := hrd.lt
    have hk' : (k : Int) ≤ 11 := by omega
    have HL := hide hlk
    clear hlk hown0 hrd1 hbel1 n11 hl0 hs1
    by_cases hp : (0 : Int) < (k : Int)
    · go_wp2_with fail
      refine (pick_any B b _ _ _ hrd (by omega) (by omega) (by omega)).mono ?_
      rintro e w2 ⟨q, rfl, q0, q1, hrd2, hon2⟩
      obtain ⟨qn, rfl⟩ := Int.eq_ofNat_of_zero_le q0
      have hown2 : IOwn w2 w.heap.size u5 t := owns_only hown hon2 (by omega)
      have hlw2 : IOwn w2 (b + 1) (.slice va vn vc) l := owns_only hlw hon2 (by omega)
      have hbel2 := hbel.trans hon2.1
      have hss2 : w.heap.size ≤ w2.heap.size := by rw [hon2.2.2]; exact hss
      obtain ⟨g, hg⟩ := hlw2.somes (by rw [unhide HN]; omega)
      subst hg
      obtain ⟨c0, _, _, hgl⟩ := hlw2.at (j := qn) (unhide HN) (by omega)
      have hlen1 : Hid (t.length + 1 ≤ maxLen ∧ (t.length + 1) * 8 ≤ 140737488355328) := by show _ ∧ _; have := unhide HL; unfold maxLen; omega
      clear hown hlw hrd hon2 hbel hss
      have HAPP : Hid (∀ (W : World), IOwn W w.heap.size u5 t → IOwn W (b + 1) (.slice (some ⟨g, 0, none⟩) vn vc) l → True) := fun _ _ _ => trivial
      generalize l.getD qn 0 = y at *
      by_cases hy : 0 < y
      · have e2 : decide (0 < y) = true := decide_eq_true hy
        have hlt2 := hrd2.lt
        go_wp2_with (at_builtin; refine wpList_append_own _ rfl _ _ 23 rfl w.heap.size 3 i0 (.int .i64 0) 1 8 Try.underlying23 hi hz0 hz1 hz2 rfl (by decide) _ _ _ rfl (World.ownsRow.alloc hown2 _) ⟨w2.heap.size, 0, none⟩ 1 1 [.int .i64 (qn : Int)] rfl rfl (one_new _ _ rfl _ _) (one_int _) (unhide hlen1).1 (unhide hlen1).2 (size_alloc_le hss2 _) ?_; intro v' w3 hown3 hgrow hnil; clear hnil)
        have hblk : ∀ j, u5.ownBlock = some j → w.heap.size ≤ j := fun j hj => (World.ownsRow.lt hown2 j hj).1
        have hrd3 := (hrd2.alloc (.cells #[.int .i64 (qn : Int)] 3)).grown hgrow (fun j hj => by have := hblk j hj; omega)
        have hbel3 : Below b w w3 := (hbel2.alloc (Nat.le_of_lt hlt2) _).grown hgrow (by simp; omega) (fun j hj => by have := hblk j hj; omega)
        have hown4 := iown_snoc hown3
        have hlw3 := kept_low (World.ownsRow.alloc hlw2 _) (unhide hlow) hgrow hblk
        have hss3 : w.heap.size ≤ w3.heap.size := Nat.le_trans (Nat.le_trans hss2 (by simp)) hgrow.size
        clear hown3 hgrow hown2 hrd2 hbel2 hlw2
        go_wp2
        go_roundw
        case rel => exact ⟨t ++ [(qn : Int)], k - 1, by go_num, by have := unhide HL; simp; omega, hown4, hlw3, hrd3.mono (by omega), hbel3, hss3⟩
        case measure => simp [intOf]; omega
      · have e2 : decide (0 < y) = false := decide_eq_false hy
        go_wp2_with fail
        refine (pick_any B b _ _ _ hrd2 (by omega) (by omega) (by omega)).mono ?_
        rintro e w3 ⟨z, rfl, z0, z1, hrd3, hon3⟩
        have hown3 : IOwn w3 w.heap.size u5 t := owns_only hown2 hon3 (by omega)
        have hlw3 : IOwn w3 (b + 1) (.slice (some ⟨g, 0, none⟩) vn vc) l := owns_only hlw2 hon3 (by omega)
        have hbel3 := hbel2.trans hon3.1
        have hss3 : w.heap.size ≤ w3.heap.size := by rw [hon3.2.2]; exact hss2
        have hlt3 := hrd3.lt
        clear hown2 hlw2 hrd2 hon3 hbel2
        by_cases hz : z = 0
        · subst hz
          go_wp2_with (at_builtin; refine wpList_append_own _ rfl _ _ 23 rfl w.heap.size 3 i0 (.int .i64 0) 1 8 Try.underlying23 hi hz0 hz1 hz2 rfl (by decide) _ _ _ rfl (World.ownsRow.alloc hown3 _) ⟨w3.heap.size, 0, none⟩ 1 1 [.int .i64 (qn : Int)] rfl rfl (one_new _ _ rfl _ _) (one_int _) (unhide hlen1).1 (unhide hlen1).2 (size_alloc_le hss3 _) ?_; intro v' w4 hown4 hgrow hnil; clear hnil)
          have hblk : ∀ j, u5.ownBlock = some j → w.heap.size ≤ j := fun j hj => (World.ownsRow.lt hown3 j hj).1
          have hrd4 := (hrd3.alloc (.cells #[.int .i64 (qn : Int)] 3)).grown hgrow (fun j hj => by have := hblk j hj; omega)
          have hbel4 : Below b w w4 := (hbel3.alloc (Nat.le_of_lt hlt3) _).grown hgrow (by simp; omega) (fun j hj => by have := hblk j hj; omega)
          have hown5 := iown_snoc hown4
          have hlw4 := kept_low (World.ownsRow.alloc hlw3 _) (unhide hlow) hgrow hblk
          have hss4 : w.heap.size ≤ w4.heap.size := Nat.le_trans (Nat.le_trans hss3 (by simp)) hgrow.size
          clear hown4 hgrow hown3 hrd3 hbel3 hlw3
          go_wp2
          go_roundw
          case rel => exact ⟨t ++ [(qn : Int)], k - 1, by go_num, by have := unhide HL; simp; omega, hown5, hlw4, hrd4.mono (by omega), hbel4, hss4⟩
          case measure => simp [intOf]; omega
        · have zf : (z == 0) = false := by simpa using hz
          go_wp2
          go_roundw
          case rel => exact ⟨t, k - 1, by go_num, by have := unhide HL; omega, hown3, hlw3, hrd3.mono (by omega), hbel3, hss3⟩
          case measure => simp [intOf]; omega
    · go_wp2_with fail
      refine (pick_any B b _ _ _ hrd (by omega) (by omega) (by omega)).mono ?_
      rintro e w2 ⟨q, rfl, q0, q1, hrd2, hon2⟩
      have hown2 : IOwn w2 w.heap.size u5 t := owns_only hown hon2 (by omega)
      have hlw2 : IOwn w2 (b + 1) (.slice va vn vc) l := owns_only hlw hon2 (by omega)
      have hbel2 := hbel.trans hon2.1
      have hss2 : w.heap.size ≤ w2.heap.size := by rw [hon2.2.2]; exact hss
      have hlt2 := hrd2.lt
      clear hown hlw hrd hon2 hbel hss
      by_cases hq : q = 0
      · subst hq
        go_wp2_with fail
        refine (one_only B b _ 2 [-1, (vn : Int)] _ _ rfl hrd2 (by omega) (by omega) (by omega)).mono ?_
        rintro e w3 ⟨x, _, rfl, hrd3, hon3⟩
        have hown3 : IOwn w3 w.heap.size u5 t := owns_only (World.ownsRow.alloc hown2 _) hon3 (by omega)
        have hlw3 : IOwn w3 (b + 1) (.slice va vn vc) l := owns_only (World.ownsRow.alloc hlw2 _) hon3 (by omega)
        have hbel3 := (hbel2.alloc (Nat.le_of_lt hlt2) _).trans hon3.1
        have hss3 : w.heap.size ≤ w3.heap.size := by rw [hon3.2.2]; simp; omega
        have hlt3 := hrd3.lt
        have hlen1 : Hid (t.length + 1 ≤ maxLen ∧ (t.length + 1) * 8 ≤ 140737488355328) := by show _ ∧ _; have := unhide HL; unfold maxLen; omega
        clear hown2 hlw2 hrd2 hon3 hbel2
        go_wp2_with (at_builtin; refine wpList_append_own _ rfl _ _ 23 rfl w.heap.size 3 i0 (.int .i64 0) 1 8 Try.underlying23 hi hz0 hz1 hz2 rfl (by decide) _ _ _ rfl (World.ownsRow.alloc hown3 _) ⟨w3.heap.size, 0, none⟩ 1 1 [.int .i64 x] rfl rfl (one_new _ _ rfl _ _) (one_int _) (unhide hlen1).1 (unhide hlen1).2 (size_alloc_le hss3 _) ?_; intro v' w4 hown4 hgrow hnil; clear hnil)
        have hblk : ∀ j, u5.ownBlock = some j → w.heap.size ≤ j := fun j hj => (World.ownsRow.lt hown3 j hj).1
        have hrd4 := (hrd3.alloc (.cells #[.int .i64 x] 3)).grown hgrow (fun j hj => by have := hblk j hj; omega)
        have hbel4 : Below b w w4 := (hbel3.alloc (Nat.le_of_lt hlt3) _).grown hgrow (by simp; omega) (fun j hj => by have := hblk j hj; omega)
        have hown5 := iown_snoc hown4
        have hlw4 := kept_low (World.ownsRow.alloc hlw3 _) (unhide hlow) hgrow hblk
        obtain ⟨fa, fc, hfv⟩ := hown5.form
        subst hfv
        clear hown4 hgrow hown3 hrd3 hbel3 hlw3
        go_wp2
        go_ret
        exact ⟨⟨_, _, rfl, hown5, by have := unhide HL; simp; omega⟩, hlw4, hrd4.mono (by omega), hbel4⟩
      · have qf : (q == 0) = false := by simpa using hq
        obtain ⟨fa, fc, hfv⟩ := hown2.form
        subst hfv
        go_wp2
        go_ret
        exact ⟨⟨_, _, rfl, hown2, by have := unhide HL; omega⟩, hlw2, hrd2.mono (by omega), hbel2⟩

set_option maxHeartbeats 800000 in
theorem drawSymbolsPut_any (a : Option Addr) (len cap : Nat) (z : Nat → Int) (w : World) (h : Src w a len z) (hc : len ≤ cap) (hm : len ≤ maxLen) :
    Calls Try.prog 6 #[.slice a len cap] w fun e w' => (∃ (l t : List Int) (va ta : Option Addr) (vc n tc k : Nat), e = .returned (.tuple #[.slice va n vc, .slice ta k tc]) ∧ l.length = n ∧ IOwn w' w.heap.size (.slice va n vc) l ∧ n ≤ 301 ∧ t.length = k ∧ IOwn w' w.heap.size (.slice ta k tc) t ∧ k ≤ 12) ∧ Below w.heap.size w w' := by
  go_enter Try.func6, Try.ntmps6
  go_wp2_with fail
  refine (l1Open_any a len cap z _ h hc hm).mono ?_
  rintro e w1 ⟨rfl, hrd, hbel, hsz⟩
  go_wp2_with fail
  refine (l11Lens_any _ _ 0 _ hrd (by omega)).mono ?_
  rintro e w2 ⟨⟨l, v, rfl, ho, hl, hl1⟩, hrd2, hbel2⟩
  obtain ⟨va, vc, hv⟩ := ho.form
  subst hv
  go_wp2_with fail
  refine (l11Syms_any _ _ _ l.length vc va l _ hrd2 (by omega) rfl ho hl1 hl).mono ?_
  rintro e w3 ⟨⟨t, v3, rfl, ht, ht12⟩, ho3, hrd3, hbel3⟩
  obtain ⟨ta, tc, hv⟩ := ht.form
  subst hv
  have hs2 : w.heap.size ≤ w2.heap.size := (hbel.trans hbel2).size
  go_wp2
  go_ret2
  exact ⟨⟨l, t, va, ta, vc, _, tc, _, rfl, rfl, ho3.mono (Nat.le_succ _), hl, rfl, ht.mono hs2, ht12⟩, (hbel.trans hbel2).trans hbel3⟩

end Go.Proofs.Ytnomiopdpmecbaa
