/- The walks of laws of bits: a number turned. -/
import Derived.Test.YtmhpfnknamimbaaBt3
import Derived.Test.YtmhpfnknamimbaaRd2
namespace Go.Proofs.Ytmhpfnknamimbaa
open Go.RowKit Corb

theorem exBitsTurn_walk (a b : Int) (_ : (Lit.int .i64 a).wf = true) (_ : (Lit.int .i64 b).wf = true) (w : World) :
    Calls Try.prog 15 #[.int .i64 a, .int .i64 b] w fun e w' => e = .returned (.bool true) ∧ Below w.heap.size w w' := by
  go_enter Try.func15, Try.ntmps15
  go_wp2_with fail
  refine (specBitsTurn_any _ _ _).mono ?_
  rintro e w1 ⟨rfl, hb1⟩
  go_wp2_with fail
  refine (implBitsTurn_any _ _ _).mono ?_
  rintro e w2 ⟨rfl, hb2⟩
  go_wp2
  go_ret
  exact ⟨rfl, bnext hb1 hb2⟩

set_option maxHeartbeats 800000 in
theorem drawBitsTurn_any (a : Option Addr) (len cap : Nat) (z : Nat → Int) (w : World) (h : Src w a len z) (hc : len ≤ cap) (hm : len ≤ maxLen) :
    Calls Try.prog 26 #[.slice a len cap] w fun e w' => (∃ (x y : Int), e = .returned (.tuple #[.int .i64 x, .int .i64 y]) ∧ -1 ≤ y ∧ y ≤ 17) ∧ Below w.heap.size w w' := by
  go_enter Try.func26, Try.ntmps26
  go_wp2_with fail
  refine (l1Open_any a len cap z _ h hc hm).mono ?_
  rintro e w1 ⟨rfl, hrd, hbel, hsz⟩
  go_wp2_with fail
  refine (pick_any _ _ 0 _ _ hrd (by omega) (by omega) (by omega)).mono ?_
  rintro e w2 ⟨r, rfl, r0, r1, hrd2, hon2⟩
  go_wp2_with fail
  refine (pick_any _ _ 1 _ _ hrd2 (by omega) (by omega) (by omega)).mono ?_
  rintro e w3 ⟨v, rfl, v0, v1, hrd3, hon3⟩
  go_wp2_with fail
  refine (one_lit _ _ 2 8 [0, 1, 5, 100, 65535, 65536, -1, v] _ _ rfl hrd3 (by omega) (by omega) (by omega)).mono ?_
  rintro e w4 ⟨x, _, rfl, hrd4, hbel4⟩
  go_wp2
  go_ret2
  exact ⟨⟨x, r - 1, rfl, by omega, by omega⟩, ((hbel.trans hon2.1).trans hon3.1).trans hbel4⟩

theorem bt_twice (x y : Int) (h : pOk x y = true) : btI (btI x y) y = x := by
  obtain ⟨⟨y0, y1⟩, x0, x1⟩ := pOk_true.1 h
  have hl := rv_lt y.toNat x.toNat
  have h2 : pOk (btI x y) y = true := by
    rw [btI_yes h, pOk_true]
    refine ⟨⟨y0, y1⟩, by omega, ?_⟩
    have : rv y.toNat x.toNat < p2 y.toNat := hl
    omega
  have hx : x.toNat < p2 y.toNat := by omega
  rw [btI_yes h2, btI_yes h, Int.toNat_natCast, rv_rv y.toNat x.toNat hx]
  omega
theorem bt_more (x y : Int) (h : pOk x y = true) (hy : y < 16) : btI x (y + 1) = 2 * btI x y := by
  obtain ⟨⟨y0, y1⟩, x0, x1⟩ := pOk_true.1 h
  have e : (y + 1).toNat = y.toNat + 1 := by omega
  have h2 : pOk x (y + 1) = true := by
    rw [pOk_true, e, p2_succ]
    exact ⟨⟨by omega, by omega⟩, x0, by omega⟩
  have hx : x.toNat < p2 y.toNat := by omega
  rw [btI_yes h2, btI_yes h, e, rv_double y.toNat x.toNat hx]
  omega
theorem bt_bd (x y : Int) (h : pOk x y = true) : 0 ≤ btI x y ∧ btI x y < 65536 := by
  obtain ⟨⟨y0, y1⟩, x0, x1⟩ := pOk_true.1 h
  have hl := rv_lt y.toNat x.toNat
  have := pow_le16 y.toNat (by omega)
  rw [btI_yes h]; omega

set_option maxHeartbeats 1600000 in
theorem fnBitsTurn_walk (a : Option Addr) (len cap : Nat) (zs : List Int) (w : World) (w0 : IsRow .u8 w a len cap zs) :
    Calls Try.prog 5 #[.slice a len cap] w fun e w' => e = .returned (.bool true) ∧ Below w.heap.size w w' := by
  obtain ⟨⟨z, hsrc⟩, hc, hm⟩ := src_of w0
  have hm' := hide hm
  unfold maxLen at hm
  clear w0
  by_cases hl : (len : Int) ≤ 1048576
  · go_enter Try.func5, Try.ntmps5
    go_wp2_with fail
    refine (drawBitsTurn_any a len cap z _ hsrc hc (unhide hm')).mono ?_
    rintro e x1 ⟨⟨x, y, rfl, y0, y1⟩, hb1⟩
    go_wp2_with fail
    refine (implBitsTurn_any x y _).mono ?_
    rintro e x2 ⟨rfl, hb2⟩
    go_wp2_with fail
    refine (specBitsTurn_any x y _).mono ?_
    rintro e x3 ⟨rfl, hb3⟩
    have hb123 := bnext (bnext hb1 hb2) hb3
    cases hp : pOk x y
    · have hn := btI_no hp
      rw [hn]
      go_wp2_with fail
      refine (specBitsTurn_any x y _).mono ?_
      rintro e x4 ⟨rfl, hb4⟩
      rw [hn]
      go_wp2
      go_ret
      exact ⟨rfl, bnext hb123 hb4⟩
    · obtain ⟨t0, t1⟩ := bt_bd x y hp
      have e1 := hide (bt_twice x y hp)
      have e2 := hide (bt_more x y hp)
      obtain ⟨⟨y2, y3⟩, _, _⟩ := pOk_true.1 hp
      generalize btI x y = t at *
      clear hp
      go_wp2_with fail
      refine (implBitsTurn_any t y _).mono ?_
      rintro e x4 ⟨rfl, hb4⟩
      rw [unhide e1]
      have hb1234 := bnext hb123 hb4
      by_cases hy : 16 ≤ y
      · go_wp2
        go_ret
        exact ⟨ret_bool (by simp), hb1234⟩
      · have e3 := (unhide e2) (by omega)
        have E3 := hide e3
        clear e3
        go_wp2_with fail
        refine (implBitsTurn_any x (y + 1) _).mono ?_
        rintro e x5 ⟨rfl, hb5⟩
        rw [unhide E3]
        go_wp2
        go_ret
        exact ⟨ret_bool (by simp), bnext hb1234 hb5⟩
  · go_enter Try.func5, Try.ntmps5
    go_wp2
    go_ret
    exact ⟨rfl, Below.refl _ _⟩

end Go.Proofs.Ytmhpfnknamimbaa
