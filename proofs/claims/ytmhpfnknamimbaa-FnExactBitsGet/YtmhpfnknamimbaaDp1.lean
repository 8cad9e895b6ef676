/- Contracts of the draws of pieces, over this seat's program. -/
import Derived.Test.YtmhpfnknamimbaaPw3
namespace Go.Proofs.Ytmhpfnknamimbaa
open Go.RowKit Corb

/-- The cells of pieces. -/
def pcells : List (Int × Int) → List Value
  | [] => []
  | p :: l => .int .i64 p.1 :: .int .i64 p.2 :: pcells l
theorem pcells_len (l : List (Int × Int)) : (pcells l).length = l.length * 2 := by
  induction l with
  | nil => rfl
  | cons p l ih => simp only [pcells, List.length_cons, ih]; omega
theorem pcells_append (l m : List (Int × Int)) : pcells (l ++ m) = pcells l ++ pcells m := by
  induction l with
  | nil => rfl
  | cons p l ih => simp [pcells, ih]
theorem pcells_get (l : List (Int × Int)) (i : Nat) (h : i < l.length) : (pcells l)[i * 2]? = some (.int .i64 (l.getD i (0, 0)).1) ∧ (pcells l)[i * 2 + 1]? = some (.int .i64 (l.getD i (0, 0)).2) := by
  induction l generalizing i with
  | nil => simp at h
  | cons p l ih =>
    cases i with
    | zero => simp [pcells]
    | succ i =>
      have := ih i (by simpa using h)
      rw [show (i + 1) * 2 = i * 2 + 1 + 1 by omega]
      simpa [pcells] using this

/-- Pieces of the call's own. -/
def Pcs (w : World) (base : Nat) (v : Value) (l : List (Int × Int)) : Prop := w.ownsRow base 29 2 v l.length (pcells l)
theorem Pcs.form {w : World} {base : Nat} {v : Value} {l : List (Int × Int)} (h : Pcs w base v l) : ∃ a cap, v = .slice a l.length cap := by
  rcases h.2 with ⟨e, h0⟩ | ⟨g, cap, _, e, _⟩
  · exact ⟨none, 0, by rw [e, h0]⟩
  · exact ⟨_, cap, e⟩
theorem Pcs.nonnil {w : World} {base : Nat} {v : Value} {l : List (Int × Int)} (h : Pcs w base v l) (hn : v ≠ .slice none 0 0) : ∃ g cap, v = .slice (some ⟨g, 0, none⟩) l.length cap := by
  rcases h.2 with ⟨e, _⟩ | ⟨g, cap, _, e, _⟩
  · exact absurd e hn
  · exact ⟨g, cap, e⟩
theorem Pcs.row {w : World} {base : Nat} {a : Option Addr} {cap : Nat} {l : List (Int × Int)} (h : Pcs w base (.slice a l.length cap) l) : PRow w a l := by
  intro h0
  rcases h.2 with ⟨_, h1⟩ | ⟨g, cap', cur, e, hb, hg, hr⟩
  · omega
  · simp only [Value.slice.injEq] at e
    obtain ⟨rfl, _, rfl⟩ := e
    refine ⟨g, 0, rfl, (Array.getElem?_eq_some_iff.1 hg).1, fun i hi => ?_⟩
    have hp := pcells_get l i hi
    have c1 := World.ownsRow.cellAt h (i * 2) (by omega)
    have c2 := World.ownsRow.cellAt h (i * 2 + 1) (by omega)
    rw [Nat.zero_add]
    exact ⟨c1.trans hp.1, c2.trans hp.2⟩
theorem Pcs.later {w w' : World} {base B : Nat} {v : Value} {l : List (Int × Int)} (h : Pcs w base v l) (hb : Below B w w') (hB : w.heap.size ≤ B) : Pcs w' base v l :=
  World.ownsRow.kept h (row := none) ⟨hb.os, hb.tape, hb.output, hb.size, fun k hk _ => hb.block k (by omega)⟩ (by
    cases hv : v.ownBlock with
    | none => exact .inl rfl
    | some k => exact .inr (by simp))

theorem Try.infoPiece : (Try.prog.info? 29).map (fun i => (i.zero, i.size, i.bytes)) = some (some (.agg #[.int .i64 0, .int .i64 0]), 2, 16) := by kernel_rfl

theorem one_only (B b m n : Nat) (l : List Int) (t : TypeId) (w : World) (hn : l.length = n) (h : Rd w B b m) (hm : m ≤ 100000) (n1 : 0 < n) (n2 : n ≤ 70000) :
    Calls Try.prog 50 #[.pointer (some ⟨b, 0, none⟩), .slice (some ⟨w.heap.size, 0, none⟩) n n] (w.alloc (.cells (l.map (Value.int .i64)).toArray t)) fun e w' => ∃ v : Int, v ∈ l ∧ e = .returned (.int .i64 v) ∧ Rd w' B b (m + 1) ∧ Only b (w.alloc (.cells (l.map (Value.int .i64)).toArray t)) w' := by
  subst hn
  have hlt := h.lt
  refine (one_any B b m w.heap.size 0 l.length l.length (fun i => l.getD i 0) _ (h.alloc _) hm n1 n2 (Nat.ne_of_gt hlt) (lit_cells w l t)).mono ?_
  rintro e w' ⟨i, hi, he, hr, ho⟩
  refine ⟨l.getD i 0, ?_, he, hr, ho⟩
  simp [List.getD, hi]

theorem pOk_mod (x y : Int) (y0 : 0 ≤ y) (y1 : y ≤ 16) : pOk (x % (p2 y.toNat : Nat)) y = true := by
  have := p2_pos y.toNat
  rw [pOk_true]
  exact ⟨⟨y0, y1⟩, Int.emod_nonneg _ (by omega), Int.emod_lt_of_pos _ (by omega)⟩
theorem allOk_snoc (l : List (Int × Int)) (p : Int × Int) : allOk (l ++ [p]) = (allOk l && pOk p.1 p.2) := by simp [allOk]

set_option maxHeartbeats 1600000 in
theorem l11Pieces_any (B b m : Nat) (w : World) (h : Rd w B b m) (hm : m ≤ 80000) :
    Calls Try.prog 48 #[.pointer (some ⟨b, 0, none⟩)] w fun e w' => (∃ (l : List (Int × Int)) (g cap : Nat), e = .returned (.slice (some ⟨g, 0, none⟩) l.length cap) ∧ Pcs w' (b + 1) (.slice (some ⟨g, 0, none⟩) l.length cap) l ∧ l.length ≤ 11 ∧ allOk l = true) ∧ Rd w' B b (m + 50) ∧ Below b w w' := by
  obtain ⟨i0, hi, hz0, hz1, hz2⟩ := info_parts Try.infoPiece
  have hltw := h.lt
  go_enter Try.func48, Try.ntmps48
  go_wp2_with fail
  refine (pick_any B b m _ _ (h.alloc _) (by omega) (by omega) (by omega)).mono ?_
  rintro e w1 ⟨r, rfl, r0, r1, hrd1, hon1⟩
  obtain ⟨n0, rfl⟩ := Int.eq_ofNat_of_zero_le r0
  have hown0 : Pcs w1 (b + 1) (.slice (some ⟨w.heap.size, 0, none⟩) 0 0) [] :=
    owns_only (World.ownsRow_lit w #[] 0 (by omega) (by unfold maxLen; omega) rfl) hon1 (by omega)
  have hbel1 := ((Below.refl b w).alloc (Nat.le_of_lt hltw) (.cells #[] 29)).trans hon1.1
  have n11 : n0 ≤ 11 := by omega
  clear h hon1 r0 r1
  go_wp2_with fail
  go_loopw [3, 4, 5, 6] (fun o n _ _ wr => ∃ (l : List (Int × Int)) (k : Nat), n = .int .i64 k ∧ l.length + k ≤ 11 ∧ o ≠ .slice none 0 0 ∧ Pcs wr (b + 1) o l ∧ allOk l = true ∧ Rd wr B b (m + 40 - 3 * k) ∧ Below b w wr) (fun _ n _ _ _ => (intOf n).toNat)
  case atStart => exact ⟨[], n0, rfl, by simpa using n11, by simp, hown0, rfl, hrd1.mono (by omega), hbel1⟩
  case round =>
    obtain ⟨l, k, rfl, hlk, hnn, hpcs, hall, hrd, hbel⟩ := hrel
    have hltr := hrd.lt
    have hk' : (k : Int) ≤ 11 := by omega
    have HL := hide hlk
    have HA := hide hall
    clear hlk hall hown0 hrd1 hbel1 n11
    by_cases hp : (0 : Int) < (k : Int)
    · go_wp2_with fail
      refine (pick_any B b (m + 40 - 3 * k) _ _ hrd (by omega) (by omega) (by omega)).mono ?_
      rintro e w2 ⟨y, rfl, y0, y1, hrd2, hon2⟩
      go_wp2_with fail
      refine (pick_any B b _ _ _ hrd2 (by omega) (by omega) (by omega)).mono ?_
      rintro e w3 ⟨p, rfl, p0, p1, hrd3, hon3⟩
      go_wp2_with fail
      refine (pick_any B b _ _ _ hrd3 (by omega) (by omega) (by omega)).mono ?_
      rintro e w4 ⟨q, rfl, q0, q1, hrd4, hon4⟩
      have hpcs4 : Pcs w4 (b + 1) u3 l := owns_only (owns_only (owns_only hpcs hon2 (by omega)) hon3 (by omega)) hon4 (by omega)
      have hbel4 := ((hbel.trans hon2.1).trans hon3.1).trans hon4.1
      have hlt4 := hrd4.lt
      clear hpcs hrd hrd2 hrd3 hon2 hon3 hon4 hbel
      obtain ⟨e1, e2⟩ := pow_bd y (by omega)
      have hpo := hide (pOk_mod (p * 256 + q) y y0 (by omega))
      have hmn : 0 ≤ (p * 256 + q) % ((p2 y.toNat : Nat) : Int) := Int.emod_nonneg _ (by omega)
      go_wp2_with fail
      refine (l1Pow_any _ _ (by omega)).mono ?_
      rintro e w5 ⟨rfl, rfl⟩
      generalize ((p2 y.toNat : Nat) : Int) = P at *
      go_wp2_with (at_builtin; refine wpList_append_own _ rfl _ _ 23 rfl (b + 1) 29 i0 (.agg #[.int .i64 0, .int .i64 0]) 2 16 Try.underlying23 hi hz0 hz1 hz2 rfl (by decide) _ _ _ rfl (World.ownsRow.alloc hpcs4 _) ⟨_, 0, none⟩ 1 1 [.int .i64 ((p * 256 + q) % P), .int .i64 y] rfl rfl (by intro j u hj; match j, hj with | 0, hj => simp at hj; subst hj; simp [Addr.add] | 1, hj => simp at hj; subst hj; simp [Addr.add]) (by intro u hu; simp at hu; rcases hu with rfl | rfl <;> rfl) (by have := unhide HL; unfold maxLen; omega) (by have := unhide HL; omega) (by simp; omega) ?_; intro v' w6 hown hgrow hnil)
      have hblk : ∀ j, u3.ownBlock = some j → b < j := fun j hj => (World.ownsRow.lt hpcs4 j hj).1
      have hrd6 := (hrd4.alloc (.cells #[.int .i64 ((p * 256 + q) % P), .int .i64 y] 29)).grown hgrow hblk
      have hbel6 : Below b w w6 := (hbel4.alloc (Nat.le_of_lt hlt4) _).grown hgrow (by simp; omega) (fun j hj => Nat.le_of_lt (hblk j hj))
      have hpcs6 : Pcs w6 (b + 1) v' (l ++ [((p * 256 + q) % P, y)]) := by
        show World.ownsRow _ _ _ _ _ (l ++ [((p * 256 + q) % P, y)]).length _
        rw [pcells_append]
        simpa [pcells] using hown
      have hnn6 : v' ≠ .slice none 0 0 := by simpa using hnil
      clear hnil
      go_roundw
      case rel => exact ⟨l ++ [((p * 256 + q) % P, y)], k - 1, by go_num, by have := unhide HL; simp; omega, hnn6, hpcs6, by rw [allOk_snoc, unhide HA, unhide hpo]; rfl, hrd6.mono (by omega), hbel6⟩
      case measure => simp [intOf]; omega
    · obtain ⟨va, vc, rfl⟩ := hpcs.nonnil hnn
      go_wp2
      go_ret
      exact ⟨⟨l, va, vc, rfl, hpcs, by have := unhide HL; omega, unhide HA⟩, hrd.mono (by omega), hbel⟩

set_option maxHeartbeats 1600000 in
theorem l11AnyPieces_any (B b m : Nat) (w : World) (h : Rd w B b m) (hm : m ≤ 70000) :
    Calls Try.prog 38 #[.pointer (some ⟨b, 0, none⟩)] w fun e w' => (∃ (l : List (Int × Int)) (g cap : Nat), e = .returned (.slice (some ⟨g, 0, none⟩) l.length cap) ∧ Pcs w' (b + 1) (.slice (some ⟨g, 0, none⟩) l.length cap) l ∧ l.length ≤ 12) ∧ Rd w' B b (m + 60) ∧ Below b w w' := by
  obtain ⟨i0, hi, hz0, hz1, hz2⟩ := info_parts Try.infoPiece
  go_enter Try.func38, Try.ntmps38
  go_wp2_with fail
  refine (l11Pieces_any B b m _ h (by omega)).mono ?_
  rintro e w1 ⟨⟨l, g, cap, rfl, hpcs1, hl11, hall⟩, hrd1, hbel1⟩
  go_wp2_with fail
  refine (pick_any B b _ _ _ hrd1 (by omega) (by omega) (by omega)).mono ?_
  rintro e w2 ⟨r, rfl, r0, r1, hrd2, hon2⟩
  have hpcs2 : Pcs w2 (b + 1) (.slice (some ⟨g, 0, none⟩) l.length cap) l := owns_only hpcs1 hon2 (by omega)
  have hbel2 := hbel1.trans hon2.1
  have hlt2 := hrd2.lt
  have HL := hide hl11
  have hl11' : (l.length : Int) ≤ 11 := by omega
  clear hpcs1 hon2 hbel1 hrd1 hl11 hall
  by_cases h0 : r = 0
  · subst h0
    go_wp2_with fail
    refine (one_only B b _ 4 [-1, 0, 4, 65536] _ _ rfl hrd2 (by omega) (by omega) (by omega)).mono ?_
    rintro e w3 ⟨x, _, rfl, hrd3, hon3⟩
    have hpcs3 : Pcs w3 (b + 1) (.slice (some ⟨g, 0, none⟩) l.length cap) l := owns_only (World.ownsRow.alloc hpcs2 _) hon3 (by omega)
    have hbel3 := (hbel2.alloc (Nat.le_of_lt hlt2) _).trans hon3.1
    have hlt3 := hrd3.lt
    clear hpcs2 hon3
    go_wp2_with fail
    refine (one_only B b _ 4 [-1, 2, 16, 17] _ _ rfl hrd3 (by omega) (by omega) (by omega)).mono ?_
    rintro e w4 ⟨y, _, rfl, hrd4, hon4⟩
    have hpcs4 : Pcs w4 (b + 1) (.slice (some ⟨g, 0, none⟩) l.length cap) l := owns_only (World.ownsRow.alloc hpcs3 _) hon4 (by omega)
    have hbel4 := (hbel3.alloc (Nat.le_of_lt hlt3) _).trans hon4.1
    have hlt4 := hrd4.lt
    clear hpcs3 hon4
    go_wp2_with (at_builtin; refine wpList_append_own _ rfl _ _ 23 rfl (b + 1) 29 i0 (.agg #[.int .i64 0, .int .i64 0]) 2 16 Try.underlying23 hi hz0 hz1 hz2 rfl (by decide) _ _ _ rfl (World.ownsRow.alloc hpcs4 _) ⟨_, 0, none⟩ 1 1 [.int .i64 x, .int .i64 y] rfl rfl (by intro j u hj; match j, hj with | 0, hj => simp at hj; subst hj; simp [Addr.add] | 1, hj => simp at hj; subst hj; simp [Addr.add]) (by intro u hu; simp at hu; rcases hu with rfl | rfl <;> rfl) (by have := unhide HL; unfold maxLen; omega) (by have := unhide HL; omega) (by simp; omega) ?_; intro v' w6 hown hgrow hnil; clear hnil)
    have hblk : ∀ j, (Value.slice (some ⟨g, 0, none⟩) l.length cap).ownBlock = some j → b < j := fun j hj => (World.ownsRow.lt hpcs4 j hj).1
    have hrd6 := (hrd4.alloc (.cells #[.int .i64 x, .int .i64 y] 29)).grown hgrow hblk
    have hbel6 : Below b w w6 := (hbel4.alloc (Nat.le_of_lt hlt4) _).grown hgrow (by simp; omega) (fun j hj => Nat.le_of_lt (hblk j hj))
    have hpcs6 : Pcs w6 (b + 1) v' (l ++ [(x, y)]) := by
      show World.ownsRow _ _ _ _ _ (l ++ [(x, y)]).length _
      rw [pcells_append]
      simpa [pcells] using hown
    clear hown hgrow
    obtain ⟨va, vc, rfl⟩ := hpcs6.nonnil (by rintro rfl; rcases hpcs6.2 with ⟨_, h0⟩ | ⟨g, cap, _, e, _⟩ <;> simp_all)
    go_wp2
    go_ret
    exact ⟨⟨_, va, vc, rfl, hpcs6, by have := unhide HL; simp; omega⟩, hrd6.mono (by omega), hbel6⟩
  · have g0 : (r == 0) = false := by simpa using h0
    clear h0
    go_wp2
    go_ret
    exact ⟨⟨l, g, cap, rfl, hpcs2, by have := unhide HL; omega⟩, hrd2.mono (by omega), hbel2⟩

theorem drawBitsPut_any (a : Option Addr) (len cap : Nat) (z : Nat → Int) (w : World) (h : Src w a len z) (hc : len ≤ cap) (hm : len ≤ maxLen) :
    Calls Try.prog 17 #[.slice a len cap] w fun e w' => (∃ (l : List (Int × Int)) (g cap : Nat), e = .returned (.slice (some ⟨g, 0, none⟩) l.length cap) ∧ Pcs w' (w.heap.size + 1) (.slice (some ⟨g, 0, none⟩) l.length cap) l ∧ l.length ≤ 12) ∧ Below w.heap.size w w' := by
  go_enter Try.func17, Try.ntmps17
  go_wp2_with fail
  refine (l1Open_any a len cap z _ h hc hm).mono ?_
  rintro e w1 ⟨rfl, hrd, hbel, hsz⟩
  go_wp2_with fail
  refine (l11AnyPieces_any _ _ 0 _ hrd (by omega)).mono ?_
  rintro e w2 ⟨⟨l, pa, pc, rfl, hp, hl⟩, hrd2, hbel2⟩
  go_wp2
  go_ret
  exact ⟨⟨l, pa, pc, rfl, hp, hl⟩, hbel.trans hbel2⟩

theorem drawBitsLong_any (a : Option Addr) (len cap : Nat) (z : Nat → Int) (w : World) (h : Src w a len z) (hc : len ≤ cap) (hm : len ≤ maxLen) :
    Calls Try.prog 30 #[.slice a len cap] w fun e w' => (∃ (l : List (Int × Int)) (g cap : Nat), e = .returned (.slice (some ⟨g, 0, none⟩) l.length cap) ∧ Pcs w' (w.heap.size + 1) (.slice (some ⟨g, 0, none⟩) l.length cap) l ∧ l.length ≤ 12) ∧ Below w.heap.size w w' := by
  go_enter Try.func30, Try.ntmps30
  go_wp2_with fail
  refine (l1Open_any a len cap z _ h hc hm).mono ?_
  rintro e w1 ⟨rfl, hrd, hbel, hsz⟩
  go_wp2_with fail
  refine (l11AnyPieces_any _ _ 0 _ hrd (by omega)).mono ?_
  rintro e w2 ⟨⟨l, pa, pc, rfl, hp, hl⟩, hrd2, hbel2⟩
  go_wp2
  go_ret
  exact ⟨⟨l, pa, pc, rfl, hp, hl⟩, hbel.trans hbel2⟩

end Go.Proofs.Ytmhpfnknamimbaa
