/- The walks of the exact laws of pieces, over this seat's program. -/
import Derived.Test.YtmhpfnknamimbaaDp1
namespace Go.Proofs.Ytmhpfnknamimbaa
open Go.RowKit Corb

theorem toPiece_any (x y : Int) (w : World) :
    Calls Try.prog 56 #[.agg #[.int .i64 x, .int .i64 y]] w fun e w' => e = .returned (.agg #[.int .i64 x, .int .i64 y]) ∧ Below w.heap.size w w' := by
  go_enter Try.func56, Try.ntmps56
  go_wp2
  exact bodyPost_ret (v := .agg #[.int .i64 x, .int .i64 y]) (by simp [results, Try.results56, go_sem]) rfl ⟨rfl, (((Below.refl _ _).alloc (Nat.le_refl _) _).alloc (by simp) _).alloc (by simp; omega) _⟩

theorem eqPiece_same (x y : Int) (w : World) :
    Calls Try.prog 57 #[.agg #[.int .i64 x, .int .i64 y], .agg #[.int .i64 x, .int .i64 y]] w fun e w' => e = .returned (.bool true) ∧ Below w.heap.size w w' := by
  go_enter Try.func57, Try.ntmps57
  go_wp2
  go_ret
  exact ⟨rfl, ((Below.refl _ _).alloc (Nat.le_refl _) _).alloc (by simp) _⟩

/-- A row of pieces that is filled up to a place. -/
def PTo (w : World) (g : Nat) (l : List (Int × Int)) (k : Nat) : Prop :=
  (∀ i, i < l.length → w.cell? ⟨g, i * 2, none⟩ = some (.int .i64 (if i < k then (l.getD i (0, 0)).1 else 0)) ∧ w.cell? ⟨g, i * 2 + 1, none⟩ = some (.int .i64 (if i < k then (l.getD i (0, 0)).2 else 0)) ∧ w.frozen? ⟨g, i * 2, none⟩ = false ∧ w.frozen? ⟨g, i * 2 + 1, none⟩ = false) ∧ g < w.heap.size

theorem PTo.later {w w' : World} {g k : Nat} {l : List (Int × Int)} (h : PTo w g l k) (hb : Below w.heap.size w w') : PTo w' g l k :=
  ⟨fun i hi => ⟨(hb.cell (p := ⟨g, i * 2, none⟩) h.2).trans (h.1 i hi).1, (hb.cell (p := ⟨g, i * 2 + 1, none⟩) h.2).trans (h.1 i hi).2.1, (hb.frozen (p := ⟨g, i * 2, none⟩) h.2).trans (h.1 i hi).2.2.1, (hb.frozen (p := ⟨g, i * 2 + 1, none⟩) h.2).trans (h.1 i hi).2.2.2⟩, Nat.lt_of_lt_of_le h.2 hb.size⟩
theorem PTo.set {w : World} {g k : Nat} {l : List (Int × Int)} (h : PTo w g l k) (hk : k < l.length) :
    PTo ((w.setCell ⟨g, k * 2, none⟩ (.int .i64 (l.getD k (0, 0)).1)).setCell ⟨g, k * 2 + 1, none⟩ (.int .i64 (l.getD k (0, 0)).2)) g l (k + 1) := by
  refine ⟨fun i hi => ?_, by simpa using h.2⟩
  obtain ⟨c0, c1, f0, f1⟩ := h.1 i hi
  refine ⟨?_, ?_, by simpa using f0, by simpa using f1⟩
  · rw [World.cell?_setCell_other _ _ _ _ (by simp only [ne_eq, Addr.mk.injEq]; omega)]
    by_cases e : i = k
    · subst e
      rw [World.cell?_setCell_same _ _ _ c0]; simp
    · rw [World.cell?_setCell_other _ _ _ _ (by simp only [ne_eq, Addr.mk.injEq]; omega), c0]
      by_cases hl : i < k
      · rw [if_pos hl, if_pos (by omega)]
      · rw [if_neg hl, if_neg (by omega)]
  · by_cases e : i = k
    · subst e
      rw [World.cell?_setCell_same (u := .int .i64 (if i < i then (l.getD i (0, 0)).2 else 0)) _ _ _ (by rw [World.cell?_setCell_other _ _ _ _ (by simp only [ne_eq, Addr.mk.injEq]; omega)]; exact c1)]; simp
    · rw [World.cell?_setCell_other _ _ _ _ (by simp only [ne_eq, Addr.mk.injEq]; omega), World.cell?_setCell_other _ _ _ _ (by simp only [ne_eq, Addr.mk.injEq]; omega), c1]
      by_cases hl : i < k
      · rw [if_pos hl, if_pos (by omega)]
      · rw [if_neg hl, if_neg (by omega)]
theorem PTo.row {w : World} {g : Nat} {l : List (Int × Int)} (h : PTo w g l l.length) : PRow w (some ⟨g, 0, none⟩) l := by
  intro _
  refine ⟨g, 0, rfl, h.2, fun i hi => ?_⟩
  obtain ⟨c0, c1, _⟩ := h.1 i hi
  rw [if_pos hi] at c0 c1
  rw [Nat.zero_add]
  exact ⟨c0, c1⟩
theorem made_piece {w : World} {base g : Nat} {l : List (Int × Int)} (h : w.ownsRow base 29 2 (.slice (some ⟨g, 0, none⟩) l.length l.length) l.length (madeCells (Value.agg #[.int .i64 0, .int .i64 0]).cells (l.length * 2)).toList) : PTo w g l 0 := by
  refine ⟨fun i hi => ?_, (h.lt g rfl).2⟩
  have c0 := h.cellAt (i * 2) (by omega)
  have c1 := h.cellAt (i * 2 + 1) (by omega)
  refine ⟨?_, ?_, h.frozenAt _, h.frozenAt _⟩
  · rw [c0, if_neg (by omega)]
    simp [madeCells, Value.cells, show i * 2 < l.length * 2 by omega]
  · rw [c1, if_neg (by omega)]
    simp [madeCells, Value.cells, show i * 2 + 1 < l.length * 2 by omega, show (i * 2 + 1) % 2 = 1 by omega]

set_option maxHeartbeats 800000 in
theorem toPieceS_any (a : Option Addr) (cap : Nat) (l : List (Int × Int)) (w : World) (h : PRow w a l) (hm : l.length ≤ 1048576) :
    Calls Try.prog 32 #[.slice a l.length cap] w fun e w' => e = .returned (.slice (some ⟨w.heap.size, 0, none⟩) l.length l.length) ∧ PTo w' w.heap.size l l.length ∧ Below w.heap.size w w' := by
  have hm' : (l.length : Int) ≤ 1048576 := by omega
  obtain ⟨i0, hi, hz0, hz1, hz2⟩ := info_parts Try.infoPiece
  go_enter Try.func32, Try.ntmps32
  go_wp2_with (at_make; refine wpList_make_full _ rfl _ _ 23 rfl w.heap.size 29 i0 (.agg #[.int .i64 0, .int .i64 0]) 2 Try.underlying23 hi hz0 hz1 .i64 .i64 _ _ l.length rfl rfl rfl rfl (by rw [hz2]; omega) (by unfold maxLen; omega) (Nat.le_refl _) ?_; intro w1 hown hgrow)
  have hp0 := made_piece hown
  have hb0 : Below w.heap.size w w1 := (Below.refl _ _).grown hgrow (Nat.le_refl _) (fun k h => by cases h)
  clear hown hgrow hi hz0 hz1 hz2 hm
  go_loopw [4] (fun i wr => ∃ k : Nat, k ≤ l.length ∧ i = .int .i64 k ∧ PTo wr w.heap.size l k ∧ Below w.heap.size w wr) (fun i _ => l.length - (intOf i).toNat)
  case atStart => exact ⟨0, Nat.zero_le _, rfl, hp0, hb0⟩
  case round =>
    obtain ⟨k, hk, rfl, hp, hbel⟩ := hrel
    clear hp0 hb0
    by_cases hlt : k < l.length
    · obtain ⟨g, o, rfl, hg, hc⟩ := (h.later hbel) (by omega)
      obtain ⟨c0, c1⟩ := hc k hlt
      have HK := hide hk
      have Hp := hide hp
      clear hc h hk hp
      generalize hx : (l.getD k (0, 0)).1 = x at *
      generalize hy : (l.getD k (0, 0)).2 = y at *
      have Hx := hide hx
      have Hy := hide hy
      clear hx hy
      go_wp2_with fail
      refine (toPiece_any _ _ _).mono ?_
      rintro e w2 ⟨rfl, hb2⟩
      have hp2 := (unhide Hp).later hb2
      have hset0 := hp2.set hlt
      rw [unhide Hx, unhide Hy] at hset0
      have hset := hide hset0
      clear hset0
      obtain ⟨d0, d1, f0, f1⟩ := hp2.1 k hlt
      rw [unhide Hx] at d0
      rw [unhide Hy] at d1
      have hbel2 := hbel.trans (hb2.mono hbel.size)
      clear hp2 c0 c1 hbel hb2
      rw [if_neg (by omega)] at d0 d1
      go_wp2
      go_roundw
      case rel => exact ⟨k + 1, by have := unhide HK; omega, by go_num, unhide hset, below_set (below_set hbel2 (Nat.le_refl _) _) (Nat.le_refl _) _⟩
      case measure => simp [intOf]; omega
    · have hkl : k = l.length := by omega
      subst hkl
      go_wp2
      go_ret
      exact ⟨rfl, hp, hbel⟩

set_option maxHeartbeats 800000 in
theorem eqPieceS_same (a b : Option Addr) (c d : Nat) (l : List (Int × Int)) (w : World) (ha : PRow w a l) (hb : PRow w b l) (hm : l.length ≤ 1048576) :
    Calls Try.prog 33 #[.slice a l.length c, .slice b l.length d] w fun e w' => e = .returned (.bool true) ∧ Below w.heap.size w w' := by
  have hm' : (l.length : Int) ≤ 1048576 := by omega
  clear hm
  go_enter Try.func33, Try.ntmps33
  go_wp2_with fail
  go_loopw [5] (fun i wr => ∃ k : Nat, k ≤ l.length ∧ i = .int .i64 k ∧ Below w.heap.size w wr) (fun i _ => l.length - (intOf i).toNat)
  case atStart => exact ⟨0, Nat.zero_le _, rfl, Below.refl _ _⟩
  case round =>
    obtain ⟨k, hk, rfl, hbel⟩ := hrel
    by_cases hlt : k < l.length
    · obtain ⟨g, o, rfl, hg, hc⟩ := (ha.later hbel) (by omega)
      obtain ⟨g', o', rfl, hg', hc'⟩ := (hb.later hbel) (by omega)
      obtain ⟨c0, c1⟩ := hc k hlt
      obtain ⟨d0, d1⟩ := hc' k hlt
      have HK := hide hk
      clear hc hc' ha hb hk
      generalize (l.getD k (0, 0)).1 = x at *
      generalize (l.getD k (0, 0)).2 = y at *
      go_wp2_with fail
      go_region_with (go_at_call 57; refine (eqPiece_same _ _ _).mono ?_; rintro e w2 ⟨rfl, hb2⟩)
      all_goals
        go_wp2
        go_roundw
        case rel => exact ⟨k + 1, by have := unhide HK; omega, by go_num, hbel.drew.trans (hb2.mono hbel.size)⟩
        case measure => simp [intOf]; omega
    · clear ha hb
      go_wp2
      go_ret
      exact ⟨rfl, hbel⟩

theorem szPieceS_any (a : Option Addr) (n cap : Nat) (w : World) (hm : n ≤ maxLen) :
    Calls Try.prog 31 #[.slice a n cap, .int .i64 1048576] w fun e w' => e = .returned (.int .i64 (if (n : Int) ≤ 1048576 then 1048576 - (n : Int) else -1)) ∧ w' = w := by
  unfold maxLen at hm
  have hm' : (n : Int) ≤ 9223372036854775807 := by omega
  clear hm
  by_cases h : (n : Int) ≤ 1048576
  · rw [if_pos h]
    go_enter Try.func31, Try.ntmps31
    go_wp2
    go_ret
    exact ⟨rfl, rfl⟩
  · rw [if_neg h]
    go_enter Try.func31, Try.ntmps31
    go_wp2
    go_ret
    exact ⟨rfl, rfl⟩

set_option maxHeartbeats 1600000 in
theorem exBitsPut_walk (a : Option Addr) (len cap : Nat) (l : List (Int × Int)) (w : World) (w0 : PRow w a l ∧ l.length = len ∧ len ≤ maxLen) :
    Calls Try.prog 13 #[.slice a len cap] w fun e w' => e = .returned (.bool true) ∧ Below w.heap.size w w' := by
  obtain ⟨h, rfl, hm⟩ := w0
  by_cases hl : (l.length : Int) ≤ 1048576
  · have hl2 : l.length ≤ 1048576 := by omega
    have HL := hide hl2
    clear hl2
    obtain ⟨S, hS⟩ : ∃ S, (⟨(putS l).toArray⟩ : ByteArray) = S := ⟨_, rfl⟩
    have HS := hide hS
    clear hS
    go_enter Try.func13, Try.ntmps13
    go_wp2_with fail
    refine (szPieceS_any a l.length cap _ hm).mono ?_
    rintro e x0 ⟨rfl, rfl⟩
    rw [if_pos hl]
    go_wp2_with fail
    refine (toPieceS_any a cap l _ h (unhide HL)).mono ?_
    rintro e x1 ⟨rfl, hp1, hb1⟩
    go_wp2_with fail
    refine (specBitsPut_any _ _ l _ hp1.row (by have := unhide HL; omega)).mono ?_
    rintro e x2 ⟨rfl, hb2⟩
    rw [unhide HS]
    have hb12 := bnext hb1 hb2
    clear hp1
    go_wp2_with fail
    refine (toPieceS_any a cap l _ (h.later hb12) (unhide HL)).mono ?_
    rintro e x3 ⟨rfl, hp3, hb3⟩
    go_wp2_with fail
    refine (implBitsPut_any _ _ l _ hp3.row (by have := unhide HL; omega)).mono ?_
    rintro e x4 ⟨rfl, hb4⟩
    rw [unhide HS]
    have hp4 := hp3.later hb4
    have hb14 := bnext (bnext hb12 hb3) hb4
    clear hp3
    go_wp2_with fail
    refine (toPieceS_any a cap l _ (h.later hb14) (unhide HL)).mono ?_
    rintro e x5 ⟨rfl, hp5, hb5⟩
    have hp4' := hp4.later hb5
    go_wp2_with fail
    refine (eqPieceS_same _ _ _ _ l _ hp4'.row hp5.row (unhide HL)).mono ?_
    rintro e x6 ⟨rfl, hb6⟩
    go_wp2
    go_ret
    exact ⟨rfl, bnext (bnext hb14 hb5) hb6⟩
  · go_enter Try.func13, Try.ntmps13
    go_wp2_with fail
    refine (szPieceS_any a l.length cap _ hm).mono ?_
    rintro e x0 ⟨rfl, rfl⟩
    rw [if_neg (by omega)]
    go_wp2
    go_ret
    exact ⟨rfl, Below.refl _ _⟩

set_option maxHeartbeats 1600000 in
theorem exBitsLong_walk (a : Option Addr) (len cap : Nat) (l : List (Int × Int)) (w : World) (w0 : PRow w a l ∧ l.length = len ∧ len ≤ maxLen) :
    Calls Try.prog 16 #[.slice a len cap] w fun e w' => e = .returned (.bool true) ∧ Below w.heap.size w w' := by
  obtain ⟨h, rfl, hm⟩ := w0
  by_cases hl : (l.length : Int) ≤ 1048576
  · have hl2 : l.length ≤ 1048576 := by omega
    have HL := hide hl2
    clear hl2
    obtain ⟨S, hS⟩ : ∃ S, longI l = S := ⟨_, rfl⟩
    have HS := hide hS
    clear hS
    go_enter Try.func16, Try.ntmps16
    go_wp2_with fail
    refine (szPieceS_any a l.length cap _ hm).mono ?_
    rintro e x0 ⟨rfl, rfl⟩
    rw [if_pos hl]
    go_wp2_with fail
    refine (toPieceS_any a cap l _ h (unhide HL)).mono ?_
    rintro e x1 ⟨rfl, hp1, hb1⟩
    go_wp2_with fail
    refine (specBitsLong_any _ _ l _ hp1.row (by have := unhide HL; omega)).mono ?_
    rintro e x2 ⟨rfl, hb2⟩
    rw [unhide HS]
    have hb12 := bnext hb1 hb2
    clear hp1
    go_wp2_with fail
    refine (toPieceS_any a cap l _ (h.later hb12) (unhide HL)).mono ?_
    rintro e x3 ⟨rfl, hp3, hb3⟩
    go_wp2_with fail
    refine (implBitsLong_any _ _ l _ hp3.row (by have := unhide HL; omega)).mono ?_
    rintro e x4 ⟨rfl, hb4⟩
    rw [unhide HS]
    have hp4 := hp3.later hb4
    have hb14 := bnext (bnext hb12 hb3) hb4
    clear hp3
    go_wp2_with fail
    refine (toPieceS_any a cap l _ (h.later hb14) (unhide HL)).mono ?_
    rintro e x5 ⟨rfl, hp5, hb5⟩
    have hp4' := hp4.later hb5
    go_wp2_with fail
    refine (eqPieceS_same _ _ _ _ l _ hp4'.row hp5.row (unhide HL)).mono ?_
    rintro e x6 ⟨rfl, hb6⟩
    go_wp2
    go_ret
    exact ⟨rfl, bnext (bnext hb14 hb5) hb6⟩
  · go_enter Try.func16, Try.ntmps16
    go_wp2_with fail
    refine (szPieceS_any a l.length cap _ hm).mono ?_
    rintro e x0 ⟨rfl, rfl⟩
    rw [if_neg (by omega)]
    go_wp2
    go_ret
    exact ⟨rfl, Below.refl _ _⟩

theorem pairs_row {W : World} {x : Addr} {len m : Nat} {V0 V1 : Nat → Value} (hlm : len ≤ m) (hv : ∀ i, i < m → ∃ p q : Int, V0 i = .int .i64 p ∧ V1 i = .int .i64 q)
    (hc : ∀ i, i < m → W.cell? (x.add (i * 2)) = some (V0 i) ∧ W.cell? (x.add (i * 2 + 1)) = some (V1 i)) : ∃ l, PRow W (some x) l ∧ l.length = len := by
  refine ⟨(List.range len).map (fun i => (intOf (V0 i), intOf (V1 i))), fun h0 => ?_, by simp⟩
  have h0' : 0 < len := by simpa using h0
  obtain ⟨b, off, spot⟩ := x
  have hc0 := (hc 0 (by omega)).1
  have hspot : spot = none := by simpa [Addr.add] using World.cell?_spot hc0
  subst hspot
  refine ⟨b, off, rfl, by have := World.block_lt_of_cell? _ _ hc0; simpa [Addr.add] using this, fun i hi => ?_⟩
  have hi' : i < len := by simpa using hi
  obtain ⟨p, q, e0, e1⟩ := hv i (by omega)
  obtain ⟨c0, c1⟩ := hc i (by omega)
  have g : ((List.range len).map (fun i => (intOf (V0 i), intOf (V1 i)))).getD i (0, 0) = (p, q) := by simp [List.getD, hi', e0, e1, intOf]
  rw [g]
  rw [e0] at c0
  rw [e1] at c1
  constructor
  · by_cases z : i = 0
    · subst z; simpa [Addr.add] using c0
    · simpa [Addr.add, show i * 2 ≠ 0 by omega] using c0
  · simpa [Addr.add, Nat.add_assoc] using c1

end Go.Proofs.Ytmhpfnknamimbaa
