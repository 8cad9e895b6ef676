/- The walk of a law of bits: all numbers of so many bits, turned. -/
import Derived.Test.YtmhpfnknamimbaaLb1
import Derived.Laws.MakeOwn
namespace Go.Proofs.Ytmhpfnknamimbaa
open Go.RowKit Corb

set_option maxHeartbeats 400000 in
theorem cbPow_any (n : Int) (w : World) (h : n ≤ 60) :
    Calls Try.prog 29 #[.int .i64 n] w fun e w' => e = .returned (.int .i64 (p2 n.toNat : Nat)) ∧ w' = w := by
  have hle : p2 n.toNat ≤ 2 ^ 60 := Nat.pow_le_pow_right (by omega) (by omega)
  generalize hN : p2 n.toNat = N at *
  have HN := hide hN
  clear hN
  go_enter Try.func29, Try.ntmps29
  go_wp2
  go_loop [0, 3] (fun m o => ∃ (k : Int), k ≤ 60 ∧ m = .int .i64 k ∧ ∃ p : Nat, o = .int .i64 p ∧ p * p2 k.toNat = N) (fun m _ => (intOf m).toNat)
  case atStart => exact ⟨n, h, rfl, 1, rfl, by have := unhide HN; omega⟩
  case round =>
    obtain ⟨k, hk, rfl, p, rfl, hp⟩ := hrel
    by_cases h0 : 0 < k
    · have e : p2 k.toNat = p2 (k - 1).toNat * 2 := by rw [← p2_succ]; congr 1; omega
      have hq : p * 2 * p2 (k - 1).toNat = N := by rw [← hp, e, Nat.mul_assoc, Nat.mul_comm 2]
      have hpl : p * 2 ≤ 2 ^ 60 := by
        have h1 : p * 2 * 1 ≤ p * 2 * p2 (k - 1).toNat := Nat.mul_le_mul_left _ (p2_pos _)
        omega
      have HQ := hide hq
      have hpl' : (p : Int) ≤ 1152921504606846976 := by have : (2 : Nat) ^ 60 = 1152921504606846976 := by decide
                                                        omega
      clear e hq hpl hp hle
      go_wp2
      go_round
      case rel => exact ⟨k - 1, by omega, rfl, p * 2, by go_num, unhide HQ⟩
      case measure => simp [intOf]; omega
    · have hk0 : k.toNat = 0 := by omega
      rw [hk0] at hp
      have HP : Hid (p = N) := by have : p = N := by rw [← hp]; simp [p2]
                                  exact this
      clear hp hk0 hle
      go_wp2
      go_ret
      exact ⟨ret_int (by rw [unhide HP]), rfl⟩

/-- Which numbers have been met. -/
def seenB (b k j : Nat) : Bool := (List.range k).any (fun i => rv b i == j)
theorem seenB_zero (b j : Nat) : seenB b 0 j = false := by simp [seenB]
theorem seenB_succ (b k j : Nat) : seenB b (k + 1) j = (seenB b k j || (rv b k == j)) := by
  simp [seenB, List.range_succ]
theorem seenB_new (b k : Nat) (hk : k < 2 ^ b) : seenB b k (rv b k) = false := by
  rw [← Bool.not_eq_true]
  intro h
  simp only [seenB, List.any_eq_true, List.mem_range, beq_iff_eq] at h
  obtain ⟨i, hi, e⟩ := h
  have h1 := rv_rv b i (by omega)
  have h2 := rv_rv b k hk
  rw [e, h2] at h1
  omega

/-- The row of what has been met. -/
def SeenRow (w : World) (g N b k : Nat) : Prop :=
  (∀ j, j < N → w.cell? ⟨g, j, none⟩ = some (.bool (seenB b k j)) ∧ w.frozen? ⟨g, j, none⟩ = false) ∧ g < w.heap.size

theorem SeenRow.set {w : World} {g N b k : Nat} (h : SeenRow w g N b k) : SeenRow (w.setCell ⟨g, rv b k, none⟩ (.bool true)) g N b (k + 1) := by
  refine ⟨fun j hj => ⟨?_, by simpa using (h.1 j hj).2⟩, by simpa using h.2⟩
  rw [seenB_succ]
  by_cases e : rv b k = j
  · subst e
    rw [World.cell?_setCell_same _ _ _ (h.1 _ hj).1]; simp
  · rw [World.cell?_setCell_other _ _ _ _ (by simp only [ne_eq, Addr.mk.injEq]; omega), (h.1 j hj).1]
    simp [e]

theorem hset4_of {w w' : World} {g N b k r : Nat} (hb : Below w.heap.size w w') (h : SeenRow w g N b k) (hs : SeenRow (w.setCell ⟨g, r, none⟩ (.bool true)) g N b (k + 1)) : SeenRow (w'.setCell ⟨g, r, none⟩ (.bool true)) g N b (k + 1) := by
  refine ⟨fun j hj => ⟨?_, ?_⟩, by simpa using Nat.lt_of_lt_of_le h.2 hb.size⟩
  · have e := (hs.1 j hj).1
    have hk := (hb.cell (p := ⟨g, j, none⟩) h.2).trans (h.1 j hj).1
    by_cases hr : r = j
    · subst hr
      rw [World.cell?_setCell_same _ _ _ (h.1 r hj).1] at e
      rw [World.cell?_setCell_same _ _ _ hk]; exact e
    · rw [World.cell?_setCell_other _ _ _ _ (by simp only [ne_eq, Addr.mk.injEq]; omega)] at e
      rw [World.cell?_setCell_other _ _ _ _ (by simp only [ne_eq, Addr.mk.injEq]; omega), (hb.cell (p := ⟨g, j, none⟩) h.2)]; exact e
  · rw [World.frozen?_setCell, (hb.frozen (p := ⟨g, j, none⟩) h.2)]; exact (h.1 j hj).2

theorem Try.infoBool : (Try.prog.info? 4).map (fun i => (i.zero, i.size, i.bytes)) = some (some (.bool false), 1, 1) := by kernel_rfl

theorem made_bool (N : Nat) : (madeCells (Value.bool false).cells (N * 1)).toList = List.replicate N (.bool false) := by
  apply List.ext_getElem (by simp [size_madeCells])
  intro i h1 h2
  simp [madeCells, Value.cells, Nat.mod_one]

theorem seen_of {w : World} {base g cap N b : Nat} (h : w.ownsRow base 4 1 (.slice (some ⟨g, 0, none⟩) N cap) N (List.replicate N (.bool false))) : SeenRow w g N b 0 := by
  refine ⟨fun j hj => ⟨?_, h.frozenAt j⟩, (h.lt g rfl).2⟩
  rw [h.cellAt j (by omega), seenB_zero]
  simp [hj]

set_option maxHeartbeats 1600000 in
theorem fnBitsTurnAll_walk (a : Option Addr) (len cap : Nat) (zs : List Int) (w : World) (w0 : IsRow .u8 w a len cap zs) :
    Calls Try.prog 12 #[.slice a len cap] w fun e w' => e = .returned (.bool true) ∧ Below w.heap.size w w' := by
  obtain ⟨_, hc, hm⟩ := src_of w0
  unfold maxLen at hm
  clear w0
  obtain ⟨i0, hi, hz0, hz1, hz2⟩ := info_parts Try.infoBool
  by_cases hl : (len : Int) ≤ 1048576
  · have hbb : ((len : Int) % 9) = ((len % 9 : Nat) : Int) := by omega
    have hb8 : len % 9 ≤ 8 := by omega
    have hN1 := p2_pos (len % 9)
    have hN2 : p2 (len % 9) ≤ 256 := Nat.pow_le_pow_right (n := 2) (by omega) hb8
    have HB := hide hbb
    generalize len % 9 = b at *
    have hb8' : (b : Int) ≤ 8 := by omega
    clear hbb
    go_enter Try.func12, Try.ntmps12
    go_wp2_with fail
    rw [unhide HB]
    refine (cbPow_any _ _ (by omega)).mono ?_
    rintro e x1 ⟨rfl, rfl⟩
    rw [Int.toNat_natCast]
    generalize hN : p2 b = N at *
    have HN := hide hN
    clear hN hb8
    go_wp2_with (at_make; refine wpList_make_full _ rfl _ _ 41 rfl x1.heap.size 4 i0 (.bool false) 1 Try.underlying41 hi hz0 hz1 .i64 .i64 _ _ N rfl rfl rfl rfl (by rw [hz2]; omega) (by unfold maxLen; omega) (by simp) ?_; intro w1 hown hgrow)
    have hrow0 : SeenRow w1 x1.heap.size N b 0 := seen_of (by rw [made_bool] at hown; exact hown)
    have hbel0 : Below x1.heap.size x1 w1 := (Below.refl _ _).grown hgrow (Nat.le_refl _) (fun k h => by cases h)
    clear hown hgrow hi hz0 hz1 hz2
    go_loopw [5, 6] (fun n _ wr => ∃ i : Nat, i ≤ N ∧ n = .int .i64 i ∧ SeenRow wr x1.heap.size N b i ∧ Below x1.heap.size x1 wr) (fun n _ _ => N - (intOf n).toNat)
    case atStart => exact ⟨0, Nat.zero_le _, rfl, hrow0, hbel0⟩
    case round =>
      obtain ⟨i, hiN, rfl, hrow, hbel⟩ := hrel
      clear hrow0 hbel0
      by_cases hlt : i < N
      · have hpk : pOk (i : Int) (b : Int) = true := by
          rw [pOk_true]; exact ⟨⟨by omega, by omega⟩, by omega, by rw [Int.toNat_natCast, unhide HN]; omega⟩
        have hbt : Hid (btI (i : Int) (b : Int) = ((rv b i : Nat) : Int)) := btI_yes hpk
        have hrl : rv b i < N := by have h := rv_lt b i; have h2 : 2 ^ b = N := unhide HN; omega
        have hnew := seenB_new b i (by have h2 : 2 ^ b = N := unhide HN; omega)
        obtain ⟨hcell, hfroz⟩ := hrow.1 (rv b i) hrl
        rw [hnew] at hcell
        have hset := hrow.set
        generalize rv b i = r at *
        clear hnew hpk
        go_wp2_with fail
        refine (cbPow_any _ _ (by omega)).mono ?_
        rintro e x2 ⟨rfl, rfl⟩
        rw [Int.toNat_natCast, unhide HN]
        go_wp2_with fail
        refine (implBitsTurn_any _ _ _).mono ?_
        rintro e x3 ⟨rfl, hb3⟩
        rw [unhide hbt]
        go_wp2_with fail
        refine (specBitsTurn_any _ _ _).mono ?_
        rintro e x4 ⟨rfl, hb4⟩
        rw [unhide hbt]
        have hc4 : x4.cell? ⟨x1.heap.size, r, none⟩ = some (.bool false) := ((bnext hb3 hb4).cell (p := ⟨x1.heap.size, r, none⟩) hrow.2).trans hcell
        have hf4 : x4.frozen? ⟨x1.heap.size, r, none⟩ = false := ((bnext hb3 hb4).frozen (p := ⟨x1.heap.size, r, none⟩) hrow.2).trans hfroz
        have hset4 : SeenRow (x4.setCell ⟨x1.heap.size, r, none⟩ (.bool true)) x1.heap.size N b (i + 1) := hset4_of (bnext hb3 hb4) hrow hset
        have hbel4 := below_set (o := r) (hbel.trans ((bnext hb3 hb4).mono hbel.size)) (Nat.le_refl _) (.bool true)
        clear hcell hfroz hset hrow hb3 hb4 hbel
        go_wp2
        go_roundw
        case rel => exact ⟨i + 1, by omega, by go_num, hset4, hbel4⟩
        case measure => simp [intOf]; omega
      · have hno : Hid (btI (N : Int) (b : Int) = -1) := btI_no (by
          rw [← Bool.not_eq_true, pOk_true, Int.toNat_natCast, unhide HN]; omega)
        go_wp2_with fail
        refine (cbPow_any _ _ (by omega)).mono ?_
        rintro e x2 ⟨rfl, rfl⟩
        rw [Int.toNat_natCast, unhide HN]
        go_wp2_with fail
        refine (cbPow_any _ _ (by omega)).mono ?_
        rintro e x3 ⟨rfl, rfl⟩
        rw [Int.toNat_natCast, unhide HN]
        go_wp2_with fail
        refine (implBitsTurn_any _ _ _).mono ?_
        rintro e x4 ⟨rfl, hb4⟩
        rw [unhide hno]
        go_wp2
        go_ret
        exact ⟨rfl, hbel.trans (hb4.mono hbel.size)⟩
  · go_enter Try.func12, Try.ntmps12
    go_wp2
    go_ret
    exact ⟨rfl, Below.refl _ _⟩

end Go.Proofs.Ytmhpfnknamimbaa
