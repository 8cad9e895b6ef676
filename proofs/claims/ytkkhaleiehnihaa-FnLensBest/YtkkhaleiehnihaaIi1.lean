/- Rows of ints: what a law copies, holds against each other, marks and holds, over this seat's program. -/
import Derived.Test.YtkkhaleiehnihaaRd2
import Derived.Test.YtkkhaleiehnihaaMem
import Derived.Laws.IdiomStrings
import Derived.Laws.OwnMore
namespace Go.Proofs.Ytkkhaleiehnihaa
open Go.RowKit

theorem Try.infoInt : (Try.prog.info? 3).map (fun i => (i.zero, i.size, i.bytes)) = some (some (.int .i64 0), 1, 8) := by kernel_rfl
theorem take_snocI (l : List Int) (k : Nat) (h : k < l.length) : l.take (k + 1) = l.take k ++ [l.getD k 0] := by
  rw [List.take_succ_eq_append_getElem h]
  congr 1
  simp [List.getD, h]
/-- A row of ints. -/
def IRow (w : World) (a : Option Addr) (l : List Int) : Prop :=
  0 < l.length → ∃ g o, a = some ⟨g, o, none⟩ ∧ g < w.heap.size ∧ ∀ i, i < l.length → w.cell? ⟨g, o + i, none⟩ = some (.int .i64 (l.getD i 0))
theorem IRow.below {w w' : World} {a : Option Addr} {l : List Int} {B : Nat} (h : IRow w a l) (hB : w.heap.size ≤ B) (hb : Below B w w') : IRow w' a l := by
  intro h0
  obtain ⟨g, o, e, hg, hc⟩ := h h0
  exact ⟨g, o, e, Nat.lt_of_lt_of_le hg hb.size, fun i hi => by rw [← hc i hi]; exact hb.cell (p := ⟨g, o + i, none⟩) (by show g < B; omega)⟩
theorem IRow.later {w w' : World} {a : Option Addr} {l : List Int} (h : IRow w a l) (hb : Below w.heap.size w w') : IRow w' a l := h.below (Nat.le_refl _) hb

/-- A row of ints of the call's own. -/
def IOwn (w : World) (base : Nat) (v : Value) (l : List Int) : Prop := w.ownsRow base 3 1 v l.length (l.map (Value.int .i64))
theorem IOwn.form {w : World} {base : Nat} {v : Value} {l : List Int} (h : IOwn w base v l) : ∃ a cap, v = .slice a l.length cap := by
  rcases h.2 with ⟨e, h0⟩ | ⟨g, cap, _, e, _⟩
  · exact ⟨none, 0, by rw [e, h0]⟩
  · exact ⟨_, cap, e⟩
theorem IOwn.row {w : World} {base : Nat} {a : Option Addr} {cap : Nat} {l : List Int} (h : IOwn w base (.slice a l.length cap) l) : IRow w a l := by
  intro h0
  rcases h.2 with ⟨e, hn⟩ | ⟨g, cap', cur, e, hb, hg, _⟩
  · omega
  · simp only [Value.slice.injEq] at e
    obtain ⟨rfl, _, rfl⟩ := e
    refine ⟨g, 0, rfl, (Array.getElem?_eq_some_iff.1 hg).1, fun i hi => ?_⟩
    have := World.ownsRow.cells h (g := g) rfl i (.int .i64 (l.getD i 0)) (by simp [List.getD, hi])
    have hadd : (⟨g, 0, none⟩ : Addr).add i = ⟨g, i, none⟩ := by unfold Addr.add; split <;> simp_all
    rw [hadd] at this
    rw [Nat.zero_add]
    exact this
theorem IOwn.later {w w' : World} {base B : Nat} {v : Value} {l : List Int} (h : IOwn w base v l) (hb : Below B w w') (hB : w.heap.size ≤ B) : IOwn w' base v l := by
  refine ⟨h.1, ?_⟩
  rcases h.2 with hn | ⟨g, cap, cur, rfl, hbg, hgg, rest⟩
  · exact .inl hn
  · refine .inr ⟨g, cap, cur, rfl, hbg, ?_, rest⟩
    have hg := (Array.getElem?_eq_some_iff.1 hgg).1
    rw [hb.block g (by omega)]
    exact hgg
theorem IOwn.lit (w : World) (base : Nat) (hb : base ≤ w.heap.size) : IOwn (w.alloc (.cells #[] 3)) base (.slice (some ⟨w.heap.size, 0, none⟩) 0 0) [] :=
  World.ownsRow_lit w #[] 0 hb (by unfold maxLen; omega) rfl
theorem IOwn.nil (w : World) (base : Nat) : IOwn w base (.slice none 0 0) [] := World.ownsRow_nil _ _ _ _
theorem iown_snoc {x : World} {base : Nat} {v : Value} {l : List Int} {a : Int} (h : x.ownsRow base 3 1 v (l.length + 1) (l.map (Value.int .i64) ++ [.int .i64 a])) : IOwn x base v (l ++ [a]) := by
  unfold IOwn
  simpa using h
theorem IOwn.mono {w : World} {base base' : Nat} {v : Value} {l : List Int} (h : IOwn w base v l) (hb : base' ≤ base) : IOwn w base' v l := by
  refine ⟨h.1, ?_⟩
  rcases h.2 with hn | ⟨g, cap, cur, rfl, hbg, rest⟩
  · exact .inl hn
  · exact .inr ⟨g, cap, cur, rfl, by omega, rest⟩

theorem grown_step {x y y' : World} {o : Obj} {v : Value} {e : TypeId} {size n B base : Nat} {xs : List Value} (hg : (y.alloc o).grownBy y' v.ownBlock) (ho : y.ownsRow base e size v n xs) (hbb : B ≤ base) (hy : B ≤ y.heap.size) (hb : Below B x y) : Below B x y' :=
  (hb.alloc hy _).grown hg (by simp; omega) (fun j hj => Nat.le_trans hbb (World.ownsRow.lt (ho.alloc o) j hj).1)

theorem IOwn.rowN {w : World} {base n : Nat} {a : Option Addr} {cap : Nat} {l : List Int} (hn : l.length = n) (h : IOwn w base (.slice a n cap) l) : IRow w a l := by
  subst hn
  exact h.row
theorem IOwn.formN {w : World} {base n : Nat} {v : Value} {l : List Int} (hn : l.length = n) (h : IOwn w base v l) : ∃ a cap, v = .slice a n cap := by
  subst hn
  exact h.form
theorem IOwn.own {w : World} {base n : Nat} {v : Value} {l : List Int} (hn : l.length = n) (h : IOwn w base v l) : w.ownsRow base 3 1 v n (l.map (Value.int .i64)) := by
  subst hn
  exact h
theorem iown_snocN {x : World} {base n : Nat} {v : Value} {l : List Int} {a : Int} (hn : l.length = n) (h : x.ownsRow base 3 1 v (n + 1) (l.map (Value.int .i64) ++ [.int .i64 a])) : IOwn x base v (l ++ [a]) := by
  subst hn
  exact iown_snoc h

theorem irow_of {w : World} {a : Option Addr} {len cap : Nat} {zs : List Int} (h : IsRow .i64 w a len cap zs) : ∃ l : List Int, IRow w a l ∧ l.length = len ∧ len ≤ maxLen := by
  rcases h with ⟨rfl, rfl, rfl, rfl⟩ | ⟨x, rfl, hl, hm, hz, hc, _⟩
  · exact ⟨[], fun h => absurd h (by simp), rfl, by unfold maxLen; omega⟩
  · refine ⟨zs.take len, fun h0 => ?_, by simp; omega, by omega⟩
    have hlen : (zs.take len).length = len := by simp; omega
    rw [hlen] at h0 ⊢
    obtain ⟨b, off, spot⟩ := x
    have hc0 := hc 0 (by omega)
    have hspot : spot = none := by simpa [Addr.add] using World.cell?_spot hc0
    subst hspot
    refine ⟨b, off, rfl, ?_, fun i hi => ?_⟩
    · have := World.block_lt_of_cell? _ _ hc0
      simpa [Addr.add] using this
    · have h1 := hc i (by omega)
      have h2 : (zs.take len).getD i 0 = zs.getD i 0 := by simp [List.getD, hi]
      rw [h2]
      by_cases e : i = 0
      · subst e; simpa [Addr.add] using h1
      · simpa [Addr.add, e] using h1

theorem IOwn.put {w : World} {base g cap n j : Nat} {l : List Int} (hn : l.length = n) (h : IOwn w base (.slice (some ⟨g, 0, none⟩) n cap) l) (x : Int) :
    IOwn (w.setCell ⟨g, j, none⟩ (.int .i64 x)) base (.slice (some ⟨g, 0, none⟩) n cap) (l.set j x) := by
  subst hn
  have := World.ownsRow.stored h j (.int .i64 x)
  show World.ownsRow _ _ _ _ _ (l.set j x).length ((l.set j x).map (Value.int .i64))
  rw [List.length_set]
  have e : (l.set j x).map (Value.int .i64) = (l.map (Value.int .i64)).set j (.int .i64 x) := by simp [List.map_set]
  rw [e]
  exact this.1
theorem IOwn.at {w : World} {base g cap n j : Nat} {l : List Int} (hn : l.length = n) (h : IOwn w base (.slice (some ⟨g, 0, none⟩) n cap) l) (hj : j < n) :
    w.cell? ⟨g, j, none⟩ = some (.int .i64 (l.getD j 0)) ∧ w.frozen? ⟨g, j, none⟩ = false ∧ base ≤ g ∧ g < w.heap.size := by
  subst hn
  refine ⟨?_, World.ownsRow.frozenAt h j, World.ownsRow.lt h g rfl⟩
  rw [World.ownsRow.cellAt h j (by omega)]
  simp [hj, List.getD]
theorem IOwn.somes {w : World} {base cap n : Nat} {a : Option Addr} {l : List Int} (h : IOwn w base (.slice a n cap) l) (hl : 0 < l.length) : ∃ g, a = some ⟨g, 0, none⟩ := by
  rcases h.2 with ⟨_, e⟩ | ⟨g, cap', cur, e, _⟩
  · omega
  · simp only [Value.slice.injEq] at e
    exact ⟨g, e.1⟩
theorem IOwn.below {w : World} {base cap n g : Nat} {l : List Int} (h : IOwn w base (.slice (some ⟨g, 0, none⟩) n cap) l) : base ≤ g ∧ g < w.heap.size := World.ownsRow.lt h g rfl

/-- What changes only where a row lies. -/
def Touch (a : Option Addr) (w w' : World) : Prop := w'.heap.size = w.heap.size ∧ ∀ j, (∀ g, a = some ⟨g, 0, none⟩ → j ≠ g) → w'.heap[j]? = w.heap[j]?
theorem Touch.refl (a : Option Addr) (w : World) : Touch a w w := ⟨rfl, fun _ _ => rfl⟩
theorem Touch.set {a : Option Addr} {w w' : World} {g o : Nat} (h : Touch a w w') (ha : a = some ⟨g, 0, none⟩) (u : Value) : Touch a w (w'.setCell ⟨g, o, none⟩ u) :=
  ⟨by simpa using h.1, fun j hj => (Below.heap_setCell w' ⟨g, o, none⟩ u j (hj g ha)).trans (h.2 j hj)⟩
theorem IOwn.touch {w w' : World} {a : Option Addr} {base : Nat} {v : Value} {l : List Int} (h : IOwn w base v l) (ht : Touch a w w') (hne : ∀ g, a = some ⟨g, 0, none⟩ → g < base) : IOwn w' base v l := by
  refine ⟨h.1, ?_⟩
  rcases h.2 with hn | ⟨g, cap, cur, rfl, hbg, hgg, rest⟩
  · exact .inl hn
  · refine .inr ⟨g, cap, cur, rfl, hbg, ?_, rest⟩
    rw [ht.2 g (fun g' e => by have := hne g' e; omega)]
    exact hgg

def ups (k : Int) (n : Nat) : List Int := (List.range n).map fun i => k + (i : Nat)
theorem ups_len (k : Int) (n : Nat) : (ups k n).length = n := by simp [ups]
theorem ups_get (k : Int) (n i : Nat) (h : i < n) : (ups k n).getD i 0 = k + (i : Nat) := by simp [ups, List.getD, h]
theorem ups_step (k : Int) (l : List Int) (j : Nat) (h : j < l.length) : (ups k j ++ l.drop j).set j (k + (j : Nat)) = ups k (j + 1) ++ l.drop (j + 1) := by
  rw [List.set_append_right _ _ (by rw [ups_len]; exact Nat.le_refl _), ups_len, Nat.sub_self]
  have h1 : l.drop j = l[j] :: l.drop (j + 1) := List.drop_eq_getElem_cons h
  rw [h1, List.set_cons_zero]
  simp [ups, List.range_succ]
theorem copy_step (l : List Int) (j : Nat) (h : j < l.length) : (l.take j ++ List.replicate (l.length - j) 0).set j (l.getD j 0) = l.take (j + 1) ++ List.replicate (l.length - (j + 1)) 0 := by
  have hl : (l.take j).length = j := by simp; omega
  rw [List.set_append_right _ _ (by omega), hl, Nat.sub_self, take_snocI l j h]
  rw [show l.length - j = (l.length - (j + 1)) + 1 by omega, List.replicate_succ, List.set_cons_zero]
  simp

set_option maxHeartbeats 800000 in
theorem toIntS_any (a : Option Addr) (cap n : Nat) (l : List Int) (w : World) (hn : l.length = n) (h : IRow w a l) (hm : n ≤ 1048576) :
    Calls Try.prog 10 #[.slice a n cap] w fun e w' => e = .returned (.slice (some ⟨w.heap.size, 0, none⟩) n n) ∧ IOwn w' w.heap.size (.slice (some ⟨w.heap.size, 0, none⟩) n n) l ∧ Below w.heap.size w w' := by
  have hm' : (n : Int) ≤ 1048576 := by omega
  obtain ⟨i0, hi, hz0, hz1, hz2⟩ := info_parts Try.infoInt
  have Hn := hide hn
  go_enter Try.func10, Try.ntmps10
  go_wp2_with (at_make; refine wpList_make_full _ rfl _ _ 22 rfl w.heap.size 3 i0 (.int .i64 0) 1 Try.underlying22 hi hz0 hz1 .i64 .i64 _ _ n rfl rfl rfl rfl (by rw [hz2]; omega) (by unfold maxLen; omega) (Nat.le_refl _) ?_; intro w1 hown hgrow)
  have hp0 : IOwn w1 w.heap.size (.slice (some ⟨w.heap.size, 0, none⟩) n n) (l.take 0 ++ List.replicate (l.length - 0) 0) := by
    have e : (madeCells (Value.int .i64 0).cells (n * 1)).toList = (l.take 0 ++ List.replicate (l.length - 0) (0 : Int)).map (Value.int .i64) := by
      rw [hn]
      apply List.ext_getElem
      · simp [madeCells]
      · intro i h1 h2
        simp [madeCells, Value.cells, Nat.mod_one]
    have e2 : (l.take 0 ++ List.replicate (l.length - 0) (0 : Int)).length = n := by simp [hn]
    show World.ownsRow _ _ _ _ _ (l.take 0 ++ List.replicate (l.length - 0) (0 : Int)).length _
    rw [e2, ← e]
    exact hown
  have hb0 : Below w.heap.size w w1 := (Below.refl _ _).grown hgrow (Nat.le_refl _) (fun k h => by cases h)
  clear hown hgrow hi hz0 hz1 hz2 hm hn
  go_loopw [4] (fun i wr => ∃ k : Nat, k ≤ n ∧ i = .int .i64 k ∧ IOwn wr w.heap.size (.slice (some ⟨w.heap.size, 0, none⟩) n n) (l.take k ++ List.replicate (l.length - k) 0) ∧ Below w.heap.size w wr) (fun i _ => n - (intOf i).toNat)
  case atStart => exact ⟨0, Nat.zero_le _, rfl, hp0, hb0⟩
  case round =>
    obtain ⟨k, hk, rfl, hp, hbel⟩ := hrel
    clear hp0 hb0
    have hlen : Hid ((l.take k ++ List.replicate (l.length - k) (0 : Int)).length = n) := by
      show (l.take k ++ List.replicate (l.length - k) (0 : Int)).length = n
      have := unhide Hn
      simp; omega
    by_cases hlt : k < n
    · obtain ⟨g, o, rfl, hg, hc⟩ := (h.later hbel) (by rw [unhide Hn]; omega)
      have c0 := hc k (by rw [unhide Hn]; exact hlt)
      have hst := copy_step l k (by rw [unhide Hn]; exact hlt)
      have hput := hp.put (j := k) (unhide hlen) (l.getD k 0)
      rw [hst] at hput
      obtain ⟨d0, f0, _, _⟩ := hp.at (unhide hlen) hlt
      have HK := hide hk
      have Hput := hide hput
      clear hc h hk hput hst hp
      generalize l.getD k 0 = x at *
      generalize (l.take k ++ List.replicate (l.length - k) (0 : Int)).getD k 0 = y at *
      go_wp2
      go_roundw
      case rel => exact ⟨k + 1, by omega, by go_num, unhide Hput, below_set hbel (Nat.le_refl _) _⟩
      case measure => simp [intOf]; omega
    · have hkl : k = n := by omega
      have e : l.take k ++ List.replicate (l.length - k) (0 : Int) = l := by
        have := unhide Hn
        rw [List.take_of_length_le (by omega), show l.length - k = 0 by omega]; simp
      rw [e] at hp
      clear e hlen
      go_wp2
      go_ret
      exact ⟨rfl, hp, hbel⟩

set_option maxHeartbeats 800000 in
theorem eqIntS_same (a b : Option Addr) (c d n : Nat) (l : List Int) (w : World) (hn : l.length = n) (ha : IRow w a l) (hb : IRow w b l) (hl : n ≤ 2000000) :
    Calls Try.prog 12 #[.slice a n c, .slice b n d] w fun e w' => e = .returned (.bool true) ∧ Below w.heap.size w w' := by
  subst hn
  have hlI : (l.length : Int) ≤ 2000000 := by omega
  clear hl
  go_enter Try.func12, Try.ntmps12
  go_wp2_with fail
  go_loopw [5] (fun i wr => ∃ k : Nat, k ≤ l.length ∧ i = .int .i64 k ∧ Below w.heap.size w wr) (fun i _ => l.length - (intOf i).toNat)
  case atStart => exact ⟨0, Nat.zero_le _, rfl, Below.refl _ _⟩
  case round =>
    obtain ⟨k, hk, rfl, hbel⟩ := hrel
    have HK := hide hk
    by_cases hlt : k < l.length
    · obtain ⟨g, o, rfl, hg, hc⟩ := (ha.later hbel) (by omega)
      obtain ⟨g', o', rfl, hg', hc'⟩ := (hb.later hbel) (by omega)
      have c0 := hc k hlt
      have c1 := hc' k hlt
      clear hc hc' hk ha hb
      generalize l.getD k 0 = y at *
      go_wp2
      go_quiet (fail)
      go_wp2
      go_roundw
      case rel => exact ⟨k + 1, by omega, by go_num, below_drewN hbel _⟩
      case measure => simp [intOf]; omega
    · clear ha hb
      go_wp2
      go_ret
      exact ⟨rfl, hbel⟩

set_option maxHeartbeats 800000 in
theorem markIntS_any (a : Option Addr) (cap n base : Nat) (l : List Int) (w : World) (hn : l.length = n) (h : IOwn w base (.slice a n cap) l) (hm : n ≤ 2000000) :
    Calls Try.prog 13 #[.slice a n cap, .int .i64 1] w fun e w' => e = .returned (.int .i64 (1 + (n : Int))) ∧ IOwn w' base (.slice a n cap) (ups 1 n) ∧ Below base w w' ∧ Touch a w w' := by
  have hm' : (n : Int) ≤ 2000000 := by omega
  have Hn := hide hn
  clear hn hm
  go_enter Try.func13, Try.ntmps13
  go_wp2_with fail
  go_loopw [1, 5] (fun m i wr => ∃ k : Nat, k ≤ n ∧ i = .int .i64 k ∧ m = .int .i64 (1 + (k : Int)) ∧ IOwn wr base (.slice a n cap) (ups 1 k ++ l.drop k) ∧ Below base w wr ∧ Touch a w wr) (fun _ i _ => n - (intOf i).toNat)
  case atStart => exact ⟨0, Nat.zero_le _, rfl, rfl, h, Below.refl _ _, Touch.refl _ _⟩
  case round =>
    obtain ⟨k, hk, rfl, rfl, hp, hbel, htch⟩ := hrel
    clear h
    have hlen : Hid ((ups 1 k ++ l.drop k).length = n) := by
      show (ups 1 k ++ l.drop k).length = n
      have := unhide Hn
      rw [List.length_append, ups_len, List.length_drop]; omega
    by_cases hlt : k < n
    · obtain ⟨g, rfl⟩ := hp.somes (by rw [unhide hlen]; omega)
      have hput := hp.put (j := k) (unhide hlen) (1 + (k : Nat))
      rw [ups_step 1 l k (by rw [unhide Hn]; exact hlt)] at hput
      obtain ⟨d0, f0, hbg, _⟩ := hp.at (unhide hlen) hlt
      have hbel2 := below_set hbel (b := g) (o := k) hbg (.int .i64 (1 + (k : Nat)))
      have htch2 := htch.set (o := k) rfl (.int .i64 (1 + (k : Nat)))
      have HK := hide hk
      have Hput := hide hput
      clear hk hput hp hbel htch hbg
      generalize (ups 1 k ++ l.drop k).getD k 0 = y at *
      go_wp2
      go_roundw
      case rel => exact ⟨k + 1, by omega, by go_num, by go_num, unhide Hput, hbel2, htch2⟩
      case measure => simp [intOf]; omega
    · have hkl : k = n := by omega
      subst hkl
      have e : ups 1 k ++ l.drop k = ups 1 k := by
        have := unhide Hn
        rw [List.drop_of_length_le (by omega)]; simp
      rw [e] at hp
      clear e hlen
      go_wp2
      go_ret
      exact ⟨rfl, hp, hbel, htch⟩

set_option maxHeartbeats 800000 in
theorem heldIntS_any (a : Option Addr) (cap n : Nat) (w : World) (h : IRow w a (ups 1 n)) (hm : n ≤ 2000000) :
    Calls Try.prog 14 #[.slice a n cap, .int .i64 1] w fun e w' => e = .returned (.int .i64 (1 + (n : Int))) ∧ Below w.heap.size w w' := by
  have hm' : (n : Int) ≤ 2000000 := by omega
  clear hm
  go_enter Try.func14, Try.ntmps14
  go_wp2_with fail
  go_loopw [1, 5] (fun m i wr => ∃ k : Nat, k ≤ n ∧ i = .int .i64 k ∧ m = .int .i64 (1 + (k : Int)) ∧ Below w.heap.size w wr) (fun _ i _ => n - (intOf i).toNat)
  case atStart => exact ⟨0, Nat.zero_le _, rfl, rfl, Below.refl _ _⟩
  case round =>
    obtain ⟨k, hk, rfl, rfl, hbel⟩ := hrel
    by_cases hlt : k < n
    · obtain ⟨g, o, rfl, hg, hc⟩ := (h.later hbel) (by rw [ups_len]; omega)
      have c0 := hc k (by rw [ups_len]; exact hlt)
      rw [ups_get 1 n k hlt] at c0
      have HK := hide hk
      clear hc h hk
      go_wp2
      go_roundw
      case rel => exact ⟨k + 1, by omega, by go_num, by go_num, hbel⟩
      case measure => simp [intOf]; omega
    · have hkl : k = n := by omega
      subst hkl
      clear h
      go_wp2
      go_ret
      exact ⟨rfl, hbel⟩

/-- Rows of other elements lie apart. -/
theorem type_apart {w : World} {b1 b2 e1 e2 s1 s2 n1 n2 : Nat} {v1 v2 : Value} {x1 x2 : List Value} (h1 : w.ownsRow b1 e1 s1 v1 n1 x1) (h2 : w.ownsRow b2 e2 s2 v2 n2 x2) (he : e1 ≠ e2) : v1.ownBlock = none ∨ v1.ownBlock ≠ v2.ownBlock := by
  rcases h1.2 with ⟨rfl, _⟩ | ⟨g, cap, cur, rfl, _, hg, _⟩
  · exact .inl rfl
  · refine .inr ?_
    rcases h2.2 with ⟨rfl, _⟩ | ⟨g', cap', cur', rfl, _, hg', _⟩
    · simp [Value.ownBlock]
    · simp only [Value.ownBlock, ne_eq, Option.some.injEq]
      rintro rfl
      rw [hg] at hg'
      simp only [Option.some.injEq, Obj.cells.injEq] at hg'
      exact he hg'.2.1
theorem snoc_len {α : Type} {l : List α} {x : α} {n : Nat} (h : l.length = n) : (l ++ [x]).length = n + 1 := by simp [h]
theorem size_alloc_le {B : Nat} {w : World} (h : B ≤ w.heap.size) (o : Obj) : B ≤ (w.alloc o).heap.size := by simp; omega
theorem copy_below {x x' : World} {t : TypeId} {c : Nat} (hg : (x.alloc (.cells #[] t)).grownBy x' (Value.slice (some ⟨x.heap.size, 0, none⟩) 0 c).ownBlock) : Below x.heap.size x x' :=
  ((Below.refl _ _).alloc (Nat.le_refl _) _).grown hg (by simp) (fun k h => by simp [Value.ownBlock] at h; omega)
theorem own_below {x y y' : World} {o : Obj} {v : Value} {e : TypeId} {size n : Nat} {xs : List Value} (hg : (y.alloc o).grownBy y' v.ownBlock) (ho : (y.alloc o).ownsRow x.heap.size e size v n xs) (hb : Below x.heap.size x y) : Below x.heap.size x y' :=
  (hb.alloc hb.size _).grown hg (by have := hb.size; simp; omega) (fun k h => (ho.lt k h).1)
theorem one_new (W : World) (g : Nat) (hg : W.heap.size = g) (x : Value) (t : TypeId) : ∀ (j : Nat) (u : Value), [x][j]? = some u → (W.alloc (.cells #[x] t)).cell? ((⟨g, 0, none⟩ : Addr).add j) = some u := by
  subst hg
  intro j u hj
  match j, hj with
  | 0, hj => simp at hj; subst hj; simp [Addr.add]
theorem one_int (x : Int) : ∀ u ∈ [Value.int .i64 x], u.oneCell' = true := by
  intro u hu
  simp at hu
  subst hu
  rfl
theorem made_ints {w1 : World} {base g n : Nat} (h : w1.ownsRow base 3 1 (.slice (some ⟨g, 0, none⟩) n n) n (madeCells (Value.int .i64 0).cells (n * 1)).toList) : IOwn w1 base (.slice (some ⟨g, 0, none⟩) n n) (List.replicate n 0) := by
  have e : (madeCells (Value.int .i64 0).cells (n * 1)).toList = (List.replicate n (0 : Int)).map (Value.int .i64) := by
    apply List.ext_getElem
    · simp [madeCells]
    · intro i h1 h2
      simp [madeCells, Value.cells, Nat.mod_one]
  show World.ownsRow _ _ _ _ _ (List.replicate n (0 : Int)).length _
  rw [List.length_replicate, ← e]
  exact h
theorem IOwn.setOther {w : World} {base g g' o n c : Nat} {l : List Int} (h : IOwn w base (.slice (some ⟨g, 0, none⟩) n c) l) (hg : g' ≠ g) (u : Value) : IOwn (w.setCell ⟨g', o, none⟩ u) base (.slice (some ⟨g, 0, none⟩) n c) l := by
  refine ⟨h.1, ?_⟩
  rcases h.2 with hn | ⟨g1, cap, cur, e, hbg, hgg, rest⟩
  · exact .inl hn
  · refine .inr ⟨g1, cap, cur, e, hbg, ?_, rest⟩
    simp only [Value.slice.injEq, Option.some.injEq, Addr.mk.injEq, and_true] at e
    rw [Below.heap_setCell w ⟨g', o, none⟩ u g1 (by show g1 ≠ g'; omega)]
    exact hgg
theorem IOwn.under {w w' : World} {base B g n c : Nat} {l : List Int} (h : IOwn w base (.slice (some ⟨g, 0, none⟩) n c) l) (hb : Below B w w') (hg : g < B) : IOwn w' base (.slice (some ⟨g, 0, none⟩) n c) l := by
  refine ⟨h.1, ?_⟩
  rcases h.2 with hn | ⟨g1, cap, cur, e, hbg, hgg, rest⟩
  · exact .inl hn
  · refine .inr ⟨g1, cap, cur, e, hbg, ?_, rest⟩
    simp only [Value.slice.injEq, Option.some.injEq, Addr.mk.injEq, and_true] at e
    rw [hb.block g1 (by omega)]
    exact hgg
theorem IOwn.setUnder {w : World} {base b o : Nat} {v : Value} {l : List Int} (h : IOwn w base v l) (hb : b < base) (u : Value) : IOwn (w.setCell ⟨b, o, none⟩ u) base v l :=
  ownsRow_setCell_below h (a := ⟨b, o, none⟩) hb u

end Go.Proofs.Ytkkhaleiehnihaa
