/- Of what the proof is made: 9 texts, one behind the other. -/
import Derived.Test.YtnomiopdpmecbaaM4
import Derived.Test.YtnomiopdpmecbaaM3
import Derived.Laws.IdiomStrings
import Derived.Laws.OwnMore
import Derived.Deep.RegionWith
/- Rows of ints: what a law copies, holds against each other, marks and holds, over this seat's program. -/
namespace Go.Proofs.Ytnomiopdpmecbaa
open Go.RowKit

theorem Try.infoInt : (Try.prog.info? 3).map (fun i => (i.zero, i.size, i.bytes)) = some (some (.int .i64 0), 1, 8) := by kernel_rfl
theorem take_snocI (l : List Int) (k : Nat) (h : k < l.length) : l.take (k + 1) = l.take k ++ [l.getD k 0] := by
  rw [List.take_succ_eq_append_getElem h]
  congr 1
  simp [List.getD, h]
/-- A row of ints. -/
def IRow (w : World) (a : Option Addr) (l : List Int) : Prop :=
  0 < l.length → ∃ g o, a = some ⟨g, o, none⟩ ∧ g < w.heap.size ∧ ∀ i, i < l.length → w.cell? ⟨g, o + i, none⟩ = some (.int .i64 (l.getD i 0))
theorem IRow.below {w w' : World} {a : Option Addr} {l : List Int} {B : Nat} (h : IRow w a l) (hB : w.heap.size ≤ B) (hb : Below B w w') : IRow w' a l := by
  intro h0
  obtain ⟨g, o, e, hg, hc⟩ := h h0
  exact ⟨g, o, e, Nat.lt_of_lt_of_le hg hb.size, fun i hi => by rw [← hc i hi]; exact hb.cell (p := ⟨g, o + i, none⟩) (by show g < B; omega)⟩
theorem IRow.later {w w' : World} {a : Option Addr} {l : List Int} (h : IRow w a l) (hb : Below w.heap.size w w') : IRow w' a l := h.below (Nat.le_refl _) hb

/-- A row of ints of the call's own. -/
def IOwn (w : World) (base : Nat) (v : Value) (l : List Int) : Prop := w.ownsRow base 3 1 v l.length (l.map (Value.int .i64))
theorem IOwn.form {w : World} {base : Nat} {v : Value} {l : List Int} (h : IOwn w base v l) : ∃ a cap, v = .slice a l.length cap := by
  rcases h.2 with ⟨e, h0⟩ | ⟨g, cap, _, e, _⟩
  · exact ⟨none, 0, by rw [e, h0]⟩
  · exact ⟨_, cap, e⟩
theorem IOwn.row {w : World} {base : Nat} {a : Option Addr} {cap : Nat} {l : List Int} (h : IOwn w base (.slice a l.length cap) l) : IRow w a l := by
  intro h0
  rcases h.2 with ⟨e, hn⟩ | ⟨g, cap', cur, e, hb, hg, _⟩
  · omega
  · simp only [Value.slice.injEq] at e
    obtain ⟨rfl, _, rfl⟩ := e
    refine ⟨g, 0, rfl, (Array.getElem?_eq_some_iff.1 hg).1, fun i hi => ?_⟩
    have := World.ownsRow.cells h (g := g) rfl i (.int .i64 (l.getD i 0)) (by simp [List.getD, hi])
    have hadd : (⟨g, 0, none⟩ : Addr).add i = ⟨g, i, none⟩ := by unfold Addr.add; split <;> simp_all
    rw [hadd] at this
    rw [Nat.zero_add]
    exact this
theorem IOwn.later {w w' : World} {base B : Nat} {v : Value} {l : List Int} (h : IOwn w base v l) (hb : Below B w w') (hB : w.heap.size ≤ B) : IOwn w' base v l := by
  refine ⟨h.1, ?_⟩
  rcases h.2 with hn | ⟨g, cap, cur, rfl, hbg, hgg, rest⟩
  · exact .inl hn
  · refine .inr ⟨g, cap, cur, rfl, hbg, ?_, rest⟩
    have hg := (Array.getElem?_eq_some_iff.1 hgg).1
    rw [hb.block g (by omega)]
    exact hgg
theorem IOwn.lit (w : World) (base : Nat) (hb : base ≤ w.heap.size) : IOwn (w.alloc (.cells #[] 3)) base (.slice (some ⟨w.heap.size, 0, none⟩) 0 0) [] :=
  World.ownsRow_lit w #[] 0 hb (by unfold maxLen; omega) rfl
theorem IOwn.nil (w : World) (base : Nat) : IOwn w base (.slice none 0 0) [] := World.ownsRow_nil _ _ _ _
theorem iown_snoc {x : World} {base : Nat} {v : Value} {l : List Int} {a : Int} (h : x.ownsRow base 3 1 v (l.length + 1) (l.map (Value.int .i64) ++ [.int .i64 a])) : IOwn x base v (l ++ [a]) := by
  unfold IOwn
  simpa using h
theorem IOwn.mono {w : World} {base base' : Nat} {v : Value} {l : List Int} (h : IOwn w base v l) (hb : base' ≤ base) : IOwn w base' v l := by
  refine ⟨h.1, ?_⟩
  rcases h.2 with hn | ⟨g, cap, cur, rfl, hbg, rest⟩
  · exact .inl hn
  · exact .inr ⟨g, cap, cur, rfl, by omega, rest⟩

theorem grown_step {x y y' : World} {o : Obj} {v : Value} {e : TypeId} {size n B base : Nat} {xs : List Value} (hg : (y.alloc o).grownBy y' v.ownBlock) (ho : y.ownsRow base e size v n xs) (hbb : B ≤ base) (hy : B ≤ y.heap.size) (hb : Below B x y) : Below B x y' :=
  (hb.alloc hy _).grown hg (by simp; omega) (fun j hj => Nat.le_trans hbb (World.ownsRow.lt (ho.alloc o) j hj).1)

theorem IOwn.rowN {w : World} {base n : Nat} {a : Option Addr} {cap : Nat} {l : List Int} (hn : l.length = n) (h : IOwn w base (.slice a n cap) l) : IRow w a l := by
  subst hn
  exact h.row
theorem IOwn.formN {w : World} {base n : Nat} {v : Value} {l : List Int} (hn : l.length = n) (h : IOwn w base v l) : ∃ a cap, v = .slice a n cap := by
  subst hn
  exact h.form
theorem IOwn.own {w : World} {base n : Nat} {v : Value} {l : List Int} (hn : l.length = n) (h : IOwn w base v l) : w.ownsRow base 3 1 v n (l.map (Value.int .i64)) := by
  subst hn
  exact h
theorem iown_snocN {x : World} {base n : Nat} {v : Value} {l : List Int} {a : Int} (hn : l.length = n) (h : x.ownsRow base 3 1 v (n + 1) (l.map (Value.int .i64) ++ [.int .i64 a])) : IOwn x base v (l ++ [a]) := by
  subst hn
  exact iown_snoc h

theorem irow_of {w : World} {a : Option Addr} {len cap : Nat} {zs : List Int} (h : IsRow .i64 w a len cap zs) : ∃ l : List Int, IRow w a l ∧ l.length = len ∧ len ≤ maxLen := by
  rcases h with ⟨rfl, rfl, rfl, rfl⟩ | ⟨x, rfl, hl, hm, hz, hc, _⟩
  · exact ⟨[], fun h => absurd h (by simp), rfl, by unfold maxLen; omega⟩
  · refine ⟨zs.take len, fun h0 => ?_, by simp; omega, by omega⟩
    have hlen : (zs.take len).length = len := by simp; omega
    rw [hlen] at h0 ⊢
    obtain ⟨b, off, spot⟩ := x
    have hc0 := hc 0 (by omega)
    have hspot : spot = none := by simpa [Addr.add] using World.cell?_spot hc0
    subst hspot
    refine ⟨b, off, rfl, ?_, fun i hi => ?_⟩
    · have := World.block_lt_of_cell? _ _ hc0
      simpa [Addr.add] using this
    · have h1 := hc i (by omega)
      have h2 : (zs.take len).getD i 0 = zs.getD i 0 := by simp [List.getD, hi]
      rw [h2]
      by_cases e : i = 0
      · subst e; simpa [Addr.add] using h1
      · simpa [Addr.add, e] using h1

theorem IOwn.put {w : World} {base g cap n j : Nat} {l : List Int} (hn : l.length = n) (h : IOwn w base (.slice (some ⟨g, 0, none⟩) n cap) l) (x : Int) :
    IOwn (w.setCell ⟨g, j, none⟩ (.int .i64 x)) base (.slice (some ⟨g, 0, none⟩) n cap) (l.set j x) := by
  subst hn
  have := World.ownsRow.stored h j (.int .i64 x)
  show World.ownsRow _ _ _ _ _ (l.set j x).length ((l.set j x).map (Value.int .i64))
  rw [List.length_set]
  have e : (l.set j x).map (Value.int .i64) = (l.map (Value.int .i64)).set j (.int .i64 x) := by simp [List.map_set]
  rw [e]
  exact this.1
theorem IOwn.at {w : World} {base g cap n j : Nat} {l : List Int} (hn : l.length = n) (h : IOwn w base (.slice (some ⟨g, 0, none⟩) n cap) l) (hj : j < n) :
    w.cell? ⟨g, j, none⟩ = some (.int .i64 (l.getD j 0)) ∧ w.frozen? ⟨g, j, none⟩ = false ∧ base ≤ g ∧ g < w.heap.size := by
  subst hn
  refine ⟨?_, World.ownsRow.frozenAt h j, World.ownsRow.lt h g rfl⟩
  rw [World.ownsRow.cellAt h j (by omega)]
  simp [hj, List.getD]
theorem IOwn.somes {w : World} {base cap n : Nat} {a : Option Addr} {l : List Int} (h : IOwn w base (.slice a n cap) l) (hl : 0 < l.length) : ∃ g, a = some ⟨g, 0, none⟩ := by
  rcases h.2 with ⟨_, e⟩ | ⟨g, cap', cur, e, _⟩
  · omega
  · simp only [Value.slice.injEq] at e
    exact ⟨g, e.1⟩
theorem IOwn.below {w : World} {base cap n g : Nat} {l : List Int} (h : IOwn w base (.slice (some ⟨g, 0, none⟩) n cap) l) : base ≤ g ∧ g < w.heap.size := World.ownsRow.lt h g rfl

/-- What changes only where a row lies. -/
def Touch (a : Option Addr) (w w' : World) : Prop := w'.heap.size = w.heap.size ∧ ∀ j, (∀ g, a = some ⟨g, 0, none⟩ → j ≠ g) → w'.heap[j]? = w.heap[j]?
theorem Touch.refl (a : Option Addr) (w : World) : Touch a w w := ⟨rfl, fun _ _ => rfl⟩
theorem Touch.set {a : Option Addr} {w w' : World} {g o : Nat} (h : Touch a w w') (ha : a = some ⟨g, 0, none⟩) (u : Value) : Touch a w (w'.setCell ⟨g, o, none⟩ u) :=
  ⟨by simpa using h.1, fun j hj => (Below.heap_setCell w' ⟨g, o, none⟩ u j (hj g ha)).trans (h.2 j hj)⟩
theorem IOwn.touch {w w' : World} {a : Option Addr} {base : Nat} {v : Value} {l : List Int} (h : IOwn w base v l) (ht : Touch a w w') (hne : ∀ g, a = some ⟨g, 0, none⟩ → g < base) : IOwn w' base v l := by
  refine ⟨h.1, ?_⟩
  rcases h.2 with hn | ⟨g, cap, cur, rfl, hbg, hgg, rest⟩
  · exact .inl hn
  · refine .inr ⟨g, cap, cur, rfl, hbg, ?_, rest⟩
    rw [ht.2 g (fun g' e => by have := hne g' e; omega)]
    exact hgg

def ups (k : Int) (n : Nat) : List Int := (List.range n).map fun i => k + (i : Nat)
theorem ups_len (k : Int) (n : Nat) : (ups k n).length = n := by simp [ups]
theorem ups_get (k : Int) (n i : Nat) (h : i < n) : (ups k n).getD i 0 = k + (i : Nat) := by simp [ups, List.getD, h]
theorem ups_step (k : Int) (l : List Int) (j : Nat) (h : j < l.length) : (ups k j ++ l.drop j).set j (k + (j : Nat)) = ups k (j + 1) ++ l.drop (j + 1) := by
  rw [List.set_append_right _ _ (by rw [ups_len]; exact Nat.le_refl _), ups_len, Nat.sub_self]
  have h1 : l.drop j = l[j] :: l.drop (j + 1) := List.drop_eq_getElem_cons h
  rw [h1, List.set_cons_zero]
  simp [ups, List.range_succ]
theorem copy_step (l : List Int) (j : Nat) (h : j < l.length) : (l.take j ++ List.replicate (l.length - j) 0).set j (l.getD j 0) = l.take (j + 1) ++ List.replicate (l.length - (j + 1)) 0 := by
  have hl : (l.take j).length = j := by simp; omega
  rw [List.set_append_right _ _ (by omega), hl, Nat.sub_self, take_snocI l j h]
  rw [show l.length - j = (l.length - (j + 1)) + 1 by omega, List.replicate_succ, List.set_cons_zero]
  simp





/-- Rows of other elements lie apart. -/
theorem type_apart {w : World} {b1 b2 e1 e2 s1 s2 n1 n2 : Nat} {v1 v2 : Value} {x1 x2 : List Value} (h1 : w.ownsRow b1 e1 s1 v1 n1 x1) (h2 : w.ownsRow b2 e2 s2 v2 n2 x2) (he : e1 ≠ e2) : v1.ownBlock = none ∨ v1.ownBlock ≠ v2.ownBlock := by
  rcases h1.2 with ⟨rfl, _⟩ | ⟨g, cap, cur, rfl, _, hg, _⟩
  · exact .inl rfl
  · refine .inr ?_
    rcases h2.2 with ⟨rfl, _⟩ | ⟨g', cap', cur', rfl, _, hg', _⟩
    · simp [Value.ownBlock]
    · simp only [Value.ownBlock, ne_eq, Option.some.injEq]
      rintro rfl
      rw [hg] at hg'
      simp only [Option.some.injEq, Obj.cells.injEq] at hg'
      exact he hg'.2.1
theorem snoc_len {α : Type} {l : List α} {x : α} {n : Nat} (h : l.length = n) : (l ++ [x]).length = n + 1 := by simp [h]
theorem size_alloc_le {B : Nat} {w : World} (h : B ≤ w.heap.size) (o : Obj) : B ≤ (w.alloc o).heap.size := by simp; omega
theorem copy_below {x x' : World} {t : TypeId} {c : Nat} (hg : (x.alloc (.cells #[] t)).grownBy x' (Value.slice (some ⟨x.heap.size, 0, none⟩) 0 c).ownBlock) : Below x.heap.size x x' :=
  ((Below.refl _ _).alloc (Nat.le_refl _) _).grown hg (by simp) (fun k h => by simp [Value.ownBlock] at h; omega)
theorem own_below {x y y' : World} {o : Obj} {v : Value} {e : TypeId} {size n : Nat} {xs : List Value} (hg : (y.alloc o).grownBy y' v.ownBlock) (ho : (y.alloc o).ownsRow x.heap.size e size v n xs) (hb : Below x.heap.size x y) : Below x.heap.size x y' :=
  (hb.alloc hb.size _).grown hg (by have := hb.size; simp; omega) (fun k h => (ho.lt k h).1)
theorem one_new (W : World) (g : Nat) (hg : W.heap.size = g) (x : Value) (t : TypeId) : ∀ (j : Nat) (u : Value), [x][j]? = some u → (W.alloc (.cells #[x] t)).cell? ((⟨g, 0, none⟩ : Addr).add j) = some u := by
  subst hg
  intro j u hj
  match j, hj with
  | 0, hj => simp at hj; subst hj; simp [Addr.add]
theorem one_int (x : Int) : ∀ u ∈ [Value.int .i64 x], u.oneCell' = true := by
  intro u hu
  simp at hu
  subst hu
  rfl
theorem made_ints {w1 : World} {base g n : Nat} (h : w1.ownsRow base 3 1 (.slice (some ⟨g, 0, none⟩) n n) n (madeCells (Value.int .i64 0).cells (n * 1)).toList) : IOwn w1 base (.slice (some ⟨g, 0, none⟩) n n) (List.replicate n 0) := by
  have e : (madeCells (Value.int .i64 0).cells (n * 1)).toList = (List.replicate n (0 : Int)).map (Value.int .i64) := by
    apply List.ext_getElem
    · simp [madeCells]
    · intro i h1 h2
      simp [madeCells, Value.cells, Nat.mod_one]
  show World.ownsRow _ _ _ _ _ (List.replicate n (0 : Int)).length _
  rw [List.length_replicate, ← e]
  exact h
theorem IOwn.setOther {w : World} {base g g' o n c : Nat} {l : List Int} (h : IOwn w base (.slice (some ⟨g, 0, none⟩) n c) l) (hg : g' ≠ g) (u : Value) : IOwn (w.setCell ⟨g', o, none⟩ u) base (.slice (some ⟨g, 0, none⟩) n c) l := by
  refine ⟨h.1, ?_⟩
  rcases h.2 with hn | ⟨g1, cap, cur, e, hbg, hgg, rest⟩
  · exact .inl hn
  · refine .inr ⟨g1, cap, cur, e, hbg, ?_, rest⟩
    simp only [Value.slice.injEq, Option.some.injEq, Addr.mk.injEq, and_true] at e
    rw [Below.heap_setCell w ⟨g', o, none⟩ u g1 (by show g1 ≠ g'; omega)]
    exact hgg
theorem IOwn.under {w w' : World} {base B g n c : Nat} {l : List Int} (h : IOwn w base (.slice (some ⟨g, 0, none⟩) n c) l) (hb : Below B w w') (hg : g < B) : IOwn w' base (.slice (some ⟨g, 0, none⟩) n c) l := by
  refine ⟨h.1, ?_⟩
  rcases h.2 with hn | ⟨g1, cap, cur, e, hbg, hgg, rest⟩
  · exact .inl hn
  · refine .inr ⟨g1, cap, cur, e, hbg, ?_, rest⟩
    simp only [Value.slice.injEq, Option.some.injEq, Addr.mk.injEq, and_true] at e
    rw [hb.block g1 (by omega)]
    exact hgg
theorem IOwn.setUnder {w : World} {base b o : Nat} {v : Value} {l : List Int} (h : IOwn w base v l) (hb : b < base) (u : Value) : IOwn (w.setCell ⟨b, o, none⟩ u) base v l :=
  ownsRow_setCell_below h (a := ⟨b, o, none⟩) hb u

end Go.Proofs.Ytnomiopdpmecbaa
/- Lengths that make a code: contracts of both, and the walk of the exact law, over this seat's program. -/
namespace Go.Proofs.Ytnomiopdpmecbaa
open Go.RowKit Corb

def krN (b : Int) : Nat := if 0 < b then p2 (15 - b).toNat else 0
def kr (l : List Int) : Nat := (l.map krN).sum
def us (l : List Int) : Nat := (l.map (fun b => if 0 < b then 1 else 0)).sum
def inL (l : List Int) : Bool := l.all (fun b => inB b 0 15)
def wholeL (l : List Int) : Bool := decide (kr l = 32768) || (decide (us l = 1) && decide (kr l = 16384))
def lensOk (l : List Int) : Bool := inL l && decide (l.length ≤ 300) && wholeL l

theorem kr_take (l : List Int) (k : Nat) (h : k < l.length) : kr (l.take (k + 1)) = kr (l.take k) + krN (l.getD k 0) := by
  rw [take_snocI l k h]; simp [kr]
theorem us_take (l : List Int) (k : Nat) (h : k < l.length) : us (l.take (k + 1)) = us (l.take k) + (if 0 < l.getD k 0 then 1 else 0) := by
  rw [take_snocI l k h]; simp [us]
theorem inL_take (l : List Int) (k : Nat) (h : k < l.length) : inL (l.take (k + 1)) = (inL (l.take k) && inB (l.getD k 0) 0 15) := by
  rw [take_snocI l k h]; simp [inL]
theorem krN_le (b : Int) : krN b ≤ 32768 := by
  unfold krN
  split
  · have h2 : 2 ^ (15 - b).toNat ≤ 2 ^ 15 := Nat.pow_le_pow_right (by omega) (by omega)
    have h3 : (2 : Nat) ^ 15 = 32768 := by decide
    have h4 : p2 (15 - b).toNat = 2 ^ (15 - b).toNat := rfl
    omega
  · omega
theorem kr_le (l : List Int) : kr l ≤ 32768 * l.length := by
  induction l with
  | nil => simp [kr]
  | cons b l ih =>
    have := krN_le b
    simp only [kr, List.map_cons, List.sum_cons, List.length_cons] at ih ⊢
    omega
theorem us_le (l : List Int) : us l ≤ l.length := by
  induction l with
  | nil => simp [us]
  | cons b l ih =>
    simp only [us, List.map_cons, List.sum_cons, List.length_cons] at ih ⊢
    split <;> omega
theorem inL_get {l : List Int} {k : Nat} (h : k < l.length) (hn : inB (l.getD k 0) 0 15 = false) : inL l = false := by
  rcases hb : inL l with _ | _
  · rfl
  · have := List.all_eq_true.1 hb (l.getD k 0) (by simp [List.getD, h])
    rw [hn] at this
    exact absurd this (by simp)

set_option maxHeartbeats 400000 in
theorem l3Used_any (a : Option Addr) (cap n : Nat) (l : List Int) (w : World) (hn : l.length = n) (h : IRow w a l) (hm : n ≤ 1048576) :
    Calls Try.prog 41 #[.slice a n cap] w fun e w' => e = .returned (.int .i64 (us l : Nat)) ∧ w' = w := by
  subst hn
  have hmI : (l.length : Int) ≤ 1048576 := by omega
  clear hm
  go_enter Try.func41, Try.ntmps41
  go_wp2_with fail
  go_loop [3, 4] (fun n i => ∃ k : Nat, k ≤ l.length ∧ i = .int .i64 k ∧ n = .int .i64 (us (l.take k) : Nat)) (fun _ i => l.length - (intOf i).toNat)
  case atStart => exact ⟨0, Nat.zero_le _, rfl, rfl⟩
  case round =>
    obtain ⟨k, hk, rfl, rfl⟩ := hrel
    have HK := hide hk
    by_cases hlt : k < l.length
    · obtain ⟨g, o, rfl, hg, hc⟩ := h (by omega)
      have c0 := hc k hlt
      have hst := hide (us_take l k hlt)
      have hub := us_le (l.take k)
      have hub' : (us (l.take k) : Int) ≤ 1048576 := by
        have : (l.take k).length ≤ l.length := by simp; omega
        omega
      clear hc hk h hub
      generalize l.getD k 0 = y at *
      generalize us (l.take k) = u at *
      by_cases hy : 0 < y
      · have hst' : Hid (us (l.take (k + 1)) = u + 1) := by have := unhide hst; rw [if_pos hy] at this; exact this
        go_wp2
        go_round
        case rel => exact ⟨k + 1, by omega, by go_num, by rw [unhide hst']; go_num⟩
        case measure => simp [intOf]; omega
      · have hst' : Hid (us (l.take (k + 1)) = u) := by have := unhide hst; rw [if_neg hy] at this; exact this
        go_wp2
        go_round
        case rel => exact ⟨k + 1, by omega, by go_num, by rw [unhide hst']⟩
        case measure => simp [intOf]; omega
    · have hlk : Hid (l.take k = l) := List.take_of_length_le (by omega)
      clear h
      go_wp2
      go_ret
      exact ⟨ret_int (by rw [unhide hlk]), rfl⟩

end Go.Proofs.Ytnomiopdpmecbaa
/- Whether lengths make a code: the model's and the program's, over this seat's program. -/
namespace Go.Proofs.Ytnomiopdpmecbaa
open Go.RowKit Corb

theorem lensOk_no {l : List Int} (h : inL l = false ∨ 300 < l.length) : lensOk l = false := by
  unfold lensOk
  rcases h with h | h
  · simp [h]
  · rw [decide_eq_false (by omega)]; simp
theorem lensOk_yes {l : List Int} (h : inL l = true) (hl : l.length ≤ 300) : lensOk l = wholeL l := by
  simp [lensOk, h, hl]

set_option maxHeartbeats 800000 in
theorem specLensOk_any (a : Option Addr) (cap n : Nat) (l : List Int) (w : World) (hn : l.length = n) (h : IRow w a l) (hm : n ≤ 1048576) :
    Calls Try.prog 24 #[.slice a n cap] w fun e w' => e = .returned (.bool (lensOk l)) ∧ w' = w := by
  subst hn
  have hmI : (l.length : Int) ≤ 1048576 := by omega
  have Hm := hide hm
  clear hm
  go_enter Try.func24, Try.ntmps24
  go_wp2_with fail
  go_loopw [3, 4] (fun n i wr => ∃ k : Nat, k ≤ l.length ∧ i = .int .i64 k ∧ n = .int .i64 (kr (l.take k) : Nat) ∧ inL (l.take k) = true ∧ wr = w) (fun _ i _ => l.length - (intOf i).toNat)
  case atStart => exact ⟨0, Nat.zero_le _, rfl, rfl, rfl, rfl⟩
  case round =>
    obtain ⟨k, hk, rfl, rfl, hin, rfl⟩ := hrel
    have HK := hide hk
    have Hin := hide hin
    have hkb := kr_le (l.take k)
    have hkl : (l.take k).length ≤ l.length := by simp; omega
    have hkI : (kr (l.take k) : Int) ≤ 34359738368 := by have := unhide Hm; omega
    clear hin hkb hkl
    by_cases hlt : k < l.length
    · obtain ⟨g, o, rfl, hg, hc⟩ := h (by omega)
      have c0 := hc k hlt
      have hst := hide (kr_take l k hlt)
      have hit := hide (inL_take l k hlt)
      have hget := hide (fun hn => inL_get hlt hn)
      clear hc hk h
      generalize l.getD k 0 = y at *
      generalize kr (l.take k) = u at *
      cases hy : inB y 0 15
      · have hno := hide (lensOk_no (Or.inl (unhide hget hy)))
        go_wp2_with fail
        refine (l1In_any _ _ _ _).mono ?_
        rintro e x1 ⟨rfl, rfl⟩
        rw [hy]
        go_wp2
        go_ret
        exact ⟨ret_bool (unhide hno).symm, rfl⟩
      · obtain ⟨y0, y1⟩ := inB_true.1 hy
        have hit' : Hid (inL (l.take (k + 1)) = true) := by show inL (l.take (k + 1)) = true; rw [unhide hit, unhide Hin, hy]; rfl
        by_cases hp : 0 < y
        · have hkn : Hid (krN y = p2 (15 - y).toNat) := if_pos hp
          have hbd := krN_le y
          rw [unhide hkn] at hbd
          have hpw := hide (fun W => l1Pow_any (15 - y) W (by omega))
          generalize p2 (15 - y).toNat = PW at *
          have hbI : (PW : Int) ≤ 32768 := by omega
          clear hbd
          go_wp2_with fail
          refine (l1In_any _ _ _ _).mono ?_
          rintro e x1 ⟨rfl, rfl⟩
          rw [hy]
          go_wp2_with fail
          refine (unhide hpw _).mono ?_
          rintro e x2 ⟨rfl, rfl⟩
          go_wp2
          go_roundw
          case rel => exact ⟨k + 1, by omega, by go_num, by rw [unhide hst, unhide hkn]; go_num, unhide hit', by first | rfl | trivial⟩
          case measure => simp [intOf]; omega
        · have hkn : Hid (krN y = 0) := if_neg hp
          go_wp2_with fail
          refine (l1In_any _ _ _ _).mono ?_
          rintro e x1 ⟨rfl, rfl⟩
          rw [hy]
          go_wp2
          go_roundw
          case rel => exact ⟨k + 1, by omega, by go_num, by rw [unhide hst, unhide hkn]; rfl, unhide hit', by first | rfl | trivial⟩
          case measure => simp [intOf]; omega
    · have hlk : l.take k = l := List.take_of_length_le (by omega)
      rw [hlk] at hkI ⊢
      have hin : inL l = true := by have := unhide Hin; rw [hlk] at this; exact this
      have e14 : p2 (14 : Int).toNat = 16384 := by decide
      have e15 : p2 (15 : Int).toNat = 32768 := by decide
      have E14 := hide e14
      have E15 := hide e15
      have Hin' := hide hin
      clear hlk Hin hin e14 e15
      have hu := us_le l
      have huI : (us l : Int) ≤ 1048576 := by have := unhide Hm; omega
      have HU := hide (l3Used_any a cap l.length l wr rfl h (unhide Hm))
      by_cases hlen : (l.length : Int) ≤ 300
      · have hres := hide (lensOk_yes (unhide Hin') (by omega))
        clear hu h
        by_cases hone : us l = 1
        · have hres' : Hid (lensOk l = (decide (kr l = 32768) || decide (kr l = 16384))) := by
            show lensOk l = _
            rw [unhide hres, wholeL, decide_eq_true hone, Bool.true_and]
          go_wp2_with fail
          refine (unhide HU).mono ?_
          rintro e x1 ⟨rfl, rfl⟩
          rw [hone]
          go_wp2_with fail
          refine (l1Pow_any 14 _ (by omega)).mono ?_
          rintro e x2 ⟨rfl, rfl⟩
          rw [unhide E14]
          go_wp2_with fail
          refine (l1Pow_any 15 _ (by omega)).mono ?_
          rintro e x3 ⟨rfl, rfl⟩
          rw [unhide E15]
          generalize kr l = K at *
          by_cases h1 : K = 32768
          · subst h1
            go_wp2
            go_ret
            exact ⟨ret_bool (by rw [unhide hres']; rfl), rfl⟩
          · have g1 : ((K : Int) == 32768) = false := by simp; omega
            by_cases h2 : K = 16384
            · subst h2
              go_wp2
              go_ret
              exact ⟨ret_bool (by rw [unhide hres']; rfl), rfl⟩
            · have g2 : ((K : Int) == 16384) = false := by simp; omega
              go_wp2
              go_ret
              exact ⟨ret_bool (by rw [unhide hres']; simp [h1, h2]), rfl⟩
        · have g0 : ((us l : Int) == 1) = false := by simp; omega
          have hres' : Hid (lensOk l = decide (kr l = 32768)) := by
            show lensOk l = _
            rw [unhide hres, wholeL, decide_eq_false hone, Bool.false_and, Bool.or_false]
          go_wp2_with fail
          refine (unhide HU).mono ?_
          rintro e x1 ⟨rfl, rfl⟩
          go_wp2_with fail
          refine (l1Pow_any 15 _ (by omega)).mono ?_
          rintro e x3 ⟨rfl, rfl⟩
          rw [unhide E15]
          generalize kr l = K at *
          by_cases h1 : K = 32768
          · subst h1
            go_wp2
            go_ret
            exact ⟨ret_bool (by rw [unhide hres']; rfl), rfl⟩
          · have g1 : ((K : Int) == 32768) = false := by simp; omega
            go_wp2
            go_ret
            exact ⟨ret_bool (by rw [unhide hres']; simp [h1]), rfl⟩
      · have hno := hide (lensOk_no (l := l) (Or.inr (by omega)))
        clear hu h
        by_cases hone : us l = 1
        · go_wp2_with fail
          refine (unhide HU).mono ?_
          rintro e x1 ⟨rfl, rfl⟩
          rw [hone]
          go_wp2_with fail
          refine (l1Pow_any 14 _ (by omega)).mono ?_
          rintro e x2 ⟨rfl, rfl⟩
          rw [unhide E14]
          go_wp2
          go_ret
          exact ⟨ret_bool (by rw [unhide hno]), rfl⟩
        · have g0 : ((us l : Int) == 1) = false := by simp; omega
          go_wp2_with fail
          refine (unhide HU).mono ?_
          rintro e x1 ⟨rfl, rfl⟩
          go_wp2
          go_ret
          exact ⟨ret_bool (by rw [unhide hno]), rfl⟩

set_option maxHeartbeats 800000 in
theorem lensWhole_any (a : Option Addr) (cap n : Nat) (l : List Int) (w : World) (hn : l.length = n) (h : IRow w a l) (hin : inL l = true) (hm : n ≤ 300) :
    Calls Try.prog 28 #[.slice a n cap] w fun e w' => e = .returned (.bool (wholeL l)) ∧ w' = w := by
  subst hn
  have hmI : (l.length : Int) ≤ 300 := by omega
  have Hm := hide hm
  have Hin := hide hin
  clear hm hin
  go_enter Try.func28, Try.ntmps28
  go_wp2_with fail
  go_loop [3, 4, 6, 9] (fun u n _ i => ∃ k : Nat, k ≤ l.length ∧ i = .int .i64 k ∧ u = .int .i64 (us (l.take k) : Nat) ∧ n = .int .i64 (kr (l.take k) : Nat)) (fun _ _ _ i => l.length - (intOf i).toNat)
  case atStart => exact ⟨0, Nat.zero_le _, rfl, rfl, rfl⟩
  case round =>
    obtain ⟨k, hk, rfl, rfl, rfl⟩ := hrel
    have HK := hide hk
    have hkb := kr_le (l.take k)
    have hub := us_le (l.take k)
    have hkl : (l.take k).length ≤ l.length := by simp; omega
    have hkI : (kr (l.take k) : Int) ≤ 9830400 := by have := unhide Hm; omega
    have huI : (us (l.take k) : Int) ≤ 300 := by omega
    clear hkb hkl hub
    by_cases hlt : k < l.length
    · obtain ⟨g, o, rfl, hg, hc⟩ := h (by omega)
      have c0 := hc k hlt
      have hst := hide (kr_take l k hlt)
      have hsu := hide (us_take l k hlt)
      have hy : inB (l.getD k 0) 0 15 = true := by
        rcases hb : inB (l.getD k 0) 0 15 with _ | _
        · have := inL_get hlt hb
          rw [unhide Hin] at this
          exact absurd this (by simp)
        · rfl
      clear hc hk h
      generalize l.getD k 0 = y at *
      generalize kr (l.take k) = u at *
      generalize us (l.take k) = q at *
      obtain ⟨y0, y1⟩ := inB_true.1 hy
      by_cases hp : 0 < y
      · obtain ⟨c, hc⟩ : ∃ c : Nat, 15 - y = (c : Int) := ⟨(15 - y).toNat, by omega⟩
        have hkn : Hid (krN y = p2 c) := by
          show krN y = p2 c
          unfold krN
          rw [if_pos hp, hc, Int.toNat_natCast]
        have hbd := krN_le y
        rw [unhide hkn] at hbd
        have hsu' : Hid (us (l.take (k + 1)) = q + 1) := by have := unhide hsu; rw [if_pos hp] at this; exact this
        have hc15 : (c : Int) ≤ 15 := by omega
        have hp2 : (1 : Int) * 2 ^ c = (p2 c : Int) := by rw [Int.one_mul, p2_int]
        have hp2' : (2 : Int) ^ c = (p2 c : Int) := (p2_int c).symm
        generalize p2 c = PW at *
        have hbI : (PW : Int) ≤ 32768 := by omega
        have hw1 : IntKind.i64.wrap (15 - y) = (c : Int) := by rw [hc]; exact wrap_id _ (by omega) (by omega)
        have hw2 : IntKind.i64.wrap (PW : Int) = (PW : Int) := wrap_id _ (by omega) (by omega)
        clear hbd
        go_wp2
        go_round
        case rel => exact ⟨k + 1, by omega, by go_num, by rw [unhide hsu']; go_num, by rw [unhide hst, unhide hkn]; go_num⟩
        case measure => simp [intOf]; omega
      · have hkn : Hid (krN y = 0) := if_neg hp
        have hsu' : Hid (us (l.take (k + 1)) = q) := by have := unhide hsu; rw [if_neg hp] at this; exact this
        go_wp2
        go_round
        case rel => exact ⟨k + 1, by omega, by go_num, by rw [unhide hsu'], by rw [unhide hst, unhide hkn]; rfl⟩
        case measure => simp [intOf]; omega
    · have hlk : l.take k = l := List.take_of_length_le (by omega)
      rw [hlk] at hkI huI ⊢
      have HW : Hid (wholeL l = (decide (kr l = 32768) || (decide (us l = 1) && decide (kr l = 16384)))) := rfl
      clear h hlk
      generalize kr l = K at *
      generalize us l = U at *
      by_cases h1 : K = 32768
      · subst h1
        go_wp2
        go_ret
        exact ⟨ret_bool (by rw [unhide HW]; rfl), rfl⟩
      · have g1 : ((K : Int) == 32768) = false := by simp; omega
        by_cases h3 : U = 1
        · subst h3
          by_cases h2 : K = 16384
          · subst h2
            go_wp2
            go_ret
            exact ⟨ret_bool (by rw [unhide HW]; rfl), rfl⟩
          · have g2 : ((K : Int) == 16384) = false := by simp; omega
            go_wp2
            go_ret
            exact ⟨ret_bool (by rw [unhide HW]; simp [h1, h2]), rfl⟩
        · have g3 : ((U : Int) == 1) = false := by simp; omega
          go_wp2
          go_ret
          exact ⟨ret_bool (by rw [unhide HW]; simp [h1, h3]), rfl⟩

set_option maxHeartbeats 800000 in
theorem implLensOk_any (a : Option Addr) (cap n : Nat) (l : List Int) (w : World) (hn : l.length = n) (h : IRow w a l) (hm : n ≤ 1048576) :
    Calls Try.prog 10 #[.slice a n cap] w fun e w' => e = .returned (.bool (lensOk l)) ∧ w' = w := by
  subst hn
  by_cases hlen : (l.length : Int) ≤ 300
  · clear hm
    go_enter Try.func10, Try.ntmps10
    go_wp2_with fail
    go_loopw [4, 10] (fun _ i wr => ∃ k : Nat, k ≤ l.length ∧ i = .int .i64 k ∧ inL (l.take k) = true ∧ wr = w) (fun _ i _ => l.length - (intOf i).toNat)
    case atStart => exact ⟨0, Nat.zero_le _, rfl, rfl, rfl⟩
    case round =>
      obtain ⟨k, hk, rfl, hin, rfl⟩ := hrel
      have HK := hide hk
      have Hin := hide hin
      clear hin
      by_cases hlt : k < l.length
      · obtain ⟨g, o, rfl, hg, hc⟩ := h (by omega)
        have c0 := hc k hlt
        have hit := hide (inL_take l k hlt)
        have hget := hide (fun hn => inL_get hlt hn)
        clear hc hk h
        generalize l.getD k 0 = y at *
        cases hy : inB y 0 15
        · have hno := hide (lensOk_no (Or.inl (unhide hget hy)))
          rcases inB_false.1 hy with h0 | h0
          · go_wp2
            go_ret
            exact ⟨ret_bool (unhide hno).symm, rfl⟩
          · have h1 : ¬ y < 0 := by omega
            go_wp2
            go_ret
            exact ⟨ret_bool (unhide hno).symm, rfl⟩
        · obtain ⟨y0, y1⟩ := inB_true.1 hy
          have hit' : Hid (inL (l.take (k + 1)) = true) := by show inL (l.take (k + 1)) = true; rw [unhide hit, unhide Hin, hy]; rfl
          go_wp2
          go_roundw
          case rel => exact ⟨k + 1, by omega, by go_num, unhide hit', by first | rfl | trivial⟩
          case measure => simp [intOf]; omega
      · have hlk : l.take k = l := List.take_of_length_le (by omega)
        have hin : inL l = true := by have := unhide Hin; rw [hlk] at this; exact this
        have hres := hide (lensOk_yes hin (by omega))
        have HU := hide (lensWhole_any a cap l.length l wr rfl h hin (by omega))
        clear hlk hin h
        go_wp2_with fail
        refine (unhide HU).mono ?_
        rintro e x1 ⟨rfl, rfl⟩
        go_wp2
        go_ret
        exact ⟨ret_bool (unhide hres).symm, rfl⟩
  · have hno := hide (lensOk_no (l := l) (Or.inr (by omega)))
    have hmI : (l.length : Int) ≤ 1048576 := by omega
    clear hm h
    go_enter Try.func10, Try.ntmps10
    go_wp2
    go_ret
    exact ⟨ret_bool (unhide hno).symm, rfl⟩


end Go.Proofs.Ytnomiopdpmecbaa
/- Codes of lengths: plain mathematics, and the model's codes, over this seat's program. -/
namespace Go.Proofs.Ytnomiopdpmecbaa
open Go.RowKit Corb

/-- Over the first k symbols: the next code, and the codes. -/
def inn (l : List Int) (n : Int) (s : Nat × List Int) : Nat → Nat × List Int
  | 0 => s
  | k + 1 => if l.getD k 0 = n then ((inn l n s k).1 + 1, (inn l n s k).2.set k ((inn l n s k).1 : Int)) else inn l n s k
/-- Over the first N lengths. -/
def outN (l : List Int) : Nat → Nat × List Int
  | 0 => (0, List.replicate l.length 0)
  | N + 1 => inn l ((N : Int) + 1) (2 * (outN l N).1, (outN l N).2) l.length
theorem inn_len (l : List Int) (n : Int) (s : Nat × List Int) (k : Nat) : (inn l n s k).2.length = s.2.length := by
  induction k with
  | zero => rfl
  | succ k ih =>
    simp only [inn]
    split
    · simpa using ih
    · exact ih
theorem outN_len (l : List Int) (N : Nat) : (outN l N).2.length = l.length := by
  induction N with
  | zero => simp [outN]
  | succ N ih => simp only [outN]; rw [inn_len]; exact ih
theorem inn_le (l : List Int) (n : Int) (s : Nat × List Int) (k : Nat) : (inn l n s k).1 ≤ s.1 + k := by
  induction k with
  | zero => exact Nat.le_refl _
  | succ k ih =>
    simp only [inn]
    split
    · simp only; omega
    · omega
theorem outN_le (l : List Int) (N : Nat) : (outN l N).1 + l.length ≤ 2 ^ N * l.length := by
  induction N with
  | zero => simp [outN]
  | succ N ih =>
    simp only [outN]
    have h := inn_le l ((N : Int) + 1) (2 * (outN l N).1, (outN l N).2) l.length
    simp only at h
    have e : 2 ^ (N + 1) * l.length = 2 * (2 ^ N * l.length) := by rw [Nat.pow_succ, Nat.mul_comm (2 ^ N), Nat.mul_assoc]
    omega
theorem outN_bd (l : List Int) (N : Nat) (hN : N ≤ 15) (hl : l.length ≤ 300) : (outN l N).1 ≤ 9830400 := by
  have h := outN_le l N
  have h2 : 2 ^ N ≤ 2 ^ 15 := Nat.pow_le_pow_right (by omega) hN
  have h3 : 2 ^ N * l.length ≤ 32768 * 300 := Nat.mul_le_mul h2 hl
  omega

set_option maxHeartbeats 1600000 in
theorem l3Codes_any (a : Option Addr) (cap n : Nat) (l : List Int) (w : World) (hn : l.length = n) (h : IRow w a l) (hm : n ≤ 300) :
    Calls Try.prog 25 #[.slice a n cap] w fun e w' => e = .returned (.slice (some ⟨w.heap.size, 0, none⟩) n n) ∧ IOwn w' w.heap.size (.slice (some ⟨w.heap.size, 0, none⟩) n n) (outN l 15).2 ∧ Below w.heap.size w w' := by
  have hm' : (n : Int) ≤ 300 := by omega
  obtain ⟨i0, hi, hz0, hz1, hz2⟩ := info_parts Try.infoInt
  have Hn := hide hn
  have Hm := hide hm
  go_enter Try.func25, Try.ntmps25
  go_wp2_with (at_make; refine wpList_make_full _ rfl _ _ 23 rfl w.heap.size 3 i0 (.int .i64 0) 1 Try.underlying23 hi hz0 hz1 .i64 .i64 _ _ n rfl rfl rfl rfl (by rw [hz2]; omega) (by unfold maxLen; omega) (Nat.le_refl _) ?_; intro w1 hown hgrow)
  have hp0 : IOwn w1 w.heap.size (.slice (some ⟨w.heap.size, 0, none⟩) n n) (outN l 0).2 := by
    show IOwn w1 w.heap.size (.slice (some ⟨w.heap.size, 0, none⟩) n n) (List.replicate l.length 0)
    rw [hn]
    exact made_ints hown
  have hb0 : Below w.heap.size w w1 := (Below.refl _ _).grown hgrow (Nat.le_refl _) (fun k h => by cases h)
  clear hown hgrow hi hz0 hz1 hz2 hm hn
  go_loopw [4, 5, 6] (fun c m _ wr => ∃ N : Nat, N ≤ 15 ∧ m = .int .i64 ((N : Int) + 1) ∧ c = .int .i64 (2 * (outN l N).1 : Nat) ∧ IOwn wr w.heap.size (.slice (some ⟨w.heap.size, 0, none⟩) n n) (outN l N).2 ∧ Below w.heap.size w wr) (fun _ m _ _ => 16 - (intOf m).toNat)
  case atStart => exact ⟨0, by omega, rfl, rfl, hp0, hb0⟩
  case round =>
    obtain ⟨N, hN, rfl, rfl, hp, hbel⟩ := hrel
    clear hp0 hb0
    have hbd := outN_bd l N hN (by rw [unhide Hn]; exact unhide Hm)
    have hbI : ((2 * (outN l N).1 : Nat) : Int) ≤ 19660800 := by omega
    have hNI : (N : Int) ≤ 15 := by omega
    by_cases hlt : N < 15
    · have hN15 : (N : Int) < 15 := by omega
      have hlen0 : Hid ((outN l N).2.length = n) := (outN_len l N).trans (unhide Hn)
      have hfin : Hid (outN l (N + 1) = inn l ((N : Int) + 1) (2 * (outN l N).1, (outN l N).2) l.length) := rfl
      have hnext := hide (outN_bd l (N + 1) (by omega) (by rw [unhide Hn]; exact unhide Hm))
      generalize hS : ((2 * (outN l N).1, (outN l N).2) : Nat × List Int) = S at *
      have hS1 : 2 * (outN l N).1 = S.1 := by rw [← hS]
      have hS2 : (outN l N).2 = S.2 := by rw [← hS]
      rw [hS1] at hbI ⊢
      rw [hS2] at hp hlen0
      clear hS hS1 hS2 hbd
      go_wp2_with fail
      go_loopw [4, 6] (fun c i wr => ∃ k : Nat, k ≤ n ∧ i = .int .i64 k ∧ c = .int .i64 ((inn l ((N : Int) + 1) S k).1 : Nat) ∧ IOwn wr w.heap.size (.slice (some ⟨w.heap.size, 0, none⟩) n n) (inn l ((N : Int) + 1) S k).2 ∧ Below w.heap.size w wr) (fun _ i _ => n - (intOf i).toNat)
      case atStart => exact ⟨0, Nat.zero_le _, rfl, rfl, hp, hbel⟩
      case round =>
        obtain ⟨k, hk, rfl, rfl, hq, hb⟩ := hrel
        clear hp hbel
        have hlen : Hid ((inn l ((N : Int) + 1) S k).2.length = n) := (inn_len _ _ _ _).trans (unhide hlen0)
        have hle := inn_le l ((N : Int) + 1) S k
        have hleI : ((inn l ((N : Int) + 1) S k).1 : Int) ≤ 19661100 := by have := unhide Hm; omega
        clear hle
        by_cases hkn : k < n
        · obtain ⟨g, o, rfl, hg, hc⟩ := (h.later hb) (by rw [unhide Hn]; omega)
          have c0 := hc k (by rw [unhide Hn]; exact hkn)
          obtain ⟨d0, f0, _, _⟩ := hq.at (unhide hlen) hkn
          have hst : Hid (inn l ((N : Int) + 1) S (k + 1) = if l.getD k 0 = (N : Int) + 1 then ((inn l ((N : Int) + 1) S k).1 + 1, (inn l ((N : Int) + 1) S k).2.set k ((inn l ((N : Int) + 1) S k).1 : Int)) else inn l ((N : Int) + 1) S k) := rfl
          have HK := hide hk
          clear hc hk h
          generalize l.getD k 0 = y at *
          generalize inn l ((N : Int) + 1) S k = T at *
          by_cases hy : y = (N : Int) + 1
          · have hst' : Hid (inn l ((N : Int) + 1) S (k + 1) = (T.1 + 1, T.2.set k (T.1 : Int))) := by have := unhide hst; rw [if_pos hy] at this; exact this
            have hput := hide (hq.put (j := k) (unhide hlen) (T.1 : Int))
            subst hy
            generalize T.2.getD k 0 = d at *
            go_wp2
            go_roundw
            case rel => exact ⟨k + 1, by omega, by go_num, by rw [unhide hst']; go_num, by rw [unhide hst']; exact unhide hput, below_set hb (Nat.le_refl _) _⟩
            case measure => simp [intOf]; omega
          · have hst' : Hid (inn l ((N : Int) + 1) S (k + 1) = T) := by have := unhide hst; rw [if_neg hy] at this; exact this
            have g1 : (y == (N : Int) + 1) = false := by simpa using hy
            go_wp2
            go_roundw
            case rel => exact ⟨k + 1, by omega, by go_num, by rw [unhide hst'], by rw [unhide hst']; exact hq, hb⟩
            case measure => simp [intOf]; omega
        · have hkl : k = l.length := by have := unhide Hn; omega
          subst hkl
          rw [← unhide hfin] at hq hleI ⊢
          have hnI : ((outN l (N + 1)).1 : Int) ≤ 9830400 := by have := unhide hnext; omega
          go_wp2
          go_roundw
          case rel => exact ⟨N + 1, by omega, by go_num, by go_num, hq, hb⟩
          case measure => simp [intOf]; omega
    · obtain rfl : N = 15 := by omega
      go_wp2
      go_ret
      exact ⟨rfl, hp, hbel⟩

end Go.Proofs.Ytnomiopdpmecbaa
/- The program's book of codes, over this seat's program. -/
namespace Go.Proofs.Ytnomiopdpmecbaa
open Go.RowKit Corb

/-- How many of the first k symbols have that length, and those of the first lengths in their order. -/
def many (l : List Int) (n : Int) : Nat → Nat
  | 0 => 0
  | k + 1 => if l.getD k 0 = n then many l n k + 1 else many l n k
def syms (l : List Int) (n : Int) (s : List Int) : Nat → List Int
  | 0 => s
  | k + 1 => if l.getD k 0 = n then syms l n s k ++ [(k : Int)] else syms l n s k
def symsN (l : List Int) : Nat → List Int
  | 0 => []
  | N + 1 => syms l ((N : Int) + 1) (symsN l N) l.length
def manyN (l : List Int) (N j : Nat) : Nat := if 1 ≤ j ∧ j ≤ N then many l (j : Int) l.length else 0

/-- A book in memory. -/
def Book (w : World) (b : Nat) (vl vc vs : Value) (m : Nat → Nat) : Prop :=
  w.cell? ⟨b, 0, none⟩ = some vl ∧ w.cell? ⟨b, 1, none⟩ = some vc ∧ (∀ j, j < 16 → w.cell? ⟨b, 2 + j, none⟩ = some (.int .i64 (m j : Nat))) ∧ w.cell? ⟨b, 18, none⟩ = some vs ∧ (∀ o, w.frozen? ⟨b, o, none⟩ = false) ∧ b < w.heap.size
theorem Book.kept {w w' : World} {b : Nat} {vl vc vs : Value} {m : Nat → Nat} (h : Book w b vl vc vs m) (hb : Below (b + 1) w w') : Book w' b vl vc vs m := by
  obtain ⟨c0, c1, c2, c3, f, hlt⟩ := h
  have hs := Nat.lt_succ_self b
  exact ⟨(hb.cell (p := ⟨b, 0, none⟩) hs).trans c0, (hb.cell (p := ⟨b, 1, none⟩) hs).trans c1, fun j hj => (hb.cell (p := ⟨b, 2 + j, none⟩) hs).trans (c2 j hj), (hb.cell (p := ⟨b, 18, none⟩) hs).trans c3, fun o => (hb.frozen (p := ⟨b, o, none⟩) hs).trans (f o), Nat.lt_of_lt_of_le hlt hb.size⟩
theorem Book.other {w : World} {b g o : Nat} {vl vc vs : Value} {m : Nat → Nat} (h : Book w b vl vc vs m) (hg : g ≠ b) (u : Value) : Book (w.setCell ⟨g, o, none⟩ u) b vl vc vs m := by
  obtain ⟨c0, c1, c2, c3, f, hlt⟩ := h
  refine ⟨?_, ?_, fun j hj => ?_, ?_, fun o => by simpa using f o, by simpa using hlt⟩
  · rw [World.cell?_setCell_other _ _ _ _ (by simp only [ne_eq, Addr.mk.injEq]; omega)]; exact c0
  · rw [World.cell?_setCell_other _ _ _ _ (by simp only [ne_eq, Addr.mk.injEq]; omega)]; exact c1
  · rw [World.cell?_setCell_other _ _ _ _ (by simp only [ne_eq, Addr.mk.injEq]; omega)]; exact c2 j hj
  · rw [World.cell?_setCell_other _ _ _ _ (by simp only [ne_eq, Addr.mk.injEq]; omega)]; exact c3
theorem Book.many {w : World} {b i x : Nat} {vl vc vs : Value} {m : Nat → Nat} (h : Book w b vl vc vs m) (hi : i < 16) : Book (w.setCell ⟨b, 2 + i, none⟩ (.int .i64 (x : Nat))) b vl vc vs (fun j => if j = i then x else m j) := by
  obtain ⟨c0, c1, c2, c3, f, hlt⟩ := h
  refine ⟨?_, ?_, fun j hj => ?_, ?_, fun o => by simpa using f o, by simpa using hlt⟩
  · rw [World.cell?_setCell_other _ _ _ _ (by simp only [ne_eq, Addr.mk.injEq]; omega)]; exact c0
  · rw [World.cell?_setCell_other _ _ _ _ (by simp only [ne_eq, Addr.mk.injEq]; omega)]; exact c1
  · by_cases e : j = i
    · subst e
      rw [World.cell?_setCell_same _ _ _ (c2 j hj)]; simp
    · rw [World.cell?_setCell_other _ _ _ _ (by simp only [ne_eq, Addr.mk.injEq]; omega)]; simp only [if_neg e]; exact c2 j hj
  · rw [World.cell?_setCell_other _ _ _ _ (by simp only [ne_eq, Addr.mk.injEq]; omega)]; exact c3
theorem Book.sorted {w : World} {b : Nat} {vl vc vs : Value} {m : Nat → Nat} (h : Book w b vl vc vs m) (u : Value) : Book (w.setCell ⟨b, 18, none⟩ u) b vl vc u m := by
  obtain ⟨c0, c1, c2, c3, f, hlt⟩ := h
  refine ⟨?_, ?_, fun j hj => ?_, World.cell?_setCell_same _ _ _ c3, fun o => by simpa using f o, by simpa using hlt⟩
  · rw [World.cell?_setCell_other _ _ _ _ (by simp only [ne_eq, Addr.mk.injEq]; omega)]; exact c0
  · rw [World.cell?_setCell_other _ _ _ _ (by simp only [ne_eq, Addr.mk.injEq]; omega)]; exact c1
  · rw [World.cell?_setCell_other _ _ _ _ (by simp only [ne_eq, Addr.mk.injEq]; omega)]; exact c2 j hj

theorem manyS_le (l : List Int) (n : Int) (k : Nat) : many l n k ≤ k := by
  induction k with
  | zero => exact Nat.le_refl _
  | succ k ih => simp only [many]; split <;> omega

theorem manyN_step (l : List Int) (N : Nat) : (fun j => if j = N + 1 then many l ((N : Int) + 1) l.length else manyN l N j) = manyN l (N + 1) := by
  funext j
  unfold manyN
  by_cases e : j = N + 1
  · subst e
    rw [if_pos rfl, if_pos ⟨by omega, by omega⟩]
    congr 1
  · rw [if_neg e]
    by_cases h : 1 ≤ j ∧ j ≤ N
    · rw [if_pos h, if_pos ⟨h.1, by omega⟩]
    · rw [if_neg h, if_neg (by omega)]
theorem many_start (l : List Int) (N : Nat) : (fun j => if j = N + 1 then many l ((N : Int) + 1) 0 else manyN l N j) = manyN l N := by
  funext j
  by_cases e : j = N + 1
  · subst e
    rw [if_pos rfl]
    unfold manyN
    rw [if_neg (by omega)]
    rfl
  · rw [if_neg e]
theorem symsN_len (l : List Int) (n : Int) (s : List Int) (k : Nat) : (syms l n s k).length ≤ s.length + k := by
  induction k with
  | zero => exact Nat.le_refl _
  | succ k ih =>
    simp only [syms]
    split
    · simp; omega
    · omega
theorem symsN_le (l : List Int) (N : Nat) : (symsN l N).length ≤ N * l.length := by
  induction N with
  | zero => simp [symsN]
  | succ N ih =>
    have := symsN_len l ((N : Int) + 1) (symsN l N) l.length
    simp only [symsN]
    rw [Nat.add_mul, Nat.one_mul]
    omega

end Go.Proofs.Ytnomiopdpmecbaa
/- Rows of pieces: where they lie, those of the call's own, held against each other, over this seat's program. -/
namespace Go.Proofs.Ytnomiopdpmecbaa
open Go.RowKit

/-- Pieces in memory, two cells each. -/
def PRow (w : World) (a : Option Addr) (l : List (Int × Int)) : Prop :=
  0 < l.length → ∃ g o, a = some ⟨g, o, none⟩ ∧ g < w.heap.size ∧ ∀ i, i < l.length → w.cell? ⟨g, o + i * 2, none⟩ = some (.int .i64 (l.getD i (0, 0)).1) ∧ w.cell? ⟨g, o + i * 2 + 1, none⟩ = some (.int .i64 (l.getD i (0, 0)).2)
theorem PRow.later {w w' : World} {a : Option Addr} {l : List (Int × Int)} (h : PRow w a l) (hb : Below w.heap.size w w') : PRow w' a l := by
  intro h0
  obtain ⟨g, o, e, hlt, hc⟩ := h h0
  refine ⟨g, o, e, Nat.lt_of_lt_of_le hlt hb.size, fun i hi => ⟨?_, ?_⟩⟩
  · exact (hb.cell (p := ⟨g, o + i * 2, none⟩) hlt).trans (hc i hi).1
  · exact (hb.cell (p := ⟨g, o + i * 2 + 1, none⟩) hlt).trans (hc i hi).2
/-- The cells of pieces. -/
def pcells : List (Int × Int) → List Value
  | [] => []
  | p :: l => .int .i64 p.1 :: .int .i64 p.2 :: pcells l
theorem pcells_len (l : List (Int × Int)) : (pcells l).length = l.length * 2 := by
  induction l with
  | nil => rfl
  | cons p l ih => simp only [pcells, List.length_cons, ih]; omega
theorem pcells_append (l m : List (Int × Int)) : pcells (l ++ m) = pcells l ++ pcells m := by
  induction l with
  | nil => rfl
  | cons p l ih => simp [pcells, ih]
theorem pcells_get (l : List (Int × Int)) (i : Nat) (h : i < l.length) : (pcells l)[i * 2]? = some (.int .i64 (l.getD i (0, 0)).1) ∧ (pcells l)[i * 2 + 1]? = some (.int .i64 (l.getD i (0, 0)).2) := by
  induction l generalizing i with
  | nil => simp at h
  | cons p l ih =>
    cases i with
    | zero => simp [pcells]
    | succ i =>
      have := ih i (by simpa using h)
      rw [show (i + 1) * 2 = i * 2 + 1 + 1 by omega]
      simpa [pcells] using this
/-- Pieces of the call's own. -/
def Pcs (w : World) (base : Nat) (v : Value) (l : List (Int × Int)) : Prop := w.ownsRow base 50 2 v l.length (pcells l)
theorem Pcs.form {w : World} {base : Nat} {v : Value} {l : List (Int × Int)} (h : Pcs w base v l) : ∃ a cap, v = .slice a l.length cap := by
  rcases h.2 with ⟨e, h0⟩ | ⟨g, cap, _, e, _⟩
  · exact ⟨none, 0, by rw [e, h0]⟩
  · exact ⟨_, cap, e⟩
theorem Pcs.nonnil {w : World} {base : Nat} {v : Value} {l : List (Int × Int)} (h : Pcs w base v l) (hn : v ≠ .slice none 0 0) : ∃ g cap, v = .slice (some ⟨g, 0, none⟩) l.length cap := by
  rcases h.2 with ⟨e, _⟩ | ⟨g, cap, _, e, _⟩
  · exact absurd e hn
  · exact ⟨g, cap, e⟩
theorem Pcs.row {w : World} {base : Nat} {a : Option Addr} {cap : Nat} {l : List (Int × Int)} (h : Pcs w base (.slice a l.length cap) l) : PRow w a l := by
  intro h0
  rcases h.2 with ⟨_, h1⟩ | ⟨g, cap', cur, e, hb, hg, hr⟩
  · omega
  · simp only [Value.slice.injEq] at e
    obtain ⟨rfl, _, rfl⟩ := e
    refine ⟨g, 0, rfl, (Array.getElem?_eq_some_iff.1 hg).1, fun i hi => ?_⟩
    have hp := pcells_get l i hi
    have c1 := World.ownsRow.cellAt h (i * 2) (by omega)
    have c2 := World.ownsRow.cellAt h (i * 2 + 1) (by omega)
    rw [Nat.zero_add]
    exact ⟨c1.trans hp.1, c2.trans hp.2⟩
theorem Pcs.later {w w' : World} {base B : Nat} {v : Value} {l : List (Int × Int)} (h : Pcs w base v l) (hb : Below B w w') (hB : w.heap.size ≤ B) : Pcs w' base v l :=
  World.ownsRow.kept h (row := none) ⟨hb.os, hb.tape, hb.output, hb.size, fun k hk _ => hb.block k (by omega)⟩ (by
    cases hv : v.ownBlock with
    | none => exact .inl rfl
    | some k => exact .inr (by simp))
theorem Try.infoPiece : (Try.prog.info? 50).map (fun i => (i.zero, i.size, i.bytes)) = some (some (.agg #[.int .i64 0, .int .i64 0]), 2, 16) := by kernel_rfl
/-- The cells of pieces, from where they lie. -/
theorem Pcs.news {w : World} {base g cap : Nat} {l : List (Int × Int)} (h : Pcs w base (.slice (some ⟨g, 0, none⟩) l.length cap) l) : ∀ j u, (pcells l)[j]? = some u → w.cell? ((⟨g, 0, none⟩ : Addr).add j) = some u :=
  World.ownsRow.cells h rfl
theorem pcells_one (l : List (Int × Int)) : ∀ u ∈ pcells l, u.oneCell' = true := by
  induction l with
  | nil => intro u hu; simp [pcells] at hu
  | cons p l ih =>
    intro u hu
    simp only [pcells, List.mem_cons] at hu
    rcases hu with rfl | rfl | hu
    · rfl
    · rfl
    · exact ih u hu
theorem pcs_copy {x : World} {base : Nat} {v : Value} {l : List (Int × Int)} (h : x.ownsRow base 50 2 v (0 + l.length) ([] ++ pcells l)) : Pcs x base v l := by
  unfold Pcs
  rw [Nat.zero_add, List.nil_append] at h
  exact h
theorem pcs_snoc {x : World} {base : Nat} {v : Value} {l : List (Int × Int)} {a b : Int} (h : x.ownsRow base 50 2 v (l.length + 1) (pcells l ++ [.int .i64 a, .int .i64 b])) : Pcs x base v (l ++ [(a, b)]) := by
  show World.ownsRow _ _ _ _ _ (l ++ [(a, b)]).length _
  rw [pcells_append]
  simpa [pcells] using h
theorem pcs_snocN {x : World} {base n : Nat} {v : Value} {l : List (Int × Int)} {a b : Int} (hn : l.length = n) (h : x.ownsRow base 50 2 v (n + 1) (pcells l ++ [.int .i64 a, .int .i64 b])) : Pcs x base v (l ++ [(a, b)]) := by
  subst hn
  exact pcs_snoc h
theorem Pcs.formN {w : World} {base n : Nat} {v : Value} {l : List (Int × Int)} (hn : l.length = n) (h : Pcs w base v l) : ∃ a cap, v = .slice a n cap := by
  subst hn
  exact h.form
theorem Pcs.own {w : World} {base n : Nat} {v : Value} {l : List (Int × Int)} (hn : l.length = n) (h : Pcs w base v l) : w.ownsRow base 50 2 v n (pcells l) := by
  subst hn
  exact h
theorem Pcs.rowN {w : World} {base n : Nat} {a : Option Addr} {cap : Nat} {l : List (Int × Int)} (hn : l.length = n) (h : Pcs w base (.slice a n cap) l) : PRow w a l := by
  subst hn
  exact h.row
theorem Pcs.newsN {w : World} {base g cap n : Nat} {l : List (Int × Int)} (hn : l.length = n) (h : Pcs w base (.slice (some ⟨g, 0, none⟩) n cap) l) : ∀ j u, (pcells l)[j]? = some u → w.cell? ((⟨g, 0, none⟩ : Addr).add j) = some u := by
  subst hn
  exact h.news
theorem Pcs.nonnilN {w : World} {base n : Nat} {v : Value} {l : List (Int × Int)} (hl : l.length = n) (h : Pcs w base v l) (hn : v ≠ .slice none 0 0) : ∃ g cap, v = .slice (some ⟨g, 0, none⟩) n cap := by
  subst hl
  exact h.nonnil hn
theorem pcs_cat {x : World} {base n : Nat} {v : Value} {l r : List (Int × Int)} (hn : l.length = n) (h : x.ownsRow base 50 2 v (n + r.length) (pcells l ++ pcells r)) : Pcs x base v (l ++ r) := by
  subst hn
  unfold Pcs
  rw [pcells_append, List.length_append]
  exact h
theorem pcs_copyN {x : World} {base n : Nat} {v : Value} {l : List (Int × Int)} (hn : l.length = n) (h : x.ownsRow base 50 2 v (0 + n) ([] ++ pcells l)) : Pcs x base v l := by
  subst hn
  exact pcs_copy h
theorem two_new (w : World) (x y : Value) (t : TypeId) : ∀ (j : Nat) (u : Value), [x, y][j]? = some u → (w.alloc (.cells #[x, y] t)).cell? ((⟨w.heap.size, 0, none⟩ : Addr).add j) = some u := by
  intro j u hj
  match j, hj with
  | 0, hj => simp at hj; subst hj; simp [Addr.add]
  | 1, hj => simp at hj; subst hj; simp [Addr.add]
theorem two_int (x y : Int) : ∀ u ∈ [Value.int .i64 x, Value.int .i64 y], u.oneCell' = true := by
  intro u hu
  simp at hu
  rcases hu with rfl | rfl <;> rfl

end Go.Proofs.Ytnomiopdpmecbaa
/- What laws ask with: powers of two, lists held against each other, how many are not 0; over this seat's program. -/
namespace Go.Proofs.Ytnomiopdpmecbaa
open Go.RowKit Corb

set_option maxHeartbeats 800000 in
theorem cbInts_same (a b : Option Addr) (c d : Nat) (l : List Int) (w : World) (ha : IRow w a l) (hb : IRow w b l) (hl : l.length ≤ 2000000) :
    Calls Try.prog 13 #[.slice a l.length c, .slice b l.length d] w fun e w' => e = .returned (.bool true) ∧ Below w.heap.size w w' := by
  have hlI : (l.length : Int) ≤ 2000000 := by omega
  clear hl
  go_enter Try.func13, Try.ntmps13
  go_wp2_with fail
  go_loopw [5] (fun i wr => ∃ k : Nat, k ≤ l.length ∧ i = .int .i64 k ∧ Below w.heap.size w wr) (fun i _ => l.length - (intOf i).toNat)
  case atStart => exact ⟨0, Nat.zero_le _, rfl, Below.refl _ _⟩
  case round =>
    obtain ⟨k, hk, rfl, hbel⟩ := hrel
    have HK := hide hk
    by_cases hlt : k < l.length
    · obtain ⟨g, o, rfl, hg, hc⟩ := (ha.later hbel) (by omega)
      obtain ⟨g', o', rfl, hg', hc'⟩ := (hb.later hbel) (by omega)
      have c0 := hc k hlt
      have c1 := hc' k hlt
      clear hc hc' hk ha hb
      generalize l.getD k 0 = y at *
      go_wp2
      go_quiet (fail)
      go_wp2
      go_roundw
      case rel => exact ⟨k + 1, by omega, by go_num, below_drewN hbel _⟩
      case measure => simp [intOf]; omega
    · clear ha hb
      go_wp2
      go_ret
      exact ⟨rfl, hbel⟩
theorem cbInts_n (a b : Option Addr) (c d n : Nat) (l : List Int) (w : World) (hn : l.length = n) (ha : IRow w a l) (hb : IRow w b l) (hl : l.length ≤ 2000000) :
    Calls Try.prog 13 #[.slice a n c, .slice b n d] w fun e w' => e = .returned (.bool true) ∧ Below w.heap.size w w' := by
  subst hn
  exact cbInts_same a b c d l w ha hb hl

end Go.Proofs.Ytnomiopdpmecbaa
/- Contracts of how many bits pieces are, over this seat's program. -/
namespace Go.Proofs.Ytnomiopdpmecbaa
open Go.RowKit Corb

/-- All pieces are ok. -/
def allOk (l : List (Int × Int)) : Bool := l.all (fun p => pOk p.1 p.2)
theorem allOk_take (l : List (Int × Int)) (k : Nat) (h : k < l.length) : allOk (l.take (k + 1)) = (allOk (l.take k) && pOk (l.getD k (0, 0)).1 (l.getD k (0, 0)).2) := by
  rw [List.take_succ_eq_append_getElem h, allOk, List.all_append]
  congr 1
  simp [List.getD, h]
theorem allOk_of_take {l : List (Int × Int)} {k : Nat} (h : allOk (l.take k) = false) : allOk l = false := by
  rw [← Bool.not_eq_true] at h ⊢
  intro h2
  apply h
  simp only [allOk, List.all_eq_true] at h2 ⊢
  intro x hx
  exact h2 x (List.mem_of_mem_take hx)

set_option maxHeartbeats 800000 in
theorem l1Pieces_any (a : Option Addr) (cap : Nat) (l : List (Int × Int)) (w : World) (h : PRow w a l) (hm : l.length ≤ 1000000000) :
    Calls Try.prog 45 #[.slice a l.length cap] w fun e w' => e = .returned (.bool (allOk l && decide (l.length ≤ 4000))) ∧ Below w.heap.size w w' := by
  have hm' : (l.length : Int) ≤ 1000000000 := by omega
  go_enter Try.func45, Try.ntmps45
  go_wp2
  go_loopw [3] (fun i wr => ∃ k : Nat, k ≤ l.length ∧ i = .int .i64 k ∧ allOk (l.take k) = true ∧ Below w.heap.size w wr) (fun i _ => l.length - (intOf i).toNat)
  case atStart => exact ⟨0, Nat.zero_le _, rfl, rfl, Below.refl _ _⟩
  case round =>
    obtain ⟨k, hk, rfl, hall, hbel⟩ := hrel
    by_cases hlt : k < l.length
    · obtain ⟨g, o, rfl, hg, hc⟩ := (h.later hbel) (by omega)
      obtain ⟨c0, c1⟩ := hc k hlt
      have hs := hide (allOk_take l k hlt)
      have hall' := hide hall
      clear hc h hall
      generalize (l.getD k (0, 0)).1 = x at *
      generalize (l.getD k (0, 0)).2 = y at *
      cases hp : pOk x y
      · have HF : Hid (allOk l = false) := allOk_of_take (k := k + 1) (by rw [unhide hs, hp]; simp)
        go_wp2_with (go_at_call 50; refine (l1Piece_any _ _ _).mono ?_; rintro e w1 ⟨rfl, hb1⟩)
        go_ret
        exact ⟨ret_bool (by rw [unhide HF]; rfl), hbel.trans (hb1.mono hbel.size)⟩
      · go_wp2_with (go_at_call 50; refine (l1Piece_any _ _ _).mono ?_; rintro e w1 ⟨rfl, hb1⟩)
        go_roundw
        case rel => exact ⟨k + 1, by omega, by go_num, by rw [unhide hs, unhide hall', hp]; rfl, hbel.trans (hb1.mono hbel.size)⟩
        case measure => simp [intOf]; omega
    · have HA : Hid (allOk l = true) := by
        rw [List.take_of_length_le (by omega)] at hall; exact hall
      clear hall h
      go_wp2
      go_ret
      exact ⟨ret_bool (by rw [unhide HA]; simp; omega), hbel⟩

end Go.Proofs.Ytnomiopdpmecbaa
/- Contracts of BitsLong, the program's and the model's, over this seat's program. -/
namespace Go.Proofs.Ytnomiopdpmecbaa
open Go.RowKit Corb

/-- How many bits pieces are together. -/
def sumBits (l : List (Int × Int)) : Int := (l.map (·.2)).sum
def lOk (l : List (Int × Int)) : Bool := allOk l && decide (l.length ≤ 4000)
def longI (l : List (Int × Int)) : Int := if lOk l = true then sumBits l else -1
theorem longI_yes {l : List (Int × Int)} (h : lOk l = true) : longI l = sumBits l := if_pos h
theorem longI_no {l : List (Int × Int)} (h : lOk l = false) : longI l = -1 := if_neg (by simp [h])
theorem sum_take (l : List (Int × Int)) (k : Nat) (h : k < l.length) : sumBits (l.take (k + 1)) = sumBits (l.take k) + (l.getD k (0, 0)).2 := by
  rw [List.take_succ_eq_append_getElem h, sumBits, List.map_append, List.sum_append]
  simp [sumBits, List.getD, h]
theorem sum_bd {l : List (Int × Int)} (h : allOk l = true) : 0 ≤ sumBits l ∧ sumBits l ≤ 16 * (l.length : Int) := by
  induction l with
  | nil => simp [sumBits]
  | cons p l ih =>
    simp only [allOk, List.all_cons, Bool.and_eq_true] at h
    have h1 := pOk_true.1 h.1
    have h2 := ih h.2
    simp only [sumBits, List.map_cons, List.sum_cons, List.length_cons] at h2 ⊢
    omega
theorem allOk_get {l : List (Int × Int)} (h : allOk l = true) (k : Nat) (hk : k < l.length) : pOk (l.getD k (0, 0)).1 (l.getD k (0, 0)).2 = true := by
  simp only [allOk, List.all_eq_true] at h
  have e : l.getD k (0, 0) = l[k] := by simp [List.getD, hk]
  rw [e]
  exact h _ (List.getElem_mem hk)
theorem allOk_take_true {l : List (Int × Int)} (h : allOk l = true) (k : Nat) : allOk (l.take k) = true := by
  simp only [allOk, List.all_eq_true] at h ⊢
  exact fun x hx => h x (List.mem_of_mem_take hx)

set_option maxHeartbeats 800000 in
theorem implBitsLong_any (a : Option Addr) (cap : Nat) (l : List (Int × Int)) (w : World) (h : PRow w a l) (hm : l.length ≤ 1000000000) :
    Calls Try.prog 14 #[.slice a l.length cap] w fun e w' => e = .returned (.int .i64 (longI l)) ∧ Below w.heap.size w w' := by
  have hm' : (l.length : Int) ≤ 1000000000 := by omega
  by_cases h4 : (l.length : Int) ≤ 4000
  · go_enter Try.func14, Try.ntmps14
    go_wp2_with fail
    go_loopw [3, 5, 11] (fun n _ i wr => ∃ k : Nat, k ≤ l.length ∧ i = .int .i64 k ∧ n = .int .i64 (sumBits (l.take k)) ∧ allOk (l.take k) = true ∧ Below w.heap.size w wr) (fun _ _ i _ => l.length - (intOf i).toNat)
    case atStart => exact ⟨0, Nat.zero_le _, rfl, rfl, rfl, Below.refl _ _⟩
    case round =>
      obtain ⟨k, hk, rfl, rfl, hall, hbel⟩ := hrel
      obtain ⟨s0, s1⟩ := sum_bd hall
      have s2 : ((l.take k).length : Int) ≤ 4000 := by simp; omega
      have s3 : sumBits (l.take k) ≤ 64000 := by omega
      by_cases hlt : k < l.length
      · obtain ⟨g, o, rfl, hg, hc⟩ := (h.later hbel) (by omega)
        obtain ⟨c0, c1⟩ := hc k hlt
        have hs := hide (sum_take l k hlt)
        have ha := hide (allOk_take l k hlt)
        have hall' := hide hall
        clear hc h hall s1 s2
        generalize (l.getD k (0, 0)).1 = x at *
        generalize (l.getD k (0, 0)).2 = y at *
        cases hp : pOk x y
        · have HF : Hid (longI l = -1) := longI_no (by
            have : allOk l = false := allOk_of_take (k := k + 1) (by rw [unhide ha, hp]; simp)
            simp [lOk, this])
          generalize sumBits (l.take k) = S at *
          go_wp2_with (go_at_call 31; refine (pieceOk_any _ _ _).mono ?_; rintro e w1 ⟨rfl, hb1⟩)
          go_ret
          exact ⟨ret_int (unhide HF).symm, (hbel.alloc hbel.size _).trans (hb1.mono (by have := hbel.size; simp; omega))⟩
        · obtain ⟨⟨y0, y1⟩, _⟩ := pOk_true.1 hp
          generalize sumBits (l.take k) = S at *
          go_wp2_with (go_at_call 31; refine (pieceOk_any _ _ _).mono ?_; rintro e w1 ⟨rfl, hb1⟩; have cy : w1.cell? ⟨wr.heap.size, 1, none⟩ = some (.int .i64 y) := (hb1.cell (p := ⟨wr.heap.size, 1, none⟩) (by simp)).trans (by simp))
          go_roundw
          case rel => exact ⟨k + 1, by omega, by go_num, by rw [unhide hs], by rw [unhide ha, unhide hall', hp]; rfl, (hbel.alloc hbel.size _).trans (hb1.mono (by have := hbel.size; simp; omega))⟩
          case measure => simp [intOf]; omega
      · have HE : Hid (longI l = sumBits (l.take k)) := by
          rw [List.take_of_length_le (by omega)] at hall ⊢
          exact longI_yes (by simp [lOk, hall]; omega)
        clear h hall
        go_wp2
        go_ret
        exact ⟨ret_int (unhide HE).symm, hbel⟩
  · have HI : Hid (longI l = -1) := longI_no (by simp [lOk]; omega)
    go_enter Try.func14, Try.ntmps14
    go_wp2
    go_ret
    exact ⟨ret_int (unhide HI).symm, Below.refl _ _⟩

end Go.Proofs.Ytnomiopdpmecbaa
