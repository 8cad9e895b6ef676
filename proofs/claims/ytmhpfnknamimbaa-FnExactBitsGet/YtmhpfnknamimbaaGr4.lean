/- Rows of ints; the model's reading of numbers, over this seat's program. -/
import Derived.Test.YtmhpfnknamimbaaGr3
import Derived.Test.YtmhpfnknamimbaaLc1
namespace Go.Proofs.Ytmhpfnknamimbaa
open Go.RowKit Corb

/-- A row of ints. -/
def IRow (w : World) (a : Option Addr) (l : List Int) : Prop :=
  0 < l.length → ∃ g o, a = some ⟨g, o, none⟩ ∧ g < w.heap.size ∧ ∀ i, i < l.length → w.cell? ⟨g, o + i, none⟩ = some (.int .i64 (l.getD i 0))
theorem IRow.below {w w' : World} {a : Option Addr} {l : List Int} {B : Nat} (h : IRow w a l) (hB : w.heap.size ≤ B) (hb : Below B w w') : IRow w' a l := by
  intro h0
  obtain ⟨g, o, e, hg, hc⟩ := h h0
  exact ⟨g, o, e, Nat.lt_of_lt_of_le hg hb.size, fun i hi => by rw [← hc i hi]; exact hb.cell (p := ⟨g, o + i, none⟩) (by show g < B; omega)⟩
theorem IRow.later {w w' : World} {a : Option Addr} {l : List Int} (h : IRow w a l) (hb : Below w.heap.size w w') : IRow w' a l := h.below (Nat.le_refl _) hb

/-- A row of ints of the call's own. -/
def IOwn (w : World) (base : Nat) (v : Value) (l : List Int) : Prop := w.ownsRow base 3 1 v l.length (l.map (Value.int .i64))
theorem IOwn.form {w : World} {base : Nat} {v : Value} {l : List Int} (h : IOwn w base v l) : ∃ a cap, v = .slice a l.length cap := by
  rcases h.2 with ⟨e, h0⟩ | ⟨g, cap, _, e, _⟩
  · exact ⟨none, 0, by rw [e, h0]⟩
  · exact ⟨_, cap, e⟩
theorem IOwn.row {w : World} {base : Nat} {a : Option Addr} {cap : Nat} {l : List Int} (h : IOwn w base (.slice a l.length cap) l) : IRow w a l := by
  intro h0
  rcases h.2 with ⟨e, hn⟩ | ⟨g, cap', cur, e, hb, hg, _⟩
  · omega
  · simp only [Value.slice.injEq] at e
    obtain ⟨rfl, _, rfl⟩ := e
    refine ⟨g, 0, rfl, (Array.getElem?_eq_some_iff.1 hg).1, fun i hi => ?_⟩
    have := World.ownsRow.cells h (g := g) rfl i (.int .i64 (l.getD i 0)) (by simp [List.getD, hi])
    have hadd : (⟨g, 0, none⟩ : Addr).add i = ⟨g, i, none⟩ := by unfold Addr.add; split <;> simp_all
    rw [hadd] at this
    rw [Nat.zero_add]
    exact this
theorem IOwn.later {w w' : World} {base B : Nat} {v : Value} {l : List Int} (h : IOwn w base v l) (hb : Below B w w') (hB : w.heap.size ≤ B) : IOwn w' base v l := by
  refine ⟨h.1, ?_⟩
  rcases h.2 with hn | ⟨g, cap, cur, rfl, hbg, hgg, rest⟩
  · exact .inl hn
  · refine .inr ⟨g, cap, cur, rfl, hbg, ?_, rest⟩
    have hg := (Array.getElem?_eq_some_iff.1 hgg).1
    rw [hb.block g (by omega)]
    exact hgg
theorem IOwn.lit (w : World) (base : Nat) (hb : base ≤ w.heap.size) : IOwn (w.alloc (.cells #[] 3)) base (.slice (some ⟨w.heap.size, 0, none⟩) 0 0) [] :=
  World.ownsRow_lit w #[] 0 hb (by unfold maxLen; omega) rfl
theorem IOwn.nil (w : World) (base : Nat) : IOwn w base (.slice none 0 0) [] := World.ownsRow_nil _ _ _ _
theorem iown_snoc {x : World} {base : Nat} {v : Value} {l : List Int} {a : Int} (h : x.ownsRow base 3 1 v (l.length + 1) (l.map (Value.int .i64) ++ [.int .i64 a])) : IOwn x base v (l ++ [a]) := by
  unfold IOwn
  simpa using h
theorem IOwn.mono {w : World} {base base' : Nat} {v : Value} {l : List Int} (h : IOwn w base v l) (hb : base' ≤ base) : IOwn w base' v l := by
  refine ⟨h.1, ?_⟩
  rcases h.2 with hn | ⟨g, cap, cur, rfl, hbg, rest⟩
  · exact .inl hn
  · exact .inr ⟨g, cap, cur, rfl, by omega, rest⟩

theorem grown_step {x y y' : World} {o : Obj} {v : Value} {e : TypeId} {size n B base : Nat} {xs : List Value} (hg : (y.alloc o).grownBy y' v.ownBlock) (ho : y.ownsRow base e size v n xs) (hbb : B ≤ base) (hy : B ≤ y.heap.size) (hb : Below B x y) : Below B x y' :=
  (hb.alloc hy _).grown hg (by simp; omega) (fun j hj => Nat.le_trans hbb (World.ownsRow.lt (ho.alloc o) j hj).1)

theorem Rdr.over {w : World} {b p : Nat} {s : ByteArray} (h : Rdr w b s p) (hp : 8 * s.size < p) : Three w b (.string s) (.int .i64 (8 * (s.size : Int))) (.bool true) := by
  unfold Rdr at h
  rw [Nat.min_eq_right (by omega), decide_eq_true (by omega)] at h
  exact h
set_option maxHeartbeats 400000 in
theorem srcWhole_past (b p : Nat) (s : ByteArray) (w : World) (h : Rdr w b s p) (hs : s.size ≤ 2000000) (hp : 8 * s.size < p) :
    Calls Try.prog 53 #[.pointer (some ⟨b, 0, none⟩)] w fun e w' => e = .returned (.bool true) ∧ w' = w := by
  obtain ⟨c0, c1, c2, f0, f1, f2, hb3⟩ := h.over hp
  have h8 : (8 * (s.size : Int)) % 8 = 0 := by omega
  have hsI : (s.size : Int) ≤ 2000000 := by omega
  clear h hs hp
  go_enter Try.func53, Try.ntmps53
  go_wp2_with fail
  go_loopw [3] (fun n wr => n = .int .i64 0 ∧ wr = w) (fun _ _ => 0)
  case atStart => exact ⟨rfl, rfl⟩
  case round =>
    obtain ⟨rfl, rfl⟩ := hrel
    go_wp2
    go_ret
    exact ⟨rfl, rfl⟩

theorem rdr_new (w : World) (s : ByteArray) (t : TypeId) : Rdr (w.alloc (.cells #[.string s, .int .i64 0, .bool false] t)) w.heap.size s 0 := by
  unfold Rdr
  simp only [Nat.zero_min, Nat.not_lt_zero, decide_false]
  exact ⟨by simp, by simp, by simp, by simp, by simp, by simp, by simp⟩

theorem getOk_no {s : List UInt8} {l : List Int} (h : bitsOk l = false ∨ 4000 < l.length) : getOk s l = false ∧ getL s l = [] := by
  have hk : getOk s l = false := by
    unfold getOk
    rcases h with h | h
    · simp [h]
    · simp; omega
  exact ⟨hk, if_neg (by simp [hk])⟩
theorem getOk_eq {s : List UInt8} {l : List Int} (h : bitsOk l = true) (h4 : l.length ≤ 4000) : getOk s l = (decide (s.length = (sumN l + 7) / 8) && decide (valB s < 2 ^ sumN l)) := by
  simp [getOk, h, h4]
theorem getL_no {s : List UInt8} {l : List Int} (h : getOk s l = false) : getL s l = [] := if_neg (by simp [h])
theorem getL_yes {s : List UInt8} {l : List Int} (h : getOk s l = true) : getL s l = readV (valB s) 0 l := if_pos h

end Go.Proofs.Ytmhpfnknamimbaa
