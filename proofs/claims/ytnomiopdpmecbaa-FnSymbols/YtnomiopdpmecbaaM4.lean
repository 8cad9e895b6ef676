/- Of what the proof is made: 2 texts, one behind the other. -/
import Derived.Test.YtnomiopdpmecbaaM3
import Derived.OpenShut
import Derived.Laws.OwnMore
/- Contracts of what draws an input out of a code: the reader is opened, one of some, a text many times. -/
namespace Go.Proofs.Ytnomiopdpmecbaa
open Go.RowKit

/-- What a law is told of a slice of bytes that came in. -/
def IsRow (k : IntKind) (w : World) (a : Option Addr) (len cap : Nat) (zs : List Int) : Prop :=
  (a = none ∧ len = 0 ∧ cap = 0 ∧ zs = []) ∨
  ∃ x, a = some x ∧ len ≤ cap ∧ cap ≤ maxLen ∧ zs.length = cap ∧ (∀ i, i < zs.length → w.cell? (x.add i) = some (.int k (zs.getD i 0))) ∧ ∀ n ∈ zs, (Lit.int k n).wf = true

/-- The same, in the reader's words: an address, and bytes. -/
def Src (w : World) (a : Option Addr) (len : Nat) (z : Nat → Int) : Prop :=
  (∀ i, 0 ≤ z i ∧ z i < 256) ∧ (0 < len → ∃ ab ao, a = some ⟨ab, ao, none⟩ ∧ ab < w.heap.size ∧ ∀ i, i < len → w.cell? ⟨ab, ao + i, none⟩ = some (.int .u8 (z i)))

theorem src_of {w : World} {a : Option Addr} {len cap : Nat} {zs : List Int} (h : IsRow .u8 w a len cap zs) : (∃ z, Src w a len z) ∧ len ≤ cap ∧ len ≤ maxLen := by
  rcases h with ⟨rfl, rfl, rfl, rfl⟩ | ⟨x, rfl, hl, hm, hz, hc, hw⟩
  · exact ⟨⟨fun _ => 0, fun _ => ⟨Int.le_refl _, by show (0 : Int) < 256; omega⟩, fun h => absurd h (by omega)⟩, by omega, by unfold maxLen; omega⟩
  · refine ⟨⟨fun i => zs.getD i 0, fun i => ?_, fun h0 => ?_⟩, hl, by omega⟩
    · by_cases hi : i < zs.length
      · have hm : zs.getD i 0 ∈ zs := by simp [List.getD, hi]
        have hb := bounds_u8 (hw _ hm)
        exact ⟨hb.1, Int.lt_of_le_of_lt hb.2 (by omega)⟩
      · simp [List.getD, List.getElem?_eq_none (by omega : zs.length ≤ i)]
    · obtain ⟨b, off, spot⟩ := x
      have hc0 := hc 0 (by omega)
      have hspot : spot = none := by simpa [Addr.add] using World.cell?_spot hc0
      subst hspot
      refine ⟨b, off, rfl, ?_, fun i hi => ?_⟩
      · have := World.block_lt_of_cell? _ _ hc0
        simpa [Addr.add] using this
      · have := hc i (by omega)
        by_cases e : i = 0
        · subst e; simpa [Addr.add] using this
        · simpa [Addr.add, e] using this

theorem rd_new {w : World} {a : Option Addr} {len cap : Nat} {z : Nat → Int} (h : Src w a len z) (hl : len ≤ 2000) (t : TypeId) :
    Rd (w.alloc (.cells #[.slice a len cap, .int .i64 0] t)) w.heap.size w.heap.size 0 := by
  refine ⟨a, len, cap, 0, z, hl, Nat.le_refl _, Nat.le_refl _, ⟨by simp, by simp, by simp, by simp, by simp⟩, h.1, fun h0 => ?_⟩
  obtain ⟨ab, ao, e, hlt, hc⟩ := h.2 h0
  refine ⟨ab, ao, e, hlt, fun i hi => ?_⟩
  rw [World.cell?_alloc_past _ _ _ hlt]
  exact hc i hi

theorem Src.less {w : World} {a : Option Addr} {len : Nat} {z : Nat → Int} (h : Src w a len z) (hl : 2000 < len) : Src w a 2000 z := by
  refine ⟨h.1, fun _ => ?_⟩
  obtain ⟨ab, ao, e, hlt, hc⟩ := h.2 (by omega)
  exact ⟨ab, ao, e, hlt, fun i hi => hc i (by omega)⟩

set_option maxHeartbeats 400000 in
theorem l1Open_any (a : Option Addr) (len cap : Nat) (z : Nat → Int) (w : World) (h : Src w a len z) (hc : len ≤ cap) (hm : len ≤ maxLen) :
    Calls Try.prog 17 #[.slice a len cap] w fun e w' => e = .returned (.pointer (some ⟨w.heap.size, 0, none⟩)) ∧ Rd w' w.heap.size w.heap.size 0 ∧ Below w.heap.size w w' ∧ w'.heap.size = w.heap.size + 1 := by
  unfold maxLen at hm
  by_cases hl : (2000 : Int) < (len : Int)
  · have h2 := hide (h.less (by omega))
    obtain ⟨ab, ao, rfl, hlt, _⟩ := h.2 (by omega)
    have hcc : (2000 : Int) ≤ (cap : Int) := by omega
    clear h
    go_enter Try.func17, Try.ntmps17
    go_wp2
    go_ret
    exact ⟨rfl, rd_new (unhide h2) (Nat.le_refl _) _, (Below.refl _ _).alloc (Nat.le_refl _) _, by simp⟩
  · have h2 := hide h
    clear h
    go_enter Try.func17, Try.ntmps17
    go_wp2
    go_ret
    exact ⟨rfl, rd_new (unhide h2) (by omega) _, (Below.refl _ _).alloc (Nat.le_refl _) _, by simp⟩

set_option maxHeartbeats 400000 in
theorem one_any (B b m lb lo n cap : Nat) (v : Nat → Int) (w : World) (h : Rd w B b m) (hm : m ≤ 100000) (n1 : 0 < n) (n2 : n ≤ 70000) (hlb : lb ≠ b) (hc : ∀ i, i < n → w.cell? ⟨lb, lo + i, none⟩ = some (.int .i64 (v i))) :
    Calls Try.prog 33 #[.pointer (some ⟨b, 0, none⟩), .slice (some ⟨lb, lo, none⟩) n cap] w fun e w' => ∃ i : Nat, i < n ∧ e = .returned (.int .i64 (v i)) ∧ Rd w' B b (m + 1) ∧ Only b w w' := by
  have n1' : (1 : Int) ≤ (n : Int) := by omega
  have n2' : (n : Int) ≤ 70000 := by omega
  have hc' := hide hc
  clear hc
  go_enter Try.func33, Try.ntmps33
  go_wp2_with (go_at_call 37; refine (pick_any B b m _ _ h hm n1' n2').mono ?_; rintro e w' ⟨r, rfl, r0, r1, hrd, hon⟩; obtain ⟨k, rfl⟩ := Int.eq_ofNat_of_zero_le r0; have hck : w'.cell? ⟨lb, lo + k, none⟩ = some (.int .i64 (v k)) := (hon.cell (p := ⟨lb, lo + k, none⟩) hlb).trans (unhide hc' k (by omega)))
  go_ret
  exact ⟨k, by omega, rfl, hrd, hon⟩
theorem Rd.alloc {w : World} {B b m : Nat} (h : Rd w B b m) (o : Obj) : Rd (w.alloc o) B b m := by
  obtain ⟨a, len, cap, p, z, hl, hp, hB, htwo, hz, hsrc⟩ := h
  obtain ⟨c0, c1, f0, f1, hb⟩ := htwo
  refine ⟨a, len, cap, p, z, hl, hp, hB, ⟨?_, ?_, ?_, ?_, ?_⟩, hz, fun h0 => ?_⟩
  · rw [World.cell?_alloc_past _ _ _ hb]; exact c0
  · rw [World.cell?_alloc_past _ _ _ hb]; exact c1
  · rw [World.frozen?_alloc_past _ _ _ hb]; exact f0
  · rw [World.frozen?_alloc_past _ _ _ hb]; exact f1
  · simp; omega
  · obtain ⟨ab, ao, e, hlt, hc⟩ := hsrc h0
    refine ⟨ab, ao, e, hlt, fun i hi => ?_⟩
    rw [World.cell?_alloc_past _ _ _ (by omega)]; exact hc i hi

theorem Rd.lt {w : World} {B b m : Nat} (h : Rd w B b m) : b < w.heap.size := by
  obtain ⟨a, len, cap, p, z, hl, hp, hB, htwo, hz, hsrc⟩ := h
  exact htwo.2.2.2.2
theorem Rd.mono {w : World} {B b m n : Nat} (h : Rd w B b m) (hn : m ≤ n) : Rd w B b n := by
  obtain ⟨a, len, cap, p, z, hl, hp, hr⟩ := h
  exact ⟨a, len, cap, p, z, hl, by omega, hr⟩
theorem Rd.kept {w w' : World} {B b m : Nat} (h : Rd w B b m) (hb : Below (b + 1) w w') : Rd w' B b m := by
  obtain ⟨a, len, cap, p, z, hl, hp, hB, htwo, hz, hsrc⟩ := h
  obtain ⟨c0, c1, f0, f1, hlt⟩ := htwo
  refine ⟨a, len, cap, p, z, hl, hp, hB, ⟨?_, ?_, ?_, ?_, ?_⟩, hz, fun h0 => ?_⟩
  · exact (hb.cell (p := ⟨b, 0, none⟩) (Nat.lt_succ_self b)).trans c0
  · exact (hb.cell (p := ⟨b, 1, none⟩) (Nat.lt_succ_self b)).trans c1
  · exact (hb.frozen (p := ⟨b, 0, none⟩) (Nat.lt_succ_self b)).trans f0
  · exact (hb.frozen (p := ⟨b, 1, none⟩) (Nat.lt_succ_self b)).trans f1
  · exact Nat.lt_of_lt_of_le hlt hb.size
  · obtain ⟨ab, ao, e, hlt, hc⟩ := hsrc h0
    refine ⟨ab, ao, e, hlt, fun i hi => ?_⟩
    exact (hb.cell (p := ⟨ab, ao + i, none⟩) (by show ab < b + 1; omega)).trans (hc i hi)

theorem Only.grown {b : Nat} {w w' : World} (h : Only b w w') : w.grownBy w' (some b) :=
  ⟨h.1.os, h.1.tape, h.1.output, by rw [h.2.2]; exact Nat.le_refl _, fun k _ hk => h.2.1 k (fun e => hk (by rw [e]))⟩
theorem owns_only {w w' : World} {b base : Nat} {e : TypeId} {size : Nat} {v : Value} {n : Nat} {xs : List Value} (h : w.ownsRow base e size v n xs) (ho : Only b w w') (hb : b < base) : w'.ownsRow base e size v n xs :=
  h.kept ho.grown (by
    cases hv : v.ownBlock with
    | none => exact .inl rfl
    | some k => exact .inr (fun e => by have := (h.lt k hv).1; cases e; omega))
theorem Rd.grown {w w' : World} {B b m : Nat} {row : Option Nat} (h : Rd w B b m) (hg : w.grownBy w' row) (hr : ∀ k, row = some k → b < k) : Rd w' B b m := by
  have hlt := h.lt
  exact h.kept ((Below.refl _ _).grown hg (by omega) (fun k e => hr k e))

theorem lit_cells (w : World) (l : List Int) (t : TypeId) : ∀ i, i < l.length → (w.alloc (.cells (l.map (Value.int .i64)).toArray t)).cell? ⟨w.heap.size, 0 + i, none⟩ = some (.int .i64 (l.getD i 0)) := by
  intro i hi
  simp [hi]

theorem one_lit (B b m n : Nat) (l : List Int) (t : TypeId) (w : World) (hn : l.length = n) (h : Rd w B b m) (hm : m ≤ 100000) (n1 : 0 < n) (n2 : n ≤ 70000) :
    Calls Try.prog 33 #[.pointer (some ⟨b, 0, none⟩), .slice (some ⟨w.heap.size, 0, none⟩) n n] (w.alloc (.cells (l.map (Value.int .i64)).toArray t)) fun e w' => ∃ v : Int, v ∈ l ∧ e = .returned (.int .i64 v) ∧ Rd w' B b (m + 1) ∧ Below b w w' := by
  subst hn
  have hlt := h.lt
  refine (one_any B b m w.heap.size 0 l.length l.length (fun i => l.getD i 0) _ (h.alloc _) hm n1 n2 (Nat.ne_of_gt hlt) (lit_cells w l t)).mono ?_
  rintro e w' ⟨i, hi, he, hr, ho⟩
  refine ⟨l.getD i 0, ?_, he, hr, ((Below.refl _ _).alloc (Nat.le_of_lt hlt) _).trans ho.1⟩
  simp [List.getD, hi]
theorem Src.later {w w' : World} {a : Option Addr} {len : Nat} {z : Nat → Int} (h : Src w a len z) (hb : Below w.heap.size w w') : Src w' a len z := by
  refine ⟨h.1, fun h0 => ?_⟩
  obtain ⟨ab, ao, e, hlt, hc⟩ := h.2 h0
  exact ⟨ab, ao, e, Nat.lt_of_lt_of_le hlt hb.size, fun i hi => (hb.cell (p := ⟨ab, ao + i, none⟩) hlt).trans (hc i hi)⟩

theorem bnext {w w1 w2 : World} (h : Below w.heap.size w w1) (k : Below w1.heap.size w1 w2) : Below w.heap.size w w2 := h.trans (k.mono h.size)

theorem size_max {s : ByteArray} {n : Nat} (h : s.size ≤ n) (hn : n ≤ 1000000) : s.size ≤ maxLen := by unfold maxLen; omega

end Go.Proofs.Ytnomiopdpmecbaa
/- One of some that a draw lays, over this seat's program. -/
namespace Go.Proofs.Ytnomiopdpmecbaa
open Go.RowKit

theorem one_only (B b m n : Nat) (l : List Int) (t : TypeId) (w : World) (hn : l.length = n) (h : Rd w B b m) (hm : m ≤ 100000) (n1 : 0 < n) (n2 : n ≤ 70000) :
    Calls Try.prog 33 #[.pointer (some ⟨b, 0, none⟩), .slice (some ⟨w.heap.size, 0, none⟩) n n] (w.alloc (.cells (l.map (Value.int .i64)).toArray t)) fun e w' => ∃ v : Int, v ∈ l ∧ e = .returned (.int .i64 v) ∧ Rd w' B b (m + 1) ∧ Only b (w.alloc (.cells (l.map (Value.int .i64)).toArray t)) w' := by
  subst hn
  have hlt := h.lt
  refine (one_any B b m w.heap.size 0 l.length l.length (fun i => l.getD i 0) _ (h.alloc _) hm n1 n2 (Nat.ne_of_gt hlt) (lit_cells w l t)).mono ?_
  rintro e w' ⟨i, hi, he, hr, ho⟩
  refine ⟨l.getD i 0, ?_, he, hr, ho⟩
  simp [List.getD, hi]

end Go.Proofs.Ytnomiopdpmecbaa
