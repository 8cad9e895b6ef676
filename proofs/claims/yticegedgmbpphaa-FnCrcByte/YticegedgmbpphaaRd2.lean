/- Contracts of what draws an input out of a code: the reader is opened, one of some, a text many times. -/
import Derived.Test.YticegedgmbpphaaRd1
import Derived.OpenShut
namespace Go.Proofs.Yticegedgmbpphaa
open Go.RowKit Corb

/-- What a law is told of a slice of bytes that came in. -/
def IsRow (k : IntKind) (w : World) (a : Option Addr) (len cap : Nat) (zs : List Int) : Prop :=
  (a = none ∧ len = 0 ∧ cap = 0 ∧ zs = []) ∨
  ∃ x, a = some x ∧ len ≤ cap ∧ cap ≤ maxLen ∧ zs.length = cap ∧ (∀ i, i < zs.length → w.cell? (x.add i) = some (.int k (zs.getD i 0))) ∧ ∀ n ∈ zs, (Lit.int k n).wf = true

/-- The same, in the reader's words: an address, and bytes. -/
def Src (w : World) (a : Option Addr) (len : Nat) (z : Nat → Int) : Prop :=
  (∀ i, 0 ≤ z i ∧ z i < 256) ∧ (0 < len → ∃ ab ao, a = some ⟨ab, ao, none⟩ ∧ ab < w.heap.size ∧ ∀ i, i < len → w.cell? ⟨ab, ao + i, none⟩ = some (.int .u8 (z i)))

theorem src_of {w : World} {a : Option Addr} {len cap : Nat} {zs : List Int} (h : IsRow .u8 w a len cap zs) : (∃ z, Src w a len z) ∧ len ≤ cap ∧ len ≤ maxLen := by
  rcases h with ⟨rfl, rfl, rfl, rfl⟩ | ⟨x, rfl, hl, hm, hz, hc, hw⟩
  · exact ⟨⟨fun _ => 0, fun _ => ⟨Int.le_refl _, by show (0 : Int) < 256; omega⟩, fun h => absurd h (by omega)⟩, by omega, by unfold maxLen; omega⟩
  · refine ⟨⟨fun i => zs.getD i 0, fun i => ?_, fun h0 => ?_⟩, hl, by omega⟩
    · by_cases hi : i < zs.length
      · have hm : zs.getD i 0 ∈ zs := by simp [List.getD, hi]
        have hb := bounds_u8 (hw _ hm)
        exact ⟨hb.1, Int.lt_of_le_of_lt hb.2 (by omega)⟩
      · simp [List.getD, List.getElem?_eq_none (by omega : zs.length ≤ i)]
    · obtain ⟨b, off, spot⟩ := x
      have hc0 := hc 0 (by omega)
      have hspot : spot = none := by simpa [Addr.add] using World.cell?_spot hc0
      subst hspot
      refine ⟨b, off, rfl, ?_, fun i hi => ?_⟩
      · have := World.block_lt_of_cell? _ _ hc0
        simpa [Addr.add] using this
      · have := hc i (by omega)
        by_cases e : i = 0
        · subst e; simpa [Addr.add] using this
        · simpa [Addr.add, e] using this

theorem rd_new {w : World} {a : Option Addr} {len cap : Nat} {z : Nat → Int} (h : Src w a len z) (hl : len ≤ 2000) (t : TypeId) :
    Rd (w.alloc (.cells #[.slice a len cap, .int .i64 0] t)) w.heap.size w.heap.size 0 := by
  refine ⟨a, len, cap, 0, z, hl, Nat.le_refl _, Nat.le_refl _, ⟨by simp, by simp, by simp, by simp, by simp⟩, h.1, fun h0 => ?_⟩
  obtain ⟨ab, ao, e, hlt, hc⟩ := h.2 h0
  refine ⟨ab, ao, e, hlt, fun i hi => ?_⟩
  rw [World.cell?_alloc_past _ _ _ hlt]
  exact hc i hi

theorem Src.less {w : World} {a : Option Addr} {len : Nat} {z : Nat → Int} (h : Src w a len z) (hl : 2000 < len) : Src w a 2000 z := by
  refine ⟨h.1, fun _ => ?_⟩
  obtain ⟨ab, ao, e, hlt, hc⟩ := h.2 (by omega)
  exact ⟨ab, ao, e, hlt, fun i hi => hc i (by omega)⟩

set_option maxHeartbeats 400000 in
theorem l1Open_any (a : Option Addr) (len cap : Nat) (z : Nat → Int) (w : World) (h : Src w a len z) (hc : len ≤ cap) (hm : len ≤ maxLen) :
    Calls Try.prog 35 #[.slice a len cap] w fun e w' => e = .returned (.pointer (some ⟨w.heap.size, 0, none⟩)) ∧ Rd w' w.heap.size w.heap.size 0 ∧ Below w.heap.size w w' ∧ w'.heap.size = w.heap.size + 1 := by
  unfold maxLen at hm
  by_cases hl : (2000 : Int) < (len : Int)
  · have h2 := hide (h.less (by omega))
    obtain ⟨ab, ao, rfl, hlt, _⟩ := h.2 (by omega)
    have hcc : (2000 : Int) ≤ (cap : Int) := by omega
    clear h
    go_enter Try.func35, Try.ntmps35
    go_wp2
    go_ret
    exact ⟨rfl, rd_new (unhide h2) (Nat.le_refl _) _, (Below.refl _ _).alloc (Nat.le_refl _) _, by simp⟩
  · have h2 := hide h
    clear h
    go_enter Try.func35, Try.ntmps35
    go_wp2
    go_ret
    exact ⟨rfl, rd_new (unhide h2) (by omega) _, (Below.refl _ _).alloc (Nat.le_refl _) _, by simp⟩

set_option maxHeartbeats 400000 in
theorem one_any (B b m lb lo n cap : Nat) (v : Nat → Int) (w : World) (h : Rd w B b m) (hm : m ≤ 100000) (n1 : 0 < n) (n2 : n ≤ 70000) (hlb : lb ≠ b) (hc : ∀ i, i < n → w.cell? ⟨lb, lo + i, none⟩ = some (.int .i64 (v i))) :
    Calls Try.prog 37 #[.pointer (some ⟨b, 0, none⟩), .slice (some ⟨lb, lo, none⟩) n cap] w fun e w' => ∃ i : Nat, i < n ∧ e = .returned (.int .i64 (v i)) ∧ Rd w' B b (m + 1) ∧ Only b w w' := by
  have n1' : (1 : Int) ≤ (n : Int) := by omega
  have n2' : (n : Int) ≤ 70000 := by omega
  have hc' := hide hc
  clear hc
  go_enter Try.func37, Try.ntmps37
  go_wp2_with (go_at_call 49; refine (pick_any B b m _ _ h hm n1' n2').mono ?_; rintro e w' ⟨r, rfl, r0, r1, hrd, hon⟩; obtain ⟨k, rfl⟩ := Int.eq_ofNat_of_zero_le r0; have hck : w'.cell? ⟨lb, lo + k, none⟩ = some (.int .i64 (v k)) := (hon.cell (p := ⟨lb, lo + k, none⟩) hlb).trans (unhide hc' k (by omega)))
  go_ret
  exact ⟨k, by omega, rfl, hrd, hon⟩

set_option maxHeartbeats 400000 in
theorem of_any (B b m lb lo n cap : Nat) (v : Nat → ByteArray) (w : World) (h : Rd w B b m) (hm : m ≤ 100000) (n1 : 0 < n) (n2 : n ≤ 70000) (hlb : lb ≠ b) (hc : ∀ i, i < n → w.cell? ⟨lb, lo + i, none⟩ = some (.string (v i))) :
    Calls Try.prog 51 #[.pointer (some ⟨b, 0, none⟩), .slice (some ⟨lb, lo, none⟩) n cap] w fun e w' => ∃ i : Nat, i < n ∧ e = .returned (.string (v i)) ∧ Rd w' B b (m + 1) ∧ Only b w w' := by
  have n1' : (1 : Int) ≤ (n : Int) := by omega
  have n2' : (n : Int) ≤ 70000 := by omega
  have hc' := hide hc
  clear hc
  go_enter Try.func51, Try.ntmps51
  go_wp2_with (go_at_call 49; refine (pick_any B b m _ _ h hm n1' n2').mono ?_; rintro e w' ⟨r, rfl, r0, r1, hrd, hon⟩; obtain ⟨k, rfl⟩ := Int.eq_ofNat_of_zero_le r0; have hck : w'.cell? ⟨lb, lo + k, none⟩ = some (.string (v k)) := (hon.cell (p := ⟨lb, lo + k, none⟩) hlb).trans (unhide hc' k (by omega)))
  go_ret
  exact ⟨k, by omega, rfl, hrd, hon⟩

end Go.Proofs.Yticegedgmbpphaa
