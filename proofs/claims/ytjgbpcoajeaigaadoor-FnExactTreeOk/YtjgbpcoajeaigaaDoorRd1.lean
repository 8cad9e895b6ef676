/- Contracts of what draws an input out of a code, over this seat's program. -/
import Derived.Test.YtjgbpcoajeaigaaDoorMem
namespace Go.Proofs.YtjgbpcoajeaigaaDoor
open Go.RowKit

/-- All that was there is there, but for one block; nothing is new. -/
def Only (b : Nat) (w w' : World) : Prop := Below b w w' ∧ (∀ k, k ≠ b → w'.heap[k]? = w.heap[k]?) ∧ w'.heap.size = w.heap.size

theorem Only.cell {b : Nat} {w w' : World} (h : Only b w w') {p : Addr} (hp : p.block ≠ b) : w'.cell? p = w.cell? p := World.cell?_of_block (w := w) (h.2.1 p.block hp)
theorem Only.frozen {b : Nat} {w w' : World} (h : Only b w w') {p : Addr} (hp : p.block ≠ b) : w'.frozen? p = w.frozen? p := World.frozen?_of_block (w := w) (h.2.1 p.block hp)
theorem only_set (w : World) (b o : Nat) (u : Value) (n : Nat) : Only b w ((w.setCell ⟨b, o, none⟩ u).drewN n) :=
  ⟨below_drewN (below_set (Below.refl _ _) (Nat.le_refl _) _) _, fun k hk => Below.heap_setCell w ⟨b, o, none⟩ u k hk, by show (w.setCell ⟨b, o, none⟩ u).heap.size = _; simp⟩

/-- A reader of a code: where it stands is at most m; the code lies below B. -/
def Rd (w : World) (B b m : Nat) : Prop := ∃ (a : Option Addr) (len cap p : Nat) (z : Nat → Int), len ≤ 2000 ∧ p ≤ m ∧ B ≤ b ∧ Two w b (.slice a len cap) (.int .i64 p) ∧
  (∀ i, 0 ≤ z i ∧ z i < 256) ∧ (0 < len → ∃ ab ao, a = some ⟨ab, ao, none⟩ ∧ ab < B ∧ ∀ i, i < len → w.cell? ⟨ab, ao + i, none⟩ = some (.int .u8 (z i)))

theorem mix_bd (X n : Int) (h0 : 0 ≤ X) (h1 : X < 1000000000) (n1 : 1 ≤ n) : 0 ≤ (bits .xor .i64 X (X / 64)).tmod n ∧ (bits .xor .i64 X (X / 64)).tmod n < n := by
  obtain ⟨x, rfl⟩ := Int.eq_ofNat_of_zero_le h0
  have e := i64_xor_nat x (x / 64) (by omega) (by omega)
  rw [show ((x / 64 : Nat) : Int) = (x : Int) / 64 by omega] at e
  rw [e]
  exact ⟨Int.tmod_nonneg _ (by omega), Int.tmod_lt_of_pos _ (by omega)⟩


end Go.Proofs.YtjgbpcoajeaigaaDoor
