/- Contracts of what draws an input out of a code, over this seat's program. -/
import Derived.Test.YtjldafkcolmfeaaDoorMem
namespace Go.Proofs.YtjldafkcolmfeaaDoor
open Go.RowKit

/-- All that was there is there, but for one block; nothing is new. -/
def Only (b : Nat) (w w' : World) : Prop := Below b w w' ∧ (∀ k, k ≠ b → w'.heap[k]? = w.heap[k]?) ∧ w'.heap.size = w.heap.size

theorem Only.cell {b : Nat} {w w' : World} (h : Only b w w') {p : Addr} (hp : p.block ≠ b) : w'.cell? p = w.cell? p := World.cell?_of_block (w := w) (h.2.1 p.block hp)
theorem Only.frozen {b : Nat} {w w' : World} (h : Only b w w') {p : Addr} (hp : p.block ≠ b) : w'.frozen? p = w.frozen? p := World.frozen?_of_block (w := w) (h.2.1 p.block hp)
theorem only_set (w : World) (b o : Nat) (u : Value) (n : Nat) : Only b w ((w.setCell ⟨b, o, none⟩ u).drewN n) :=
  ⟨below_drewN (below_set (Below.refl _ _) (Nat.le_refl _) _) _, fun k hk => Below.heap_setCell w ⟨b, o, none⟩ u k hk, by show (w.setCell ⟨b, o, none⟩ u).heap.size = _; simp⟩

/-- A reader of a code: where it stands is at most m; the code lies below B. -/
def Rd (w : World) (B b m : Nat) : Prop := ∃ (a : Option Addr) (len cap p : Nat) (z : Nat → Int), len ≤ 2000 ∧ p ≤ m ∧ B ≤ b ∧ Two w b (.slice a len cap) (.int .i64 p) ∧
  (∀ i, 0 ≤ z i ∧ z i < 256) ∧ (0 < len → ∃ ab ao, a = some ⟨ab, ao, none⟩ ∧ ab < B ∧ ∀ i, i < len → w.cell? ⟨ab, ao + i, none⟩ = some (.int .u8 (z i)))

theorem mix_bd (X n : Int) (h0 : 0 ≤ X) (h1 : X < 1000000000) (n1 : 1 ≤ n) : 0 ≤ (bits .xor .i64 X (X / 64)).tmod n ∧ (bits .xor .i64 X (X / 64)).tmod n < n := by
  obtain ⟨x, rfl⟩ := Int.eq_ofNat_of_zero_le h0
  have e := i64_xor_nat x (x / 64) (by omega) (by omega)
  rw [show ((x / 64 : Nat) : Int) = (x : Int) / 64 by omega] at e
  rw [e]
  exact ⟨Int.tmod_nonneg _ (by omega), Int.tmod_lt_of_pos _ (by omega)⟩

set_option maxHeartbeats 1600000 in
theorem pick_any (B b m : Nat) (n : Int) (w : World) (h : Rd w B b m) (hm : m ≤ 100000) (n1 : 1 ≤ n) (n2 : n ≤ 70000) :
    Calls Tryd.prog 14 #[.pointer (some ⟨b, 0, none⟩), .int .i64 n] w fun e w' => ∃ r : Int, e = .returned (.int .i64 r) ∧ 0 ≤ r ∧ r < n ∧ Rd w' B b (m + 1) ∧ Only b w w' := by
  obtain ⟨a, len, cap, p, z, hl, hp, hB, htwo, hz, hsrc⟩ := h
  have h' := hide htwo
  obtain ⟨c0, c1, f0, f1, hb⟩ := htwo
  have hp' : (p : Int) ≤ 100000 := by omega
  have hl' : (len : Int) ≤ 2000 := by omega
  have hrd : ∀ nq, Rd ((w.setCell ⟨b, 1, none⟩ (.int .i64 ((p : Int) + 1))).drewN nq) B b (m + 1) := by
    intro nq
    refine ⟨a, len, cap, p + 1, z, hl, by omega, hB, (unhide h').set1 _, hz, fun h0 => ?_⟩
    obtain ⟨ab, ao, e, hlt, hc⟩ := hsrc h0
    refine ⟨ab, ao, e, hlt, fun i hi => ?_⟩
    rw [← hc i hi]
    exact (only_set w b 1 _ nq).cell (by show ab ≠ b; omega)
  have Hrd := hide hrd
  clear hrd
  by_cases h0 : len = 0
  · subst h0
    clear hsrc hl hp hm
    go_enter Tryd.func14, Tryd.ntmps14
    go_wp2
    go_ret
    exact ⟨0, rfl, by omega, by omega, unhide Hrd 0, only_set w b 1 _ 0⟩
  · obtain ⟨ab, ao, rfl, hlt, hc⟩ := hsrc (by omega)
    have hlp : (0 : Int) < (len : Int) := by omega
    have hne : ((len : Int) == 0) = false := by simp; omega
    have hab : ab ≠ b := by omega
    by_cases hk : p < len
    · have hcp := hc p hk
      have hzp := hz p
      obtain ⟨z0, z1⟩ := hzp
      generalize z p = zp at *
      clear hsrc hc hz hl hp hm h0
      go_enter Tryd.func14, Tryd.ntmps14
      go_wp2
      go_ret
      exact ⟨zp % n, rfl, Int.emod_nonneg _ (by omega), Int.emod_lt_of_pos _ (by omega), unhide Hrd 0, only_set w b 1 _ 0⟩
    · have i1 := hc (p % len) (Nat.mod_lt _ (by omega))
      have i2 := hc ((p * 7 + 3) % len) (Nat.mod_lt _ (by omega))
      obtain ⟨z0, z1⟩ := hz (p % len)
      obtain ⟨y0, y1⟩ := hz ((p * 7 + 3) % len)
      have j0 : (0 : Int) ≤ (p : Int) % (len : Int) := Int.emod_nonneg _ (by omega)
      have j1 : (p : Int) % (len : Int) < (len : Int) := Int.emod_lt_of_pos _ (by omega)
      have j2 : (0 : Int) ≤ ((p : Int) * 7 + 3) % (len : Int) := Int.emod_nonneg _ (by omega)
      have j3 : ((p : Int) * 7 + 3) % (len : Int) < (len : Int) := Int.emod_lt_of_pos _ (by omega)
      have j4 : (0 : Int) ≤ (p : Int) / (len : Int) := Int.ediv_nonneg (by omega) (by omega)
      have j5 : (p : Int) / (len : Int) ≤ 100000 := Int.le_trans (Int.ediv_le_self _ (by omega)) hp'
      generalize z (p % len) = zp at *
      generalize z ((p * 7 + 3) % len) = yp at *
      clear hsrc hc hz hl hp hm h0
      go_enter Tryd.func14, Tryd.ntmps14
      go_wp2
      go_quiet (fail)
      go_wp2
      go_ret
      refine ⟨_, rfl, ?_, ?_, unhide Hrd _, only_set w b 1 _ _⟩
      · exact (mix_bd _ n (by omega) (by omega) n1).1
      · exact (mix_bd _ n (by omega) (by omega) n1).2

end Go.Proofs.YtjldafkcolmfeaaDoor
