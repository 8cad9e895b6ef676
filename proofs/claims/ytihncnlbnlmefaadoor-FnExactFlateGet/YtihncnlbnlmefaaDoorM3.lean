/- Of what the proof is made: 5 texts, one behind the other. -/
import Derived.Test.YtihncnlbnlmefaaDoorM2
import Derived.Deep.QuietTactic
import Derived.BigQuiet
import Derived.BigRegion
import Derived.WalkSmall
import Derived.Deep.RegionWith
import Derived.Test.YtihncnlbnlmefaaDoorM1
/- Two cells of a block of the call's own; worlds that are kept but for one block. -/
namespace Go.Proofs.YtihncnlbnlmefaaDoor
open Go.RowKit

/-- Two cells of a block of the call's own. -/
def Two (w : World) (b : Nat) (v0 v1 : Value) : Prop :=
  w.cell? ⟨b, 0, none⟩ = some v0 ∧ w.cell? ⟨b, 1, none⟩ = some v1 ∧ w.frozen? ⟨b, 0, none⟩ = false ∧ w.frozen? ⟨b, 1, none⟩ = false ∧ b < w.heap.size

theorem below_set {B : Nat} {a w : World} (h : Below B a w) {b o : Nat} (hb : B ≤ b) (u : Value) : Below B a (w.setCell ⟨b, o, none⟩ u) := h.setCell (p := ⟨b, o, none⟩) hb u
theorem Two.set0 {w : World} {b : Nat} {v0 v1 : Value} (h : Two w b v0 v1) (u : Value) : Two (w.setCell ⟨b, 0, none⟩ u) b u v1 := by
  obtain ⟨c0, c1, f0, f1, hb⟩ := h
  refine ⟨World.cell?_setCell_same _ _ _ c0, ?_, by simpa using f0, by simpa using f1, by simpa using hb⟩
  rw [World.cell?_setCell_other _ _ _ _ (by simp)]; exact c1
theorem Two.set1 {w : World} {b : Nat} {v0 v1 : Value} (h : Two w b v0 v1) (u : Value) : Two (w.setCell ⟨b, 1, none⟩ u) b v0 u := by
  obtain ⟨c0, c1, f0, f1, hb⟩ := h
  refine ⟨?_, World.cell?_setCell_same _ _ _ c1, by simpa using f0, by simpa using f1, by simpa using hb⟩
  rw [World.cell?_setCell_other _ _ _ _ (by simp)]; exact c0
theorem Two.drew {w : World} {b : Nat} {v0 v1 : Value} (h : Two w b v0 v1) : Two w.drew b v0 v1 := h

end Go.Proofs.YtihncnlbnlmefaaDoor
/- Contracts of the tests of pieces and of BitsTurn, over this seat's program. -/
namespace Go.Proofs.YtihncnlbnlmefaaDoor
open Go.RowKit Corb

/-- 2 to the power of a number, closed to the walk. -/
def p2 (k : Nat) : Nat := 2 ^ k
theorem p2_pos (k : Nat) : 1 ≤ p2 k := Nat.one_le_two_pow
theorem p2_succ (k : Nat) : p2 (k + 1) = p2 k * 2 := Nat.pow_succ ..
theorem p2_int (k : Nat) : ((p2 k : Nat) : Int) = (2 : Int) ^ k := by simp [p2]

theorem wrap_id (n : Int) (h0 : -9223372036854775808 ≤ n) (h1 : n ≤ 9223372036854775807) : IntKind.i64.wrap n = n := by
  simp [IntKind.wrap, IntKind.bits, IntKind.signed]; omega

set_option maxHeartbeats 400000 in
theorem l1Pow_any (n : Int) (w : World) (h : n ≤ 60) :
    Calls Tryd.prog 28 #[.int .i64 n] w fun e w' => e = .returned (.int .i64 (p2 n.toNat : Nat)) ∧ w' = w := by
  have hle : p2 n.toNat ≤ 2 ^ 60 := Nat.pow_le_pow_right (by omega) (by omega)
  generalize hN : p2 n.toNat = N at *
  have HN := hide hN
  clear hN
  go_enter Tryd.func28, Tryd.ntmps28
  go_wp2
  go_loop [0, 3] (fun m o => ∃ (k : Int), k ≤ 60 ∧ m = .int .i64 k ∧ ∃ p : Nat, o = .int .i64 p ∧ p * p2 k.toNat = N) (fun m _ => (intOf m).toNat)
  case atStart => exact ⟨n, h, rfl, 1, rfl, by have := unhide HN; omega⟩
  case round =>
    obtain ⟨k, hk, rfl, p, rfl, hp⟩ := hrel
    by_cases h0 : 0 < k
    · have e : p2 k.toNat = p2 (k - 1).toNat * 2 := by rw [← p2_succ]; congr 1; omega
      have hq : p * 2 * p2 (k - 1).toNat = N := by rw [← hp, e, Nat.mul_assoc, Nat.mul_comm 2]
      have hpl : p * 2 ≤ 2 ^ 60 := by
        have h1 : p * 2 * 1 ≤ p * 2 * p2 (k - 1).toNat := Nat.mul_le_mul_left _ (p2_pos _)
        omega
      have HQ := hide hq
      have hpl' : (p : Int) ≤ 1152921504606846976 := by have : (2 : Nat) ^ 60 = 1152921504606846976 := by decide
                                                        omega
      clear e hq hpl hp hle
      go_wp2
      go_round
      case rel => exact ⟨k - 1, by omega, rfl, p * 2, by go_num, unhide HQ⟩
      case measure => simp [intOf]; omega
    · have hk0 : k.toNat = 0 := by omega
      rw [hk0] at hp
      have HP : Hid (p = N) := by have : p = N := by rw [← hp]; simp [p2]
                                  exact this
      clear hp hk0 hle
      go_wp2
      go_ret
      exact ⟨ret_int (by rw [unhide HP]), rfl⟩

/-- A number is of so many bits. -/
def pOk (num bits : Int) : Bool := inB bits 0 16 && inB num 0 ((p2 bits.toNat : Nat) - 1)
theorem pOk_true {num bits : Int} : pOk num bits = true ↔ (0 ≤ bits ∧ bits ≤ 16) ∧ 0 ≤ num ∧ num < (p2 bits.toNat : Nat) := by
  simp only [pOk, Bool.and_eq_true, inB_true]; omega

theorem pow_bd (bits : Int) (h1 : bits ≤ 16) : (1 : Int) ≤ (p2 bits.toNat : Nat) ∧ ((p2 bits.toNat : Nat) : Int) ≤ 65536 := by
  have a : p2 bits.toNat ≤ 65536 := pow_le16 bits.toNat (by omega)
  have b := p2_pos bits.toNat
  omega


end Go.Proofs.YtihncnlbnlmefaaDoor
/- Contracts of what draws an input out of a code, over this seat's program. -/
namespace Go.Proofs.YtihncnlbnlmefaaDoor
open Go.RowKit

/-- All that was there is there, but for one block; nothing is new. -/
def Only (b : Nat) (w w' : World) : Prop := Below b w w' ∧ (∀ k, k ≠ b → w'.heap[k]? = w.heap[k]?) ∧ w'.heap.size = w.heap.size

theorem Only.cell {b : Nat} {w w' : World} (h : Only b w w') {p : Addr} (hp : p.block ≠ b) : w'.cell? p = w.cell? p := World.cell?_of_block (w := w) (h.2.1 p.block hp)
theorem Only.frozen {b : Nat} {w w' : World} (h : Only b w w') {p : Addr} (hp : p.block ≠ b) : w'.frozen? p = w.frozen? p := World.frozen?_of_block (w := w) (h.2.1 p.block hp)
theorem only_set (w : World) (b o : Nat) (u : Value) (n : Nat) : Only b w ((w.setCell ⟨b, o, none⟩ u).drewN n) :=
  ⟨below_drewN (below_set (Below.refl _ _) (Nat.le_refl _) _) _, fun k hk => Below.heap_setCell w ⟨b, o, none⟩ u k hk, by show (w.setCell ⟨b, o, none⟩ u).heap.size = _; simp⟩

/-- A reader of a code: where it stands is at most m; the code lies below B. -/
def Rd (w : World) (B b m : Nat) : Prop := ∃ (a : Option Addr) (len cap p : Nat) (z : Nat → Int), len ≤ 2000 ∧ p ≤ m ∧ B ≤ b ∧ Two w b (.slice a len cap) (.int .i64 p) ∧
  (∀ i, 0 ≤ z i ∧ z i < 256) ∧ (0 < len → ∃ ab ao, a = some ⟨ab, ao, none⟩ ∧ ab < B ∧ ∀ i, i < len → w.cell? ⟨ab, ao + i, none⟩ = some (.int .u8 (z i)))

theorem mix_bd (X n : Int) (h0 : 0 ≤ X) (h1 : X < 1000000000) (n1 : 1 ≤ n) : 0 ≤ (bits .xor .i64 X (X / 64)).tmod n ∧ (bits .xor .i64 X (X / 64)).tmod n < n := by
  obtain ⟨x, rfl⟩ := Int.eq_ofNat_of_zero_le h0
  have e := i64_xor_nat x (x / 64) (by omega) (by omega)
  rw [show ((x / 64 : Nat) : Int) = (x : Int) / 64 by omega] at e
  rw [e]
  exact ⟨Int.tmod_nonneg _ (by omega), Int.tmod_lt_of_pos _ (by omega)⟩


end Go.Proofs.YtihncnlbnlmefaaDoor
/- Contracts of the program's test of pieces, over this seat's program. -/
namespace Go.Proofs.YtihncnlbnlmefaaDoor
open Go.RowKit Corb

end Go.Proofs.YtihncnlbnlmefaaDoor
/- Contracts of BitsTurn, the program's and the model's, over this seat's program. -/
namespace Go.Proofs.YtihncnlbnlmefaaDoor
open Go.RowKit Corb

/-- A number turned, at every argument. -/
def btI (num bits : Int) : Int := if pOk num bits = true then (rv bits.toNat num.toNat : Nat) else -1
theorem btI_yes {num bits : Int} (h : pOk num bits = true) : btI num bits = (rv bits.toNat num.toNat : Nat) := if_pos h
theorem btI_no {num bits : Int} (h : pOk num bits = false) : btI num bits = -1 := if_neg (by simp [h])

theorem rv_succ_int (k n : Nat) : ((rv (k + 1) n : Nat) : Int) = 2 * (rv k n : Nat) + ((n / 2 ^ k : Nat) : Int) % 2 := by
  simp only [rv]; omega
theorem div_pow_int (n k : Nat) : ((n / 2 ^ k : Nat) : Int) / 2 = ((n / 2 ^ (k + 1) : Nat) : Int) := by
  rw [← div_pow_succ]; omega
theorem shr_int (n k : Nat) : (n : Int) / 2 ^ k = ((n / 2 ^ k : Nat) : Int) := by
  exact (Int.natCast_ediv n (2 ^ k)).symm


end Go.Proofs.YtihncnlbnlmefaaDoor
