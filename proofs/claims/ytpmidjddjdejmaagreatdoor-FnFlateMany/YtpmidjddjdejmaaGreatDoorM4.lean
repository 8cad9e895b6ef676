/- Of what the proof is made: 2 texts, one behind the other. -/
import Derived.Test.YtpmidjddjdejmaaGreatDoorM3
import Derived.OpenShut
import Derived.Laws.OwnMore
import Derived.BigQuiet
namespace Go.Proofs.YtpmidjddjdejmaaGreatDoor
open Go.RowKit
def IsRow (k : IntKind) (w : World) (a : Option Addr) (len cap : Nat) (zs : List Int) : Prop :=
  (a = none ∧ len = 0 ∧ cap = 0 ∧ zs = []) ∨
  ∃ x, a = some x ∧ len ≤ cap ∧ cap ≤ maxLen ∧ zs.length = cap ∧ (∀ i, i < zs.length → w.cell? (x.add i) = some (.int k (zs.getD i 0))) ∧ ∀ n ∈ zs, (Lit.int k n).wf = true
def Src (w : World) (a : Option Addr) (len : Nat) (z : Nat → Int) : Prop :=
  (∀ i, 0 ≤ z i ∧ z i < 256) ∧ (0 < len → ∃ ab ao, a = some ⟨ab, ao, none⟩ ∧ ab < w.heap.size ∧ ∀ i, i < len → w.cell? ⟨ab, ao + i, none⟩ = some (.int .u8 (z i)))
theorem src_of {w : World} {a : Option Addr} {len cap : Nat} {zs : List Int} (h : IsRow .u8 w a len cap zs) : (∃ z, Src w a len z) ∧ len ≤ cap ∧ len ≤ maxLen := by
  rcases h with ⟨rfl, rfl, rfl, rfl⟩ | ⟨x, rfl, hl, hm, hz, hc, hw⟩
  · exact ⟨⟨fun _ => 0, fun _ => ⟨Int.le_refl _, by show (0 : Int) < 256; omega⟩, fun h => absurd h (by omega)⟩, by omega, by unfold maxLen; omega⟩
  · refine ⟨⟨fun i => zs.getD i 0, fun i => ?_, fun h0 => ?_⟩, hl, by omega⟩
    · by_cases hi : i < zs.length
      · have hm : zs.getD i 0 ∈ zs := by simp [List.getD, hi]
        have hb := bounds_u8 (hw _ hm)
        exact ⟨hb.1, Int.lt_of_le_of_lt hb.2 (by omega)⟩
      · simp [List.getD, List.getElem?_eq_none (by omega : zs.length ≤ i)]
    · obtain ⟨b, off, spot⟩ := x
      have hc0 := hc 0 (by omega)
      have hspot : spot = none := by simpa [Addr.add] using World.cell?_spot hc0
      subst hspot
      refine ⟨b, off, rfl, ?_, fun i hi => ?_⟩
      · have := World.block_lt_of_cell? _ _ hc0
        simpa [Addr.add] using this
      · have := hc i (by omega)
        by_cases e : i = 0
        · subst e; simpa [Addr.add] using this
        · simpa [Addr.add, e] using this
theorem Src.later {w w' : World} {a : Option Addr} {len : Nat} {z : Nat → Int} (h : Src w a len z) (hb : Below w.heap.size w w') : Src w' a len z := by
  refine ⟨h.1, fun h0 => ?_⟩
  obtain ⟨ab, ao, e, hlt, hc⟩ := h.2 h0
  exact ⟨ab, ao, e, Nat.lt_of_lt_of_le hlt hb.size, fun i hi => (hb.cell (p := ⟨ab, ao + i, none⟩) hlt).trans (hc i hi)⟩
theorem bnext {w w1 w2 : World} (h : Below w.heap.size w w1) (k : Below w1.heap.size w1 w2) : Below w.heap.size w w2 := h.trans (k.mono h.size)
end Go.Proofs.YtpmidjddjdejmaaGreatDoor
namespace Go.Proofs.YtpmidjddjdejmaaGreatDoor
open Go.RowKit
def stF (L G k : Nat) : Nat × Nat := if k < G then (L + k, 0) else (L + (G + k % G) * p2 (k / G - 1), k / G - 1)
theorem w64_in (n : Int) (h : -9223372036854775808 ≤ n ∧ n ≤ 9223372036854775807) : wrap64 n = n := by unfold wrap64; omega
set_option maxHeartbeats 1600000 in
theorem step_any (L G M k : Nat) (w : World) (hL : L ≤ 3) (hG : 1 ≤ G) (hG4 : G ≤ 4) (hk : k / G ≤ 15) (hk2 : k ≤ 60) :
    Calls Tryz.prog 121 #[.agg #[.int .i64 (L : Nat), .int .i64 (G : Nat), .int .i64 (M : Nat)], .int .i64 (k : Nat)] w fun e w' => e = .returned (.tuple #[.int .i64 ((stF L G k).1 : Nat), .int .i64 ((stF L G k).2 : Nat)]) ∧ Below w.heap.size w w' := by
  have hLI : (L : Int) ≤ 3 := by omega
  have hGI : (1 : Int) ≤ (G : Int) := by omega
  have hG4I : (G : Int) ≤ 4 := by omega
  have hkI : (k : Int) ≤ 60 := by omega
  by_cases hlt : k < G
  · have hltI : (k : Int) < (G : Int) := by omega
    have e : stF L G k = (L + k, 0) := by unfold stF; rw [if_pos hlt]
    rw [e]
    clear hk hk2 hlt hL hG hG4 e
    go_enter Tryz.func121, Tryz.ntmps121
    go_wp2
    go_ret2
    exact ⟨by simp, (Below.refl _ _).alloc (Nat.le_refl _) _⟩
  · have hltI : ¬ (k : Int) < (G : Int) := by omega
    obtain ⟨q, hq⟩ : ∃ q, k / G = q := ⟨_, rfl⟩
    have hq1 : 1 ≤ q := by rw [← hq]; exact (Nat.le_div_iff_mul_le hG).2 (by omega)
    obtain ⟨b, hb⟩ : ∃ b, q - 1 = b := ⟨_, rfl⟩
    obtain ⟨r, hr⟩ : ∃ r, k % G = r := ⟨_, rfl⟩
    have hr4 : r < 4 := by rw [← hr]; exact Nat.lt_of_lt_of_le (Nat.mod_lt _ hG) hG4
    have hqI : (k : Int) / (G : Int) = (q : Int) := by rw [← hq]; exact (Int.natCast_ediv k G).symm
    have hbI : (q : Int) - 1 = (b : Int) := by omega
    have hrI : (k : Int) % (G : Int) = (r : Int) := by rw [← hr]; exact (Int.natCast_emod k G).symm
    have hb14 : (b : Int) ≤ 14 := by omega
    have hq15 : (q : Int) ≤ 15 := by omega
    have hrI4 : (r : Int) < 4 := by omega
    have e : stF L G k = (L + (G + r) * p2 b, b) := by unfold stF; rw [if_neg hlt, hq, hb, hr]
    have HW : Hid (wrap64 ((L : Int) + wrap64 (((G : Int) + (r : Int)) * 2 ^ b)) = ((L + (G + r) * p2 b : Nat) : Int)) := by
      show _ = _
      have h1 : p2 b ≤ p2 14 := Nat.pow_le_pow_right (by omega) (by omega)
      have h2 : p2 14 = 16384 := by decide
      have h3 : (G + r) * p2 b ≤ 7 * 16384 := Nat.mul_le_mul (by omega) (by omega)
      have h4 : ((G : Int) + (r : Int)) * 2 ^ b = (((G + r) * p2 b : Nat) : Int) := by rw [Int.natCast_mul, p2_int]; simp
      rw [h4]
      generalize (G + r) * p2 b = Q at *
      rw [w64_in (Q : Int) (by omega), w64_in ((L : Int) + (Q : Int)) (by omega)]
      omega
    rw [e]
    clear hk hk2 hlt hL hG hG4 e hq hb hr hr4 hq1
    go_enter Tryz.func121, Tryz.ntmps121
    go_wp2
    go_quiet (fail)
    go_wp2
    go_ret2
    exact ⟨by rw [← unhide HW]; rfl, below_drewN ((Below.refl _ _).alloc (Nat.le_refl _) _) _⟩
end Go.Proofs.YtpmidjddjdejmaaGreatDoor
