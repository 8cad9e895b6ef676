/- Of what the proof is made: 2 texts, one behind the other. -/
import Derived.Test.YtgpghapnmalipaaGreatDoorM3
import Derived.OpenShut
import Derived.Laws.OwnMore
import Derived.BigQuiet
namespace Go.Proofs.YtgpghapnmalipaaGreatDoor
open Go.RowKit
theorem bnext {w w1 w2 : World} (h : Below w.heap.size w w1) (k : Below w1.heap.size w1 w2) : Below w.heap.size w w2 := h.trans (k.mono h.size)
end Go.Proofs.YtgpghapnmalipaaGreatDoor
namespace Go.Proofs.YtgpghapnmalipaaGreatDoor
open Go.RowKit
def stF (L G k : Nat) : Nat × Nat := if k < G then (L + k, 0) else (L + (G + k % G) * p2 (k / G - 1), k / G - 1)
theorem w64_in (n : Int) (h : -9223372036854775808 ≤ n ∧ n ≤ 9223372036854775807) : wrap64 n = n := by unfold wrap64; omega
set_option maxHeartbeats 1600000 in
theorem step_any (L G M k : Nat) (w : World) (hL : L ≤ 3) (hG : 1 ≤ G) (hG4 : G ≤ 4) (hk : k / G ≤ 15) (hk2 : k ≤ 60) :
    Calls Tryz.prog 163 #[.agg #[.int .i64 (L : Nat), .int .i64 (G : Nat), .int .i64 (M : Nat)], .int .i64 (k : Nat)] w fun e w' => e = .returned (.tuple #[.int .i64 ((stF L G k).1 : Nat), .int .i64 ((stF L G k).2 : Nat)]) ∧ Below w.heap.size w w' := by
  have hLI : (L : Int) ≤ 3 := by omega
  have hGI : (1 : Int) ≤ (G : Int) := by omega
  have hG4I : (G : Int) ≤ 4 := by omega
  have hkI : (k : Int) ≤ 60 := by omega
  by_cases hlt : k < G
  · have hltI : (k : Int) < (G : Int) := by omega
    have e : stF L G k = (L + k, 0) := by unfold stF; rw [if_pos hlt]
    rw [e]
    clear hk hk2 hlt hL hG hG4 e
    go_enter Tryz.func163, Tryz.ntmps163
    go_wp2
    go_ret2
    exact ⟨by simp, (Below.refl _ _).alloc (Nat.le_refl _) _⟩
  · have hltI : ¬ (k : Int) < (G : Int) := by omega
    obtain ⟨q, hq⟩ : ∃ q, k / G = q := ⟨_, rfl⟩
    have hq1 : 1 ≤ q := by rw [← hq]; exact (Nat.le_div_iff_mul_le hG).2 (by omega)
    obtain ⟨b, hb⟩ : ∃ b, q - 1 = b := ⟨_, rfl⟩
    obtain ⟨r, hr⟩ : ∃ r, k % G = r := ⟨_, rfl⟩
    have hr4 : r < 4 := by rw [← hr]; exact Nat.lt_of_lt_of_le (Nat.mod_lt _ hG) hG4
    have hqI : (k : Int) / (G : Int) = (q : Int) := by rw [← hq]; exact (Int.natCast_ediv k G).symm
    have hbI : (q : Int) - 1 = (b : Int) := by omega
    have hrI : (k : Int) % (G : Int) = (r : Int) := by rw [← hr]; exact (Int.natCast_emod k G).symm
    have hb14 : (b : Int) ≤ 14 := by omega
    have hq15 : (q : Int) ≤ 15 := by omega
    have hrI4 : (r : Int) < 4 := by omega
    have e : stF L G k = (L + (G + r) * p2 b, b) := by unfold stF; rw [if_neg hlt, hq, hb, hr]
    have HW : Hid (wrap64 ((L : Int) + wrap64 (((G : Int) + (r : Int)) * 2 ^ b)) = ((L + (G + r) * p2 b : Nat) : Int)) := by
      show _ = _
      have h1 : p2 b ≤ p2 14 := Nat.pow_le_pow_right (by omega) (by omega)
      have h2 : p2 14 = 16384 := by decide
      have h3 : (G + r) * p2 b ≤ 7 * 16384 := Nat.mul_le_mul (by omega) (by omega)
      have h4 : ((G : Int) + (r : Int)) * 2 ^ b = (((G + r) * p2 b : Nat) : Int) := by rw [Int.natCast_mul, p2_int]; simp
      rw [h4]
      generalize (G + r) * p2 b = Q at *
      rw [w64_in (Q : Int) (by omega), w64_in ((L : Int) + (Q : Int)) (by omega)]
      omega
    rw [e]
    clear hk hk2 hlt hL hG hG4 e hq hb hr hr4 hq1
    go_enter Tryz.func163, Tryz.ntmps163
    go_wp2
    go_quiet (fail)
    go_wp2
    go_ret2
    exact ⟨by rw [← unhide HW]; rfl, below_drewN ((Below.refl _ _).alloc (Nat.le_refl _) _) _⟩
end Go.Proofs.YtgpghapnmalipaaGreatDoor
