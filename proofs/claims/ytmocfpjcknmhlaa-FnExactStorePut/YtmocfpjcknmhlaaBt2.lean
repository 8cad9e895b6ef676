/- Contracts of the program's test of pieces, over this seat's program. -/
import Derived.Test.YtmocfpjcknmhlaaBt1
namespace Go.Proofs.Ytmocfpjcknmhlaa
open Go.RowKit Corb

set_option maxHeartbeats 800000 in
theorem pieceOk_any (num bits : Int) (w : World) :
    Calls Try.prog 14 #[.agg #[.int .i64 num, .int .i64 bits]] w fun e w' => e = .returned (.bool (pOk num bits)) ∧ Below w.heap.size w w' := by
  by_cases b0 : 0 ≤ bits
  · by_cases b1 : bits ≤ 16
    · by_cases n0 : 0 ≤ num
      · obtain ⟨q0, q1⟩ := pow_bd bits b1
        have HP : Hid (pOk num bits = decide (num < (p2 bits.toNat : Nat))) := by
          show pOk num bits = decide (num < (p2 bits.toNat : Nat))
          rw [Bool.eq_iff_iff, pOk_true, decide_eq_true_iff]; omega
        have hq := p2_int bits.toNat
        generalize ((p2 bits.toNat : Nat) : Int) = q at *
        have HQ := hide hq
        have hwr := wrap_id q (by omega) (by omega)
        clear hq
        have hwr2 : IntKind.i64.wrap (2 ^ bits.toNat) = q := by
          have h := unhide HQ
          rw [← h]; exact hwr
        have d0 : decide (0 ≤ bits) = true := decide_eq_true b0
        have d1 : decide (bits ≤ 16) = true := decide_eq_true b1
        have d2 : decide (0 ≤ num) = true := decide_eq_true n0
        go_enter Try.func14, Try.ntmps14
        go_wp2
        go_quiet (fail)
        go_wp2
        go_ret
        exact ⟨ret_bool (unhide HP).symm, below_drewN ((Below.refl _ _).alloc (Nat.le_refl _) _) _⟩
      · have HP : Hid (pOk num bits = false) := by
          show pOk num bits = false
          rw [← Bool.not_eq_true, pOk_true]; omega
        have d0 : decide (0 ≤ bits) = true := decide_eq_true b0
        have d1 : decide (bits ≤ 16) = true := decide_eq_true b1
        have d2 : decide (0 ≤ num) = false := decide_eq_false n0
        go_enter Try.func14, Try.ntmps14
        go_wp2
        go_quiet (fail)
        go_wp2
        go_ret
        exact ⟨ret_bool (unhide HP).symm, below_drewN ((Below.refl _ _).alloc (Nat.le_refl _) _) _⟩
    · have HP : Hid (pOk num bits = false) := by
        show pOk num bits = false
        rw [← Bool.not_eq_true, pOk_true]; omega
      have d0 : decide (0 ≤ bits) = true := decide_eq_true b0
      have d1 : decide (bits ≤ 16) = false := decide_eq_false b1
      go_enter Try.func14, Try.ntmps14
      go_wp2
      go_quiet (fail)
      go_wp2
      go_ret
      exact ⟨ret_bool (unhide HP).symm, below_drewN ((Below.refl _ _).alloc (Nat.le_refl _) _) _⟩
  · have HP : Hid (pOk num bits = false) := by
      show pOk num bits = false
      rw [← Bool.not_eq_true, pOk_true]; omega
    have d0 : decide (0 ≤ bits) = false := decide_eq_false b0
    go_enter Try.func14, Try.ntmps14
    go_wp2
    go_quiet (fail)
    go_wp2
    go_ret
    exact ⟨ret_bool (unhide HP).symm, below_drewN ((Below.refl _ _).alloc (Nat.le_refl _) _) _⟩

end Go.Proofs.Ytmocfpjcknmhlaa
