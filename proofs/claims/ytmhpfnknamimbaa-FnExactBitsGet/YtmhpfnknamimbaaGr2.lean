/- The program's reader of bits, over this seat's program. -/
import Derived.Test.YtmhpfnknamimbaaGr1
import Derived.Test.YtmhpfnknamimbaaPw2
namespace Go.Proofs.Ytmhpfnknamimbaa
open Go.RowKit Corb

set_option maxHeartbeats 800000 in
theorem rdBit_any (b p : Nat) (s : ByteArray) (w : World) (h : Rdr w b s p) (hs : s.size ≤ 2000000) :
    Calls Try.prog 60 #[.pointer (some ⟨b, 0, none⟩)] w fun e w' => e = .returned (.int .i64 (numB s / 2 ^ p % 2 : Nat)) ∧ Rdr w' b s (p + 1) ∧ Keep1 b w w' := by
  have hs' : (s.size : Int) ≤ 2000000 := by omega
  by_cases hp : p < 8 * s.size
  · have h3 := h.before hp
    have hq : p / 8 < s.size := by omega
    have hb := numB_bit s p hq
    generalize hN : numB s / 2 ^ p % 2 = N at *
    have Hp := hide hp
    have hpI : (p : Int) < 8 * (s.size : Int) := by omega
    have h3' := hide h3
    obtain ⟨c0, c1, c2, f0, f1, f2, hb3⟩ := h3
    clear h hN
    obtain ⟨Q, hQ⟩ : ∃ Q, p / 8 = Q := ⟨_, rfl⟩
    obtain ⟨R, hR⟩ : ∃ R, p % 8 = R := ⟨_, rfl⟩
    simp only [hQ, hR] at hb hq
    have hbd := (s[Q]).toNat_lt
    have hR8 : (R : Int) ≤ 7 := by omega
    have hR0 : (0 : Int) ≤ (R : Int) := by omega
    have e1 : IntKind.i64.wrap (Q : Int) = (Q : Int) := wrap_id _ (by omega) (by omega)
    have e2 : (p : Int) / 8 = (Q : Int) := by omega
    have e3 : (p : Int) % 8 = (R : Int) := by omega
    have e4 : Int.tmod (p : Int) 8 = (R : Int) := by rw [Int.tmod_eq_emod_of_nonneg (by omega)]; exact e3
    have e5 : (Q : Int) < (s.size : Int) := by omega
    have e6 : (0 : Int) ≤ (Q : Int) := by omega
    have e7 : ((s[Q]).toNat : Int) / 2 ^ R = (((s[Q]).toNat / 2 ^ R : Nat) : Int) := by simp
    have hle : (s[Q]).toNat / 2 ^ R ≤ (s[Q]).toNat := Nat.div_le_self _ _
    have e0 : (0 : Int) ≤ ((s[Q]).toNat : Int) / 2 ^ R ∧ ((s[Q]).toNat : Int) / 2 ^ R ≤ 255 := by rw [e7]; exact ⟨Int.natCast_nonneg _, by omega⟩
    have e8 : IntKind.i64.wrap (((s[Q]).toNat : Int) / 2 ^ R) = ((s[Q]).toNat : Int) / 2 ^ R := wrap_id _ (by omega) (by omega)
    have e9 : bits .and .i64 (((s[Q]).toNat : Int) / 2 ^ R) 1 = (N : Int) := by
      rw [i64_and_one _ e0.1 (by omega), e7]; exact_mod_cast hb
    have e14 : IntKind.i64.wrap ((s[Q]).toNat : Int) = ((s[Q]).toNat : Int) := wrap_id _ (by omega) (by omega)
    clear hs hp hQ hR hb hle hbd e7 e0
    go_enter Try.func60, Try.ntmps60
    go_wp2
    go_quiet (fail)
    go_wp2
    go_quiet (fail)
    go_wp2
    go_ret
    exact ⟨rfl, Rdr.next (by exact (unhide h3').set1 _) (unhide Hp), keep1_set _ _ _ _ _⟩
  · have h3 := h.past (by omega)
    have h3' := hide h3
    have Hp := hide hp
    have hN := hide (numB_past s p (by omega))
    obtain ⟨c0, c1, c2, f0, f1, f2, hb3⟩ := h3
    rw [Int.natCast_mul] at c1
    have e1 : ((8 : Nat) : Int) * (s.size : Int) / 8 = (s.size : Int) := by omega
    have e2 : (8 : Int) * (s.size : Int) / 8 = (s.size : Int) := by omega
    have e3 : IntKind.i64.wrap (s.size : Int) = (s.size : Int) := wrap_id _ (by omega) (by omega)
    clear h hp hs
    go_enter Try.func60, Try.ntmps60
    go_wp2
    go_quiet (fail)
    go_wp2
    go_ret
    exact ⟨ret_int (by rw [unhide hN]; rfl), Rdr.bad ((unhide h3').set2 _) (by have := unhide Hp; omega), keep1_set _ _ _ _ _⟩

end Go.Proofs.Ytmhpfnknamimbaa
