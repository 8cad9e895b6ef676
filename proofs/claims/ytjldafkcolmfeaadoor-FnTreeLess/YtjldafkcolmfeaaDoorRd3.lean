/- Contracts of what draws an input out of a code: texts. -/
import Derived.Test.YtjldafkcolmfeaaDoorRd2
namespace Go.Proofs.YtjldafkcolmfeaaDoor
open Go.RowKit

set_option maxHeartbeats 400000 in
theorem of_any (B b m lb lo n cap : Nat) (v : Nat → ByteArray) (w : World) (h : Rd w B b m) (hm : m ≤ 100000) (n1 : 0 < n) (n2 : n ≤ 70000) (hlb : lb ≠ b) (hc : ∀ i, i < n → w.cell? ⟨lb, lo + i, none⟩ = some (.string (v i))) :
    Calls Tryd.prog 25 #[.pointer (some ⟨b, 0, none⟩), .slice (some ⟨lb, lo, none⟩) n cap] w fun e w' => ∃ i : Nat, i < n ∧ e = .returned (.string (v i)) ∧ Rd w' B b (m + 1) ∧ Only b w w' := by
  have n1' : (1 : Int) ≤ (n : Int) := by omega
  have n2' : (n : Int) ≤ 70000 := by omega
  have hc' := hide hc
  clear hc
  go_enter Tryd.func25, Tryd.ntmps25
  go_wp2_with (go_at_call 14; refine (pick_any B b m _ _ h hm n1' n2').mono ?_; rintro e w' ⟨r, rfl, r0, r1, hrd, hon⟩; obtain ⟨k, rfl⟩ := Int.eq_ofNat_of_zero_le r0; have hck : w'.cell? ⟨lb, lo + k, none⟩ = some (.string (v k)) := (hon.cell (p := ⟨lb, lo + k, none⟩) hlb).trans (unhide hc' k (by omega)))
  go_ret
  exact ⟨k, by omega, rfl, hrd, hon⟩


theorem many_step (x n o : Nat) (T : Nat) (h : x * n + o = T) : (x + x) * (n / 2) + (if n % 2 = 1 then o + x else o) = T := by
  have h1 : (x + x) * (n / 2) = x * (2 * (n / 2)) := by rw [← Nat.two_mul, Nat.mul_comm 2 x, Nat.mul_assoc]
  rw [h1]
  split
  · rename_i h2
    have : 2 * (n / 2) + 1 = n := by omega
    have h3 : x * n = x * (2 * (n / 2)) + x := by rw [← this, Nat.mul_add, Nat.mul_one, this]
    omega
  · rename_i h2
    have : 2 * (n / 2) = n := by omega
    rw [this]; exact h

theorem many_le (x n o T : Nat) (hn : 0 < n) (h : x * n + o = T) : x ≤ T ∧ o + x ≤ T := by
  have : x * 1 ≤ x * n := Nat.mul_le_mul_left x hn
  omega

set_option maxHeartbeats 800000 in
theorem l1Many_any (s : ByteArray) (n : Int) (w : World) (n0 : 0 ≤ n) (n1 : n ≤ 1000) (hs : s.size ≤ 100) :
    Calls Tryd.prog 26 #[.string s, .int .i64 n] w fun e w' => (∃ t : ByteArray, e = .returned (.string t) ∧ t.size = s.size * n.toNat) ∧ w' = w := by
  obtain ⟨N, rfl⟩ := Int.eq_ofNat_of_zero_le n0
  rw [Int.toNat_natCast]
  have hT : s.size * N ≤ 100 * 1000 := Nat.mul_le_mul hs (by omega)
  generalize hTT : s.size * N = T at *
  have HT := hide hTT
  clear hTT
  go_enter Tryd.func26, Tryd.ntmps26
  go_wp2
  go_loop [0, 1, 5] (fun s' n' o' => ∃ (x : ByteArray) (k : Nat) (o : ByteArray), s' = .string x ∧ n' = .int .i64 k ∧ o' = .string o ∧ k ≤ N ∧ x.size * k + o.size = T ∧ x.size ≤ 2 * T + 100) (fun _ n' _ => (intOf n').toNat)
  case atStart => exact ⟨s, N, ByteArray.empty, rfl, rfl, rfl, Nat.le_refl _, by have := unhide HT; simpa using this, by omega⟩
  case round =>
    obtain ⟨x, k, o, rfl, rfl, rfl, hk, hT', hx⟩ := hrel
    by_cases hp : (0 : Int) < (k : Int)
    · have hle := many_le x.size k o.size T (by omega) hT'
      have hst := hide (many_step x.size k o.size T hT')
      have HK := hide hk
      have hk' : (k : Int) ≤ 1000 := by omega
      clear hT' hk
      by_cases hodd : (k : Int) % 2 = 1
      · have ho' := hide hodd
        go_wp2
        go_round
        case rel =>
          have h2 := unhide hst
          rw [if_pos (by have := unhide ho'; omega)] at h2
          exact ⟨x ++ x, k / 2, o ++ x, rfl, by go_num, rfl, by have := unhide HK; omega, by rw [ByteArray.size_append, ByteArray.size_append]; exact h2, by rw [ByteArray.size_append]; omega⟩
        case measure => simp [intOf]; omega
      · have ho' := hide hodd
        have hev : (k : Int) % 2 = 0 := by omega
        clear hodd
        go_wp2
        go_round
        case rel =>
          have h2 := unhide hst
          rw [if_neg (by have := unhide ho'; omega)] at h2
          exact ⟨x ++ x, k / 2, o, rfl, by go_num, rfl, by have := unhide HK; omega, by rw [ByteArray.size_append]; exact h2, by rw [ByteArray.size_append]; omega⟩
        case measure => simp [intOf]; omega
    · have hk0 : k = 0 := by omega
      subst hk0
      have HT' := hide hT'
      clear hT'
      go_wp2
      go_ret
      exact ⟨⟨o, rfl, by have := unhide HT'; omega⟩, rfl⟩

end Go.Proofs.YtjldafkcolmfeaaDoor
