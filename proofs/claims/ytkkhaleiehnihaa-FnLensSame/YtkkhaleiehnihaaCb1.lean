/- What laws ask with: powers of two, lists held against each other, how many are not 0; over this seat's program. -/
import Derived.Test.YtkkhaleiehnihaaBt1
import Derived.Test.YtkkhaleiehnihaaLk1
namespace Go.Proofs.Ytkkhaleiehnihaa
open Go.RowKit Corb

set_option maxHeartbeats 400000 in
theorem cbPow_any (n : Int) (w : World) (h : n ≤ 60) :
    Calls Try.prog 19 #[.int .i64 n] w fun e w' => e = .returned (.int .i64 (p2 n.toNat : Nat)) ∧ w' = w := by
  have hle : p2 n.toNat ≤ 2 ^ 60 := Nat.pow_le_pow_right (by omega) (by omega)
  generalize hN : p2 n.toNat = N at *
  have HN := hide hN
  clear hN
  go_enter Try.func19, Try.ntmps19
  go_wp2
  go_loop [0, 3] (fun m o => ∃ (k : Int), k ≤ 60 ∧ m = .int .i64 k ∧ ∃ p : Nat, o = .int .i64 p ∧ p * p2 k.toNat = N) (fun m _ => (intOf m).toNat)
  case atStart => exact ⟨n, h, rfl, 1, rfl, by have := unhide HN; omega⟩
  case round =>
    obtain ⟨k, hk, rfl, p, rfl, hp⟩ := hrel
    by_cases h0 : 0 < k
    · have e : p2 k.toNat = p2 (k - 1).toNat * 2 := by rw [← p2_succ]; congr 1; omega
      have hq : p * 2 * p2 (k - 1).toNat = N := by rw [← hp, e, Nat.mul_assoc, Nat.mul_comm 2]
      have hpl : p * 2 ≤ 2 ^ 60 := by
        have h1 : p * 2 * 1 ≤ p * 2 * p2 (k - 1).toNat := Nat.mul_le_mul_left _ (p2_pos _)
        omega
      have HQ := hide hq
      have hpl' : (p : Int) ≤ 1152921504606846976 := by have : (2 : Nat) ^ 60 = 1152921504606846976 := by decide
                                                        omega
      clear e hq hpl hp hle
      go_wp2
      go_round
      case rel => exact ⟨k - 1, by omega, rfl, p * 2, by go_num, unhide HQ⟩
      case measure => simp [intOf]; omega
    · have hk0 : k.toNat = 0 := by omega
      rw [hk0] at hp
      have HP : Hid (p = N) := by have : p = N := by rw [← hp]; simp [p2]
                                  exact this
      clear hp hk0 hle
      go_wp2
      go_ret
      exact ⟨ret_int (by rw [unhide HP]), rfl⟩
set_option maxHeartbeats 800000 in
theorem cbInts_same (a b : Option Addr) (c d : Nat) (l : List Int) (w : World) (ha : IRow w a l) (hb : IRow w b l) (hl : l.length ≤ 2000000) :
    Calls Try.prog 16 #[.slice a l.length c, .slice b l.length d] w fun e w' => e = .returned (.bool true) ∧ Below w.heap.size w w' := by
  have hlI : (l.length : Int) ≤ 2000000 := by omega
  clear hl
  go_enter Try.func16, Try.ntmps16
  go_wp2_with fail
  go_loopw [5] (fun i wr => ∃ k : Nat, k ≤ l.length ∧ i = .int .i64 k ∧ Below w.heap.size w wr) (fun i _ => l.length - (intOf i).toNat)
  case atStart => exact ⟨0, Nat.zero_le _, rfl, Below.refl _ _⟩
  case round =>
    obtain ⟨k, hk, rfl, hbel⟩ := hrel
    have HK := hide hk
    by_cases hlt : k < l.length
    · obtain ⟨g, o, rfl, hg, hc⟩ := (ha.later hbel) (by omega)
      obtain ⟨g', o', rfl, hg', hc'⟩ := (hb.later hbel) (by omega)
      have c0 := hc k hlt
      have c1 := hc' k hlt
      clear hc hc' hk ha hb
      generalize l.getD k 0 = y at *
      go_wp2
      go_quiet (fail)
      go_wp2
      go_roundw
      case rel => exact ⟨k + 1, by omega, by go_num, below_drewN hbel _⟩
      case measure => simp [intOf]; omega
    · clear ha hb
      go_wp2
      go_ret
      exact ⟨rfl, hbel⟩
theorem cbInts_n (a b : Option Addr) (c d n : Nat) (l : List Int) (w : World) (hn : l.length = n) (ha : IRow w a l) (hb : IRow w b l) (hl : l.length ≤ 2000000) :
    Calls Try.prog 16 #[.slice a n c, .slice b n d] w fun e w' => e = .returned (.bool true) ∧ Below w.heap.size w w' := by
  subst hn
  exact cbInts_same a b c d l w ha hb hl
set_option maxHeartbeats 400000 in
theorem cbUsed_any (a : Option Addr) (cap n : Nat) (l : List Int) (w : World) (hn : l.length = n) (h : IRow w a l) (hm : n ≤ 1048576) :
    Calls Try.prog 18 #[.slice a n cap] w fun e w' => e = .returned (.int .i64 (us l : Nat)) ∧ w' = w := by
  subst hn
  have hmI : (l.length : Int) ≤ 1048576 := by omega
  clear hm
  go_enter Try.func18, Try.ntmps18
  go_wp2_with fail
  go_loop [3, 4] (fun n i => ∃ k : Nat, k ≤ l.length ∧ i = .int .i64 k ∧ n = .int .i64 (us (l.take k) : Nat)) (fun _ i => l.length - (intOf i).toNat)
  case atStart => exact ⟨0, Nat.zero_le _, rfl, rfl⟩
  case round =>
    obtain ⟨k, hk, rfl, rfl⟩ := hrel
    have HK := hide hk
    by_cases hlt : k < l.length
    · obtain ⟨g, o, rfl, hg, hc⟩ := h (by omega)
      have c0 := hc k hlt
      have hst := hide (us_take l k hlt)
      have hub := us_le (l.take k)
      have hub' : (us (l.take k) : Int) ≤ 1048576 := by
        have : (l.take k).length ≤ l.length := by simp; omega
        omega
      clear hc hk h hub
      generalize l.getD k 0 = y at *
      generalize us (l.take k) = u at *
      by_cases hy : 0 < y
      · have hst' : Hid (us (l.take (k + 1)) = u + 1) := by have := unhide hst; rw [if_pos hy] at this; exact this
        go_wp2
        go_round
        case rel => exact ⟨k + 1, by omega, by go_num, by rw [unhide hst']; go_num⟩
        case measure => simp [intOf]; omega
      · have hst' : Hid (us (l.take (k + 1)) = u) := by have := unhide hst; rw [if_neg hy] at this; exact this
        go_wp2
        go_round
        case rel => exact ⟨k + 1, by omega, by go_num, by rw [unhide hst']⟩
        case measure => simp [intOf]; omega
    · have hlk : Hid (l.take k = l) := List.take_of_length_le (by omega)
      clear h
      go_wp2
      go_ret
      exact ⟨ret_int (by rw [unhide hlk]), rfl⟩

end Go.Proofs.Ytkkhaleiehnihaa
