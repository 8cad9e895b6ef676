/- What laws ask with: powers of two, lists held against each other, how many are not 0; over this seat's program. -/
import Derived.Test.YtnomiopdpmecbaaBt1
import Derived.Test.YtnomiopdpmecbaaLk1
namespace Go.Proofs.Ytnomiopdpmecbaa
open Go.RowKit Corb

set_option maxHeartbeats 800000 in
theorem cbInts_same (a b : Option Addr) (c d : Nat) (l : List Int) (w : World) (ha : IRow w a l) (hb : IRow w b l) (hl : l.length ≤ 2000000) :
    Calls Try.prog 13 #[.slice a l.length c, .slice b l.length d] w fun e w' => e = .returned (.bool true) ∧ Below w.heap.size w w' := by
  have hlI : (l.length : Int) ≤ 2000000 := by omega
  clear hl
  go_enter Try.func13, Try.ntmps13
  go_wp2_with fail
  go_loopw [5] (fun i wr => ∃ k : Nat, k ≤ l.length ∧ i = .int .i64 k ∧ Below w.heap.size w wr) (fun i _ => l.length - (intOf i).toNat)
  case atStart => exact ⟨0, Nat.zero_le _, rfl, Below.refl _ _⟩
  case round =>
    obtain ⟨k, hk, rfl, hbel⟩ := hrel
    have HK := hide hk
    by_cases hlt : k < l.length
    · obtain ⟨g, o, rfl, hg, hc⟩ := (ha.later hbel) (by omega)
      obtain ⟨g', o', rfl, hg', hc'⟩ := (hb.later hbel) (by omega)
      have c0 := hc k hlt
      have c1 := hc' k hlt
      clear hc hc' hk ha hb
      generalize l.getD k 0 = y at *
      go_wp2
      go_quiet (fail)
      go_wp2
      go_roundw
      case rel => exact ⟨k + 1, by omega, by go_num, below_drewN hbel _⟩
      case measure => simp [intOf]; omega
    · clear ha hb
      go_wp2
      go_ret
      exact ⟨rfl, hbel⟩
theorem cbInts_n (a b : Option Addr) (c d n : Nat) (l : List Int) (w : World) (hn : l.length = n) (ha : IRow w a l) (hb : IRow w b l) (hl : l.length ≤ 2000000) :
    Calls Try.prog 13 #[.slice a n c, .slice b n d] w fun e w' => e = .returned (.bool true) ∧ Below w.heap.size w w' := by
  subst hn
  exact cbInts_same a b c d l w ha hb hl

end Go.Proofs.Ytnomiopdpmecbaa
