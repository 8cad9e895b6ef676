/- Contracts of the draw of a text, and of the comparison of tokens, over this seat's program. -/
import Derived.Test.YtlncdcdblmpmgaaRd5
import Derived.Test.YtlncdcdblmpmgaaTk1
import Derived.BigQuiet
namespace Go.Proofs.Ytlncdcdblmpmgaa
open Go.RowKit

theorem drawTokensOf_any (a : Option Addr) (len cap : Nat) (z : Nat → Int) (w : World) (h : Src w a len z) (hc : len ≤ cap) (hm : len ≤ maxLen) :
    Calls Try.prog 28 #[.slice a len cap] w fun e w' => (∃ s : ByteArray, e = .returned (.string s) ∧ s.size ≤ 400) ∧ Below w.heap.size w w' := by
  go_enter Try.func28, Try.ntmps28
  go_wp2_with fail
  refine (l1Open_any a len cap z _ h hc hm).mono ?_
  rintro e w1 ⟨rfl, hrd, hbel, hsz⟩
  go_wp2_with fail
  refine (l11AnyText_any _ _ 0 _ hrd (by omega)).mono ?_
  rintro e w2 ⟨⟨s, rfl, hs⟩, hrd2, hbel2⟩
  go_wp2
  go_ret
  exact ⟨⟨s, rfl, hs⟩, hbel.trans hbel2⟩

set_option maxHeartbeats 1600000 in
theorem cbTokens_same (a b : Option Addr) (c d n : Nat) (l : List Tk) (w : World) (hn : l.length = n) (ha : KRow w a l) (hb : KRow w b l) (hl : n ≤ 2000000) :
    Calls Try.prog 29 #[.slice a n c, .slice b n d] w fun e w' => e = .returned (.bool true) ∧ Below w.heap.size w w' := by
  subst hn
  have hlI : (l.length : Int) ≤ 2000000 := by omega
  clear hl
  go_enter Try.func29, Try.ntmps29
  go_wp2_with fail
  go_loopw [5] (fun i wr => ∃ k : Nat, k ≤ l.length ∧ i = .int .i64 k ∧ Below w.heap.size w wr) (fun i _ => l.length - (intOf i).toNat)
  case atStart => exact ⟨0, Nat.zero_le _, rfl, Below.refl _ _⟩
  case round =>
    obtain ⟨k, hk, rfl, hbel⟩ := hrel
    have HK := hide hk
    by_cases hlt : k < l.length
    · obtain ⟨g, o, rfl, hg, hc⟩ := (ha.later hbel) (by omega)
      obtain ⟨g', o', rfl, hg', hc'⟩ := (hb.later hbel) (by omega)
      obtain ⟨c0, c1, c2⟩ := hc k hlt
      obtain ⟨d0, d1, d2⟩ := hc' k hlt
      clear hc hc' hk ha hb
      generalize hx : l.getD k k0 = t at *
      clear hx
      obtain ⟨x, y, z⟩ := t
      simp only at c0 c1 c2 d0 d1 d2
      go_wp2_with fail
      go_quiet (fail)
      go_wp2
      go_roundw
      case rel => exact ⟨k + 1, by omega, by go_num, below_drewN hbel _⟩
      case measure => simp [intOf]; omega
    · clear ha hb
      go_wp2
      go_ret
      exact ⟨rfl, hbel⟩

end Go.Proofs.Ytlncdcdblmpmgaa
