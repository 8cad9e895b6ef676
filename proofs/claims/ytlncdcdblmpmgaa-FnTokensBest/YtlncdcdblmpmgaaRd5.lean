/- Contracts of what draws an input out of a code: any text, one of some numbers. -/
import Derived.Test.YtlncdcdblmpmgaaRd4
namespace Go.Proofs.Ytlncdcdblmpmgaa
open Go.RowKit

theorem l11AnyText_any (B b m : Nat) (w : World) (h : Rd w B b m) (hm : m ≤ 80000) :
    Calls Try.prog 39 #[.pointer (some ⟨b, 0, none⟩)] w fun e w' => (∃ s : ByteArray, e = .returned (.string s) ∧ s.size ≤ 400) ∧ Rd w' B b (m + 60) ∧ Below b w w' := by
  go_enter Try.func39, Try.ntmps39
  go_wp2_with fail
  refine (pick_any B b m _ _ h (by omega) (by omega) (by omega)).mono ?_
  rintro e w1 ⟨r, rfl, r0, r1, hrd1, hon1⟩
  by_cases h0 : r = 0
  · subst h0
    go_wp2_with (go_at_call 47; refine (l1Many_any _ _ _ (by omega) (by omega) (by decide)).mono ?_; rintro e w' ⟨⟨t, rfl, ht⟩, rfl⟩)
    go_ret
    exact ⟨⟨t, rfl, by rw [ht]; decide⟩, hrd1.mono (by omega), hon1.1⟩
  · have g0 : (r == 0) = false := by simpa using h0
    clear h0
    go_wp2_with (go_at_call 48; refine (l11Text_any B b (m + 1) _ hrd1 (by omega)).mono ?_; rintro e w2 ⟨⟨s, rfl, hs⟩, hrd2, hbel2⟩)
    go_ret
    exact ⟨⟨s, rfl, hs⟩, hrd2.mono (by omega), hon1.1.trans hbel2⟩

end Go.Proofs.Ytlncdcdblmpmgaa
