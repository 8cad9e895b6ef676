/- The draw of a text of symbols, over this seat's program. -/
import Derived.Test.YtnomiopdpmecbaaDl2
import Derived.Test.YtnomiopdpmecbaaSp3
import Derived.Test.YtnomiopdpmecbaaPl1
namespace Go.Proofs.Ytnomiopdpmecbaa
open Go.RowKit Corb

set_option maxHeartbeats 1600000 in
theorem drawSymbolsGet_any (a : Option Addr) (len cap : Nat) (z : Nat → Int) (w : World) (h : Src w a len z) (hc : len ≤ cap) (hm : len ≤ maxLen) :
    Calls Try.prog 15 #[.slice a len cap] w fun e w' => (∃ (l : List Int) (va : Option Addr) (vc n : Nat) (s : ByteArray) (c : Int), e = .returned (.tuple #[.slice va n vc, .string s, .int .i64 c]) ∧ l.length = n ∧ IOwn w' w.heap.size (.slice va n vc) l ∧ n ≤ 301 ∧ s.size ≤ 8001 ∧ -1 ≤ c ∧ c ≤ 21) ∧ Below w.heap.size w w' := by
  go_enter Try.func15, Try.ntmps15
  go_wp2_with fail
  refine (l1Open_any a len cap z _ h hc hm).mono ?_
  rintro e w1 ⟨rfl, hrd, hbel, hsz⟩
  go_wp2_with fail
  refine (l11Lens_any _ _ 0 _ hrd (by omega)).mono ?_
  rintro e w2 ⟨⟨l, v, rfl, ho, hl, hl1⟩, hrd2, hbel2⟩
  obtain ⟨va, vc, hv⟩ := ho.form
  subst hv
  go_wp2_with fail
  refine (l11Syms_any _ _ _ l.length vc va l _ hrd2 (by omega) rfl ho hl1 hl).mono ?_
  rintro e w3 ⟨⟨t, v3, rfl, ht, ht12⟩, ho3, hrd3, hbel3⟩
  obtain ⟨ta, tc, hv⟩ := ht.form
  subst hv
  have hb13 := (hbel.trans hbel2).trans hbel3
  have HT := hide ht12
  have htI : (t.length : Int) ≤ 12 := by omega
  have hlt3 := hrd3.lt
  have HSP := hide (specSymbolsPut_any va ta vc tc l.length t.length l t w3 rfl (ho3.rowN rfl) (by omega) rfl (ht.rowN rfl) (by omega))
  have hsl := hide (putS_len (symPut l t) (Nat.le_trans (symPut_len l t) (by omega)))
  have hpl := hide (symPut_len l t)
  clear hrd hrd2 ho hbel hbel2 hbel3 ht ht12
  go_wp2_with fail
  refine (unhide HSP).mono ?_
  rintro e w4 ⟨v4, rfl, hp4, hb4⟩
  obtain ⟨pa, pc, hv⟩ := hp4.form
  subst hv
  clear HSP
  go_wp2_with fail
  refine (specBitsPut_any pa pc (symPut l t) _ hp4.row (by have := unhide hpl; have := unhide HT; omega)).mono ?_
  rintro e w5 ⟨rfl, hb5⟩
  have hb35 := bnext hb4 hb5
  have hrd5 := hrd3.kept (hb35.mono (by omega))
  have ho5 := ho3.later hb35 (Nat.le_refl _)
  have hb15 := hb13.trans (hb35.mono hb13.size)
  have hs3 := hb35.size
  clear hp4 hb4 hb5 hrd3 ho3 hb13 hb35
  go_wp2_with fail
  refine (one_only _ _ _ 5 [0, 0, 1, 9, -1] _ _ rfl hrd5 (by omega) (by omega) (by omega)).mono ?_
  rintro e w6 ⟨x, hx, rfl, hrd6, hon6⟩
  have hx' : -1 ≤ x ∧ x ≤ 9 := by simp at hx; omega
  obtain ⟨x0, x1⟩ := hx'
  have ho6 : IOwn w6 (w.heap.size) (.slice va l.length vc) l := IOwn.mono (owns_only (World.ownsRow.alloc ho5 _) hon6 (by omega)) (Nat.le_succ _)
  have hb16 := (hb15.alloc (by have := hb15.size; omega) _).trans (hon6.1.mono (by omega))
  clear hx hrd6 hon6 hrd5 ho5 hb15
  go_wp2
  go_ret3
  exact ⟨⟨l, va, vc, _, _, _, rfl, rfl, ho6, hl, by have := unhide hsl; simpa [ByteArray.size] using this, by have := unhide HT; omega, by have := unhide HT; omega⟩, hb16⟩

end Go.Proofs.Ytnomiopdpmecbaa
