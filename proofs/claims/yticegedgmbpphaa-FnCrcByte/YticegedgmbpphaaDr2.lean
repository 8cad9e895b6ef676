/- Contracts of the draws of chapter 2. -/
import Derived.Test.YticegedgmbpphaaRd5
import Derived.Test.YticegedgmbpphaaCrc3
import Derived.Test.YticegedgmbpphaaSum2
namespace Go.Proofs.Yticegedgmbpphaa
open Go.RowKit Corb

theorem drawCrc_any (a : Option Addr) (len cap : Nat) (z : Nat → Int) (w : World) (h : Src w a len z) (hc : len ≤ cap) (hm : len ≤ maxLen) :
    Calls Try.prog 19 #[.slice a len cap] w fun e w' => (∃ s : ByteArray, e = .returned (.string s) ∧ s.size ≤ 400) ∧ Below w.heap.size w w' := by
  go_enter Try.func19, Try.ntmps19
  go_wp2_with fail
  refine (l1Open_any a len cap z _ h hc hm).mono ?_
  rintro e w1 ⟨rfl, hrd, hbel, hsz⟩
  go_wp2_with fail
  refine (l11AnyText_any _ _ 0 _ hrd (by omega)).mono ?_
  rintro e w2 ⟨⟨s, rfl, hs⟩, hrd2, hbel2⟩
  go_wp2
  go_ret
  exact ⟨⟨s, rfl, hs⟩, hbel.trans hbel2⟩

theorem drawAdler_any (a : Option Addr) (len cap : Nat) (z : Nat → Int) (w : World) (h : Src w a len z) (hc : len ≤ cap) (hm : len ≤ maxLen) :
    Calls Try.prog 28 #[.slice a len cap] w fun e w' => (∃ s : ByteArray, e = .returned (.string s) ∧ s.size ≤ 400) ∧ Below w.heap.size w w' := by
  go_enter Try.func28, Try.ntmps28
  go_wp2_with fail
  refine (l1Open_any a len cap z _ h hc hm).mono ?_
  rintro e w1 ⟨rfl, hrd, hbel, hsz⟩
  go_wp2_with fail
  refine (l11AnyText_any _ _ 0 _ hrd (by omega)).mono ?_
  rintro e w2 ⟨⟨s, rfl, hs⟩, hrd2, hbel2⟩
  go_wp2
  go_ret
  exact ⟨⟨s, rfl, hs⟩, hbel.trans hbel2⟩

set_option maxHeartbeats 800000 in
theorem drawCrcMore_any (a : Option Addr) (len cap : Nat) (z : Nat → Int) (w : World) (h : Src w a len z) (hc : len ≤ cap) (hm : len ≤ maxLen) :
    Calls Try.prog 22 #[.slice a len cap] w fun e w' => (∃ (c : Int) (s : ByteArray), e = .returned (.tuple #[.int .i64 c, .string s]) ∧ s.size ≤ 400) ∧ Below w.heap.size w w' := by
  go_enter Try.func22, Try.ntmps22
  go_wp2_with fail
  refine (l1Open_any a len cap z _ h hc hm).mono ?_
  rintro e w1 ⟨rfl, hrd, hbel, hsz⟩
  go_wp2_with fail
  refine (l11Text_any _ _ 0 _ hrd (by omega)).mono ?_
  rintro e w2 ⟨⟨s, rfl, hs⟩, hrd2, hbel2⟩
  go_wp2_with fail
  refine (specCrc_any s _ (by unfold maxLen; omega)).mono ?_
  rintro e w3 ⟨rfl, rfl⟩
  generalize ((crcMore 0 s.data.toList : Nat) : Int) = v
  go_wp2_with fail
  refine (one_lit _ _ 50 6 [0, 1, 4294967295, 4294967296, -1, v] _ _ rfl hrd2 (by omega) (by omega) (by omega)).mono ?_
  rintro e w4 ⟨c, _, rfl, hrd4, hbel4⟩
  go_wp2_with fail
  refine (l11Text_any _ _ 51 _ hrd4 (by omega)).mono ?_
  rintro e w5 ⟨⟨t, rfl, ht⟩, hrd5, hbel5⟩
  go_wp2
  go_ret2
  exact ⟨⟨c, t, rfl, ht⟩, ((hbel.trans hbel2).trans hbel4).trans hbel5⟩

set_option maxHeartbeats 800000 in
theorem drawCrcJoin_any (a : Option Addr) (len cap : Nat) (z : Nat → Int) (w : World) (h : Src w a len z) (hc : len ≤ cap) (hm : len ≤ maxLen) :
    Calls Try.prog 25 #[.slice a len cap] w fun e w' => (∃ (x y n : Int), e = .returned (.tuple #[.int .i64 x, .int .i64 y, .int .i64 n])) ∧ Below w.heap.size w w' := by
  go_enter Try.func25, Try.ntmps25
  go_wp2_with fail
  refine (l1Open_any a len cap z _ h hc hm).mono ?_
  rintro e w1 ⟨rfl, hrd, hbel, hsz⟩
  go_wp2_with fail
  refine (l11Text_any _ _ 0 _ hrd (by omega)).mono ?_
  rintro e w2 ⟨⟨s, rfl, hs⟩, hrd2, hbel2⟩
  go_wp2_with fail
  refine (specCrc_any s _ (by unfold maxLen; omega)).mono ?_
  rintro e w3 ⟨rfl, rfl⟩
  generalize ((crcMore 0 s.data.toList : Nat) : Int) = v
  go_wp2_with fail
  refine (one_lit _ _ 50 5 [0, 4294967295, 4294967296, -1, v] _ _ rfl hrd2 (by omega) (by omega) (by omega)).mono ?_
  rintro e w4 ⟨c, _, rfl, hrd4, hbel4⟩
  go_wp2_with fail
  refine (l11Text_any _ _ 51 _ hrd4 (by omega)).mono ?_
  rintro e w5 ⟨⟨t, rfl, ht⟩, hrd5, hbel5⟩
  go_wp2_with fail
  refine (specCrc_any t _ (by unfold maxLen; omega)).mono ?_
  rintro e w6 ⟨rfl, rfl⟩
  generalize ((crcMore 0 t.data.toList : Nat) : Int) = v'
  go_wp2_with fail
  refine (one_lit _ _ 101 4 [0, 7, -1, v'] _ _ rfl hrd5 (by omega) (by omega) (by omega)).mono ?_
  rintro e w7 ⟨c', _, rfl, hrd7, hbel7⟩
  go_wp2_with fail
  refine (one_lit _ _ 102 6 [0, 1, 5, 100, -1, 100001] _ _ rfl hrd7 (by omega) (by omega) (by omega)).mono ?_
  rintro e w8 ⟨n, _, rfl, hrd8, hbel8⟩
  go_wp2
  go_ret3
  exact ⟨⟨c, c', n, rfl⟩, ((((hbel.trans hbel2).trans hbel4).trans hbel5).trans hbel7).trans hbel8⟩

set_option maxHeartbeats 800000 in
theorem drawAdlerJoin_any (a : Option Addr) (len cap : Nat) (z : Nat → Int) (w : World) (h : Src w a len z) (hc : len ≤ cap) (hm : len ≤ maxLen) :
    Calls Try.prog 32 #[.slice a len cap] w fun e w' => (∃ (x y n : Int), e = .returned (.tuple #[.int .i64 x, .int .i64 y, .int .i64 n])) ∧ Below w.heap.size w w' := by
  go_enter Try.func32, Try.ntmps32
  go_wp2_with fail
  refine (l1Open_any a len cap z _ h hc hm).mono ?_
  rintro e w1 ⟨rfl, hrd, hbel, hsz⟩
  go_wp2_with fail
  refine (l11Text_any _ _ 0 _ hrd (by omega)).mono ?_
  rintro e w2 ⟨⟨s, rfl, hs⟩, hrd2, hbel2⟩
  go_wp2_with fail
  refine (specAdler_any s _ (by unfold maxLen; omega)).mono ?_
  rintro e w3 ⟨rfl, rfl⟩
  generalize ((adler s.data.toList : Nat) : Int) = v
  go_wp2_with fail
  refine (one_lit _ _ 50 6 [1, 0, 65520, 65521, -1, v] _ _ rfl hrd2 (by omega) (by omega) (by omega)).mono ?_
  rintro e w4 ⟨c, _, rfl, hrd4, hbel4⟩
  go_wp2_with fail
  refine (l11Text_any _ _ 51 _ hrd4 (by omega)).mono ?_
  rintro e w5 ⟨⟨t, rfl, ht⟩, hrd5, hbel5⟩
  go_wp2_with fail
  refine (specAdler_any t _ (by unfold maxLen; omega)).mono ?_
  rintro e w6 ⟨rfl, rfl⟩
  generalize ((adler t.data.toList : Nat) : Int) = v'
  go_wp2_with fail
  refine (one_lit _ _ 101 4 [1, 0, v', 4294967295] _ _ rfl hrd5 (by omega) (by omega) (by omega)).mono ?_
  rintro e w7 ⟨c', _, rfl, hrd7, hbel7⟩
  go_wp2_with fail
  refine (one_lit _ _ 102 7 [0, 1, 5, 100, -1, 100000, 100001] _ _ rfl hrd7 (by omega) (by omega) (by omega)).mono ?_
  rintro e w8 ⟨n, _, rfl, hrd8, hbel8⟩
  go_wp2
  go_ret3
  exact ⟨⟨c, c', n, rfl⟩, ((((hbel.trans hbel2).trans hbel4).trans hbel5).trans hbel7).trans hbel8⟩

end Go.Proofs.Yticegedgmbpphaa
