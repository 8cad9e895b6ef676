/- Contracts of the program's Adler, over this seat's program. -/
import Derived.Test.YticegedgmbpphaaAd1
namespace Go.Proofs.Yticegedgmbpphaa
open Go.RowKit Corb

theorem methAdlerAdd (a : Addr) (w : World) : (method 182 52 (.pointer (some a)) "loop.example/corbel/impl.add").run Try.prog w = .ok (70, .pointer (some a)) w := by kernel_rfl
theorem methAdlerTold (a : Addr) (w : World) : (method 182 52 (.pointer (some a)) "loop.example/corbel/impl.told").run Try.prog w = .ok (71, .pointer (some a)) w := by kernel_rfl
theorem nilAdlerAdd (a : Addr) (w : World) : (nilAhead 182 52 (.pointer (some a)) "loop.example/corbel/impl.add").run Try.prog w = .ok (some false) w := by kernel_rfl

set_option maxHeartbeats 800000 in
theorem sumOfAdler_any (b : Nat) (s : ByteArray) (w : World) (h : Two w b (.int .i64 1) (.int .i64 0)) (hs : s.size ≤ maxLen) :
    Calls Try.prog 40 #[.iface 52 (.pointer (some ⟨b, 0, none⟩)), .string s] w fun e w' => e = .returned (.int .i64 (adler s.data.toList : Nat)) ∧ Below b w w' := by
  unfold maxLen at hs
  have m1 := methAdlerAdd ⟨b, 0, none⟩
  have m2 := methAdlerTold ⟨b, 0, none⟩
  have m3 := nilAdlerAdd ⟨b, 0, none⟩
  go_enter Try.func40, Try.ntmps40
  go_wp2
  go_loopw [8] (fun i wr => ∃ k : Nat, k ≤ s.size ∧ i = .int .i64 k ∧ Two wr b (.int .i64 ((aFold (1, 0) (s.data.toList.take k)).1 : Nat)) (.int .i64 ((aFold (1, 0) (s.data.toList.take k)).2 : Nat)) ∧ Below b w wr) (fun i _ => s.size - (intOf i).toNat)
  case atStart => exact ⟨0, Nat.zero_le _, rfl, h, Below.refl _ _⟩
  case round =>
    obtain ⟨k, hk, rfl, htwo, hbel⟩ := hrel
    obtain ⟨hl1, hl2⟩ := aFold_lt (1, 0) (s.data.toList.take k) (by decide) (by decide)
    have hl1' : (((aFold (1, 0) (s.data.toList.take k)).1 : Nat) : Int) < 65521 := by omega
    have hl2' : (((aFold (1, 0) (s.data.toList.take k)).2 : Nat) : Int) < 65521 := by omega
    clear hl1 hl2
    by_cases hlt : k < s.size
    · have hs1 : Hid ((aFold (1, 0) (s.data.toList.take (k + 1))).1 = ((aFold (1, 0) (s.data.toList.take k)).1 + s[k].toNat) % 65521) := by
        rw [take_snoc s k hlt, aFold_snoc1]; exact rfl
      have hs2 : Hid ((aFold (1, 0) (s.data.toList.take (k + 1))).2 = ((aFold (1, 0) (s.data.toList.take k)).2 + ((aFold (1, 0) (s.data.toList.take k)).1 + s[k].toNat) % 65521) % 65521) := by
        rw [take_snoc s k hlt, aFold_snoc2]; exact rfl
      have hb : (s[k].toNat : Int) < 256 := by have := byte_lt s[k]; omega
      generalize (aFold (1, 0) (s.data.toList.take k)).1 = x at *
      generalize (aFold (1, 0) (s.data.toList.take k)).2 = y at *
      go_wp2_with fail
      go_region_with (go_at_call 70; refine (adlerAdd_any b _ _ _ _ htwo.drew (by omega) hl1' (by omega) hl2' (by omega) hb).mono ?_; rintro e w' ⟨rfl, htwo', hbel'⟩)
      all_goals
        go_wp2
        go_roundw
        case rel => exact ⟨k + 1, by omega, by go_num, by rw [unhide hs1, unhide hs2]; exact htwo', hbel.drew.trans hbel'⟩
        case measure => simp [intOf]; omega
    · have HE : Hid (adler s.data.toList = (aFold (1, 0) (s.data.toList.take k)).2 * 65536 + (aFold (1, 0) (s.data.toList.take k)).1) := by
        rw [List.take_of_length_le (by simp; omega)]; exact rfl
      generalize (aFold (1, 0) (s.data.toList.take k)).1 = x at *
      generalize (aFold (1, 0) (s.data.toList.take k)).2 = y at *
      go_wp2_with (go_at_call 71; refine (adlerTold_any b _ _ _ htwo (by omega) hl1' (by omega) hl2').mono ?_; rintro e w' ⟨rfl, hbel'⟩)
      go_ret
      exact ⟨ret_int (by rw [unhide HE]; go_num), hbel.trans (hbel'.mono (Nat.le_of_lt htwo.2.2.2.2))⟩

theorem two_new (w : World) (v0 v1 : Value) (t : TypeId) : Two (w.alloc (.cells #[v0, v1] t)) w.heap.size v0 v1 := by
  refine ⟨by simp, by simp, by simp, by simp, by simp⟩

theorem implAdler_any (s : ByteArray) (w : World) (hs : s.size ≤ maxLen) :
    Calls Try.prog 29 #[.string s] w fun e w' => e = .returned (.int .i64 (adler s.data.toList : Nat)) ∧ Below w.heap.size w w' := by
  have h2 := two_new w (.int .i64 1) (.int .i64 0) 54
  go_enter Try.func29, Try.ntmps29
  go_wp2_with (go_at_call 40; refine (sumOfAdler_any _ _ _ h2 hs).mono ?_; rintro e w' ⟨rfl, hbel⟩)
  go_ret
  exact ⟨rfl, ((Below.refl _ _).alloc (Nat.le_refl _) _).trans hbel⟩

theorem exAdler_walk (s : ByteArray) (hs : s.size ≤ maxLen) (w : World) :
    Calls Try.prog 17 #[.string s] w fun e w' => e = .returned (.bool true) ∧ Below w.heap.size w w' := by
  have hs' := hide hs
  unfold maxLen at hs
  by_cases hl : (s.size : Int) ≤ 1048576
  · go_enter Try.func17, Try.ntmps17
    go_wp2_with (first | (go_at_call 29; refine (implAdler_any _ _ (unhide hs')).mono ?_; rintro e w' ⟨rfl, hbel⟩) | (go_at_call 30; refine (specAdler_any _ _ (unhide hs')).mono ?_; rintro e w' ⟨rfl, rfl⟩))
    go_ret
    exact ⟨rfl, hbel⟩
  · go_enter Try.func17, Try.ntmps17
    go_wp2
    go_ret
    exact ⟨rfl, Below.refl _ _⟩

end Go.Proofs.Yticegedgmbpphaa
