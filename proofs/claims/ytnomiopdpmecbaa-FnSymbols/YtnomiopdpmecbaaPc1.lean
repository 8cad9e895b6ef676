/- Contracts of how many bits pieces are, over this seat's program. -/
import Derived.Test.YtnomiopdpmecbaaPr1
import Derived.Test.YtnomiopdpmecbaaBt2
namespace Go.Proofs.Ytnomiopdpmecbaa
open Go.RowKit Corb

/-- All pieces are ok. -/
def allOk (l : List (Int × Int)) : Bool := l.all (fun p => pOk p.1 p.2)
theorem allOk_take (l : List (Int × Int)) (k : Nat) (h : k < l.length) : allOk (l.take (k + 1)) = (allOk (l.take k) && pOk (l.getD k (0, 0)).1 (l.getD k (0, 0)).2) := by
  rw [List.take_succ_eq_append_getElem h, allOk, List.all_append]
  congr 1
  simp [List.getD, h]
theorem allOk_of_take {l : List (Int × Int)} {k : Nat} (h : allOk (l.take k) = false) : allOk l = false := by
  rw [← Bool.not_eq_true] at h ⊢
  intro h2
  apply h
  simp only [allOk, List.all_eq_true] at h2 ⊢
  intro x hx
  exact h2 x (List.mem_of_mem_take hx)

set_option maxHeartbeats 800000 in
theorem l1Pieces_any (a : Option Addr) (cap : Nat) (l : List (Int × Int)) (w : World) (h : PRow w a l) (hm : l.length ≤ 1000000000) :
    Calls Try.prog 45 #[.slice a l.length cap] w fun e w' => e = .returned (.bool (allOk l && decide (l.length ≤ 4000))) ∧ Below w.heap.size w w' := by
  have hm' : (l.length : Int) ≤ 1000000000 := by omega
  go_enter Try.func45, Try.ntmps45
  go_wp2
  go_loopw [3] (fun i wr => ∃ k : Nat, k ≤ l.length ∧ i = .int .i64 k ∧ allOk (l.take k) = true ∧ Below w.heap.size w wr) (fun i _ => l.length - (intOf i).toNat)
  case atStart => exact ⟨0, Nat.zero_le _, rfl, rfl, Below.refl _ _⟩
  case round =>
    obtain ⟨k, hk, rfl, hall, hbel⟩ := hrel
    by_cases hlt : k < l.length
    · obtain ⟨g, o, rfl, hg, hc⟩ := (h.later hbel) (by omega)
      obtain ⟨c0, c1⟩ := hc k hlt
      have hs := hide (allOk_take l k hlt)
      have hall' := hide hall
      clear hc h hall
      generalize (l.getD k (0, 0)).1 = x at *
      generalize (l.getD k (0, 0)).2 = y at *
      cases hp : pOk x y
      · have HF : Hid (allOk l = false) := allOk_of_take (k := k + 1) (by rw [unhide hs, hp]; simp)
        go_wp2_with (go_at_call 50; refine (l1Piece_any _ _ _).mono ?_; rintro e w1 ⟨rfl, hb1⟩)
        go_ret
        exact ⟨ret_bool (by rw [unhide HF]; rfl), hbel.trans (hb1.mono hbel.size)⟩
      · go_wp2_with (go_at_call 50; refine (l1Piece_any _ _ _).mono ?_; rintro e w1 ⟨rfl, hb1⟩)
        go_roundw
        case rel => exact ⟨k + 1, by omega, by go_num, by rw [unhide hs, unhide hall', hp]; rfl, hbel.trans (hb1.mono hbel.size)⟩
        case measure => simp [intOf]; omega
    · have HA : Hid (allOk l = true) := by
        rw [List.take_of_length_le (by omega)] at hall; exact hall
      clear hall h
      go_wp2
      go_ret
      exact ⟨ret_bool (by rw [unhide HA]; simp; omega), hbel⟩

end Go.Proofs.Ytnomiopdpmecbaa
