/- The model's least group, and groups without one, over this seat's program. -/
import Derived.Test.YtkkhaleiehnihaaTr1
import Derived.Deep.RegionHeld3
import Derived.BigQuiet
namespace Go.Proofs.Ytkkhaleiehnihaa
open Go.RowKit

def lessG (x y : Grp) : Bool := decide (x.cnt < y.cnt) || (decide (x.cnt = y.cnt) && decide (x.fst < y.fst))
/-- The place of the least among the first k and one more. -/
def leastF (L : List Grp) : Nat → Nat
  | 0 => 0
  | k + 1 => if lessG (L.getD (k + 1) g0) (L.getD (leastF L k) g0) then k + 1 else leastF L k
def least (L : List Grp) : Nat := leastF L (L.length - 1)
theorem leastF_le (L : List Grp) (k : Nat) : leastF L k ≤ k := by
  induction k with
  | zero => exact Nat.le_refl _
  | succ k ih => simp only [leastF]; split <;> omega
theorem least_lt (L : List Grp) (h : 0 < L.length) : least L < L.length := by
  have := leastF_le L (L.length - 1)
  unfold least; omega

theorem erase_eqL (L : List Grp) (k : Nat) : L.eraseIdx k = L.take k ++ L.drop (k + 1) := List.eraseIdx_eq_take_drop_succ L k

set_option maxHeartbeats 1600000 in
theorem l3Least_any (a : Option Addr) (cap n base : Nat) (L : List Grp) (w : World) (hn : L.length = n) (h : Trow 52 w base (.slice a n cap) L) (h1 : 1 ≤ n) (hm : n ≤ 300) :
    Calls Try.prog 42 #[.slice a n cap] w fun e w' => e = .returned (.int .i64 (least L : Nat)) ∧ Below w.heap.size w w' := by
  obtain ⟨g, rfl⟩ := h.somes (by omega)
  have HN := hide hn
  have hmI : (n : Int) ≤ 300 := by omega
  have HT := hide h
  clear h hn hm
  go_enter Try.func42, Try.ntmps42
  go_wp2_with fail
  go_loopw [3, 4] (fun b i wr => ∃ k : Nat, k < n ∧ i = .int .i64 ((k : Int) + 1) ∧ b = .int .i64 (leastF L k : Nat) ∧ Below w.heap.size w wr) (fun _ i _ => n + 1 - (intOf i).toNat)
  case atStart => exact ⟨0, by omega, rfl, rfl, Below.refl _ _⟩
  case round =>
    obtain ⟨k, hk, rfl, rfl, hbel⟩ := hrel
    have HB := hide hbel
    have HTr := hide ((unhide HT).later hbel (Nat.le_refl _))
    clear hbel
    by_cases hlt : k + 1 < n
    · have hltI : (k : Int) + 1 < (n : Int) := by omega
      have hle := leastF_le L k
      obtain ⟨c0, c1, _, _, _⟩ := (unhide HTr).at (unhide HN) (k + 1) hlt
      obtain ⟨d0, d1, _, _, _⟩ := (unhide HTr).at (unhide HN) (leastF L k) (by omega)
      have hst : Hid (leastF L (k + 1) = if lessG (L.getD (k + 1) g0) (L.getD (leastF L k) g0) then k + 1 else leastF L k) := rfl
      have hls : Hid (∀ x y : Grp, lessG x y = (decide (x.cnt < y.cnt) || (decide (x.cnt = y.cnt) && decide (x.fst < y.fst)))) := fun _ _ => rfl
      have qI : ((leastF L k : Nat) : Int) < (n : Int) := by omega
      have hst2 : Hid (leastF L (k + 1) = if (decide ((L.getD (k + 1) g0).cnt < (L.getD (leastF L k) g0).cnt) || (decide ((L.getD (k + 1) g0).cnt = (L.getD (leastF L k) g0).cnt) && decide ((L.getD (k + 1) g0).fst < (L.getD (leastF L k) g0).fst))) then k + 1 else leastF L k) := rfl
      clear hst hls hle
      generalize leastF L k = q at *
      generalize (L.getD (k + 1) g0).cnt = x0 at *
      generalize (L.getD (k + 1) g0).fst = x1 at *
      generalize (L.getD q g0).cnt = y0 at *
      generalize (L.getD q g0).fst = y1 at *
      by_cases h0 : x0 < y0
      · have e0 : decide (x0 < y0) = true := decide_eq_true h0
        have hst3 : Hid (leastF L (k + 1) = k + 1) := by have := unhide hst2; rw [e0] at this; exact hide (by simpa using this)
        go_wp2_with fail
        go_quiet (fail)
        go_wp2
        go_roundw
        case rel => exact ⟨k + 1, hlt, by go_num, by rw [unhide hst3]; go_num, below_drewN (unhide HB) _⟩
        case measure => simp [intOf]; omega
      · have e0 : decide (x0 < y0) = false := decide_eq_false h0
        by_cases h2 : x0 = y0
        · subst h2
          have g1 : (x0 == x0) = true := by simp
          by_cases h3 : x1 < y1
          · have e1 : decide (x1 < y1) = true := decide_eq_true h3
            have hst3 : Hid (leastF L (k + 1) = k + 1) := by have := unhide hst2; rw [e0, e1] at this; exact hide (by simpa using this)
            go_wp2_with fail
            go_quiet (fail)
            go_wp2
            go_roundw
            case rel => exact ⟨k + 1, hlt, by go_num, by rw [unhide hst3]; go_num, below_drewN (unhide HB) _⟩
            case measure => simp [intOf]; omega
          · have e1 : decide (x1 < y1) = false := decide_eq_false h3
            have hst3 : Hid (leastF L (k + 1) = q) := by have := unhide hst2; rw [e0, e1] at this; exact hide (by simpa using this)
            go_wp2_with fail
            go_quiet (fail)
            go_wp2
            go_roundw
            case rel => exact ⟨k + 1, hlt, by go_num, by rw [unhide hst3], below_drewN (unhide HB) _⟩
            case measure => simp [intOf]; omega
        · have g1 : (x0 == y0) = false := by simpa using h2
          have hst3 : Hid (leastF L (k + 1) = q) := by have := unhide hst2; rw [e0, decide_eq_false h2] at this; exact hide (by simpa using this)
          go_wp2_with fail
          go_quiet (fail)
          go_wp2
          go_roundw
          case rel => exact ⟨k + 1, hlt, by go_num, by rw [unhide hst3], below_drewN (unhide HB) _⟩
          case measure => simp [intOf]; omega
    · have hkn : Hid (least L = leastF L k) := by
        show least L = leastF L k
        unfold least
        rw [unhide HN]
        congr 1; omega
      have hltI : ¬ (k : Int) + 1 < (n : Int) := by omega
      go_wp2
      go_ret
      exact ⟨ret_int (by rw [unhide hkn]), unhide HB⟩

end Go.Proofs.Ytkkhaleiehnihaa
