/- Lengths that make a code: contracts of both, and the walk of the exact law, over this seat's program. -/
import Derived.Test.YtkkhaleiehnihaaIi1
import Derived.Test.YtkkhaleiehnihaaBt1
namespace Go.Proofs.Ytkkhaleiehnihaa
open Go.RowKit Corb

def krN (b : Int) : Nat := if 0 < b then p2 (15 - b).toNat else 0
def kr (l : List Int) : Nat := (l.map krN).sum
def us (l : List Int) : Nat := (l.map (fun b => if 0 < b then 1 else 0)).sum
def inL (l : List Int) : Bool := l.all (fun b => inB b 0 15)
def wholeL (l : List Int) : Bool := decide (kr l = 32768) || (decide (us l = 1) && decide (kr l = 16384))
def lensOk (l : List Int) : Bool := inL l && decide (l.length ≤ 300) && wholeL l

theorem kr_take (l : List Int) (k : Nat) (h : k < l.length) : kr (l.take (k + 1)) = kr (l.take k) + krN (l.getD k 0) := by
  rw [take_snocI l k h]; simp [kr]
theorem us_take (l : List Int) (k : Nat) (h : k < l.length) : us (l.take (k + 1)) = us (l.take k) + (if 0 < l.getD k 0 then 1 else 0) := by
  rw [take_snocI l k h]; simp [us]
theorem inL_take (l : List Int) (k : Nat) (h : k < l.length) : inL (l.take (k + 1)) = (inL (l.take k) && inB (l.getD k 0) 0 15) := by
  rw [take_snocI l k h]; simp [inL]
theorem krN_le (b : Int) : krN b ≤ 32768 := by
  unfold krN
  split
  · have h2 : 2 ^ (15 - b).toNat ≤ 2 ^ 15 := Nat.pow_le_pow_right (by omega) (by omega)
    have h3 : (2 : Nat) ^ 15 = 32768 := by decide
    have h4 : p2 (15 - b).toNat = 2 ^ (15 - b).toNat := rfl
    omega
  · omega
theorem kr_le (l : List Int) : kr l ≤ 32768 * l.length := by
  induction l with
  | nil => simp [kr]
  | cons b l ih =>
    have := krN_le b
    simp only [kr, List.map_cons, List.sum_cons, List.length_cons] at ih ⊢
    omega
theorem us_le (l : List Int) : us l ≤ l.length := by
  induction l with
  | nil => simp [us]
  | cons b l ih =>
    simp only [us, List.map_cons, List.sum_cons, List.length_cons] at ih ⊢
    split <;> omega
theorem inL_get {l : List Int} {k : Nat} (h : k < l.length) (hn : inB (l.getD k 0) 0 15 = false) : inL l = false := by
  rcases hb : inL l with _ | _
  · rfl
  · have := List.all_eq_true.1 hb (l.getD k 0) (by simp [List.getD, h])
    rw [hn] at this
    exact absurd this (by simp)

set_option maxHeartbeats 400000 in
theorem l3Used_any (a : Option Addr) (cap n : Nat) (l : List Int) (w : World) (hn : l.length = n) (h : IRow w a l) (hm : n ≤ 1048576) :
    Calls Try.prog 21 #[.slice a n cap] w fun e w' => e = .returned (.int .i64 (us l : Nat)) ∧ w' = w := by
  subst hn
  have hmI : (l.length : Int) ≤ 1048576 := by omega
  clear hm
  go_enter Try.func21, Try.ntmps21
  go_wp2_with fail
  go_loop [3, 4] (fun n i => ∃ k : Nat, k ≤ l.length ∧ i = .int .i64 k ∧ n = .int .i64 (us (l.take k) : Nat)) (fun _ i => l.length - (intOf i).toNat)
  case atStart => exact ⟨0, Nat.zero_le _, rfl, rfl⟩
  case round =>
    obtain ⟨k, hk, rfl, rfl⟩ := hrel
    have HK := hide hk
    by_cases hlt : k < l.length
    · obtain ⟨g, o, rfl, hg, hc⟩ := h (by omega)
      have c0 := hc k hlt
      have hst := hide (us_take l k hlt)
      have hub := us_le (l.take k)
      have hub' : (us (l.take k) : Int) ≤ 1048576 := by
        have : (l.take k).length ≤ l.length := by simp; omega
        omega
      clear hc hk h hub
      generalize l.getD k 0 = y at *
      generalize us (l.take k) = u at *
      by_cases hy : 0 < y
      · have hst' : Hid (us (l.take (k + 1)) = u + 1) := by have := unhide hst; rw [if_pos hy] at this; exact this
        go_wp2
        go_round
        case rel => exact ⟨k + 1, by omega, by go_num, by rw [unhide hst']; go_num⟩
        case measure => simp [intOf]; omega
      · have hst' : Hid (us (l.take (k + 1)) = u) := by have := unhide hst; rw [if_neg hy] at this; exact this
        go_wp2
        go_round
        case rel => exact ⟨k + 1, by omega, by go_num, by rw [unhide hst']⟩
        case measure => simp [intOf]; omega
    · have hlk : Hid (l.take k = l) := List.take_of_length_le (by omega)
      clear h
      go_wp2
      go_ret
      exact ⟨ret_int (by rw [unhide hlk]), rfl⟩

end Go.Proofs.Ytkkhaleiehnihaa
