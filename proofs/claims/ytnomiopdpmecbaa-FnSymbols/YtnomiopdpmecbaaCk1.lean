/- Codes of lengths: plain mathematics, and the model's codes, over this seat's program. -/
import Derived.Test.YtnomiopdpmecbaaLk2
namespace Go.Proofs.Ytnomiopdpmecbaa
open Go.RowKit Corb

/-- Over the first k symbols: the next code, and the codes. -/
def inn (l : List Int) (n : Int) (s : Nat × List Int) : Nat → Nat × List Int
  | 0 => s
  | k + 1 => if l.getD k 0 = n then ((inn l n s k).1 + 1, (inn l n s k).2.set k ((inn l n s k).1 : Int)) else inn l n s k
/-- Over the first N lengths. -/
def outN (l : List Int) : Nat → Nat × List Int
  | 0 => (0, List.replicate l.length 0)
  | N + 1 => inn l ((N : Int) + 1) (2 * (outN l N).1, (outN l N).2) l.length
theorem inn_len (l : List Int) (n : Int) (s : Nat × List Int) (k : Nat) : (inn l n s k).2.length = s.2.length := by
  induction k with
  | zero => rfl
  | succ k ih =>
    simp only [inn]
    split
    · simpa using ih
    · exact ih
theorem outN_len (l : List Int) (N : Nat) : (outN l N).2.length = l.length := by
  induction N with
  | zero => simp [outN]
  | succ N ih => simp only [outN]; rw [inn_len]; exact ih
theorem inn_le (l : List Int) (n : Int) (s : Nat × List Int) (k : Nat) : (inn l n s k).1 ≤ s.1 + k := by
  induction k with
  | zero => exact Nat.le_refl _
  | succ k ih =>
    simp only [inn]
    split
    · simp only; omega
    · omega
theorem outN_le (l : List Int) (N : Nat) : (outN l N).1 + l.length ≤ 2 ^ N * l.length := by
  induction N with
  | zero => simp [outN]
  | succ N ih =>
    simp only [outN]
    have h := inn_le l ((N : Int) + 1) (2 * (outN l N).1, (outN l N).2) l.length
    simp only at h
    have e : 2 ^ (N + 1) * l.length = 2 * (2 ^ N * l.length) := by rw [Nat.pow_succ, Nat.mul_comm (2 ^ N), Nat.mul_assoc]
    omega
theorem outN_bd (l : List Int) (N : Nat) (hN : N ≤ 15) (hl : l.length ≤ 300) : (outN l N).1 ≤ 9830400 := by
  have h := outN_le l N
  have h2 : 2 ^ N ≤ 2 ^ 15 := Nat.pow_le_pow_right (by omega) hN
  have h3 : 2 ^ N * l.length ≤ 32768 * 300 := Nat.mul_le_mul h2 hl
  omega

set_option maxHeartbeats 1600000 in
theorem l3Codes_any (a : Option Addr) (cap n : Nat) (l : List Int) (w : World) (hn : l.length = n) (h : IRow w a l) (hm : n ≤ 300) :
    Calls Try.prog 25 #[.slice a n cap] w fun e w' => e = .returned (.slice (some ⟨w.heap.size, 0, none⟩) n n) ∧ IOwn w' w.heap.size (.slice (some ⟨w.heap.size, 0, none⟩) n n) (outN l 15).2 ∧ Below w.heap.size w w' := by
  have hm' : (n : Int) ≤ 300 := by omega
  obtain ⟨i0, hi, hz0, hz1, hz2⟩ := info_parts Try.infoInt
  have Hn := hide hn
  have Hm := hide hm
  go_enter Try.func25, Try.ntmps25
  go_wp2_with (at_make; refine wpList_make_full _ rfl _ _ 23 rfl w.heap.size 3 i0 (.int .i64 0) 1 Try.underlying23 hi hz0 hz1 .i64 .i64 _ _ n rfl rfl rfl rfl (by rw [hz2]; omega) (by unfold maxLen; omega) (Nat.le_refl _) ?_; intro w1 hown hgrow)
  have hp0 : IOwn w1 w.heap.size (.slice (some ⟨w.heap.size, 0, none⟩) n n) (outN l 0).2 := by
    show IOwn w1 w.heap.size (.slice (some ⟨w.heap.size, 0, none⟩) n n) (List.replicate l.length 0)
    rw [hn]
    exact made_ints hown
  have hb0 : Below w.heap.size w w1 := (Below.refl _ _).grown hgrow (Nat.le_refl _) (fun k h => by cases h)
  clear hown hgrow hi hz0 hz1 hz2 hm hn
  go_loopw [4, 5, 6] (fun c m _ wr => ∃ N : Nat, N ≤ 15 ∧ m = .int .i64 ((N : Int) + 1) ∧ c = .int .i64 (2 * (outN l N).1 : Nat) ∧ IOwn wr w.heap.size (.slice (some ⟨w.heap.size, 0, none⟩) n n) (outN l N).2 ∧ Below w.heap.size w wr) (fun _ m _ _ => 16 - (intOf m).toNat)
  case atStart => exact ⟨0, by omega, rfl, rfl, hp0, hb0⟩
  case round =>
    obtain ⟨N, hN, rfl, rfl, hp, hbel⟩ := hrel
    clear hp0 hb0
    have hbd := outN_bd l N hN (by rw [unhide Hn]; exact unhide Hm)
    have hbI : ((2 * (outN l N).1 : Nat) : Int) ≤ 19660800 := by omega
    have hNI : (N : Int) ≤ 15 := by omega
    by_cases hlt : N < 15
    · have hN15 : (N : Int) < 15 := by omega
      have hlen0 : Hid ((outN l N).2.length = n) := (outN_len l N).trans (unhide Hn)
      have hfin : Hid (outN l (N + 1) = inn l ((N : Int) + 1) (2 * (outN l N).1, (outN l N).2) l.length) := rfl
      have hnext := hide (outN_bd l (N + 1) (by omega) (by rw [unhide Hn]; exact unhide Hm))
      generalize hS : ((2 * (outN l N).1, (outN l N).2) : Nat × List Int) = S at *
      have hS1 : 2 * (outN l N).1 = S.1 := by rw [← hS]
      have hS2 : (outN l N).2 = S.2 := by rw [← hS]
      rw [hS1] at hbI ⊢
      rw [hS2] at hp hlen0
      clear hS hS1 hS2 hbd
      go_wp2_with fail
      go_loopw [4, 6] (fun c i wr => ∃ k : Nat, k ≤ n ∧ i = .int .i64 k ∧ c = .int .i64 ((inn l ((N : Int) + 1) S k).1 : Nat) ∧ IOwn wr w.heap.size (.slice (some ⟨w.heap.size, 0, none⟩) n n) (inn l ((N : Int) + 1) S k).2 ∧ Below w.heap.size w wr) (fun _ i _ => n - (intOf i).toNat)
      case atStart => exact ⟨0, Nat.zero_le _, rfl, rfl, hp, hbel⟩
      case round =>
        obtain ⟨k, hk, rfl, rfl, hq, hb⟩ := hrel
        clear hp hbel
        have hlen : Hid ((inn l ((N : Int) + 1) S k).2.length = n) := (inn_len _ _ _ _).trans (unhide hlen0)
        have hle := inn_le l ((N : Int) + 1) S k
        have hleI : ((inn l ((N : Int) + 1) S k).1 : Int) ≤ 19661100 := by have := unhide Hm; omega
        clear hle
        by_cases hkn : k < n
        · obtain ⟨g, o, rfl, hg, hc⟩ := (h.later hb) (by rw [unhide Hn]; omega)
          have c0 := hc k (by rw [unhide Hn]; exact hkn)
          obtain ⟨d0, f0, _, _⟩ := hq.at (unhide hlen) hkn
          have hst : Hid (inn l ((N : Int) + 1) S (k + 1) = if l.getD k 0 = (N : Int) + 1 then ((inn l ((N : Int) + 1) S k).1 + 1, (inn l ((N : Int) + 1) S k).2.set k ((inn l ((N : Int) + 1) S k).1 : Int)) else inn l ((N : Int) + 1) S k) := rfl
          have HK := hide hk
          clear hc hk h
          generalize l.getD k 0 = y at *
          generalize inn l ((N : Int) + 1) S k = T at *
          by_cases hy : y = (N : Int) + 1
          · have hst' : Hid (inn l ((N : Int) + 1) S (k + 1) = (T.1 + 1, T.2.set k (T.1 : Int))) := by have := unhide hst; rw [if_pos hy] at this; exact this
            have hput := hide (hq.put (j := k) (unhide hlen) (T.1 : Int))
            subst hy
            generalize T.2.getD k 0 = d at *
            go_wp2
            go_roundw
            case rel => exact ⟨k + 1, by omega, by go_num, by rw [unhide hst']; go_num, by rw [unhide hst']; exact unhide hput, below_set hb (Nat.le_refl _) _⟩
            case measure => simp [intOf]; omega
          · have hst' : Hid (inn l ((N : Int) + 1) S (k + 1) = T) := by have := unhide hst; rw [if_neg hy] at this; exact this
            have g1 : (y == (N : Int) + 1) = false := by simpa using hy
            go_wp2
            go_roundw
            case rel => exact ⟨k + 1, by omega, by go_num, by rw [unhide hst'], by rw [unhide hst']; exact hq, hb⟩
            case measure => simp [intOf]; omega
        · have hkl : k = l.length := by have := unhide Hn; omega
          subst hkl
          rw [← unhide hfin] at hq hleI ⊢
          have hnI : ((outN l (N + 1)).1 : Int) ≤ 9830400 := by have := unhide hnext; omega
          go_wp2
          go_roundw
          case rel => exact ⟨N + 1, by omega, by go_num, by go_num, hq, hb⟩
          case measure => simp [intOf]; omega
    · obtain rfl : N = 15 := by omega
      go_wp2
      go_ret
      exact ⟨rfl, hp, hbel⟩

end Go.Proofs.Ytnomiopdpmecbaa
