/- Whether lengths make a code: the model's and the program's, over this seat's program. -/
import Derived.Test.YtkkhaleiehnihaaLk1
namespace Go.Proofs.Ytkkhaleiehnihaa
open Go.RowKit Corb

theorem lensOk_no {l : List Int} (h : inL l = false ∨ 300 < l.length) : lensOk l = false := by
  unfold lensOk
  rcases h with h | h
  · simp [h]
  · rw [decide_eq_false (by omega)]; simp
theorem lensOk_yes {l : List Int} (h : inL l = true) (hl : l.length ≤ 300) : lensOk l = wholeL l := by
  simp [lensOk, h, hl]


set_option maxHeartbeats 800000 in
theorem lensWhole_any (a : Option Addr) (cap n : Nat) (l : List Int) (w : World) (hn : l.length = n) (h : IRow w a l) (hin : inL l = true) (hm : n ≤ 300) :
    Calls Try.prog 34 #[.slice a n cap] w fun e w' => e = .returned (.bool (wholeL l)) ∧ w' = w := by
  subst hn
  have hmI : (l.length : Int) ≤ 300 := by omega
  have Hm := hide hm
  have Hin := hide hin
  clear hm hin
  go_enter Try.func34, Try.ntmps34
  go_wp2_with fail
  go_loop [3, 4, 6, 9] (fun u n _ i => ∃ k : Nat, k ≤ l.length ∧ i = .int .i64 k ∧ u = .int .i64 (us (l.take k) : Nat) ∧ n = .int .i64 (kr (l.take k) : Nat)) (fun _ _ _ i => l.length - (intOf i).toNat)
  case atStart => exact ⟨0, Nat.zero_le _, rfl, rfl, rfl⟩
  case round =>
    obtain ⟨k, hk, rfl, rfl, rfl⟩ := hrel
    have HK := hide hk
    have hkb := kr_le (l.take k)
    have hub := us_le (l.take k)
    have hkl : (l.take k).length ≤ l.length := by simp; omega
    have hkI : (kr (l.take k) : Int) ≤ 9830400 := by have := unhide Hm; omega
    have huI : (us (l.take k) : Int) ≤ 300 := by omega
    clear hkb hkl hub
    by_cases hlt : k < l.length
    · obtain ⟨g, o, rfl, hg, hc⟩ := h (by omega)
      have c0 := hc k hlt
      have hst := hide (kr_take l k hlt)
      have hsu := hide (us_take l k hlt)
      have hy : inB (l.getD k 0) 0 15 = true := by
        rcases hb : inB (l.getD k 0) 0 15 with _ | _
        · have := inL_get hlt hb
          rw [unhide Hin] at this
          exact absurd this (by simp)
        · rfl
      clear hc hk h
      generalize l.getD k 0 = y at *
      generalize kr (l.take k) = u at *
      generalize us (l.take k) = q at *
      obtain ⟨y0, y1⟩ := inB_true.1 hy
      by_cases hp : 0 < y
      · obtain ⟨c, hc⟩ : ∃ c : Nat, 15 - y = (c : Int) := ⟨(15 - y).toNat, by omega⟩
        have hkn : Hid (krN y = p2 c) := by
          show krN y = p2 c
          unfold krN
          rw [if_pos hp, hc, Int.toNat_natCast]
        have hbd := krN_le y
        rw [unhide hkn] at hbd
        have hsu' : Hid (us (l.take (k + 1)) = q + 1) := by have := unhide hsu; rw [if_pos hp] at this; exact this
        have hc15 : (c : Int) ≤ 15 := by omega
        have hp2 : (1 : Int) * 2 ^ c = (p2 c : Int) := by rw [Int.one_mul, p2_int]
        have hp2' : (2 : Int) ^ c = (p2 c : Int) := (p2_int c).symm
        generalize p2 c = PW at *
        have hbI : (PW : Int) ≤ 32768 := by omega
        have hw1 : IntKind.i64.wrap (15 - y) = (c : Int) := by rw [hc]; exact wrap_id _ (by omega) (by omega)
        have hw2 : IntKind.i64.wrap (PW : Int) = (PW : Int) := wrap_id _ (by omega) (by omega)
        clear hbd
        go_wp2
        go_round
        case rel => exact ⟨k + 1, by omega, by go_num, by rw [unhide hsu']; go_num, by rw [unhide hst, unhide hkn]; go_num⟩
        case measure => simp [intOf]; omega
      · have hkn : Hid (krN y = 0) := if_neg hp
        have hsu' : Hid (us (l.take (k + 1)) = q) := by have := unhide hsu; rw [if_neg hp] at this; exact this
        go_wp2
        go_round
        case rel => exact ⟨k + 1, by omega, by go_num, by rw [unhide hsu'], by rw [unhide hst, unhide hkn]; rfl⟩
        case measure => simp [intOf]; omega
    · have hlk : l.take k = l := List.take_of_length_le (by omega)
      rw [hlk] at hkI huI ⊢
      have HW : Hid (wholeL l = (decide (kr l = 32768) || (decide (us l = 1) && decide (kr l = 16384)))) := rfl
      clear h hlk
      generalize kr l = K at *
      generalize us l = U at *
      by_cases h1 : K = 32768
      · subst h1
        go_wp2
        go_ret
        exact ⟨ret_bool (by rw [unhide HW]; rfl), rfl⟩
      · have g1 : ((K : Int) == 32768) = false := by simp; omega
        by_cases h3 : U = 1
        · subst h3
          by_cases h2 : K = 16384
          · subst h2
            go_wp2
            go_ret
            exact ⟨ret_bool (by rw [unhide HW]; rfl), rfl⟩
          · have g2 : ((K : Int) == 16384) = false := by simp; omega
            go_wp2
            go_ret
            exact ⟨ret_bool (by rw [unhide HW]; simp [h1, h2]), rfl⟩
        · have g3 : ((U : Int) == 1) = false := by simp; omega
          go_wp2
          go_ret
          exact ⟨ret_bool (by rw [unhide HW]; simp [h1, h3]), rfl⟩

set_option maxHeartbeats 800000 in
theorem implLensOk_any (a : Option Addr) (cap n : Nat) (l : List Int) (w : World) (hn : l.length = n) (h : IRow w a l) (hm : n ≤ 1048576) :
    Calls Try.prog 17 #[.slice a n cap] w fun e w' => e = .returned (.bool (lensOk l)) ∧ w' = w := by
  subst hn
  by_cases hlen : (l.length : Int) ≤ 300
  · clear hm
    go_enter Try.func17, Try.ntmps17
    go_wp2_with fail
    go_loopw [4, 10] (fun _ i wr => ∃ k : Nat, k ≤ l.length ∧ i = .int .i64 k ∧ inL (l.take k) = true ∧ wr = w) (fun _ i _ => l.length - (intOf i).toNat)
    case atStart => exact ⟨0, Nat.zero_le _, rfl, rfl, rfl⟩
    case round =>
      obtain ⟨k, hk, rfl, hin, rfl⟩ := hrel
      have HK := hide hk
      have Hin := hide hin
      clear hin
      by_cases hlt : k < l.length
      · obtain ⟨g, o, rfl, hg, hc⟩ := h (by omega)
        have c0 := hc k hlt
        have hit := hide (inL_take l k hlt)
        have hget := hide (fun hn => inL_get hlt hn)
        clear hc hk h
        generalize l.getD k 0 = y at *
        cases hy : inB y 0 15
        · have hno := hide (lensOk_no (Or.inl (unhide hget hy)))
          rcases inB_false.1 hy with h0 | h0
          · go_wp2
            go_ret
            exact ⟨ret_bool (unhide hno).symm, rfl⟩
          · have h1 : ¬ y < 0 := by omega
            go_wp2
            go_ret
            exact ⟨ret_bool (unhide hno).symm, rfl⟩
        · obtain ⟨y0, y1⟩ := inB_true.1 hy
          have hit' : Hid (inL (l.take (k + 1)) = true) := by show inL (l.take (k + 1)) = true; rw [unhide hit, unhide Hin, hy]; rfl
          go_wp2
          go_roundw
          case rel => exact ⟨k + 1, by omega, by go_num, unhide hit', by first | rfl | trivial⟩
          case measure => simp [intOf]; omega
      · have hlk : l.take k = l := List.take_of_length_le (by omega)
        have hin : inL l = true := by have := unhide Hin; rw [hlk] at this; exact this
        have hres := hide (lensOk_yes hin (by omega))
        have HU := hide (lensWhole_any a cap l.length l wr rfl h hin (by omega))
        clear hlk hin h
        go_wp2_with fail
        refine (unhide HU).mono ?_
        rintro e x1 ⟨rfl, rfl⟩
        go_wp2
        go_ret
        exact ⟨ret_bool (unhide hres).symm, rfl⟩
  · have hno := hide (lensOk_no (l := l) (Or.inr (by omega)))
    have hmI : (l.length : Int) ≤ 1048576 := by omega
    clear hm h
    go_enter Try.func17, Try.ntmps17
    go_wp2
    go_ret
    exact ⟨ret_bool (unhide hno).symm, rfl⟩


end Go.Proofs.Ytkkhaleiehnihaa
