/- Contracts of how many bytes stand again, the model's and the program's, over this seat's program. -/
import Derived.Test.YtgpghapnmalipaaGreatDoorM8
import Derived.Test.YtgpghapnmalipaaGreatDoorM3
import Derived.Test.YtgpghapnmalipaaGreatDoorBits
namespace Go.Proofs.YtgpghapnmalipaaGreatDoor
open Go.RowKit
theorem str_at (s : ByteArray) (i : Nat) (h : i < s.size) : s.data.toList.getD i 0 = s[i] := by
  have h' : i < s.data.toList.length := by simpa using h
  rw [List.getD_eq_getElem?_getD, List.getElem?_eq_getElem h']
  simp
  rfl
theorem str_len (s : ByteArray) : s.data.toList.length = s.size := by simp
set_option maxHeartbeats 1600000 in
theorem l4Again_any (s : ByteArray) (p b : Nat) (w : World) (hs : s.size ≤ 1048576) (hp : p ≤ s.size) (hb : 1 ≤ b) (hbp : b ≤ p) :
    Calls Tryz.prog 152 #[.string s, .int .i64 (p : Nat), .int .i64 (b : Nat)] w fun e w' => e = .returned (.int .i64 (agN s.data.toList p b : Nat)) ∧ Below w.heap.size w w' := by
  have hsI : (s.size : Int) ≤ 1048576 := by omega
  have hpI : (p : Int) ≤ (s.size : Int) := by omega
  have hbI : (1 : Int) ≤ (b : Int) := by omega
  have hbpI : (b : Int) ≤ (p : Int) := by omega
  have HP := hide (And.intro hb hbp)
  clear hs hp hb hbp
  go_enter Tryz.func152, Tryz.ntmps152
  go_wp2_with fail
  go_loopw [7] (fun i wr => ∃ k : Nat, k ≤ 60 ∧ i = .int .i64 k ∧ agF s.data.toList p b (60 - k) k = agN s.data.toList p b ∧ Below w.heap.size w wr) (fun i _ => 60 - (intOf i).toNat)
  case atStart => exact ⟨0, Nat.zero_le _, rfl, rfl, Below.refl _ _⟩
  case round =>
    obtain ⟨k, hk, rfl, hag, hbel⟩ := hrel
    have HA := hide (And.intro hag hk)
    have hkI : (k : Int) ≤ 60 := by omega
    obtain ⟨j, hj⟩ : ∃ j : Nat, p + k = j := ⟨_, rfl⟩
    have hjI : (p : Int) + (k : Int) = (j : Int) := by omega
    have HJ := hide hj
    have hjb : (j : Int) ≤ 2000000 := by omega
    have hwj : IntKind.i64.wrap (j : Int) = (j : Int) := i64_wrap_nat _ (by omega)
    clear hag hk
    by_cases h60 : (k : Int) < 60
    · have d60 : decide ((k : Int) < 60) = true := decide_eq_true h60
      by_cases hin : (j : Int) < (s.size : Int)
      · have din : decide ((j : Int) < (s.size : Int)) = true := decide_eq_true hin
        obtain ⟨q, hq⟩ : ∃ q : Nat, p + k - b = q := ⟨_, rfl⟩
        have hqI : (j : Int) - (b : Int) = (q : Int) := by omega
        have hwq : IntKind.i64.wrap (q : Int) = (q : Int) := i64_wrap_nat _ (by omega)
        have hjs : j < s.size := by omega
        have hqs : q < s.size := by omega
        have hqsI : (q : Int) < (s.size : Int) := by omega
        have g1 := hide (str_at s j hjs)
        have g2 := hide (str_at s q hqs)
        have HQ := hide hq
        clear hj hq
        by_cases hee : s[j] = s[q]
        · have hst : Hid (agF s.data.toList p b (60 - (k + 1)) (k + 1) = agN s.data.toList p b) := by
            show _ = _
            rw [← (unhide HA).1, ← agF_step (by omega) (by rw [str_len, unhide HJ]; exact hjs) (by rw [unhide HJ] at *; rw [show j - b = q by have := unhide HQ; omega, unhide g1, unhide g2]; exact hee)]
          have hej : (s[j].toNat : Int) = (s[q].toNat : Int) := by rw [hee]
          have hbj : ((s[j].toNat : Int) == (s[q].toNat : Int)) = true := by simp [hee]
          go_wp2_with fail
          go_quiet (fail)
          go_wp2
          go_roundw
          case rel => exact ⟨k + 1, by omega, by go_num, unhide hst, below_drewN hbel _⟩
          case measure => simp [intOf]; omega
        · have hst : Hid (agN s.data.toList p b = k) := by
            show _ = _
            rw [← (unhide HA).1]
            refine agF_stop (.inr (.inr ?_)) (by omega)
            rw [unhide HJ, show j - b = q by have := unhide HQ; omega, unhide g1, unhide g2]
            exact hee
          have hne : ¬ s[j].toNat = s[q].toNat := fun e => hee (UInt8.toNat_inj.1 e)
          have hbj : ((s[j].toNat : Int) == (s[q].toNat : Int)) = false := by simp; omega
          go_wp2_with fail
          go_quiet (fail)
          go_wp2
          go_ret
          exact ⟨ret_int (by rw [unhide hst]), below_drewN hbel _⟩
      · have din : decide ((j : Int) < (s.size : Int)) = false := decide_eq_false hin
        have dinN : decide (j < s.size) = false := decide_eq_false (by omega)
        have hst : Hid (agN s.data.toList p b = k) := by
          show _ = _
          rw [← (unhide HA).1]
          refine agF_stop (.inr (.inl ?_)) (by omega)
          rw [str_len]
          omega
        clear hj
        go_wp2_with fail
        go_quiet (fail)
        go_wp2
        go_ret
        exact ⟨ret_int (by rw [unhide hst]), below_drewN hbel _⟩
    · have d60 : decide ((k : Int) < 60) = false := decide_eq_false h60
      have hst : Hid (agN s.data.toList p b = k) := by
        show _ = _
        rw [← (unhide HA).1]
        exact agF_stop (.inl (by have := (unhide HA).2; omega)) (unhide HA).2
      clear hj
      by_cases hin : (j : Int) < (s.size : Int)
      · have din : decide ((j : Int) < (s.size : Int)) = true := decide_eq_true hin
        go_wp2_with fail
        go_quiet (fail)
        go_wp2
        go_ret
        exact ⟨ret_int (by rw [unhide hst]), below_drewN hbel _⟩
      · have din : decide ((j : Int) < (s.size : Int)) = false := decide_eq_false hin
        have dinN : decide (j < s.size) = false := decide_eq_false (by omega)
        go_wp2_with fail
        go_quiet (fail)
        go_wp2
        go_ret
        exact ⟨ret_int (by rw [unhide hst]), below_drewN hbel _⟩
set_option maxHeartbeats 1600000 in
theorem lzAgain_any (s : ByteArray) (p b : Nat) (w : World) (hs : s.size ≤ 1048576) (hp : p ≤ s.size) (hb : 1 ≤ b) (hbp : b ≤ p) :
    Calls Tryz.prog 162 #[.string s, .int .i64 (p : Nat), .int .i64 (b : Nat)] w fun e w' => e = .returned (.int .i64 (agN s.data.toList p b : Nat)) ∧ Below w.heap.size w w' := by
  have hsI : (s.size : Int) ≤ 1048576 := by omega
  have hpI : (p : Int) ≤ (s.size : Int) := by omega
  have hbI : (1 : Int) ≤ (b : Int) := by omega
  have hbpI : (b : Int) ≤ (p : Int) := by omega
  have HP := hide (And.intro hb hbp)
  clear hs hp hb hbp
  go_enter Tryz.func162, Tryz.ntmps162
  go_wp2_with fail
  go_loopw [7] (fun i wr => ∃ k : Nat, k ≤ 60 ∧ i = .int .i64 k ∧ agF s.data.toList p b (60 - k) k = agN s.data.toList p b ∧ Below w.heap.size w wr) (fun i _ => 60 - (intOf i).toNat)
  case atStart => exact ⟨0, Nat.zero_le _, rfl, rfl, Below.refl _ _⟩
  case round =>
    obtain ⟨k, hk, rfl, hag, hbel⟩ := hrel
    have HA := hide (And.intro hag hk)
    have hkI : (k : Int) ≤ 60 := by omega
    obtain ⟨j, hj⟩ : ∃ j : Nat, p + k = j := ⟨_, rfl⟩
    have hjI : (p : Int) + (k : Int) = (j : Int) := by omega
    have HJ := hide hj
    have hjb : (j : Int) ≤ 2000000 := by omega
    have hwj : IntKind.i64.wrap (j : Int) = (j : Int) := i64_wrap_nat _ (by omega)
    clear hag hk
    by_cases h60 : (k : Int) < 60
    · have d60 : decide ((k : Int) < 60) = true := decide_eq_true h60
      by_cases hin : (j : Int) < (s.size : Int)
      · have din : decide ((j : Int) < (s.size : Int)) = true := decide_eq_true hin
        obtain ⟨q, hq⟩ : ∃ q : Nat, p + k - b = q := ⟨_, rfl⟩
        have hqI : (j : Int) - (b : Int) = (q : Int) := by omega
        have hwq : IntKind.i64.wrap (q : Int) = (q : Int) := i64_wrap_nat _ (by omega)
        have hjs : j < s.size := by omega
        have hqs : q < s.size := by omega
        have hqsI : (q : Int) < (s.size : Int) := by omega
        have g1 := hide (str_at s j hjs)
        have g2 := hide (str_at s q hqs)
        have HQ := hide hq
        clear hj hq
        by_cases hee : s[j] = s[q]
        · have hst : Hid (agF s.data.toList p b (60 - (k + 1)) (k + 1) = agN s.data.toList p b) := by
            show _ = _
            rw [← (unhide HA).1, ← agF_step (by omega) (by rw [str_len, unhide HJ]; exact hjs) (by rw [unhide HJ] at *; rw [show j - b = q by have := unhide HQ; omega, unhide g1, unhide g2]; exact hee)]
          have hej : (s[j].toNat : Int) = (s[q].toNat : Int) := by rw [hee]
          have hbj : ((s[j].toNat : Int) == (s[q].toNat : Int)) = true := by simp [hee]
          go_wp2_with fail
          go_quiet (fail)
          go_wp2
          go_roundw
          case rel => exact ⟨k + 1, by omega, by go_num, unhide hst, below_drewN hbel _⟩
          case measure => simp [intOf]; omega
        · have hst : Hid (agN s.data.toList p b = k) := by
            show _ = _
            rw [← (unhide HA).1]
            refine agF_stop (.inr (.inr ?_)) (by omega)
            rw [unhide HJ, show j - b = q by have := unhide HQ; omega, unhide g1, unhide g2]
            exact hee
          have hne : ¬ s[j].toNat = s[q].toNat := fun e => hee (UInt8.toNat_inj.1 e)
          have hbj : ((s[j].toNat : Int) == (s[q].toNat : Int)) = false := by simp; omega
          go_wp2_with fail
          go_quiet (fail)
          go_wp2
          go_ret
          exact ⟨ret_int (by rw [unhide hst]), below_drewN hbel _⟩
      · have din : decide ((j : Int) < (s.size : Int)) = false := decide_eq_false hin
        have dinN : decide (j < s.size) = false := decide_eq_false (by omega)
        have hst : Hid (agN s.data.toList p b = k) := by
          show _ = _
          rw [← (unhide HA).1]
          refine agF_stop (.inr (.inl ?_)) (by omega)
          rw [str_len]
          omega
        clear hj
        go_wp2_with fail
        go_quiet (fail)
        go_wp2
        go_ret
        exact ⟨ret_int (by rw [unhide hst]), below_drewN hbel _⟩
    · have d60 : decide ((k : Int) < 60) = false := decide_eq_false h60
      have hst : Hid (agN s.data.toList p b = k) := by
        show _ = _
        rw [← (unhide HA).1]
        exact agF_stop (.inl (by have := (unhide HA).2; omega)) (unhide HA).2
      clear hj
      go_wp2_with fail
      go_quiet (fail)
      go_wp2
      go_ret
      exact ⟨ret_int (by rw [unhide hst]), below_drewN hbel _⟩
end Go.Proofs.YtgpghapnmalipaaGreatDoor