/- Of what the proof is made: 3 texts, one behind the other. -/
import Derived.Test.YtfpnnlekblamhaaGreatDoorTi1
import Derived.Test.YtfpnnlekblamhaaGreatDoorM8
import Derived.Test.YtfpnnlekblamhaaGreatDoorTt2
namespace Go.Proofs.YtfpnnlekblamhaaGreatDoor
open Go.RowKit
set_option maxRecDepth 100000 in
set_option maxHeartbeats 3200000 in
theorem lzLay_byte (base n cap : Nat) (a : Option Addr) (s : List UInt8) (x : Int) (w : World) (hn : s.length = n) (h : BOwn w base (.slice a n cap) s) (hm : n ≤ 100000) (hb : base ≤ w.heap.size) (x0 : 0 ≤ x) (x1 : x ≤ 255) :
    Calls Tryz.prog 163 #[.slice a n cap, .iface 214 (.int .u8 x)] w fun e w' => ∃ v, e = .returned (.tuple #[v, .bool (decide (n + 1 ≤ 300))]) ∧ BOwn w' base v (if n + 1 ≤ 300 then s ++ [byteT x] else []) ∧ Below base w w' := by
  obtain ⟨i0, hi, hz0, hz1, hz2⟩ := info_parts Tryz.infoU8
  have hmI : (n : Int) ≤ 100000 := by omega
  have m1 := methByte
  have t1 := asByte_yes
  have HN := hide (And.intro hn hm)
  by_cases hl : n + 1 ≤ 300
  · obtain ⟨N, hN⟩ : ∃ N : Int, (n : Int) + 1 = N := ⟨_, rfl⟩
    have hlI : ¬ (300 : Int) < N := by omega
    have hdI : decide ((300 : Int) < N) = false := decide_eq_false hlI
    have hbx : Hid (x = ((byteT x).toNat : Int)) := (byteT_nat x0 x1).symm
    have bd : Hid (n + 1 ≤ maxLen ∧ (n + 1) * 1 ≤ 140737488355328) := by show _ ∧ _; unfold maxLen; omega
    have hqo := hide (h.own hn)
    rw [decide_eq_true hl, if_pos hl]
    clear hn h hm hl
    go_enter Tryz.func163, Tryz.ntmps163
    go_wp2_with fail
    refine (byteSize_any x w).mono ?_
    rintro e w' ⟨rfl, hw'⟩
    rw [hw']
    clear hw' w'
    go_wp2_with (at_builtin; refine wpList_append_own _ rfl _ _ 90 rfl base 5 i0 (.int .u8 0) 1 1 Tryz.underlying90 hi hz0 hz1 hz2 rfl (by decide) _ _ _ rfl (World.ownsRow.alloc (unhide hqo) _) ⟨w.heap.size, 0, none⟩ 1 1 [.int .u8 x] rfl rfl (one_new _ _ rfl _ _) (one_byte _) (unhide bd).1 (unhide bd).2 (size_alloc_le hb _) ?_; intro v' x2 hown hgrow hnil; clear hnil)
    have hb2 : Below base w x2 := grown_step (v := .slice a n cap) hgrow (unhide hqo) (Nat.le_refl _) hb (Below.refl _ _)
    rw [unhide hbx] at hown
    have hq2 := bown_snoc (unhide HN).1 hown
    obtain ⟨va, vc, rfl⟩ := hq2.form
    clear hown hgrow
    go_wp2
    go_ret2
    exact ⟨_, rfl, hq2, hb2⟩
  · obtain ⟨N, hN⟩ : ∃ N : Int, (n : Int) + 1 = N := ⟨_, rfl⟩
    have hlI : (300 : Int) < N := by omega
    rw [decide_eq_false hl, if_neg hl]
    clear hn h hm hl
    go_enter Tryz.func163, Tryz.ntmps163
    go_wp2_with fail
    refine (byteSize_any x w).mono ?_
    rintro e w' ⟨rfl, hw'⟩
    rw [hw']
    clear hw' w'
    go_wp2
    go_ret2
    exact ⟨_, rfl, BOwn.nil _ _, Below.refl _ _⟩
set_option maxRecDepth 100000 in
set_option maxHeartbeats 3200000 in
theorem lzLay_back (base n cap Y Z : Nat) (a : Option Addr) (s : List UInt8) (w : World) (hn : s.length = n) (h : BOwn w base (.slice a n cap) s) (hm : n ≤ 100000) (hb : base ≤ w.heap.size) (y1 : Y ≤ 60) (z0 : 1 ≤ Z) (z1 : Z ≤ 250) :
    Calls Tryz.prog 163 #[.slice a n cap, .iface 248 (.agg #[.int .i64 (Y : Nat), .int .i64 (Z : Nat)])] w fun e w' => ∃ v, e = .returned (.tuple #[v, .bool (decide (n + Y ≤ 300 ∧ Z ≤ n))]) ∧ BOwn w' base v (if n + Y ≤ 300 ∧ Z ≤ n then rep s Z Y else []) ∧ Below base w w' := by
  obtain ⟨i0, hi, hz0, hz1, hz2⟩ := info_parts Tryz.infoU8
  have hmI : (n : Int) ≤ 100000 := by omega
  have hYI : (Y : Int) ≤ 60 := by omega
  have hZI : (Z : Int) ≤ 250 := by omega
  have hZ1 : (1 : Int) ≤ (Z : Int) := by omega
  have m1 := methBack
  have t1 := asByte_no
  have t2 := asBack_yes
  have HN := hide (And.intro hn (And.intro hm z0))
  have HS := hide (backSize_any (Y : Nat) (Z : Nat) w)
  have hB1 : Below base w (w.alloc (.cells #[.int .i64 (Y : Nat), .int .i64 (Z : Nat)] 248)) := (Below.refl _ _).alloc hb _
  by_cases hl : n + Y ≤ 300
  · have hlI : ¬ (300 : Int) < (n : Int) + (Y : Int) := by omega
    by_cases hf : Z ≤ n
    · have hfI : ¬ (n : Int) < (Z : Int) := by omega
      have hdz : decide (n < Z) = false := decide_eq_false (by omega)
      rw [decide_eq_true ⟨hl, hf⟩, if_pos ⟨hl, hf⟩]
      have hF := hide hf
      have hq0 : BOwn ((w.alloc (.cells #[.int .i64 (Y : Nat), .int .i64 (Z : Nat)] 248)).alloc (.cells #[.int .i64 (Y : Nat), .int .i64 (Z : Nat)] 248)) base (.slice a n cap) s := (h.later ((Below.refl w.heap.size w).alloc (Nat.le_refl _) _) (Nat.le_refl _)).later ((Below.refl _ _).alloc (Nat.le_refl _) _) (Nat.le_refl _)
      have hB2 : Below base w ((w.alloc (.cells #[.int .i64 (Y : Nat), .int .i64 (Z : Nat)] 248)).alloc (.cells #[.int .i64 (Y : Nat), .int .i64 (Z : Nat)] 248)) := hB1.alloc (by simp; omega) _
      have hbx : ((w.alloc (.cells #[.int .i64 (Y : Nat), .int .i64 (Z : Nat)] 248)).alloc (.cells #[.int .i64 (Y : Nat), .int .i64 (Z : Nat)] 248)).heap[w.heap.size + 1]? = some (Obj.cells #[.int .i64 (Y : Nat), .int .i64 (Z : Nat)] 248) := by
        have e : (w.alloc (.cells #[.int .i64 (Y : Nat), .int .i64 (Z : Nat)] 248)).heap.size = w.heap.size + 1 := by simp
        rw [← e]
        exact alloc_at _ _
      have H0 := hide (And.intro hq0 (And.intro hB2 hbx))
      clear hn h hm hl hf y1 z0 z1 hq0 hB2 hbx hB1
      go_enter Tryz.func163, Tryz.ntmps163
      go_wp2_with fail
      refine (unhide HS).mono ?_
      rintro e w' ⟨rfl, hw'⟩
      rw [hw']
      clear hw' w'
      go_wp2_with fail
      go_loopw [0, 32] (fun v i wr => ∃ k : Nat, k ≤ Y ∧ i = .int .i64 k ∧ BOwn wr base v (rep s Z k) ∧ wr.heap[w.heap.size + 1]? = some (Obj.cells #[.int .i64 (Y : Nat), .int .i64 (Z : Nat)] 248) ∧ Below base w wr) (fun _ i _ => Y - (intOf i).toNat)
      case atStart => exact ⟨0, Nat.zero_le _, rfl, (unhide H0).1, (unhide H0).2.2, (unhide H0).2.1⟩
      case round =>
        obtain ⟨k, hk, rfl, hq, hbox, hbel⟩ := hrel
        obtain ⟨c0, c1, hlw⟩ := k2_cells hbox
        have hlen : Hid ((rep s Z k).length = n + k) := by show _ = _; rw [rep_len, (unhide HN).1]
        obtain ⟨va, vc, rfl⟩ := hq.formN (unhide hlen)
        have HK := hide hk
        by_cases hlt : k < Y
        · obtain ⟨g, rfl⟩ := hq.somes (by rw [unhide hlen]; have := unhide hF; have := (unhide HN).2.2; omega)
          obtain ⟨p, hp⟩ : ∃ p, n + k - Z = p := ⟨_, rfl⟩
          have hpI : ((n : Int) + (k : Int)) - (Z : Int) = (p : Int) := by have := unhide hF; omega
          obtain ⟨d0, _, _⟩ := hq.at (j := p) (unhide hlen) (by have := unhide hF; have := (unhide HN).2.2; omega)
          have hst : Hid (rep s Z (k + 1) = rep s Z k ++ [(rep s Z k).getD p 0]) := by
            show _ = _
            simp only [rep]
            rw [unhide hlen, hp]
          have hbs := Nat.le_trans hb hbel.size
          have bd : Hid (n + k + 1 ≤ maxLen ∧ (n + k + 1) * 1 ≤ 140737488355328) := by show _ ∧ _; have := (unhide HN).2.1; unfold maxLen; omega
          have hpn : (p : Int) < (n : Int) + (k : Int) := by omega
          have HQ := hide (And.intro hq (And.intro hbox hbel))
          have hqo := hide (hq.own (unhide hlen))
          have Hp := hide hp
          clear hq hbox hbel hk hp
          generalize (rep s Z k).getD p 0 = b at *
          go_wp2_with (at_builtin; refine wpList_append_own _ rfl _ _ 90 rfl base 5 i0 (.int .u8 0) 1 1 Tryz.underlying90 hi hz0 hz1 hz2 rfl (by decide) _ _ _ rfl (World.ownsRow.alloc (unhide hqo) _) ⟨wr.heap.size, 0, none⟩ 1 1 [.int .u8 (b.toNat : Int)] rfl rfl (one_new _ _ rfl _ _) (one_byte _) (unhide bd).1 (unhide bd).2 (size_alloc_le hbs _) ?_; intro v' x2 hown hgrow hnil; clear hnil)
          obtain ⟨hq, hbox, hbel⟩ := unhide HQ
          have hb2 := grown_step (v := .slice (some ⟨g, 0, none⟩) (n + k) vc) hgrow (unhide hqo) (Nat.le_refl _) hbs hbel
          have hq2 := bown_snoc (unhide hlen) hown
          rw [← unhide hst] at hq2
          have hbox2 := ((KeepT.refl 248 wr).alloc (.cells #[.int .u8 (b.toNat : Int)] 5)).grown (World.ownsRow.alloc (unhide hqo) _) (by decide) hgrow _ _ _ hbox
          clear hown hgrow hq hbox hbel
          go_wp2
          go_roundw
          case rel => exact ⟨k + 1, by have := unhide HK; omega, by go_num, hq2, hbox2, hb2⟩
          case measure => simp [intOf]; omega
        · obtain rfl : k = Y := by omega
          go_wp2
          go_ret2
          exact ⟨_, rfl, hq, hbel⟩
    · have hfI : (n : Int) < (Z : Int) := by omega
      have hdz : decide (n < Z) = true := decide_eq_true (by omega)
      have hB2 : Below base w ((w.alloc (.cells #[.int .i64 (Y : Nat), .int .i64 (Z : Nat)] 248)).alloc (.cells #[.int .i64 (Y : Nat), .int .i64 (Z : Nat)] 248)) := hB1.alloc (by simp; omega) _
      rw [decide_eq_false (fun x => hf x.2), if_neg (fun x => hf x.2)]
      clear hn h hm hl hf y1 z0 z1
      go_enter Tryz.func163, Tryz.ntmps163
      go_wp2_with fail
      refine (unhide HS).mono ?_
      rintro e w' ⟨rfl, hw'⟩
      rw [hw']
      clear hw' w'
      go_wp2
      go_ret2
      exact ⟨_, rfl, BOwn.nil _ _, hB2⟩
  · have hlI : (300 : Int) < (n : Int) + (Y : Int) := by omega
    rw [decide_eq_false (fun x => hl x.1), if_neg (fun x => hl x.1)]
    clear hn h hm hl y1 z0 z1
    go_enter Tryz.func163, Tryz.ntmps163
    go_wp2_with fail
    refine (unhide HS).mono ?_
    rintro e w' ⟨rfl, hw'⟩
    rw [hw']
    clear hw' w'
    go_wp2
    go_ret2
    exact ⟨_, rfl, BOwn.nil _ _, hB1⟩
theorem lzLay_any (base n cap : Nat) (a : Option Addr) (s : List UInt8) (t : Tk) (w : World) (hn : s.length = n) (h : BOwn w base (.slice a n cap) s) (hm : n ≤ 100000) (hb : base ≤ w.heap.size) (ho : okT t = true) :
    Calls Tryz.prog 163 #[.slice a n cap, tokV t] w fun e w' => ∃ v, e = .returned (.tuple #[v, .bool (addL s t).isSome]) ∧ BOwn w' base v ((addL s t).getD []) ∧ Below base w w' := by
  cases hB : isB t
  · have hK : isK t = true := by simpa [okT, hB] using ho
    rw [tokV_K hK]
    have hK2 := hK
    simp only [isK, Bool.and_eq_true, decide_eq_true_eq] at hK2
    obtain ⟨⟨_, hy⟩, hz⟩ := hK2
    obtain ⟨y1, y2⟩ := inB_true.1 hy
    obtain ⟨z1, z2⟩ := inB_true.1 hz
    obtain ⟨Y, hY⟩ := Int.eq_ofNat_of_zero_le (show 0 ≤ t.2.1 by omega)
    obtain ⟨Z, hZ⟩ := Int.eq_ofNat_of_zero_le (show 0 ≤ t.2.2 by omega)
    rw [hY, hZ]
    have hs : sizT t = Y := by unfold sizT; rw [hB, hY]; simp
    refine (lzLay_back base n cap Y Z a s w hn h hm hb (by omega) (by omega) (by omega)).mono ?_
    rintro e w' ⟨v, rfl, hq, hbel⟩
    by_cases hc : n + Y ≤ 300 ∧ Z ≤ n
    · have hA := addL_yes (s := s) ho (fun _ => by rw [hZ, hn]; omega) (by rw [hs, hn]; exact hc.1)
      rw [hB, hY, hZ] at hA
      simp only [Bool.false_eq_true, if_false, Int.toNat_natCast] at hA
      rw [if_pos hc] at hq
      rw [hA, decide_eq_true hc]
      exact ⟨v, rfl, hq, hbel⟩
    · have hA : addL s t = none := by
        by_cases hl : n + Y ≤ 300
        · exact addL_far hK (by rw [hZ, hn]; omega)
        · exact addL_long (by rw [hs, hn]; omega)
      rw [if_neg hc] at hq
      rw [hA, decide_eq_false hc]
      exact ⟨v, rfl, hq, hbel⟩
  · rw [tokV_B hB]
    have hB2 := hB
    simp only [isB, Bool.and_eq_true, decide_eq_true_eq] at hB2
    obtain ⟨x1, x2⟩ := inB_true.1 hB2.2.1
    have hs : sizT t = 1 := by unfold sizT; rw [hB]; rfl
    refine (lzLay_byte base n cap a s t.1 w hn h hm hb x1 x2).mono ?_
    rintro e w' ⟨v, rfl, hq, hbel⟩
    by_cases hc : n + 1 ≤ 300
    · have hA := addL_yes (s := s) ho (fun hk => by rw [isB_K hB] at hk; cases hk) (by rw [hs, hn]; exact hc)
      rw [hB] at hA
      simp only [if_true] at hA
      rw [if_pos hc] at hq
      rw [hA, decide_eq_true hc]
      exact ⟨v, rfl, hq, hbel⟩
    · have hA : addL s t = none := addL_long (by rw [hs, hn]; omega)
      rw [if_neg hc] at hq
      rw [hA, decide_eq_false hc]
      exact ⟨v, rfl, hq, hbel⟩
end Go.Proofs.YtfpnnlekblamhaaGreatDoor
namespace Go.Proofs.YtfpnnlekblamhaaGreatDoor.U
open Go.Proofs.YtfpnnlekblamhaaGreatDoor
open Go.RowKit
set_option maxRecDepth 100000 in
set_option maxHeartbeats 3200000 in
theorem lzLay_byte (base n cap : Nat) (a : Option Addr) (s : List UInt8) (x : Int) (w : World) (hn : s.length = n) (h : BOwn w base (.slice a n cap) s) (hm : n ≤ 100000) (hb : base ≤ w.heap.size) (x0 : 0 ≤ x) (x1 : x ≤ 255) :
    Calls Tryz.prog 163 #[.slice a n cap, .iface 214 (.int .u8 x)] w fun e w' => ∃ v, e = .returned (.tuple #[v, .bool (decide (n + 1 ≤ 300))]) ∧ BOwn w' base v (if n + 1 ≤ 300 then s ++ [byteT x] else []) ∧ BelU base w w' := by
  obtain ⟨i0, hi, hz0, hz1, hz2⟩ := info_parts Tryz.infoU8
  have hmI : (n : Int) ≤ 100000 := by omega
  have m1 := methByte
  have t1 := asByte_yes
  have HN := hide (And.intro hn hm)
  by_cases hl : n + 1 ≤ 300
  · obtain ⟨N, hN⟩ : ∃ N : Int, (n : Int) + 1 = N := ⟨_, rfl⟩
    have hlI : ¬ (300 : Int) < N := by omega
    have hdI : decide ((300 : Int) < N) = false := decide_eq_false hlI
    have hbx : Hid (x = ((byteT x).toNat : Int)) := (byteT_nat x0 x1).symm
    have bd : Hid (n + 1 ≤ maxLen ∧ (n + 1) * 1 ≤ 140737488355328) := by show _ ∧ _; unfold maxLen; omega
    have hqo := hide (h.own hn)
    rw [decide_eq_true hl, if_pos hl]
    clear hn h hm hl
    go_enter Tryz.func163, Tryz.ntmps163
    go_wp2_with fail
    refine (byteSize_any x w).mono ?_
    rintro e w' ⟨rfl, hw'⟩
    rw [hw']
    clear hw' w'
    go_wp2_with (at_builtin; refine wpList_append_own _ rfl _ _ 90 rfl base 5 i0 (.int .u8 0) 1 1 Tryz.underlying90 hi hz0 hz1 hz2 rfl (by decide) _ _ _ rfl (World.ownsRow.alloc (unhide hqo) _) ⟨w.heap.size, 0, none⟩ 1 1 [.int .u8 x] rfl rfl (one_new _ _ rfl _ _) (one_byte _) (unhide bd).1 (unhide bd).2 (size_alloc_le hb _) ?_; intro v' x2 hown hgrow hnil; clear hnil)
    have hb2 : BelU base w x2 := grown_stepU (v := .slice a n cap) hgrow (unhide hqo) (Nat.le_refl _) hb (BelU.refl _ _)
    rw [unhide hbx] at hown
    have hq2 := bown_snoc (unhide HN).1 hown
    obtain ⟨va, vc, rfl⟩ := hq2.form
    clear hown hgrow
    go_wp2
    go_ret2
    exact ⟨_, rfl, hq2, hb2⟩
  · obtain ⟨N, hN⟩ : ∃ N : Int, (n : Int) + 1 = N := ⟨_, rfl⟩
    have hlI : (300 : Int) < N := by omega
    rw [decide_eq_false hl, if_neg hl]
    clear hn h hm hl
    go_enter Tryz.func163, Tryz.ntmps163
    go_wp2_with fail
    refine (byteSize_any x w).mono ?_
    rintro e w' ⟨rfl, hw'⟩
    rw [hw']
    clear hw' w'
    go_wp2
    go_ret2
    exact ⟨_, rfl, BOwn.nil _ _, BelU.refl _ _⟩
set_option maxRecDepth 100000 in
set_option maxHeartbeats 3200000 in
theorem lzLay_back (base n cap Y Z : Nat) (a : Option Addr) (s : List UInt8) (w : World) (hn : s.length = n) (h : BOwn w base (.slice a n cap) s) (hm : n ≤ 100000) (hb : base ≤ w.heap.size) (y1 : Y ≤ 60) (z0 : 1 ≤ Z) (z1 : Z ≤ 250) :
    Calls Tryz.prog 163 #[.slice a n cap, .iface 248 (.agg #[.int .i64 (Y : Nat), .int .i64 (Z : Nat)])] w fun e w' => ∃ v, e = .returned (.tuple #[v, .bool (decide (n + Y ≤ 300 ∧ Z ≤ n))]) ∧ BOwn w' base v (if n + Y ≤ 300 ∧ Z ≤ n then rep s Z Y else []) ∧ BelU base w w' := by
  obtain ⟨i0, hi, hz0, hz1, hz2⟩ := info_parts Tryz.infoU8
  have hmI : (n : Int) ≤ 100000 := by omega
  have hYI : (Y : Int) ≤ 60 := by omega
  have hZI : (Z : Int) ≤ 250 := by omega
  have hZ1 : (1 : Int) ≤ (Z : Int) := by omega
  have m1 := methBack
  have t1 := asByte_no
  have t2 := asBack_yes
  have HN := hide (And.intro hn (And.intro hm z0))
  have HS := hide (backSize_any (Y : Nat) (Z : Nat) w)
  have hB1 : BelU base w (w.alloc (.cells #[.int .i64 (Y : Nat), .int .i64 (Z : Nat)] 248)) := (BelU.refl _ _).alloc hb _
  by_cases hl : n + Y ≤ 300
  · have hlI : ¬ (300 : Int) < (n : Int) + (Y : Int) := by omega
    by_cases hf : Z ≤ n
    · have hfI : ¬ (n : Int) < (Z : Int) := by omega
      have hdz : decide (n < Z) = false := decide_eq_false (by omega)
      rw [decide_eq_true ⟨hl, hf⟩, if_pos ⟨hl, hf⟩]
      have hF := hide hf
      have hq0 : BOwn ((w.alloc (.cells #[.int .i64 (Y : Nat), .int .i64 (Z : Nat)] 248)).alloc (.cells #[.int .i64 (Y : Nat), .int .i64 (Z : Nat)] 248)) base (.slice a n cap) s := (h.later ((Below.refl w.heap.size w).alloc (Nat.le_refl _) _) (Nat.le_refl _)).later ((Below.refl _ _).alloc (Nat.le_refl _) _) (Nat.le_refl _)
      have hB2 : BelU base w ((w.alloc (.cells #[.int .i64 (Y : Nat), .int .i64 (Z : Nat)] 248)).alloc (.cells #[.int .i64 (Y : Nat), .int .i64 (Z : Nat)] 248)) := hB1.alloc (by simp; omega) _
      have hbx : ((w.alloc (.cells #[.int .i64 (Y : Nat), .int .i64 (Z : Nat)] 248)).alloc (.cells #[.int .i64 (Y : Nat), .int .i64 (Z : Nat)] 248)).heap[w.heap.size + 1]? = some (Obj.cells #[.int .i64 (Y : Nat), .int .i64 (Z : Nat)] 248) := by
        have e : (w.alloc (.cells #[.int .i64 (Y : Nat), .int .i64 (Z : Nat)] 248)).heap.size = w.heap.size + 1 := by simp
        rw [← e]
        exact alloc_at _ _
      have H0 := hide (And.intro hq0 (And.intro hB2 hbx))
      clear hn h hm hl hf y1 z0 z1 hq0 hB2 hbx hB1
      go_enter Tryz.func163, Tryz.ntmps163
      go_wp2_with fail
      refine (unhide HS).mono ?_
      rintro e w' ⟨rfl, hw'⟩
      rw [hw']
      clear hw' w'
      go_wp2_with fail
      go_loopw [0, 32] (fun v i wr => ∃ k : Nat, k ≤ Y ∧ i = .int .i64 k ∧ BOwn wr base v (rep s Z k) ∧ wr.heap[w.heap.size + 1]? = some (Obj.cells #[.int .i64 (Y : Nat), .int .i64 (Z : Nat)] 248) ∧ BelU base w wr) (fun _ i _ => Y - (intOf i).toNat)
      case atStart => exact ⟨0, Nat.zero_le _, rfl, (unhide H0).1, (unhide H0).2.2, (unhide H0).2.1⟩
      case round =>
        obtain ⟨k, hk, rfl, hq, hbox, hbel⟩ := hrel
        obtain ⟨c0, c1, hlw⟩ := k2_cells hbox
        have hlen : Hid ((rep s Z k).length = n + k) := by show _ = _; rw [rep_len, (unhide HN).1]
        obtain ⟨va, vc, rfl⟩ := hq.formN (unhide hlen)
        have HK := hide hk
        by_cases hlt : k < Y
        · obtain ⟨g, rfl⟩ := hq.somes (by rw [unhide hlen]; have := unhide hF; have := (unhide HN).2.2; omega)
          obtain ⟨p, hp⟩ : ∃ p, n + k - Z = p := ⟨_, rfl⟩
          have hpI : ((n : Int) + (k : Int)) - (Z : Int) = (p : Int) := by have := unhide hF; omega
          obtain ⟨d0, _, _⟩ := hq.at (j := p) (unhide hlen) (by have := unhide hF; have := (unhide HN).2.2; omega)
          have hst : Hid (rep s Z (k + 1) = rep s Z k ++ [(rep s Z k).getD p 0]) := by
            show _ = _
            simp only [rep]
            rw [unhide hlen, hp]
          have hbs := Nat.le_trans hb hbel.size
          have bd : Hid (n + k + 1 ≤ maxLen ∧ (n + k + 1) * 1 ≤ 140737488355328) := by show _ ∧ _; have := (unhide HN).2.1; unfold maxLen; omega
          have hpn : (p : Int) < (n : Int) + (k : Int) := by omega
          have HQ := hide (And.intro hq (And.intro hbox hbel))
          have hqo := hide (hq.own (unhide hlen))
          have Hp := hide hp
          clear hq hbox hbel hk hp
          generalize (rep s Z k).getD p 0 = b at *
          go_wp2_with (at_builtin; refine wpList_append_own _ rfl _ _ 90 rfl base 5 i0 (.int .u8 0) 1 1 Tryz.underlying90 hi hz0 hz1 hz2 rfl (by decide) _ _ _ rfl (World.ownsRow.alloc (unhide hqo) _) ⟨wr.heap.size, 0, none⟩ 1 1 [.int .u8 (b.toNat : Int)] rfl rfl (one_new _ _ rfl _ _) (one_byte _) (unhide bd).1 (unhide bd).2 (size_alloc_le hbs _) ?_; intro v' x2 hown hgrow hnil; clear hnil)
          obtain ⟨hq, hbox, hbel⟩ := unhide HQ
          have hb2 := grown_stepU (v := .slice (some ⟨g, 0, none⟩) (n + k) vc) hgrow (unhide hqo) (Nat.le_refl _) hbs hbel
          have hq2 := bown_snoc (unhide hlen) hown
          rw [← unhide hst] at hq2
          have hbox2 := ((KeepT.refl 248 wr).alloc (.cells #[.int .u8 (b.toNat : Int)] 5)).grown (World.ownsRow.alloc (unhide hqo) _) (by decide) hgrow _ _ _ hbox
          clear hown hgrow hq hbox hbel
          go_wp2
          go_roundw
          case rel => exact ⟨k + 1, by have := unhide HK; omega, by go_num, hq2, hbox2, hb2⟩
          case measure => simp [intOf]; omega
        · obtain rfl : k = Y := by omega
          go_wp2
          go_ret2
          exact ⟨_, rfl, hq, hbel⟩
    · have hfI : (n : Int) < (Z : Int) := by omega
      have hdz : decide (n < Z) = true := decide_eq_true (by omega)
      have hB2 : BelU base w ((w.alloc (.cells #[.int .i64 (Y : Nat), .int .i64 (Z : Nat)] 248)).alloc (.cells #[.int .i64 (Y : Nat), .int .i64 (Z : Nat)] 248)) := hB1.alloc (by simp; omega) _
      rw [decide_eq_false (fun x => hf x.2), if_neg (fun x => hf x.2)]
      clear hn h hm hl hf y1 z0 z1
      go_enter Tryz.func163, Tryz.ntmps163
      go_wp2_with fail
      refine (unhide HS).mono ?_
      rintro e w' ⟨rfl, hw'⟩
      rw [hw']
      clear hw' w'
      go_wp2
      go_ret2
      exact ⟨_, rfl, BOwn.nil _ _, hB2⟩
  · have hlI : (300 : Int) < (n : Int) + (Y : Int) := by omega
    rw [decide_eq_false (fun x => hl x.1), if_neg (fun x => hl x.1)]
    clear hn h hm hl y1 z0 z1
    go_enter Tryz.func163, Tryz.ntmps163
    go_wp2_with fail
    refine (unhide HS).mono ?_
    rintro e w' ⟨rfl, hw'⟩
    rw [hw']
    clear hw' w'
    go_wp2
    go_ret2
    exact ⟨_, rfl, BOwn.nil _ _, hB1⟩
theorem lzLay_any (base n cap : Nat) (a : Option Addr) (s : List UInt8) (t : Tk) (w : World) (hn : s.length = n) (h : BOwn w base (.slice a n cap) s) (hm : n ≤ 100000) (hb : base ≤ w.heap.size) (ho : okT t = true) :
    Calls Tryz.prog 163 #[.slice a n cap, tokV t] w fun e w' => ∃ v, e = .returned (.tuple #[v, .bool (addL s t).isSome]) ∧ BOwn w' base v ((addL s t).getD []) ∧ BelU base w w' := by
  cases hB : isB t
  · have hK : isK t = true := by simpa [okT, hB] using ho
    rw [tokV_K hK]
    have hK2 := hK
    simp only [isK, Bool.and_eq_true, decide_eq_true_eq] at hK2
    obtain ⟨⟨_, hy⟩, hz⟩ := hK2
    obtain ⟨y1, y2⟩ := inB_true.1 hy
    obtain ⟨z1, z2⟩ := inB_true.1 hz
    obtain ⟨Y, hY⟩ := Int.eq_ofNat_of_zero_le (show 0 ≤ t.2.1 by omega)
    obtain ⟨Z, hZ⟩ := Int.eq_ofNat_of_zero_le (show 0 ≤ t.2.2 by omega)
    rw [hY, hZ]
    have hs : sizT t = Y := by unfold sizT; rw [hB, hY]; simp
    refine (lzLay_back base n cap Y Z a s w hn h hm hb (by omega) (by omega) (by omega)).mono ?_
    rintro e w' ⟨v, rfl, hq, hbel⟩
    by_cases hc : n + Y ≤ 300 ∧ Z ≤ n
    · have hA := addL_yes (s := s) ho (fun _ => by rw [hZ, hn]; omega) (by rw [hs, hn]; exact hc.1)
      rw [hB, hY, hZ] at hA
      simp only [Bool.false_eq_true, if_false, Int.toNat_natCast] at hA
      rw [if_pos hc] at hq
      rw [hA, decide_eq_true hc]
      exact ⟨v, rfl, hq, hbel⟩
    · have hA : addL s t = none := by
        by_cases hl : n + Y ≤ 300
        · exact addL_far hK (by rw [hZ, hn]; omega)
        · exact addL_long (by rw [hs, hn]; omega)
      rw [if_neg hc] at hq
      rw [hA, decide_eq_false hc]
      exact ⟨v, rfl, hq, hbel⟩
  · rw [tokV_B hB]
    have hB2 := hB
    simp only [isB, Bool.and_eq_true, decide_eq_true_eq] at hB2
    obtain ⟨x1, x2⟩ := inB_true.1 hB2.2.1
    have hs : sizT t = 1 := by unfold sizT; rw [hB]; rfl
    refine (lzLay_byte base n cap a s t.1 w hn h hm hb x1 x2).mono ?_
    rintro e w' ⟨v, rfl, hq, hbel⟩
    by_cases hc : n + 1 ≤ 300
    · have hA := addL_yes (s := s) ho (fun hk => by rw [isB_K hB] at hk; cases hk) (by rw [hs, hn]; exact hc)
      rw [hB] at hA
      simp only [if_true] at hA
      rw [if_pos hc] at hq
      rw [hA, decide_eq_true hc]
      exact ⟨v, rfl, hq, hbel⟩
    · have hA : addL s t = none := addL_long (by rw [hs, hn]; omega)
      rw [if_neg hc] at hq
      rw [hA, decide_eq_false hc]
      exact ⟨v, rfl, hq, hbel⟩
end Go.Proofs.YtfpnnlekblamhaaGreatDoor.U
namespace Go.Proofs.YtfpnnlekblamhaaGreatDoor.U
open Go.Proofs.YtfpnnlekblamhaaGreatDoor
set_option maxRecDepth 100000
open Go.RowKit
theorem grown_cell {W x1 : World} {v u : Value} {k o : Nat} (hg : W.grownBy x1 v.ownBlock) (hv : ∀ g, v.ownBlock = some g → g < k) (hc : W.cell? ⟨k, o, none⟩ = some u) : x1.cell? ⟨k, o, none⟩ = some u :=
  hg.cell hc (fun e => by have := hv k e.symm; omega)
theorem row_below {w : World} {base size n : Nat} {e : TypeId} {v : Value} {xs : List Value} (h : w.ownsRow base e size v n xs) : ∀ g, v.ownBlock = some g → g < w.heap.size := fun g hg => (World.ownsRow.lt h g hg).2
set_option maxHeartbeats 3200000 in
theorem l4Add_byte (base n cap : Nat) (a : Option Addr) (s : List UInt8) (t : Tk) (w : World) (hn : s.length = n) (h : BOwn w base (.slice a n cap) s) (hm : n ≤ 100000) (hb : base ≤ w.heap.size) (h0 : t.2.1 = 0) :
    Calls Tryz.prog 148 #[.slice a n cap, .agg #[.int .i64 t.1, .int .i64 t.2.1, .int .i64 t.2.2]] w fun e w' => ∃ v x, e = .returned (.tuple #[v, .bool (isB t)]) ∧ BOwn w' base v x ∧ (isB t = true → x = s ++ [byteT t.1]) ∧ BelU base w w' := by
  obtain ⟨i0, hi, hz0, hz1, hz2⟩ := info_parts Tryz.infoU8
  obtain ⟨x, y, z⟩ := t
  simp only at h0
  subst h0
  simp only
  have hmI : (n : Int) ≤ 100000 := by omega
  have HS : ∃ X : Int, IntKind.u8.wrap x = X := ⟨_, rfl⟩
  obtain ⟨X, hX⟩ := HS
  have hXb : 0 ≤ X ∧ X ≤ 255 := by rw [← hX]; simp [IntKind.wrap, IntKind.bits, IntKind.signed]; omega
  have hXe : Hid (isB (x, 0, z) = true → (byteT X) = byteT x) := by
    intro hB
    simp only [isB, Bool.and_eq_true, decide_eq_true_eq] at hB
    have := inB_true.1 hB.2.1
    have e : X = x := by rw [← hX]; simp [IntKind.wrap, IntKind.bits, IntKind.signed]; omega
    rw [e]
  have hisB : Hid (isB (x, 0, z) = (inB x 0 255 && decide (z = 0))) := by show _ = _; simp [isB]
  have HN := hide hn
  have hR : World.ownsRow ((w.alloc (.cells #[.int .i64 x, .int .i64 0, .int .i64 z] 211)).alloc (.cells #[.int .u8 X] 5)).drew base 5 1 (.slice a n cap) n (bcells s) := World.ownsRow.alloc (World.ownsRow.alloc (h.own hn) _) _
  have hNw := hide (one_new (w.alloc (.cells #[.int .i64 x, .int .i64 0, .int .i64 z] 211)) (w.heap.size + 1) (by simp) (.int .u8 X) 5)
  have hB2 : BelU base w ((w.alloc (.cells #[.int .i64 x, .int .i64 0, .int .i64 z] 211)).alloc (.cells #[.int .u8 X] 5)).drew := ((((BelU.refl base w).alloc hb _).alloc (by simp; omega) _)).drew
  have hblk : ∀ g, (Value.slice a n cap).ownBlock = some g → g < w.heap.size := row_below (h.own hn)
  have bd : Hid (n + 1 ≤ maxLen ∧ (n + 1) * 1 ≤ 140737488355328) := by show _ ∧ _; unfold maxLen; omega
  have c00 : (w.alloc (.cells #[.int .i64 x, .int .i64 0, .int .i64 z] 211)).drew.cell? ⟨w.heap.size, 0, none⟩ = some (.int .i64 x) := by show (w.alloc (.cells #[.int .i64 x, .int .i64 0, .int .i64 z] 211)).cell? ⟨w.heap.size, 0, none⟩ = some (.int .i64 x); simp
  have c02 : (w.alloc (.cells #[.int .i64 x, .int .i64 0, .int .i64 z] 211)).drew.cell? ⟨w.heap.size, 2, none⟩ = some (.int .i64 z) := by show (w.alloc (.cells #[.int .i64 x, .int .i64 0, .int .i64 z] 211)).cell? ⟨w.heap.size, 2, none⟩ = some (.int .i64 z); simp
  have e00 : ((w.alloc (.cells #[.int .i64 x, .int .i64 0, .int .i64 z] 211)).alloc (.cells #[.int .u8 X] 5)).drew.cell? ⟨w.heap.size, 0, none⟩ = some (.int .i64 x) := by show ((w.alloc (.cells #[.int .i64 x, .int .i64 0, .int .i64 z] 211)).alloc (.cells #[.int .u8 X] 5)).cell? ⟨w.heap.size, 0, none⟩ = some (.int .i64 x); simp
  have e02 : ((w.alloc (.cells #[.int .i64 x, .int .i64 0, .int .i64 z] 211)).alloc (.cells #[.int .u8 X] 5)).drew.cell? ⟨w.heap.size, 2, none⟩ = some (.int .i64 z) := by show ((w.alloc (.cells #[.int .i64 x, .int .i64 0, .int .i64 z] 211)).alloc (.cells #[.int .u8 X] 5)).cell? ⟨w.heap.size, 2, none⟩ = some (.int .i64 z); simp
  have HC0 := And.intro c00 c02
  have HC1 := And.intro e00 e02
  clear h hn hm c00 c02 e00 e02
  cases hc : inB x 0 255
  · rw [hc] at hisB
    go_enter Tryz.func148, Tryz.ntmps148
    go_wp2_with fail
    first | (go_region_law (first | (refine step_append_own rfl (.tmp 10) (.tmp 14) 90 rfl base 5 i0 (.int .u8 0) 1 1 Tryz.underlying90 hi hz0 hz1 hz2 rfl (Nat.zero_lt_succ 0) (.slice a n cap) _ _ rfl hR ⟨w.heap.size + 1, 0, none⟩ 1 1 [.int .u8 X] rfl rfl (unhide hNw) (one_byte _) (unhide bd).1 (unhide bd).2 (Nat.le_trans hb hB2.size) ?_; intro v' x5 hown hgrow hnil; clear hnil; have hC5 := grown_cell hgrow hblk HC1.1; have hC6 := grown_cell hgrow hblk HC1.2) | (go_simp; go_at_call 24; refine (l1In_any _ _ _ _).mono ?_; rintro e y5 ⟨rfl, hy5⟩; rw [hy5, hc]; clear hy5))) | fail
    all_goals
      clear hNw HC0 HC1
      have hbel : BelU base w x5 := hB2.grown hgrow (Nat.le_trans hb hB2.size) (fun g hg => (World.ownsRow.lt hR g hg).1) (own_u8 hR)
      have hq : BOwn x5 base v' (s ++ [byteT X]) := bown_snoc (unhide HN) (by rw [byteT_nat hXb.1 hXb.2]; exact hown)
      obtain ⟨va, vc, rfl⟩ := hq.form
      clear hown hgrow
      go_wp2
      go_ret2
      exact ⟨_, _, by rw [unhide hisB]; rfl, hq, fun hB => by rw [unhide hXe hB], hbel⟩
  · rw [hc] at hisB
    by_cases hz : z = 0
    · subst hz
      go_enter Tryz.func148, Tryz.ntmps148
      go_wp2_with fail
      first | (go_region_held3 (fun W => W.cell? ⟨w.heap.size, 0, none⟩ = some (.int .i64 x) ∧ W.cell? ⟨w.heap.size, 2, none⟩ = some (.int .i64 0)) (first | exact HC0 | assumption | exact HC1) (first
        | (go_at_call 24; refine (l1In_any _ _ _ _).mono ?_; rintro e y5 ⟨rfl, hy5⟩; rw [hy5, hc]; clear hy5)
        | (refine step_append_own rfl (.tmp 10) (.tmp 14) 90 rfl base 5 i0 (.int .u8 0) 1 1 Tryz.underlying90 hi hz0 hz1 hz2 rfl (Nat.zero_lt_succ 0) (.slice a n cap) _ _ rfl hR ⟨w.heap.size + 1, 0, none⟩ 1 1 [.int .u8 X] rfl rfl (unhide hNw) (one_byte _) (unhide bd).1 (unhide bd).2 (Nat.le_trans hb hB2.size) ?_; intro v' x5 hown hgrow hnil; clear hnil; have hC5 := And.intro (grown_cell hgrow hblk HC1.1) (grown_cell hgrow hblk HC1.2)))) | fail
      clear hNw HC0 HC1
      have hbel : BelU base w x5 := hB2.grown hgrow (Nat.le_trans hb hB2.size) (fun g hg => (World.ownsRow.lt hR g hg).1) (own_u8 hR)
      have hq : BOwn x5 base v' (s ++ [byteT X]) := bown_snoc (unhide HN) (by rw [byteT_nat hXb.1 hXb.2]; exact hown)
      obtain ⟨va, vc, rfl⟩ := hq.form
      clear hown hgrow
      go_wp2
      go_ret2
      exact ⟨_, _, by rw [unhide hisB]; rfl, hq, fun hB => by rw [unhide hXe hB], hbel⟩
    · have hzb : (z == 0) = false := by simpa using hz
      go_enter Tryz.func148, Tryz.ntmps148
      go_wp2_with fail
      first | (go_region_held3 (fun W => W.cell? ⟨w.heap.size, 0, none⟩ = some (.int .i64 x) ∧ W.cell? ⟨w.heap.size, 2, none⟩ = some (.int .i64 z)) (first | exact HC0 | assumption | exact HC1) (first
        | (go_at_call 24; refine (l1In_any _ _ _ _).mono ?_; rintro e y5 ⟨rfl, hy5⟩; rw [hy5, hc]; clear hy5)
        | (refine step_append_own rfl (.tmp 10) (.tmp 14) 90 rfl base 5 i0 (.int .u8 0) 1 1 Tryz.underlying90 hi hz0 hz1 hz2 rfl (Nat.zero_lt_succ 0) (.slice a n cap) _ _ rfl hR ⟨w.heap.size + 1, 0, none⟩ 1 1 [.int .u8 X] rfl rfl (unhide hNw) (one_byte _) (unhide bd).1 (unhide bd).2 (Nat.le_trans hb hB2.size) ?_; intro v' x5 hown hgrow hnil; clear hnil; have hC5 := And.intro (grown_cell hgrow hblk HC1.1) (grown_cell hgrow hblk HC1.2)))) | fail
      clear hNw HC0 HC1
      have hbel : BelU base w x5 := hB2.grown hgrow (Nat.le_trans hb hB2.size) (fun g hg => (World.ownsRow.lt hR g hg).1) (own_u8 hR)
      have hq : BOwn x5 base v' (s ++ [byteT X]) := bown_snoc (unhide HN) (by rw [byteT_nat hXb.1 hXb.2]; exact hown)
      obtain ⟨va, vc, rfl⟩ := hq.form
      clear hown hgrow
      go_wp2
      go_ret2
      exact ⟨_, _, by rw [unhide hisB]; simp [hz], hq, fun hB => by rw [unhide hXe hB], hbel⟩
theorem isB_long {t : Tk} (h : t.2.1 ≠ 0) : isB t = false := by simp [isB, h]
set_option maxHeartbeats 3200000 in
theorem l4Add_back (base n cap : Nat) (a : Option Addr) (s : List UInt8) (t : Tk) (w : World) (hn : s.length = n) (h : BOwn w base (.slice a n cap) s) (hm : n ≤ 100000) (hb : base ≤ w.heap.size) (h0 : t.2.1 ≠ 0) :
    Calls Tryz.prog 148 #[.slice a n cap, .agg #[.int .i64 t.1, .int .i64 t.2.1, .int .i64 t.2.2]] w fun e w' => ∃ v x, e = .returned (.tuple #[v, .bool (isK t && decide (t.2.2 ≤ (n : Int)))]) ∧ BOwn w' base v x ∧ ((isK t && decide (t.2.2 ≤ (n : Int))) = true → x = rep s t.2.2.toNat t.2.1.toNat) ∧ BelU base w w' := by
  obtain ⟨i0, hi, hz0, hz1, hz2⟩ := info_parts Tryz.infoU8
  obtain ⟨x, y, z⟩ := t
  simp only at h0 ⊢
  have hmI : (n : Int) ≤ 100000 := by omega
  have hyb : (y == 0) = false := by simpa using h0
  have hB1 : BelU base w (w.alloc (.cells #[.int .i64 x, .int .i64 y, .int .i64 z] 211)) := (BelU.refl base w).alloc hb _
  have h1 : BOwn (w.alloc (.cells #[.int .i64 x, .int .i64 y, .int .i64 z] 211)) base (.slice a n cap) s := h.later ((Below.refl w.heap.size w).alloc (Nat.le_refl _) _) (Nat.le_refl _)
  have HN := hide (And.intro hn hm)
  have H1 := hide (And.intro h1 hB1)
  clear hn hm h h1 hB1
  by_cases hx : x = 0
  · subst hx
    cases hy : inB y 3 60
    · have hko : Hid ((isK (0, y, z) && decide (z ≤ (n : Int))) = false) := by show _ = false; simp [isK, hy]
      go_enter Tryz.func148, Tryz.ntmps148
      go_wp2_with (go_at_call 24; refine (l1In_any _ _ _ _).mono ?_; rintro e w' ⟨rfl, hw'⟩; rw [hw', hy]; clear hw' w')
      go_ret2
      rw [unhide hko]
      exact ⟨_, s, rfl, (unhide H1).1, (fun h => by cases h), (unhide H1).2⟩
    · cases hz : inB z 1 250
      · have hko : Hid ((isK (0, y, z) && decide (z ≤ (n : Int))) = false) := by show _ = false; simp [isK, hz]
        go_enter Tryz.func148, Tryz.ntmps148
        go_wp2_with fail
        refine (l1In_any _ _ _ _).mono ?_
        rintro e w' ⟨rfl, hw'⟩
        rw [hw', hy]
        clear hw' w'
        go_wp2_with fail
        refine (l1In_any _ _ _ _).mono ?_
        rintro e w' ⟨rfl, hw'⟩
        rw [hw', hz]
        clear hw' w'
        go_wp2
        go_ret2
        rw [unhide hko]
        exact ⟨_, s, rfl, (unhide H1).1, (fun h => by cases h), (unhide H1).2⟩
      · obtain ⟨y1, y2⟩ := inB_true.1 hy
        obtain ⟨z1, z2⟩ := inB_true.1 hz
        by_cases hf : z ≤ (n : Int)
        · have hko : Hid ((isK (0, y, z) && decide (z ≤ (n : Int))) = true) := by show _ = true; simp [isK, hy, hz, hf]
          obtain ⟨Y, rfl⟩ := Int.eq_ofNat_of_zero_le (show 0 ≤ y by omega)
          obtain ⟨Z, rfl⟩ := Int.eq_ofNat_of_zero_le (show 0 ≤ z by omega)
          have hdz : decide (n < Z) = false := decide_eq_false (by omega)
          go_enter Tryz.func148, Tryz.ntmps148
          go_wp2_with fail
          refine (l1In_any _ _ _ _).mono ?_
          rintro e w' ⟨rfl, hw'⟩
          rw [hw', hy]
          clear hw' w'
          go_wp2_with fail
          refine (l1In_any _ _ _ _).mono ?_
          rintro e w' ⟨rfl, hw'⟩
          rw [hw', hz]
          clear hw' w'
          go_wp2_with fail
          go_loopw [0, 6] (fun v i wr => ∃ k : Nat, k ≤ Y ∧ i = .int .i64 k ∧ BOwn wr base v (rep s Z k) ∧ wr.heap[w.heap.size]? = some (Obj.cells #[.int .i64 0, .int .i64 (Y : Int), .int .i64 (Z : Int)] 211) ∧ BelU base w wr) (fun _ i _ => Y - (intOf i).toNat)
          case atStart => exact ⟨0, Nat.zero_le _, rfl, (unhide H1).1, alloc_at _ _, (unhide H1).2⟩
          case round =>
            obtain ⟨k, hk, rfl, hq, hbox, hbel⟩ := hrel
            obtain ⟨c0, c1, c2, hlw⟩ := k3_cells hbox
            have hlen : Hid ((rep s Z k).length = n + k) := by show _ = _; rw [rep_len, (unhide HN).1]
            obtain ⟨va, vc, rfl⟩ := hq.formN (unhide hlen)
            have HK := hide hk
            by_cases hlt : k < Y
            · obtain ⟨g, rfl⟩ := hq.somes (by rw [unhide hlen]; omega)
              obtain ⟨p, hp⟩ : ∃ p, n + k - Z = p := ⟨_, rfl⟩
              have hpI : ((n : Int) + (k : Int)) - (Z : Int) = (p : Int) := by omega
              obtain ⟨d0, _, _⟩ := hq.at (j := p) (unhide hlen) (by omega)
              have hst : Hid (rep s Z (k + 1) = rep s Z k ++ [(rep s Z k).getD p 0]) := by
                show _ = _
                simp only [rep]
                rw [unhide hlen, hp]
              have hbs := Nat.le_trans hb hbel.size
              have bd : Hid (n + k + 1 ≤ maxLen ∧ (n + k + 1) * 1 ≤ 140737488355328) := by show _ ∧ _; have := (unhide HN).2; unfold maxLen; omega
              have hpn : (p : Int) < (n : Int) + (k : Int) := by omega
              have HQ := hide (And.intro hq (And.intro hbox hbel))
              have hqo := hide (hq.own (unhide hlen))
              have Hp := hide hp
              clear hq hbox hbel hk hp
              generalize (rep s Z k).getD p 0 = b at *
              go_wp2_with (at_builtin; refine wpList_append_own _ rfl _ _ 90 rfl base 5 i0 (.int .u8 0) 1 1 Tryz.underlying90 hi hz0 hz1 hz2 rfl (by decide) _ _ _ rfl (World.ownsRow.alloc (unhide hqo) _) ⟨wr.heap.size, 0, none⟩ 1 1 [.int .u8 (b.toNat : Int)] rfl rfl (one_new _ _ rfl _ _) (one_byte _) (unhide bd).1 (unhide bd).2 (size_alloc_le hbs _) ?_; intro v' x2 hown hgrow hnil; clear hnil)
              obtain ⟨hq, hbox, hbel⟩ := unhide HQ
              have hb2 := grown_stepU (v := .slice (some ⟨g, 0, none⟩) (n + k) vc) hgrow (unhide hqo) (Nat.le_refl _) hbs hbel
              have hq2 := bown_snoc (unhide hlen) hown
              rw [← unhide hst] at hq2
              have hbox2 := ((KeepT.refl 211 wr).alloc (.cells #[.int .u8 (b.toNat : Int)] 5)).grown (World.ownsRow.alloc (unhide hqo) _) (by decide) hgrow _ _ _ hbox
              clear hown hgrow hq hbox hbel
              go_wp2
              go_roundw
              case rel => exact ⟨k + 1, by have := unhide HK; omega, by go_num, hq2, hbox2, hb2⟩
              case measure => simp [intOf]; omega
            · obtain rfl : k = Y := by omega
              go_wp2
              go_ret2
              rw [unhide hko]
              exact ⟨_, _, rfl, hq, (fun _ => by simp), hbel⟩
        · have hko : Hid ((isK (0, y, z) && decide (z ≤ (n : Int))) = false) := by show _ = false; simp [hf]
          go_enter Tryz.func148, Tryz.ntmps148
          go_wp2_with fail
          refine (l1In_any _ _ _ _).mono ?_
          rintro e w' ⟨rfl, hw'⟩
          rw [hw', hy]
          clear hw' w'
          go_wp2_with fail
          refine (l1In_any _ _ _ _).mono ?_
          rintro e w' ⟨rfl, hw'⟩
          rw [hw', hz]
          clear hw' w'
          go_wp2
          go_ret2
          rw [unhide hko]
          exact ⟨_, s, rfl, (unhide H1).1, (fun h => by cases h), (unhide H1).2⟩
  · have hxb : (x == 0) = false := by simpa using hx
    have hko : Hid ((isK (x, y, z) && decide (z ≤ (n : Int))) = false) := by show _ = false; simp [isK, hx]
    go_enter Tryz.func148, Tryz.ntmps148
    go_wp2
    go_ret2
    rw [unhide hko]
    exact ⟨_, s, rfl, (unhide H1).1, (fun h => by cases h), (unhide H1).2⟩
theorem l4Add_any (base n cap : Nat) (a : Option Addr) (s : List UInt8) (t : Tk) (w : World) (hn : s.length = n) (h : BOwn w base (.slice a n cap) s) (hm : n ≤ 100000) (hb : base ≤ w.heap.size) :
    Calls Tryz.prog 148 #[.slice a n cap, .agg #[.int .i64 t.1, .int .i64 t.2.1, .int .i64 t.2.2]] w fun e w' => ∃ v x, e = .returned (.tuple #[v, .bool (addT s t).isSome]) ∧ BOwn w' base v x ∧ ((addT s t).isSome = true → addT s t = some x) ∧ BelU base w w' := by
  by_cases h0 : t.2.1 = 0
  · have hK : isK t = false := by
      have : inB t.2.1 3 60 = false := inB_false.2 (by omega)
      simp [isK, this]
    have e : addT s t = if isB t then some (s ++ [byteT t.1]) else none := by unfold addT; rw [hK]; rfl
    refine (l4Add_byte base n cap a s t w hn h hm hb h0).mono ?_
    rintro e1 w' ⟨v, x, rfl, ho, hx, hbel⟩
    cases hB : isB t
    · rw [hB] at e hx
      exact ⟨v, x, by rw [e]; rfl, ho, (fun h => by rw [e] at h; cases h), hbel⟩
    · rw [hB] at e hx
      exact ⟨v, x, by rw [e]; rfl, ho, (fun _ => by rw [e, hx rfl]; rfl), hbel⟩
  · have e : addT s t = if isK t && decide (t.2.2 ≤ (n : Int)) then some (rep s t.2.2.toNat t.2.1.toNat) else none := by unfold addT; rw [isB_long h0, hn]; rfl
    refine (l4Add_back base n cap a s t w hn h hm hb h0).mono ?_
    rintro e1 w' ⟨v, x, rfl, ho, hx, hbel⟩
    cases hB : isK t && decide (t.2.2 ≤ (n : Int))
    · rw [hB] at e hx
      exact ⟨v, x, by rw [e]; rfl, ho, (fun h => by rw [e] at h; cases h), hbel⟩
    · rw [hB] at e hx
      exact ⟨v, x, by rw [e]; rfl, ho, (fun _ => by rw [e, hx rfl]; rfl), hbel⟩
end Go.Proofs.YtfpnnlekblamhaaGreatDoor.U
