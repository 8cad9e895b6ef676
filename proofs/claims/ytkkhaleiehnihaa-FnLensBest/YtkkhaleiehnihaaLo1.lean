/- The program's lengths by counts: how many come; where one comes. -/
import Derived.Test.YtkkhaleiehnihaaHu6
namespace Go.Proofs.Ytkkhaleiehnihaa
open Go.RowKit Corb

def usedI (l : List Int) : Int := if decide (l.length ≤ 300) && inC l then (us l : Nat) else -1
theorem usedI_no1 {l : List Int} (h : 300 < l.length) : usedI l = -1 := by
  unfold usedI; rw [decide_eq_false (by omega)]; rfl
theorem usedI_no2 {l : List Int} (h : inC l = false) : usedI l = -1 := by
  unfold usedI; rw [h]; simp
theorem usedI_yes {l : List Int} (h : l.length ≤ 300) (h2 : inC l = true) : usedI l = (us l : Nat) := by
  unfold usedI; rw [decide_eq_true h, h2]; rfl

set_option maxHeartbeats 800000 in
theorem countsUsed_any (a : Option Addr) (cap n : Nat) (l : List Int) (w : World) (hn : l.length = n) (h : IRow w a l) (hm : n ≤ 1048576) :
    Calls Try.prog 24 #[.slice a n cap] w fun e w' => e = .returned (.int .i64 (usedI l)) ∧ w' = w := by
  subst hn
  have hmI : (l.length : Int) ≤ 1048576 := by omega
  clear hm
  by_cases h3 : (l.length : Int) ≤ 300
  · go_enter Try.func24, Try.ntmps24
    go_wp2_with fail
    go_loop [3, 5, 11] (fun n _ i => ∃ k : Nat, k ≤ l.length ∧ i = .int .i64 k ∧ n = .int .i64 (us (l.take k) : Nat) ∧ inC (l.take k) = true) (fun _ _ i => l.length - (intOf i).toNat)
    case atStart => exact ⟨0, Nat.zero_le _, rfl, rfl, rfl⟩
    case round =>
      obtain ⟨k, hk, rfl, rfl, hin⟩ := hrel
      have HK := hide hk
      have HI := hide hin
      clear hin
      by_cases hlt : k < l.length
      · obtain ⟨g, o, rfl, hg, hc⟩ := h (by omega)
        have c0 := hc k hlt
        have hst := hide (us_take l k hlt)
        have hit := hide (inC_take l k hlt)
        have hig := hide (fun hb => inC_get (l := l) (k := k) hlt hb)
        have hub := us_le (l.take k)
        have hub' : (us (l.take k) : Int) ≤ 300 := by
          have : (l.take k).length ≤ l.length := by simp; omega
          omega
        clear hc hk h hub
        generalize l.getD k 0 = y at *
        generalize us (l.take k) = u at *
        by_cases hb : 0 ≤ y ∧ y ≤ 100000
        · obtain ⟨hb0, hb1⟩ := hb
          have hin2 : Hid (inC (l.take (k + 1)) = true) := by
            show _ = true
            rw [unhide hit, unhide HI, inB_true.2 ⟨hb0, hb1⟩]; rfl
          by_cases hy : 0 < y
          · have hst' : Hid (us (l.take (k + 1)) = u + 1) := by have := unhide hst; rw [if_pos hy] at this; exact this
            go_wp2
            go_round
            case rel => exact ⟨k + 1, by omega, by go_num, by rw [unhide hst']; go_num, unhide hin2⟩
            case measure => simp [intOf]; omega
          · have hst' : Hid (us (l.take (k + 1)) = u) := by have := unhide hst; rw [if_neg hy] at this; exact this
            go_wp2
            go_round
            case rel => exact ⟨k + 1, by omega, by go_num, by rw [unhide hst'], unhide hin2⟩
            case measure => simp [intOf]; omega
        · have hno : Hid (usedI l = -1) := usedI_no2 (unhide hig (by
            cases hx : inB y 0 100000
            · rfl
            · exact absurd (inB_true.1 hx) hb))
          by_cases hy : y < 0
          · go_wp2
            go_ret
            exact ⟨ret_int (unhide hno).symm, rfl⟩
          · have hy2 : ¬ y ≤ 100000 := by omega
            go_wp2
            go_ret
            exact ⟨ret_int (unhide hno).symm, rfl⟩
      · have hlk : Hid (l.take k = l) := List.take_of_length_le (by omega)
        have hin2 : Hid (inC l = true) := by show inC l = true; rw [← unhide hlk]; exact unhide HI
        clear h
        go_wp2
        go_ret
        exact ⟨ret_int (by rw [usedI_yes (by omega) (unhide hin2), unhide hlk]), rfl⟩
  · have hno := hide (usedI_no1 (l := l) (by omega))
    go_enter Try.func24, Try.ntmps24
    clear h
    go_wp2
    go_ret
    exact ⟨ret_int (unhide hno).symm, rfl⟩

def oneI (x : Int) : Int := if x ≤ 1 then x else 1
theorem lensOne_any (x : Int) (w : World) (h0 : -1000000 ≤ x) (h1 : x ≤ 1000000) :
    Calls Try.prog 26 #[.int .i64 x] w fun e w' => e = .returned (.int .i64 (oneI x)) ∧ w' = w := by
  by_cases h : x ≤ 1
  · have e : Hid (oneI x = x) := by show oneI x = x; simp [oneI, h]
    go_enter Try.func26, Try.ntmps26
    go_wp2
    go_ret
    exact ⟨ret_int (unhide e).symm, rfl⟩
  · have e : Hid (oneI x = 1) := by show oneI x = 1; simp [oneI, h]
    go_enter Try.func26, Try.ntmps26
    go_wp2
    go_ret
    exact ⟨ret_int (unhide e).symm, rfl⟩

set_option maxHeartbeats 1600000 in
theorem eachOne_any (a : Option Addr) (cap n : Nat) (l : List Int) (w : World) (hn : l.length = n) (h : IRow w a l) (hm : n ≤ 1048576) (hc : okC l) :
    Calls Try.prog 25 #[.slice a n cap, .func (.func 26) #[] #[]] w fun e w' => ∃ v, e = .returned v ∧ IOwn w' w.heap.size v (l.map oneI) ∧ Below w.heap.size w w' := by
  have hmI : (n : Int) ≤ 1048576 := by omega
  have Hn := hide hn
  have Hm := hide hm
  have HC := hide hc
  clear hn hm hc
  obtain ⟨i0, hi, hz0, hz1, hz2⟩ := info_parts Try.infoInt
  go_enter Try.func25, Try.ntmps25
  go_wp2_with fail
  go_loopw [5, 7, 10] (fun o _ i wr => ∃ k : Nat, k ≤ n ∧ i = .int .i64 k ∧ IOwn wr w.heap.size o ((l.take k).map oneI) ∧ Below w.heap.size w wr) (fun _ _ i _ => n - (intOf i).toNat)
  case atStart => exact ⟨0, Nat.zero_le _, rfl, World.ownsRow_nil _ _ _ _, Below.refl _ _⟩
  case round =>
    obtain ⟨k, hk, rfl, hq, hbel⟩ := hrel
    have hbs := hbel.size
    by_cases hlt : k < n
    · obtain ⟨g, o, rfl, hg, hcc⟩ := (h.later hbel) (by rw [unhide Hn]; omega)
      have c0 := hcc k (by rw [unhide Hn]; exact hlt)
      obtain ⟨y0, y1⟩ := unhide HC k (by rw [unhide Hn]; exact hlt)
      have hst : Hid ((l.take (k + 1)).map oneI = (l.take k).map oneI ++ [oneI (l.getD k 0)]) := by
        show _ = _
        rw [take_snocI l k (by rw [unhide Hn]; exact hlt), List.map_append]; rfl
      have hlk : Hid (((l.take k).map oneI).length = k) := by show _ = k; have := unhide Hn; simp; omega
      have Hk := hide hk
      clear hcc hk h
      generalize l.getD k 0 = y at *
      have HP := hide (lensOne_any y wr (by omega) (by omega))
      generalize oneI y = R at *
      go_wp2_with fail
      refine (unhide HP).mono ?_
      rintro e x1 ⟨rfl, hx1⟩
      rw [hx1]
      clear hx1 x1
      have hlen1 : Hid (((l.take k).map oneI).length + 1 ≤ maxLen ∧ (((l.take k).map oneI).length + 1) * 8 ≤ 140737488355328) := by
        show _ ∧ _
        rw [unhide hlk]
        have := unhide Hm
        unfold maxLen
        omega
      clear HP
      go_wp2_with (at_builtin; refine wpList_append_own _ rfl _ _ 22 rfl w.heap.size 3 i0 (.int .i64 0) 1 8 Try.underlying22 hi hz0 hz1 hz2 rfl (by decide) _ _ _ rfl (World.ownsRow.alloc hq _) ⟨wr.heap.size, 0, none⟩ 1 1 [.int .i64 R] rfl rfl (one_new _ _ rfl _ _) (one_int _) (unhide hlen1).1 (unhide hlen1).2 (size_alloc_le hbs _) ?_; intro v' x2 hown hgrow hnil; clear hnil)
      have hb2 := grown_step (v := u5) hgrow hq (Nat.le_refl _) hbs hbel
      have hq2 := iown_snoc hown
      rw [← unhide hst] at hq2
      clear hown hgrow hq
      go_wp2
      go_roundw
      case rel => exact ⟨k + 1, by have := unhide Hk; omega, by go_num, hq2, hb2⟩
      case measure => simp [intOf]; omega
    · have hlk2 : l.take k = l := List.take_of_length_le (by rw [unhide Hn]; omega)
      rw [hlk2] at hq
      obtain ⟨va, vc, rfl⟩ := hq.form
      clear hlk2 h
      go_wp2
      go_ret
      exact ⟨_, rfl, hq, hbel⟩

set_option maxHeartbeats 800000 in
theorem implLensOf_one (a : Option Addr) (cap n : Nat) (l : List Int) (w : World) (hn : l.length = n) (h : IRow w a l) (hm : n ≤ 300) (hc : inC l = true) (hu : us l = 1) :
    Calls Try.prog 11 #[.slice a n cap, .int .i64 15] w fun e w' => ∃ va vc, e = .returned (.slice va n vc) ∧ IOwn w' w.heap.size (.slice va n vc) (l.map oneI) ∧ Below w.heap.size w w' := by
  have Hn := hide hn
  have HU := hide (countsUsed_any a cap n l w hn h (by omega))
  have HE := hide (eachOne_any a cap n l w hn h (by omega) (okC_of hc))
  have e1 : usedI l = 1 := by rw [usedI_yes (by omega) hc, hu]; rfl
  have HE1 := hide e1
  clear e1 hn hm hc hu h
  go_enter Try.func11, Try.ntmps11
  go_wp2_with fail
  refine (unhide HU).mono ?_
  rintro e x1 ⟨rfl, hx1⟩
  rw [hx1, unhide HE1]
  clear hx1 x1
  go_wp2_with fail
  refine (unhide HE).mono ?_
  rintro e x2 ⟨v, rfl, ho, hb⟩
  obtain ⟨va, vc, rfl⟩ := ho.formN (n := n) (by rw [List.length_map, unhide Hn])
  go_wp2
  go_ret
  exact ⟨_, _, rfl, ho, hb⟩

end Go.Proofs.Ytkkhaleiehnihaa
