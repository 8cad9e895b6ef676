/- The program's lengths by counts: the whole. -/
import Derived.Test.YtkkhaleiehnihaaHp8
import Derived.Test.YtkkhaleiehnihaaLo1
namespace Go.Proofs.Ytkkhaleiehnihaa
open Go.RowKit Corb

theorem most_yes {o : List Int} {k : Nat} (h : mostL o k < o.getD k 0) : mostL o (k + 1) = o.getD k 0 := by simp only [mostL]; rw [if_pos h]
theorem most_no {o : List Int} {k : Nat} (h : ¬ mostL o k < o.getD k 0) : mostL o (k + 1) = mostL o k := by simp only [mostL]; rw [if_neg h]
theorem most_one {o : List Int} (h0 : 0 ≤ o.getD 0 0) : mostL o 1 = o.getD 0 0 := by
  by_cases h : mostL o 0 < o.getD 0 0
  · exact most_yes h
  · have h1 : mostL o 1 = mostL o 0 := most_no h
    have e : mostL o 0 = 0 := rfl
    rw [e] at h h1
    rw [h1]
    exact (Int.le_antisymm (Int.not_lt.1 h) h0).symm
/-- What the counts of a row are together. -/
def sumV (v : Value) (w : World) (n : Nat) : Nat := match v with
  | .slice (some a) _ _ => ((List.range n).map (fun i => (intOf ((w.cell? ⟨a.block, a.off + i, none⟩).getD (.int .i64 0))).toNat)).sum
  | _ => 0
theorem sumV_eq {w : World} {a : Option Addr} {n c : Nat} {l : List Int} (hn : l.length = n) (h1 : 1 ≤ n) (h : IRow w a l) : sumV (.slice a n c) w n = sumP l := by
  obtain ⟨g, o, rfl, hg, hc⟩ := h (by omega)
  unfold sumV sumP
  simp only
  congr 1
  apply List.ext_getElem
  · simp [hn]
  · intro i h1 h2
    simp only [List.length_map, List.length_range] at h1
    simp only [List.getElem_map, List.getElem_range]
    rw [hc i (by omega)]
    simp [intOf, List.getD, show i < l.length by omega]

set_option maxHeartbeats 800000 in
theorem maxInt_any (a : Option Addr) (cap n : Nat) (o : List Int) (w : World) (hn : o.length = n) (h : IRow w a o) (h1 : 1 ≤ n) (hm : n ≤ 300) (h0 : ∀ i, i < o.length → 0 ≤ o.getD i 0) :
    Calls Try.prog 28 #[.slice a n cap] w fun e w' => e = .returned (.int .i64 (mostL o n)) ∧ w' = w := by
  have hmI : (n : Int) ≤ 300 := by omega
  have h1I : (1 : Int) ≤ (n : Int) := by omega
  have HN := hide (And.intro hn (And.intro h1 h0))
  obtain ⟨g, off, rfl, hg, hc⟩ := h (by omega)
  have c0 := hc 0 (by omega)
  have e0 := hide (most_one (h0 0 (by omega)))
  rw [Nat.add_zero] at c0
  have HC := hide hc
  clear hn h hm h0 hc h1
  generalize hy : o.getD 0 0 = y0 at *
  clear hy
  go_enter Try.func28, Try.ntmps28
  go_wp2_with fail
  go_loop [3, 4] (fun m i => ∃ k : Nat, 1 ≤ k ∧ k ≤ n ∧ i = .int .i64 k ∧ m = .int .i64 (mostL o k)) (fun _ i => n - (intOf i).toNat)
  case atStart => exact ⟨1, Nat.le_refl _, (unhide HN).2.1, rfl, by rw [unhide e0]⟩
  case round =>
    obtain ⟨k, k1, hk, rfl, rfl⟩ := hrel
    have HK := hide (And.intro k1 hk)
    by_cases hlt : k < n
    · have d0 := unhide HC k (by rw [(unhide HN).1]; exact hlt)
      have hyes := hide (fun h => most_yes (o := o) (k := k) h)
      have hno := hide (fun h => most_no (o := o) (k := k) h)
      clear hk k1 c0
      generalize o.getD k 0 = y at *
      generalize mostL o k = q at *
      by_cases hqy : q < y
      · have e1 := hide (unhide hyes hqy)
        go_wp2
        go_round
        case rel => exact ⟨k + 1, by omega, by omega, by go_num, by rw [unhide e1]⟩
        case measure => simp [intOf]; omega
      · have e1 := hide (unhide hno hqy)
        go_wp2
        go_round
        case rel => exact ⟨k + 1, by omega, by omega, by go_num, by rw [unhide e1]⟩
        case measure => simp [intOf]; omega
    · obtain rfl : k = n := by omega
      go_wp2
      go_ret
      exact ⟨rfl, rfl⟩

theorem halfUp_any (x : Int) (w : World) (h0 : 0 ≤ x) (h1 : x ≤ 1000000) :
    Calls Try.prog 29 #[.int .i64 x] w fun e w' => e = .returned (.int .i64 (halfI x)) ∧ w' = w := by
  go_enter Try.func29, Try.ntmps29
  go_wp2
  go_ret
  exact ⟨rfl, rfl⟩

set_option maxHeartbeats 1600000 in
theorem eachHalf_any (a : Option Addr) (cap n : Nat) (l : List Int) (w : World) (hn : l.length = n) (h : IRow w a l) (hm : n ≤ 1048576) (hc : okC l) :
    Calls Try.prog 25 #[.slice a n cap, .func (.func 29) #[] #[]] w fun e w' => ∃ v, e = .returned v ∧ IOwn w' w.heap.size v (halfL l) ∧ Below w.heap.size w w' := by
  have hmI : (n : Int) ≤ 1048576 := by omega
  have Hn := hide hn
  have Hm := hide hm
  have HC := hide hc
  clear hn hm hc
  obtain ⟨i0, hi, hz0, hz1, hz2⟩ := info_parts Try.infoInt
  go_enter Try.func25, Try.ntmps25
  go_wp2_with fail
  go_loopw [5, 7, 10] (fun o _ i wr => ∃ k : Nat, k ≤ n ∧ i = .int .i64 k ∧ IOwn wr w.heap.size o (halfL (l.take k)) ∧ Below w.heap.size w wr) (fun _ _ i _ => n - (intOf i).toNat)
  case atStart => exact ⟨0, Nat.zero_le _, rfl, World.ownsRow_nil _ _ _ _, Below.refl _ _⟩
  case round =>
    obtain ⟨k, hk, rfl, hq, hbel⟩ := hrel
    have hbs := hbel.size
    by_cases hlt : k < n
    · obtain ⟨g, o, rfl, hg, hcc⟩ := (h.later hbel) (by rw [unhide Hn]; omega)
      have c0 := hcc k (by rw [unhide Hn]; exact hlt)
      obtain ⟨y0, y1⟩ := unhide HC k (by rw [unhide Hn]; exact hlt)
      have hst : Hid (halfL (l.take (k + 1)) = halfL (l.take k) ++ [halfI (l.getD k 0)]) := by
        show _ = _
        unfold halfL
        rw [take_snocI l k (by rw [unhide Hn]; exact hlt), List.map_append]; rfl
      have hlk : Hid ((halfL (l.take k)).length = k) := by show _ = k; have := unhide Hn; rw [halfL_len]; simp; omega
      have Hk := hide hk
      clear hcc hk h
      generalize l.getD k 0 = y at *
      have HP := hide (halfUp_any y wr (by omega) (by omega))
      generalize halfI y = R at *
      go_wp2_with fail
      refine (unhide HP).mono ?_
      rintro e x1 ⟨rfl, hx1⟩
      rw [hx1]
      clear hx1 x1
      have hlen1 : Hid ((halfL (l.take k)).length + 1 ≤ maxLen ∧ ((halfL (l.take k)).length + 1) * 8 ≤ 140737488355328) := by
        show _ ∧ _
        rw [unhide hlk]
        have := unhide Hm
        unfold maxLen
        omega
      clear HP
      go_wp2_with (at_builtin; refine wpList_append_own _ rfl _ _ 22 rfl w.heap.size 3 i0 (.int .i64 0) 1 8 Try.underlying22 hi hz0 hz1 hz2 rfl (by decide) _ _ _ rfl (World.ownsRow.alloc hq _) ⟨wr.heap.size, 0, none⟩ 1 1 [.int .i64 R] rfl rfl (one_new _ _ rfl _ _) (one_int _) (unhide hlen1).1 (unhide hlen1).2 (size_alloc_le hbs _) ?_; intro v' x2 hown hgrow hnil; clear hnil)
      have hb2 := grown_step (v := u5) hgrow hq (Nat.le_refl _) hbs hbel
      have hq2 := iown_snoc hown
      rw [← unhide hst] at hq2
      clear hown hgrow hq
      go_wp2
      go_roundw
      case rel => exact ⟨k + 1, by have := unhide Hk; omega, by go_num, hq2, hb2⟩
      case measure => simp [intOf]; omega
    · have hlk2 : l.take k = l := List.take_of_length_le (by rw [unhide Hn]; omega)
      rw [hlk2] at hq
      obtain ⟨va, vc, rfl⟩ := hq.form
      clear hlk2 h
      go_wp2
      go_ret
      exact ⟨_, rfl, hq, hbel⟩

end Go.Proofs.Ytkkhaleiehnihaa
