/- Contracts of the model's TokensText, TokensOk, TokensLong, over this seat's program. -/
import Derived.Test.YtlncdcdblmpmgaaTt2
namespace Go.Proofs.Ytlncdcdblmpmgaa
open Go.RowKit

theorem textS_yes {ts : List Tk} {s : List UInt8} (h : textT ts = some s) : textS ts = s ∧ textB ts = true := by
  unfold textS textB; rw [h]; exact ⟨rfl, rfl⟩
theorem textS_no {ts : List Tk} (h : textT ts = none) : textS ts = [] ∧ textB ts = false := by
  unfold textS textB; rw [h]; exact ⟨rfl, rfl⟩
theorem textS_len (ts : List Tk) : (textS ts).length ≤ 300 := by
  cases h : textT ts with
  | none => rw [(textS_no h).1]; simp
  | some s => rw [(textS_yes h).1]; exact textK_len h
theorem textK_step {ts : List Tk} {k : Nat} {s x : List UInt8} {t : Tk} (h : textK ts k = some s) (ht : ts.getD k k0 = t) (ha : addT s t = some x) (hl : x.length ≤ 300) : textK ts (k + 1) = some x := by
  simp only [textK]
  rw [h, ht]
  simp only [Option.bind_some, addL]
  rw [ha]
  simp only [Option.bind_some]
  rw [if_pos hl]
theorem textK_fall {ts : List Tk} {k : Nat} {s : List UInt8} {t : Tk} (h : textK ts k = some s) (ht : ts.getD k k0 = t) (hk : k < ts.length) (ha : addL s t = none) : textT ts = none := by
  refine textK_none (k := k + 1) ?_ (by omega)
  simp only [textK]
  rw [h, ht]
  exact ha

set_option maxHeartbeats 3200000 in
theorem l4Text_any (a : Option Addr) (cap n : Nat) (ts : List Tk) (w : World) (hn : ts.length = n) (h : KRow w a ts) (hm : n ≤ 1048576) :
    Calls Try.prog 31 #[.slice a n cap] w fun e w' => ∃ v, e = .returned (.tuple #[v, .bool (textB ts)]) ∧ BOwn w' w.heap.size v (textS ts) ∧ Below w.heap.size w w' := by
  have hmI : (n : Int) ≤ 1048576 := by omega
  have HN := hide (And.intro hn hm)
  have hl0 : BOwn (w.alloc (.cells #[] 5)) w.heap.size (.slice (some ⟨w.heap.size, 0, none⟩) 0 0) [] := BOwn.lit _ _ (Nat.le_refl _)
  have hb0 : Below w.heap.size w (w.alloc (.cells #[] 5)) := (Below.refl _ _).alloc (Nat.le_refl _) _
  clear hn hm
  go_enter Try.func31, Try.ntmps31
  go_wp2_with fail
  go_loopw [4, 5, 6, 7] (fun v i _ _ wr => ∃ (k : Nat) (s : List UInt8), k ≤ n ∧ i = .int .i64 k ∧ textK ts k = some s ∧ BOwn wr w.heap.size v s ∧ Below w.heap.size w wr) (fun _ i _ _ _ => n - (intOf i).toNat)
  case atStart => exact ⟨0, [], Nat.zero_le _, rfl, rfl, hl0, hb0⟩
  case round =>
    obtain ⟨k, s, hk, rfl, hs, hq, hbel⟩ := hrel
    clear hl0 hb0
    have hsl := textK_len hs
    have HS := hide (And.intro hs hk)
    obtain ⟨va, vc, rfl⟩ := hq.form
    by_cases hlt : k < n
    · obtain ⟨g, o, rfl, hg, hc⟩ := (h.later hbel) (by rw [(unhide HN).1]; omega)
      obtain ⟨c0, c1, c2⟩ := hc k (by rw [(unhide HN).1]; exact hlt)
      generalize ht : ts.getD k k0 = t at *
      have HT := hide ht
      have HA := hide (l4Add_any w.heap.size s.length vc va s t wr rfl hq (by omega) hbel.size)
      have HB := hide hbel
      clear hc hs hk hq hbel ht
      obtain ⟨x, y, z⟩ := t
      simp only at c0 c1 c2 HA
      go_wp2_with fail
      refine (unhide HA).mono ?_
      rintro e x1 ⟨v, r, rfl, hr, hx, hb1⟩
      have hbel1 := (unhide HB).trans hb1
      obtain ⟨ra, rc, rfl⟩ := hr.form
      cases hok : (addT s (x, y, z)).isSome
      · have hno : Hid (textT ts = none) := by
          refine textK_fall (unhide HS).1 (unhide HT) (by rw [(unhide HN).1]; exact hlt) ?_
          unfold addL
          cases ha : addT s (x, y, z) with
          | none => rfl
          | some q => rw [ha] at hok; cases hok
        clear HA
        go_wp2
        go_ret2
        rw [(textS_no (unhide hno)).1, (textS_no (unhide hno)).2]
        exact ⟨_, rfl, BOwn.lit _ _ hbel1.size, hbel1.alloc hbel1.size _⟩
      · have ha := hx hok
        by_cases hl3 : r.length ≤ 300
        · have hst : Hid (textK ts (k + 1) = some r) := textK_step (unhide HS).1 (unhide HT) ha hl3
          have hlI : ¬ (300 : Int) < (r.length : Int) := by omega
          clear HA ha hx hok
          go_wp2
          go_roundw
          case rel => exact ⟨k + 1, r, by have := (unhide HS).2; omega, by go_num, unhide hst, hr, hbel1⟩
          case measure => simp [intOf]; omega
        · have hno : Hid (textT ts = none) := by
            refine textK_fall (unhide HS).1 (unhide HT) (by rw [(unhide HN).1]; exact hlt) ?_
            unfold addL
            rw [ha]
            simp only [Option.bind_some]
            rw [if_neg hl3]
          have hlI : (300 : Int) < (r.length : Int) := by omega
          clear HA ha hx hok
          go_wp2
          go_ret2
          rw [(textS_no (unhide hno)).1, (textS_no (unhide hno)).2]
          exact ⟨_, rfl, BOwn.lit _ _ hbel1.size, hbel1.alloc hbel1.size _⟩
    · have hy : Hid (textT ts = some s) := by
        show textT ts = some s
        unfold textT
        have := (unhide HN).1
        rw [show ts.length = k by omega]
        exact hs
      clear h
      go_wp2
      go_ret2
      rw [(textS_yes (unhide hy)).1, (textS_yes (unhide hy)).2]
      exact ⟨_, rfl, hq, hbel⟩

theorem specTokensText_any (a : Option Addr) (cap n : Nat) (ts : List Tk) (w : World) (hn : ts.length = n) (h : KRow w a ts) (hm : n ≤ 1048576) :
    Calls Try.prog 20 #[.slice a n cap] w fun e w' => e = .returned (.tuple #[.string ⟨(textS ts).toArray⟩, .bool (textB ts)]) ∧ Below w.heap.size w w' := by
  have HL := hide (l4Text_any a cap n ts w hn h hm)
  clear hn h hm
  go_enter Try.func20, Try.ntmps20
  go_wp2_with fail
  refine (unhide HL).mono ?_
  rintro e x1 ⟨v, rfl, hq, hb⟩
  have hcv := hq.text
  obtain ⟨va, vc, rfl⟩ := hq.form
  go_wp2
  go_ret2
  exact ⟨rfl, hb⟩
theorem specTokensOk_any (a : Option Addr) (cap n : Nat) (ts : List Tk) (w : World) (hn : ts.length = n) (h : KRow w a ts) (hm : n ≤ 1048576) :
    Calls Try.prog 16 #[.slice a n cap] w fun e w' => e = .returned (.bool (textB ts)) ∧ Below w.heap.size w w' := by
  have HL := hide (l4Text_any a cap n ts w hn h hm)
  clear hn h hm
  go_enter Try.func16, Try.ntmps16
  go_wp2_with fail
  refine (unhide HL).mono ?_
  rintro e x1 ⟨v, rfl, hq, hb⟩
  obtain ⟨va, vc, rfl⟩ := hq.form
  go_wp2
  go_ret
  exact ⟨rfl, hb⟩
theorem specTokensLong_any (a : Option Addr) (cap n : Nat) (ts : List Tk) (w : World) (hn : ts.length = n) (h : KRow w a ts) (hm : n ≤ 1048576) :
    Calls Try.prog 22 #[.slice a n cap] w fun e w' => e = .returned (.int .i64 (textN ts)) ∧ Below w.heap.size w w' := by
  have HL := hide (l4Text_any a cap n ts w hn h hm)
  clear hn h hm
  cases hB : textB ts
  · have hN : Hid (textN ts = -1) := by show textN ts = -1; unfold textN; rw [hB]; rfl
    rw [hB] at HL
    go_enter Try.func22, Try.ntmps22
    go_wp2_with fail
    refine (unhide HL).mono ?_
    rintro e x1 ⟨v, rfl, hq, hb⟩
    obtain ⟨va, vc, rfl⟩ := hq.form
    go_wp2
    go_ret
    exact ⟨ret_int (unhide hN).symm, hb⟩
  · have hN : Hid (textN ts = ((textS ts).length : Int)) := by show textN ts = _; unfold textN; rw [hB]; rfl
    rw [hB] at HL
    go_enter Try.func22, Try.ntmps22
    go_wp2_with fail
    refine (unhide HL).mono ?_
    rintro e x1 ⟨v, rfl, hq, hb⟩
    obtain ⟨va, vc, rfl⟩ := hq.form
    go_wp2
    go_ret
    exact ⟨ret_int (unhide hN).symm, hb⟩

end Go.Proofs.Ytlncdcdblmpmgaa
