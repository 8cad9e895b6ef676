/- Contracts of the walks over rows of tokens, over this seat's program. -/
import Derived.Test.YtlncdcdblmpmgaaTk1
namespace Go.Proofs.Ytlncdcdblmpmgaa
open Go.RowKit

theorem toToken_any (x y z : Int) (w : World) :
    Calls Try.prog 32 #[.agg #[.int .i64 x, .int .i64 y, .int .i64 z]] w fun e w' => e = .returned (.agg #[.int .i64 x, .int .i64 y, .int .i64 z]) ∧ Below w.heap.size w w' := by
  go_enter Try.func32, Try.ntmps32
  go_wp2
  exact bodyPost_ret (v := .agg #[.int .i64 x, .int .i64 y, .int .i64 z]) (by simp [results, Try.results32, go_sem]) rfl ⟨rfl, (((Below.refl _ _).alloc (Nat.le_refl _) _).alloc (by simp) _).alloc (by simp; omega) _⟩

set_option maxHeartbeats 1600000 in
theorem toTokenS_any (a : Option Addr) (cap n : Nat) (l : List Tk) (w : World) (hn : l.length = n) (h : KRow w a l) (hm : n ≤ 1048576) :
    Calls Try.prog 17 #[.slice a n cap] w fun e w' => e = .returned (.slice (some ⟨w.heap.size, 0, none⟩) n n) ∧ KOwn w' w.heap.size (.slice (some ⟨w.heap.size, 0, none⟩) n n) l ∧ Below w.heap.size w w' := by
  have hm' : (n : Int) ≤ 1048576 := by omega
  obtain ⟨i0, hi, hz0, hz1, hz2⟩ := info_parts Try.infoTok
  have Hn := hide hn
  go_enter Try.func17, Try.ntmps17
  go_wp2_with (at_make; refine wpList_make_full _ rfl _ _ 25 rfl w.heap.size 40 i0 (.agg #[.int .i64 0, .int .i64 0, .int .i64 0]) 3 Try.underlying25 hi hz0 hz1 .i64 .i64 _ _ n rfl rfl rfl rfl (by rw [hz2]; omega) (by unfold maxLen; omega) (Nat.le_refl _) ?_; intro w1 hown hgrow)
  have hp0 : KOwn w1 w.heap.size (.slice (some ⟨w.heap.size, 0, none⟩) n n) (l.take 0 ++ List.replicate (l.length - 0) k0) := by
    have := made_toks hown
    simpa [hn] using this
  have hb0 : Below w.heap.size w w1 := (Below.refl _ _).grown hgrow (Nat.le_refl _) (fun k h => by cases h)
  clear hown hgrow hi hz0 hz1 hz2 hm hn
  go_loopw [4] (fun i wr => ∃ k : Nat, k ≤ n ∧ i = .int .i64 k ∧ KOwn wr w.heap.size (.slice (some ⟨w.heap.size, 0, none⟩) n n) (l.take k ++ List.replicate (l.length - k) k0) ∧ Below w.heap.size w wr) (fun i _ => n - (intOf i).toNat)
  case atStart => exact ⟨0, Nat.zero_le _, rfl, hp0, hb0⟩
  case round =>
    obtain ⟨k, hk, rfl, hp, hbel⟩ := hrel
    clear hp0 hb0
    have hlen : Hid ((l.take k ++ List.replicate (l.length - k) k0).length = n) := by
      show _ = n
      have := unhide Hn
      simp; omega
    by_cases hlt : k < n
    · obtain ⟨g, o, rfl, hg, hc⟩ := (h.later hbel) (by rw [unhide Hn]; omega)
      obtain ⟨c0, c1, c2⟩ := hc k (by rw [unhide Hn]; exact hlt)
      have hst := hide (copyK_step l k (by rw [unhide Hn]; exact hlt))
      have hpl := hp.below.2
      have HP := hide (And.intro hp (And.intro hbel hk))
      clear hc h hp hbel hk
      generalize hx : l.getD k k0 = t at *
      clear hx
      obtain ⟨x, y, z⟩ := t
      simp only at c0 c1 c2
      go_wp2_with fail
      refine (toToken_any x y z _).mono ?_
      rintro e x1 ⟨rfl, hb1⟩
      obtain ⟨hp, hbel, hk⟩ := unhide HP
      have hp1 := hp.later hb1 (Nat.le_refl _)
      have hbel1 := bnext hbel hb1
      obtain ⟨d0, d1, d2, f0, f1, f2⟩ := hp1.at (unhide hlen) k hlt
      have hput := hp1.put (unhide hlen) k (x, y, z)
      rw [unhide hst] at hput
      have hB := below_set (below_set (below_set hbel1 (b := w.heap.size) (o := k * 3) (Nat.le_refl _) (.int .i64 x)) (b := w.heap.size) (o := k * 3 + 1) (Nat.le_refl _) (.int .i64 y)) (b := w.heap.size) (o := k * 3 + 2) (Nat.le_refl _) (.int .i64 z)
      have HPut := hide (And.intro hput hB)
      clear hput hB hp hbel hk hp1 hbel1 hb1
      generalize ((l.take k ++ List.replicate (l.length - k) k0).getD k k0) = y0 at *
      go_wp2
      go_roundw
      case rel => exact ⟨k + 1, by have := (unhide HP).2.2; omega, by go_num, (unhide HPut).1, (unhide HPut).2⟩
      case measure => simp [intOf]; omega
    · have hkl : k = n := by omega
      have e : l.take k ++ List.replicate (l.length - k) k0 = l := by
        have := unhide Hn
        rw [List.take_of_length_le (by omega), show l.length - k = 0 by omega]; simp
      rw [e] at hp
      clear e hlen
      go_wp2
      go_ret
      exact ⟨rfl, hp, hbel⟩

theorem szTokenS_any (a : Option Addr) (cap n : Nat) (w : World) (hm : n ≤ 9223372036854775807) :
    Calls Try.prog 15 #[.slice a n cap, .int .i64 1048576] w fun e w' => e = .returned (.int .i64 (if (n : Int) ≤ 1048576 then 1048576 - (n : Int) else -1)) ∧ w' = w := by
  have hmI : (n : Int) ≤ 9223372036854775807 := by omega
  by_cases h : (n : Int) ≤ 1048576
  · rw [if_pos h]
    go_enter Try.func15, Try.ntmps15
    go_wp2
    go_ret
    exact ⟨rfl, rfl⟩
  · rw [if_neg h]
    have h2 : (1048576 : Int) - (n : Int) < 0 := by omega
    go_enter Try.func15, Try.ntmps15
    go_wp2
    go_ret
    exact ⟨rfl, rfl⟩

theorem eqToken_same (x y z : Int) (w : World) :
    Calls Try.prog 33 #[.agg #[.int .i64 x, .int .i64 y, .int .i64 z], .agg #[.int .i64 x, .int .i64 y, .int .i64 z]] w fun e w' => e = .returned (.bool true) ∧ Below w.heap.size w w' := by
  go_enter Try.func33, Try.ntmps33
  go_wp2
  go_ret
  exact ⟨rfl, ((Below.refl _ _).alloc (Nat.le_refl _) _).alloc (by simp) _⟩

set_option maxHeartbeats 1600000 in
theorem eqTokenS_same (a b : Option Addr) (c d n : Nat) (l : List Tk) (w : World) (hn : l.length = n) (ha : KRow w a l) (hb : KRow w b l) (hl : n ≤ 2000000) :
    Calls Try.prog 19 #[.slice a n c, .slice b n d] w fun e w' => e = .returned (.bool true) ∧ Below w.heap.size w w' := by
  subst hn
  have hlI : (l.length : Int) ≤ 2000000 := by omega
  clear hl
  go_enter Try.func19, Try.ntmps19
  go_wp2_with fail
  go_loopw [5] (fun i wr => ∃ k : Nat, k ≤ l.length ∧ i = .int .i64 k ∧ Below w.heap.size w wr) (fun i _ => l.length - (intOf i).toNat)
  case atStart => exact ⟨0, Nat.zero_le _, rfl, Below.refl _ _⟩
  case round =>
    obtain ⟨k, hk, rfl, hbel⟩ := hrel
    have HK := hide hk
    by_cases hlt : k < l.length
    · obtain ⟨g, o, rfl, hg, hc⟩ := (ha.later hbel) (by omega)
      obtain ⟨g', o', rfl, hg', hc'⟩ := (hb.later hbel) (by omega)
      obtain ⟨c0, c1, c2⟩ := hc k hlt
      obtain ⟨d0, d1, d2⟩ := hc' k hlt
      clear hc hc' hk ha hb
      generalize hx : l.getD k k0 = t at *
      clear hx
      obtain ⟨x, y, z⟩ := t
      simp only at c0 c1 c2 d0 d1 d2
      go_wp2_with fail
      go_region_with (go_at_call 33; refine (eqToken_same x y z _).mono ?_; rintro e x1 ⟨rfl, hb1⟩)
      all_goals
        go_wp2
        go_roundw
        case rel => exact ⟨k + 1, by omega, by go_num, hbel.drew.trans (hb1.mono hbel.size)⟩
        case measure => simp [intOf]; omega
    · clear ha hb
      go_wp2
      go_ret
      exact ⟨rfl, hbel⟩

def upsK (n : Nat) : List Tk := (List.range n).map fun (i : Nat) => (1 + 3 * (i : Int), 1 + 3 * (i : Int) + 1, 1 + 3 * (i : Int) + 1 + 1)
theorem upsK_len (n : Nat) : (upsK n).length = n := by simp [upsK]
theorem upsK_get (n i : Nat) (h : i < n) : (upsK n).getD i k0 = (1 + 3 * (i : Int), 1 + 3 * (i : Int) + 1, 1 + 3 * (i : Int) + 1 + 1) := by simp [upsK, List.getD, h]
theorem upsK_step (l : List Tk) (j : Nat) (h : j < l.length) : (upsK j ++ l.drop j).set j (1 + 3 * (j : Int), 1 + 3 * (j : Int) + 1, 1 + 3 * (j : Int) + 1 + 1) = upsK (j + 1) ++ l.drop (j + 1) := by
  rw [List.set_append_right _ _ (by rw [upsK_len]; exact Nat.le_refl _), upsK_len, Nat.sub_self]
  have h1 : l.drop j = l[j] :: l.drop (j + 1) := List.drop_eq_getElem_cons h
  rw [h1, List.set_cons_zero]
  simp [upsK, List.range_succ]

set_option maxHeartbeats 800000 in
theorem markTokenS_any (a : Option Addr) (cap n base : Nat) (l : List Tk) (w : World) (hn : l.length = n) (h : KOwn w base (.slice a n cap) l) (hm : n ≤ 2000000) :
    Calls Try.prog 26 #[.slice a n cap, .int .i64 1] w fun e w' => e = .returned (.int .i64 (1 + 3 * (n : Int))) ∧ KOwn w' base (.slice a n cap) (upsK n) ∧ Below base w w' ∧ Touch a w w' := by
  have hm' : (n : Int) ≤ 2000000 := by omega
  have Hn := hide hn
  clear hn hm
  go_enter Try.func26, Try.ntmps26
  go_wp2_with fail
  go_loopw [1, 5] (fun m i wr => ∃ k : Nat, k ≤ n ∧ i = .int .i64 k ∧ m = .int .i64 (1 + 3 * (k : Int)) ∧ KOwn wr base (.slice a n cap) (upsK k ++ l.drop k) ∧ Below base w wr ∧ Touch a w wr) (fun _ i _ => n - (intOf i).toNat)
  case atStart => exact ⟨0, Nat.zero_le _, rfl, rfl, h, Below.refl _ _, Touch.refl _ _⟩
  case round =>
    obtain ⟨k, hk, rfl, rfl, hp, hbel, htch⟩ := hrel
    clear h
    have hlen : Hid ((upsK k ++ l.drop k).length = n) := by
      show (upsK k ++ l.drop k).length = n
      have := unhide Hn
      rw [List.length_append, upsK_len, List.length_drop]; omega
    by_cases hlt : k < n
    · obtain ⟨g, rfl⟩ := hp.somes (by rw [unhide hlen]; omega)
      have hput := hp.put (unhide hlen) k (1 + 3 * (k : Int), 1 + 3 * (k : Int) + 1, 1 + 3 * (k : Int) + 1 + 1)
      rw [upsK_step l k (by rw [unhide Hn]; exact hlt)] at hput
      obtain ⟨d0, d1, d2, f0, f1, f2⟩ := hp.at (unhide hlen) k hlt
      have hbg := hp.below.1
      have hbel2 := below_set (below_set (below_set hbel (b := g) (o := k * 3) hbg (.int .i64 (1 + 3 * (k : Int)))) (b := g) (o := k * 3 + 1) hbg (.int .i64 (1 + 3 * (k : Int) + 1))) (b := g) (o := k * 3 + 2) hbg (.int .i64 (1 + 3 * (k : Int) + 1 + 1))
      have htch2 := ((htch.set (o := k * 3) rfl (.int .i64 (1 + 3 * (k : Int)))).set (o := k * 3 + 1) rfl (.int .i64 (1 + 3 * (k : Int) + 1))).set (o := k * 3 + 2) rfl (.int .i64 (1 + 3 * (k : Int) + 1 + 1))
      have HK := hide hk
      have Hput := hide (And.intro hput (And.intro hbel2 htch2))
      clear hk hput hp hbel htch hbg hbel2 htch2
      generalize (upsK k ++ l.drop k).getD k k0 = y at *
      go_wp2
      go_roundw
      case rel => exact ⟨k + 1, by omega, by go_num, by go_num, (unhide Hput).1, (unhide Hput).2.1, (unhide Hput).2.2⟩
      case measure => simp [intOf]; omega
    · have hkl : k = n := by omega
      subst hkl
      have e : upsK k ++ l.drop k = upsK k := by
        have := unhide Hn
        rw [List.drop_of_length_le (by omega)]; simp
      rw [e] at hp
      clear e hlen
      go_wp2
      go_ret
      exact ⟨rfl, hp, hbel, htch⟩

set_option maxHeartbeats 800000 in
theorem heldTokenS_any (a : Option Addr) (cap n : Nat) (w : World) (h : KRow w a (upsK n)) (hm : n ≤ 2000000) :
    Calls Try.prog 27 #[.slice a n cap, .int .i64 1] w fun e w' => e = .returned (.int .i64 (1 + 3 * (n : Int))) ∧ Below w.heap.size w w' := by
  have hm' : (n : Int) ≤ 2000000 := by omega
  clear hm
  go_enter Try.func27, Try.ntmps27
  go_wp2_with fail
  go_loopw [1, 5] (fun m i wr => ∃ k : Nat, k ≤ n ∧ i = .int .i64 k ∧ m = .int .i64 (1 + 3 * (k : Int)) ∧ Below w.heap.size w wr) (fun _ i _ => n - (intOf i).toNat)
  case atStart => exact ⟨0, Nat.zero_le _, rfl, rfl, Below.refl _ _⟩
  case round =>
    obtain ⟨k, hk, rfl, rfl, hbel⟩ := hrel
    by_cases hlt : k < n
    · obtain ⟨g, o, rfl, hg, hc⟩ := (h.later hbel) (by rw [upsK_len]; omega)
      obtain ⟨c0, c1, c2⟩ := hc k (by rw [upsK_len]; exact hlt)
      rw [upsK_get n k hlt] at c0 c1 c2
      simp only at c0 c1 c2
      have HK := hide hk
      clear hc h hk
      go_wp2
      go_roundw
      case rel => exact ⟨k + 1, by omega, by go_num, by go_num, hbel⟩
      case measure => simp [intOf]; omega
    · have hkl : k = n := by omega
      subst hkl
      clear h
      go_wp2
      go_ret
      exact ⟨rfl, hbel⟩

end Go.Proofs.Ytlncdcdblmpmgaa
