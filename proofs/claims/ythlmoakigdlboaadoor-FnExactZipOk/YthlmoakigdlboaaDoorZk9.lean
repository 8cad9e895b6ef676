/- The exact law of ZipOk: rows of files that are handed in, copied, held against one another; the walk. -/
import Derived.Test.YthlmoakigdlboaaDoorEw1
import Derived.Test.YthlmoakigdlboaaDoorEk2
import Derived.Test.YthlmoakigdlboaaDoorZk8
namespace Go.Proofs.YthlmoakigdlboaaDoor
open Go.RowKit

set_option maxRecDepth 100000 in
set_option maxHeartbeats 4000000 in
theorem toEntryS_any (a : Option Addr) (cap n : Nat) (l : List En) (w : World) (hn : l.length = n) (h : ERow w a l) (hm : n ≤ 1048576) :
    Calls Tryd.prog 6 #[.slice a n cap] w fun e w' => e = .returned (.slice (some ⟨w.heap.size, 0, none⟩) n n) ∧ EOwn w' w.heap.size (.slice (some ⟨w.heap.size, 0, none⟩) n n) l ∧ Below w.heap.size w w' := by
  have hm' : (n : Int) ≤ 1048576 := by omega
  obtain ⟨i0, hi, hz0, hz1, hz2⟩ := info_parts Tryd.infoEnt
  have Hn := hide hn
  have HH := hide h
  clear h
  go_enter Tryd.func6, Tryd.ntmps6
  go_wp2_with (at_make; refine wpList_make_full _ rfl _ _ 25 rfl w.heap.size 37 i0 (.agg #[.string ⟨#[]⟩, .int .i64 0, .int .i64 0, .int .i64 0, .int .i64 0, .int .i64 0, .int .i64 0, .string ⟨#[]⟩]) 8 Tryd.underlying25 hi hz0 hz1 .i64 .i64 _ _ n rfl rfl rfl rfl (by rw [hz2]; omega) (by unfold maxLen; omega) (Nat.le_refl _) ?_; intro w1 hown hgrow)
  have hp0 : EOwn w1 w.heap.size (.slice (some ⟨w.heap.size, 0, none⟩) n n) (l.take 0 ++ List.replicate (l.length - 0) default) := by
    have := made_own encE_len (by omega) (default : En) hown
    simpa [hn] using this
  have hb0 : Below w.heap.size w w1 := (Below.refl _ _).grown hgrow (Nat.le_refl _) (fun k h => by cases h)
  clear hown hgrow hi hz0 hz1 hz2 hm hn
  go_loopw [4] (fun i wr => ∃ k : Nat, k ≤ n ∧ i = .int .i64 k ∧ EOwn wr w.heap.size (.slice (some ⟨w.heap.size, 0, none⟩) n n) (l.take k ++ List.replicate (l.length - k) default) ∧ Below w.heap.size w wr) (fun i _ => n - (intOf i).toNat)
  case atStart => exact ⟨0, Nat.zero_le _, rfl, hp0, hb0⟩
  case round =>
    obtain ⟨k, hk, rfl, hp, hbel⟩ := hrel
    clear hp0 hb0
    have hlen : Hid ((l.take k ++ List.replicate (l.length - k) default).length = n) := by
      show _ = n
      have := unhide Hn
      simp; omega
    by_cases hlt : k < n
    · obtain ⟨g, o, rfl, hg, hc⟩ := ((unhide HH).later hbel) (by rw [unhide Hn]; omega)
      obtain ⟨c0, c1, c2, c3, c4, c5, c6, c7⟩ := hc k (by rw [unhide Hn]; exact hlt)
      have hst := hide (copyG_step l default k (by rw [unhide Hn]; exact hlt))
      have hpl := hp.below.2
      have HP := hide (And.intro hp (And.intro hbel hk))
      clear hc hp hbel hk
      generalize hx : l.getD k default = t at *
      clear hx
      obtain ⟨n0, y, mo, d, h, mi, s, t0⟩ := t
      simp only at c0 c1 c2 c3 c4 c5 c6 c7
      go_wp2_with fail
      refine (toEntry_any n0 y mo d h mi s t0 _).mono ?_
      rintro e x1 ⟨rfl, hb1⟩
      obtain ⟨hp, hbel, hk⟩ := unhide HP
      have hp1 := hp.later hb1 (Nat.le_refl _)
      have hbel1 := bnext hbel hb1
      obtain ⟨d0, d1, d2, d3, d4, d5, d6, d7⟩ := eown_at (unhide hlen) hp1 k hlt
      obtain ⟨f0, f1, f2, f3, f4, f5, f6, f7⟩ := eown_froz (unhide hlen) hp1 k hlt
      have hput := GOwn.put encE_len (unhide hlen) hp1 k hlt ⟨n0, y, mo, d, h, mi, s, t0⟩
      rw [unhide hst] at hput
      have hB := below_many hbel1 (Nat.le_refl _) (encE ⟨n0, y, mo, d, h, mi, s, t0⟩) (k * 8)
      have HPut := hide (And.intro hput hB)
      clear hput hB hp hbel hk hp1 hbel1 hb1
      generalize ((l.take k ++ List.replicate (l.length - k) default).getD k default) = y0 at *
      go_wp2
      go_roundw
      case rel => exact ⟨k + 1, by have := (unhide HP).2.2; omega, by go_num, (unhide HPut).1, (unhide HPut).2⟩
      case measure => simp [intOf]; omega
    · have hkl : k = n := by omega
      have e : l.take k ++ List.replicate (l.length - k) default = l := by
        have := unhide Hn
        rw [List.take_of_length_le (by omega), show l.length - k = 0 by omega]; simp
      rw [e] at hp
      clear e hlen
      go_wp2
      go_ret
      exact ⟨rfl, hp, hbel⟩

theorem szEntryL_any (n : ByteArray) (y mo d h mi s : Int) (t : ByteArray) (L : Int) (w : World) (hn : (n.size : Int) ≤ 9223372036854775807) (ht : (t.size : Int) ≤ 9223372036854775807) (h0 : 0 ≤ L) (h1 : L ≤ 1048576) :
    Calls Tryd.prog 9 #[.agg #[.string n, .int .i64 y, .int .i64 mo, .int .i64 d, .int .i64 h, .int .i64 mi, .int .i64 s, .string t], .int .i64 L] w fun e w' => (∃ k : Int, e = .returned (.int .i64 k) ∧ -1 ≤ k ∧ k ≤ L ∧ (0 ≤ k → (n.size : Int) ≤ 1048576)) ∧ Below w.heap.size w w' := by
  by_cases e1 : L - (n.size : Int) < 0
  · go_enter Tryd.func9, Tryd.ntmps9
    go_wp2
    go_ret
    exact ⟨⟨-1, rfl, by omega, by omega, fun h => absurd h (by omega)⟩, (Below.refl _ _).alloc (Nat.le_refl _) _⟩
  · by_cases e2 : L - (n.size : Int) - (t.size : Int) < 0
    · go_enter Tryd.func9, Tryd.ntmps9
      go_wp2
      go_ret
      exact ⟨⟨-1, rfl, by omega, by omega, fun h => absurd h (by omega)⟩, (Below.refl _ _).alloc (Nat.le_refl _) _⟩
    · go_enter Tryd.func9, Tryd.ntmps9
      go_wp2
      go_ret
      exact ⟨⟨_, rfl, by omega, by omega, fun _ => by omega⟩, (Below.refl _ _).alloc (Nat.le_refl _) _⟩

/-- What is known of the sizes of texts in files that are handed in. -/
def ESmall (l : List En) (n : Nat) : Prop := ∀ i, i < n → ((l.getD i default).n.size : Int) ≤ 9223372036854775807 ∧ ((l.getD i default).t.size : Int) ≤ 9223372036854775807
set_option maxHeartbeats 1600000 in
theorem szEntryS_any (a : Option Addr) (cap n : Nat) (l : List En) (w : World) (hn : l.length = n) (h : ERow w a l) (hm : (n : Int) ≤ 9223372036854775807) (hs : ESmall l n) :
    Calls Tryd.prog 4 #[.slice a n cap, .int .i64 1048576] w fun e w' => (∃ k : Int, e = .returned (.int .i64 k) ∧ -1 ≤ k ∧ k ≤ 1048576 ∧ (0 ≤ k → (n : Int) ≤ 1048576 ∧ ∀ i, i < n → (l.getD i default).n.size ≤ 1048576)) ∧ Below w.heap.size w w' := by
  have Hn := hide hn
  have HH := hide h
  have HS := hide hs
  clear hn h hs
  by_cases e1 : (1048576 : Int) - (n : Int) < 0
  · go_enter Tryd.func4, Tryd.ntmps4
    go_wp2
    go_ret
    exact ⟨⟨-1, rfl, by omega, by omega, fun h => absurd h (by omega)⟩, Below.refl _ _⟩
  · go_enter Tryd.func4, Tryd.ntmps4
    go_wp2_with fail
    go_loopw [1, 5] (fun L i wr => ∃ (k : Nat) (r : Int), k ≤ n ∧ i = .int .i64 k ∧ L = .int .i64 r ∧ 0 ≤ r ∧ r ≤ 1048576 ∧ (∀ j, j < k → (l.getD j default).n.size ≤ 1048576) ∧ Below w.heap.size w wr) (fun _ i _ => n - (intOf i).toNat)
    case atStart => exact ⟨0, _, Nat.zero_le _, rfl, rfl, by omega, by omega, fun j hj => absurd hj (by omega), Below.refl _ _⟩
    case round =>
      obtain ⟨k, r, hk, rfl, rfl, r0, r1, hall, hbel⟩ := hrel
      have HK := hide hk
      have HA := hide hall
      have HB := hide hbel
      clear hall hk
      by_cases hlt : k < n
      · obtain ⟨g, o, rfl, hg, hc⟩ := ((unhide HH).later hbel) (by rw [unhide Hn]; omega)
        obtain ⟨c0, c1, c2, c3, c4, c5, c6, c7⟩ := hc k (by rw [unhide Hn]; exact hlt)
        obtain ⟨s0, s1⟩ := unhide HS k hlt
        have HNX : Hid ((l.getD k default).n.size ≤ 1048576 → ∀ j, j < k + 1 → (l.getD j default).n.size ≤ 1048576) := by
          intro e j hj
          by_cases hjk : j = k
          · rw [hjk]; exact e
          · exact unhide HA j (by omega)
        clear hc hbel
        generalize l.getD k default = t at *
        obtain ⟨n0, y, mo, d, h, mi, s, t0⟩ := t
        simp only at c0 c1 c2 c3 c4 c5 c6 c7 s0 s1
        go_wp2_with fail
        refine (szEntryL_any n0 y mo d h mi s t0 r _ s0 s1 r0 r1).mono ?_
        rintro e x1 ⟨⟨q, rfl, q0, q1, q2⟩, hb1⟩
        have HB1 := hide (bnext (unhide HB) hb1)
        have HQ := hide q2
        clear hb1 q2 c0 c1 c2 c3 c4 c5 c6 c7
        by_cases hq : q < 0
        · go_wp2
          go_ret
          exact ⟨⟨-1, rfl, by omega, by omega, fun h => absurd h (by omega)⟩, unhide HB1⟩
        · go_wp2
          go_roundw
          case rel => exact ⟨k + 1, q, by omega, by go_num, rfl, by omega, by omega, unhide HNX (by have := unhide HQ (by omega); show n0.size ≤ _; omega), unhide HB1⟩
          case measure => simp [intOf]; omega
      · obtain rfl : k = n := by have := unhide HK; omega
        go_wp2
        go_ret
        exact ⟨⟨r, rfl, by omega, by omega, fun _ => ⟨by omega, unhide HA⟩⟩, unhide HB⟩

theorem eqStamp_same (y mo d h mi s : Int) (w : World) :
    Calls Tryd.prog 22 #[.agg #[.int .i64 y, .int .i64 mo, .int .i64 d, .int .i64 h, .int .i64 mi, .int .i64 s], .agg #[.int .i64 y, .int .i64 mo, .int .i64 d, .int .i64 h, .int .i64 mi, .int .i64 s]] w fun e w' => e = .returned (.bool true) ∧ Below w.heap.size w w' := by
  go_enter Tryd.func22, Tryd.ntmps22
  go_wp2
  go_ret
  exact ⟨rfl, ((Below.refl _ _).alloc (Nat.le_refl _) _).alloc (by simp) _⟩

set_option maxHeartbeats 1600000 in
theorem eqEntry_same (n : ByteArray) (y mo d h mi s : Int) (t : ByteArray) (w : World) :
    Calls Tryd.prog 16 #[.agg #[.string n, .int .i64 y, .int .i64 mo, .int .i64 d, .int .i64 h, .int .i64 mi, .int .i64 s, .string t], .agg #[.string n, .int .i64 y, .int .i64 mo, .int .i64 d, .int .i64 h, .int .i64 mi, .int .i64 s, .string t]] w fun e w' => e = .returned (.bool true) ∧ Below w.heap.size w w' := by
  have X0 := ent_alloc w n y mo d h mi s t 37
  have X1 := ent_alloc (w.alloc (.cells #[.string n, .int .i64 y, .int .i64 mo, .int .i64 d, .int .i64 h, .int .i64 mi, .int .i64 s, .string t] 37)) n y mo d h mi s t 37
  have X0' := hide (X0.later ((Below.refl _ _).alloc (Nat.le_refl _) (.cells #[.string n, .int .i64 y, .int .i64 mo, .int .i64 d, .int .i64 h, .int .i64 mi, .int .i64 s, .string t] 37)) (by simp))
  have e1 : (w.alloc (.cells #[.string n, .int .i64 y, .int .i64 mo, .int .i64 d, .int .i64 h, .int .i64 mi, .int .i64 s, .string t] 37)).heap.size = w.heap.size + 1 := by simp
  rw [e1] at X1
  have HX1 := hide X1
  have B0 : Hid (Below w.heap.size w ((w.alloc (.cells #[.string n, .int .i64 y, .int .i64 mo, .int .i64 d, .int .i64 h, .int .i64 mi, .int .i64 s, .string t] 37)).alloc (.cells #[.string n, .int .i64 y, .int .i64 mo, .int .i64 d, .int .i64 h, .int .i64 mi, .int .i64 s, .string t] 37))) := ((Below.refl _ _).alloc (Nat.le_refl _) _).alloc (by simp) _
  clear X0 X1 e1
  go_enter Tryd.func16, Tryd.ntmps16
  go_wp2_with fail
  refine (eqStamp_same y mo d h mi s _).mono ?_
  rintro e x1 ⟨rfl, hb1⟩
  have Y0 := (unhide X0').later hb1 (unhide X0').2.2
  have Y1 := (unhide HX1).later hb1 (unhide HX1).2.2
  have HB := hide (bnext (unhide B0) hb1)
  clear hb1 X0' HX1 B0
  obtain ⟨⟨p0, p1, p2, p3, p4, p5, p6, p7⟩, _, _⟩ := Y0
  obtain ⟨⟨q0, q1, q2, q3, q4, q5, q6, q7⟩, _, _⟩ := Y1
  go_wp2
  go_ret
  exact ⟨rfl, unhide HB⟩

set_option maxHeartbeats 1600000 in
theorem eqEntryS_same (a b : Option Addr) (c d n : Nat) (l : List En) (w : World) (hn : l.length = n) (ha : ERow w a l) (hb : ERow w b l) (hl : n ≤ 2000000) :
    Calls Tryd.prog 8 #[.slice a n c, .slice b n d] w fun e w' => e = .returned (.bool true) ∧ Below w.heap.size w w' := by
  subst hn
  have hlI : (l.length : Int) ≤ 2000000 := by omega
  have HA := hide ha
  have HB := hide hb
  clear hl ha hb
  go_enter Tryd.func8, Tryd.ntmps8
  go_wp2_with fail
  go_loopw [5] (fun i wr => ∃ k : Nat, k ≤ l.length ∧ i = .int .i64 k ∧ Below w.heap.size w wr) (fun i _ => l.length - (intOf i).toNat)
  case atStart => exact ⟨0, Nat.zero_le _, rfl, Below.refl _ _⟩
  case round =>
    obtain ⟨k, hk, rfl, hbel⟩ := hrel
    have HK := hide hk
    by_cases hlt : k < l.length
    · obtain ⟨g, o, rfl, hg, hc⟩ := ((unhide HA).later hbel) (by omega)
      obtain ⟨g', o', rfl, hg', hc'⟩ := ((unhide HB).later hbel) (by omega)
      obtain ⟨c0, c1, c2, c3, c4, c5, c6, c7⟩ := hc k hlt
      obtain ⟨d0, d1, d2, d3, d4, d5, d6, d7⟩ := hc' k hlt
      have HBel := hide hbel
      clear hc hc' hk hbel
      generalize hx : l.getD k default = t at *
      clear hx
      obtain ⟨n0, y, mo, dd, h, mi, s, t0⟩ := t
      simp only at c0 c1 c2 c3 c4 c5 c6 c7 d0 d1 d2 d3 d4 d5 d6 d7
      go_wp2_with fail
      go_region_with (go_at_call 16; refine (eqEntry_same n0 y mo dd h mi s t0 _).mono ?_; rintro e x1 ⟨rfl, hb1⟩)
      all_goals
        go_wp2
        go_roundw
        case rel => exact ⟨k + 1, by omega, by go_num, (unhide HBel).drew.trans (hb1.mono (unhide HBel).size)⟩
        case measure => simp [intOf]; omega
    · go_wp2
      go_ret
      exact ⟨rfl, hbel⟩

set_option maxHeartbeats 1600000 in
theorem exZipOk_walk (a : Option Addr) (len cap : Nat) (l : List En) (m : Int) (w : World) (w0 : ERow w a l ∧ l.length = len ∧ len ≤ maxLen ∧ ∀ i, i < len → (l.getD i default).n.size ≤ maxLen ∧ (l.getD i default).t.size ≤ maxLen) (hm : w.cell? ⟨1, 0, none⟩ = some (.int .i64 m)) (hg : ErrT w) :
    Calls Tryd.prog 3 #[.slice a len cap] w fun e w' => e = .returned (.bool true) ∧ Below w.heap.size w w' := by
  obtain ⟨hrow, hn, hlen, hsm⟩ := w0
  unfold maxLen at hlen hsm
  have hlI : (len : Int) ≤ 9223372036854775807 := by omega
  have HS : Hid (ESmall l len) := fun i hi => by have := hsm i hi; omega
  have CM := hide (fun W (hb : Below w.heap.size w W) => (hb.cell (p := ⟨1, 0, none⟩) (World.block_lt_of_cell? _ _ hm)).trans hm)
  have CG : Hid (∀ W, Below w.heap.size w W → ErrT W) := fun W hb => (hb.cell (p := ⟨0, 0, none⟩) (World.block_lt_of_cell? _ _ hg)).trans hg
  have Hn := hide hn
  have HR := hide hrow
  clear hm hg hn hrow hlen hsm
  go_enter Tryd.func3, Tryd.ntmps3
  go_wp2_with fail
  refine (szEntryS_any a cap len l _ (unhide Hn) (unhide HR) hlI (unhide HS)).mono ?_
  rintro e x1 ⟨⟨k, rfl, k0, k1, hk⟩, hb1⟩
  have HB1 := hide hb1
  have HK := hide hk
  clear hb1 hk
  by_cases kn : k < 0
  · go_wp2
    go_ret
    exact ⟨rfl, unhide HB1⟩
  · obtain ⟨hL, hN⟩ := unhide HK (by omega)
    have HL : Hid (len ≤ 1048576) := by show _ ≤ _; omega
    have HZ : Hid (∀ i, i < len → (l.getD i default).n.size ≤ 1048576 ∧ ((l.getD i default).t.size : Int) ≤ 9223372036854775807) := fun i hi => ⟨hN i hi, by have := (unhide HS i hi).2; omega⟩
    clear hN
    go_wp2_with fail
    refine (toEntryS_any a cap len l _ (unhide Hn) ((unhide HR).later (unhide HB1)) (unhide HL)).mono ?_
    rintro e x2 ⟨rfl, h2, hb2⟩
    have HB2 := hide (bnext (unhide HB1) hb2)
    have HR2 := hide (eown_row (unhide Hn) h2)
    clear h2 hb2
    go_wp2_with fail
    refine (specZipOk_any _ _ l len (unhide Hn) _ (unhide HR2) hL (unhide HZ)).mono ?_
    rintro e x3 ⟨rfl, hb3⟩
    have HB3 := hide (bnext (unhide HB2) hb3)
    clear hb3 HR2
    go_wp2_with fail
    refine (toEntryS_any a cap len l _ (unhide Hn) ((unhide HR).later (unhide HB3)) (unhide HL)).mono ?_
    rintro e x4 ⟨rfl, h4, hb4⟩
    have HB4 := hide (bnext (unhide HB3) hb4)
    have HO4 := hide h4
    have HR4 := hide (eown_row (unhide Hn) h4)
    clear h4 hb4
    go_wp2_with fail
    refine (implZipOk_any _ _ l len (unhide Hn) m _ (unhide HR4) hL (by omega) (unhide HZ) (unhide CM _ (unhide HB4)) (unhide CG _ (unhide HB4))).mono ?_
    rintro e x5 ⟨rfl, hb5⟩
    have HB5 := hide (bnext (unhide HB4) hb5)
    have HR5 := hide ((unhide HR4).later hb5)
    clear hb5 HR4 HO4
    generalize zipB l = B
    go_wp2_with fail
    refine (toEntryS_any a cap len l _ (unhide Hn) ((unhide HR).later (unhide HB5)) (unhide HL)).mono ?_
    rintro e x6 ⟨rfl, h6, hb6⟩
    have HB6 := hide (bnext (unhide HB5) hb6)
    have HR6 := hide (eown_row (unhide Hn) h6)
    have HR56 := hide ((unhide HR5).later hb6)
    clear h6 hb6 HR5
    go_wp2_with fail
    refine (eqEntryS_same _ _ _ _ len l _ (unhide Hn) (unhide HR56) (unhide HR6) (by have := unhide HL; omega)).mono ?_
    rintro e x7 ⟨rfl, hb7⟩
    have HB7 := hide (bnext (unhide HB6) hb7)
    clear hb7
    go_wp2
    go_ret
    exact ⟨rfl, unhide HB7⟩

end Go.Proofs.YthlmoakigdlboaaDoor
