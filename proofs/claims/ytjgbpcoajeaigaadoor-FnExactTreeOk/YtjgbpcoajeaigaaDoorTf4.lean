/- The exact law of TreeOk: rows of files that are handed in, copied, held against one another; the walk. -/
import Derived.Test.YtjgbpcoajeaigaaDoorTf3
import Derived.Deep.RegionWith
namespace Go.Proofs.YtjgbpcoajeaigaaDoor
open Go.RowKit

theorem toFile_any (p t : ByteArray) (w : World) :
    Calls Tryd.prog 12 #[.agg #[.string p, .string t]] w fun e w' => e = .returned (.agg #[.string p, .string t]) ∧ Below w.heap.size w w' := by
  go_enter Tryd.func12, Tryd.ntmps12
  go_wp2
  exact bodyPost_ret (v := .agg #[.string p, .string t]) (by simp [results, Tryd.results12, go_sem]) rfl ⟨rfl, (((Below.refl _ _).alloc (Nat.le_refl _) _).alloc (by simp) _).alloc (by simp; omega) _⟩

set_option maxRecDepth 100000 in
set_option maxHeartbeats 4000000 in
theorem toFileS_any (a : Option Addr) (cap n : Nat) (l : List Fl) (w : World) (hn : l.length = n) (h : FRow w a l) (hm : n ≤ 1048576) :
    Calls Tryd.prog 6 #[.slice a n cap] w fun e w' => e = .returned (.slice (some ⟨w.heap.size, 0, none⟩) n n) ∧ FOwn w' w.heap.size (.slice (some ⟨w.heap.size, 0, none⟩) n n) l ∧ Below w.heap.size w w' := by
  have hm' : (n : Int) ≤ 1048576 := by omega
  obtain ⟨i0, hi, hz0, hz1, hz2⟩ := info_parts Tryd.infoFile
  have Hn := hide hn
  have HH := hide h
  clear h
  go_enter Tryd.func6, Tryd.ntmps6
  go_wp2_with (at_make; refine wpList_make_full _ rfl _ _ 25 rfl w.heap.size 33 i0 (.agg #[.string ⟨#[]⟩, .string ⟨#[]⟩]) 2 Tryd.underlying25 hi hz0 hz1 .i64 .i64 _ _ n rfl rfl rfl rfl (by rw [hz2]; omega) (by unfold maxLen; omega) (Nat.le_refl _) ?_; intro w1 hown hgrow)
  have hp0 : FOwn w1 w.heap.size (.slice (some ⟨w.heap.size, 0, none⟩) n n) (l.take 0 ++ List.replicate (l.length - 0) default) := by
    have := made_own encF_len (by omega) (default : Fl) hown
    simpa [hn] using this
  have hb0 : Below w.heap.size w w1 := (Below.refl _ _).grown hgrow (Nat.le_refl _) (fun k h => by cases h)
  clear hown hgrow hi hz0 hz1 hz2 hm hn
  go_loopw [4] (fun i wr => ∃ k : Nat, k ≤ n ∧ i = .int .i64 k ∧ FOwn wr w.heap.size (.slice (some ⟨w.heap.size, 0, none⟩) n n) (l.take k ++ List.replicate (l.length - k) default) ∧ Below w.heap.size w wr) (fun i _ => n - (intOf i).toNat)
  case atStart => exact ⟨0, Nat.zero_le _, rfl, hp0, hb0⟩
  case round =>
    obtain ⟨k, hk, rfl, hp, hbel⟩ := hrel
    clear hp0 hb0
    have hlen : Hid ((l.take k ++ List.replicate (l.length - k) default).length = n) := by
      show _ = n
      have := unhide Hn
      simp; omega
    by_cases hlt : k < n
    · obtain ⟨g, o, rfl, hg, hc⟩ := ((unhide HH).later hbel) (by rw [unhide Hn]; omega)
      obtain ⟨c0, c1⟩ := hc k (by rw [unhide Hn]; exact hlt)
      have hst := hide (copyG_step l default k (by rw [unhide Hn]; exact hlt))
      have hpl := hp.below.2
      have HP := hide (And.intro hp (And.intro hbel hk))
      clear hc hp hbel hk
      generalize hx : l.getD k default = t at *
      clear hx
      obtain ⟨n0, t0⟩ := t
      simp only at c0 c1
      go_wp2_with fail
      refine (toFile_any n0 t0 _).mono ?_
      rintro e x1 ⟨rfl, hb1⟩
      obtain ⟨hp, hbel, hk⟩ := unhide HP
      have hp1 := hp.later hb1 (Nat.le_refl _)
      have hbel1 := bnext hbel hb1
      obtain ⟨d0, d1⟩ := fown_at (unhide hlen) hp1 k hlt
      obtain ⟨f0, f1⟩ := fown_froz (unhide hlen) hp1 k hlt
      have hput := GOwn.put encF_len (unhide hlen) hp1 k hlt ⟨n0, t0⟩
      rw [unhide hst] at hput
      have hB := below_many hbel1 (Nat.le_refl _) (encF ⟨n0, t0⟩) (k * 2)
      have HPut := hide (And.intro hput hB)
      clear hput hB hp hbel hk hp1 hbel1 hb1
      generalize ((l.take k ++ List.replicate (l.length - k) default).getD k default) = y0 at *
      go_wp2
      go_roundw
      case rel => exact ⟨k + 1, by have := (unhide HP).2.2; omega, by go_num, (unhide HPut).1, (unhide HPut).2⟩
      case measure => simp [intOf]; omega
    · have hkl : k = n := by omega
      have e : l.take k ++ List.replicate (l.length - k) default = l := by
        have := unhide Hn
        rw [List.take_of_length_le (by omega), show l.length - k = 0 by omega]; simp
      rw [e] at hp
      clear e hlen
      go_wp2
      go_ret
      exact ⟨rfl, hp, hbel⟩

theorem szFileL_any (n t : ByteArray) (L : Int) (w : World) (hn : (n.size : Int) ≤ 9223372036854775807) (ht : (t.size : Int) ≤ 9223372036854775807) (h0 : 0 ≤ L) (h1 : L ≤ 1048576) :
    Calls Tryd.prog 9 #[.agg #[.string n, .string t], .int .i64 L] w fun e w' => (∃ k : Int, e = .returned (.int .i64 k) ∧ -1 ≤ k ∧ k ≤ L ∧ (0 ≤ k → (n.size : Int) ≤ 1048576)) ∧ Below w.heap.size w w' := by
  by_cases e1 : L - (n.size : Int) < 0
  · go_enter Tryd.func9, Tryd.ntmps9
    go_wp2
    go_ret
    exact ⟨⟨-1, rfl, by omega, by omega, fun h => absurd h (by omega)⟩, (Below.refl _ _).alloc (Nat.le_refl _) _⟩
  · by_cases e2 : L - (n.size : Int) - (t.size : Int) < 0
    · go_enter Tryd.func9, Tryd.ntmps9
      go_wp2
      go_ret
      exact ⟨⟨-1, rfl, by omega, by omega, fun h => absurd h (by omega)⟩, (Below.refl _ _).alloc (Nat.le_refl _) _⟩
    · go_enter Tryd.func9, Tryd.ntmps9
      go_wp2
      go_ret
      exact ⟨⟨_, rfl, by omega, by omega, fun _ => by omega⟩, (Below.refl _ _).alloc (Nat.le_refl _) _⟩

/-- What is known of the sizes of texts in files that are handed in. -/
def FAny (l : List Fl) (n : Nat) : Prop := ∀ i, i < n → ((l.getD i default).p.size : Int) ≤ 9223372036854775807 ∧ ((l.getD i default).t.size : Int) ≤ 9223372036854775807
set_option maxHeartbeats 1600000 in
theorem szFileS_any (a : Option Addr) (cap n : Nat) (l : List Fl) (w : World) (hn : l.length = n) (h : FRow w a l) (hm : (n : Int) ≤ 9223372036854775807) (hs : FAny l n) :
    Calls Tryd.prog 4 #[.slice a n cap, .int .i64 1048576] w fun e w' => (∃ k : Int, e = .returned (.int .i64 k) ∧ -1 ≤ k ∧ k ≤ 1048576 ∧ (0 ≤ k → (n : Int) ≤ 1048576 ∧ ∀ i, i < n → (l.getD i default).p.size ≤ 1048576)) ∧ Below w.heap.size w w' := by
  have Hn := hide hn
  have HH := hide h
  have HS := hide hs
  clear hn h hs
  by_cases e1 : (1048576 : Int) - (n : Int) < 0
  · go_enter Tryd.func4, Tryd.ntmps4
    go_wp2
    go_ret
    exact ⟨⟨-1, rfl, by omega, by omega, fun h => absurd h (by omega)⟩, Below.refl _ _⟩
  · go_enter Tryd.func4, Tryd.ntmps4
    go_wp2_with fail
    go_loopw [1, 5] (fun L i wr => ∃ (k : Nat) (r : Int), k ≤ n ∧ i = .int .i64 k ∧ L = .int .i64 r ∧ 0 ≤ r ∧ r ≤ 1048576 ∧ (∀ j, j < k → (l.getD j default).p.size ≤ 1048576) ∧ Below w.heap.size w wr) (fun _ i _ => n - (intOf i).toNat)
    case atStart => exact ⟨0, _, Nat.zero_le _, rfl, rfl, by omega, by omega, fun j hj => absurd hj (by omega), Below.refl _ _⟩
    case round =>
      obtain ⟨k, r, hk, rfl, rfl, r0, r1, hall, hbel⟩ := hrel
      have HK := hide hk
      have HA := hide hall
      have HB := hide hbel
      clear hall hk
      by_cases hlt : k < n
      · obtain ⟨g, o, rfl, hg, hc⟩ := ((unhide HH).later hbel) (by rw [unhide Hn]; omega)
        obtain ⟨c0, c1⟩ := hc k (by rw [unhide Hn]; exact hlt)
        obtain ⟨s0, s1⟩ := unhide HS k hlt
        have HNX : Hid ((l.getD k default).p.size ≤ 1048576 → ∀ j, j < k + 1 → (l.getD j default).p.size ≤ 1048576) := by
          intro e j hj
          by_cases hjk : j = k
          · rw [hjk]; exact e
          · exact unhide HA j (by omega)
        clear hc hbel
        generalize l.getD k default = t at *
        obtain ⟨n0, t0⟩ := t
        simp only at c0 c1 s0 s1
        go_wp2_with fail
        refine (szFileL_any n0 t0 r _ s0 s1 r0 r1).mono ?_
        rintro e x1 ⟨⟨q, rfl, q0, q1, q2⟩, hb1⟩
        have HB1 := hide (bnext (unhide HB) hb1)
        have HQ := hide q2
        clear hb1 q2 c0 c1
        by_cases hq : q < 0
        · go_wp2
          go_ret
          exact ⟨⟨-1, rfl, by omega, by omega, fun h => absurd h (by omega)⟩, unhide HB1⟩
        · go_wp2
          go_roundw
          case rel => exact ⟨k + 1, q, by omega, by go_num, rfl, by omega, by omega, unhide HNX (by have := unhide HQ (by omega); show n0.size ≤ _; omega), unhide HB1⟩
          case measure => simp [intOf]; omega
      · obtain rfl : k = n := by have := unhide HK; omega
        go_wp2
        go_ret
        exact ⟨⟨r, rfl, by omega, by omega, fun _ => ⟨by omega, unhide HA⟩⟩, unhide HB⟩

theorem eqFile_same (p t : ByteArray) (w : World) :
    Calls Tryd.prog 15 #[.agg #[.string p, .string t], .agg #[.string p, .string t]] w fun e w' => e = .returned (.bool true) ∧ Below w.heap.size w w' := by
  go_enter Tryd.func15, Tryd.ntmps15
  go_wp2
  go_ret
  exact ⟨rfl, ((Below.refl _ _).alloc (Nat.le_refl _) _).alloc (by simp) _⟩

set_option maxHeartbeats 1600000 in
theorem eqFileS_same (a b : Option Addr) (c d n : Nat) (l : List Fl) (w : World) (hn : l.length = n) (ha : FRow w a l) (hb : FRow w b l) (hl : n ≤ 2000000) :
    Calls Tryd.prog 8 #[.slice a n c, .slice b n d] w fun e w' => e = .returned (.bool true) ∧ Below w.heap.size w w' := by
  subst hn
  have hlI : (l.length : Int) ≤ 2000000 := by omega
  have HA := hide ha
  have HB := hide hb
  clear hl ha hb
  go_enter Tryd.func8, Tryd.ntmps8
  go_wp2_with fail
  go_loopw [5] (fun i wr => ∃ k : Nat, k ≤ l.length ∧ i = .int .i64 k ∧ Below w.heap.size w wr) (fun i _ => l.length - (intOf i).toNat)
  case atStart => exact ⟨0, Nat.zero_le _, rfl, Below.refl _ _⟩
  case round =>
    obtain ⟨k, hk, rfl, hbel⟩ := hrel
    have HK := hide hk
    by_cases hlt : k < l.length
    · obtain ⟨g, o, rfl, hg, hc⟩ := ((unhide HA).later hbel) (by omega)
      obtain ⟨g', o', rfl, hg', hc'⟩ := ((unhide HB).later hbel) (by omega)
      obtain ⟨c0, c1⟩ := hc k hlt
      obtain ⟨d0, d1⟩ := hc' k hlt
      have HBel := hide hbel
      clear hc hc' hk hbel
      generalize hx : l.getD k default = t at *
      clear hx
      obtain ⟨n0, t0⟩ := t
      simp only at c0 c1 d0 d1
      go_wp2_with fail
      go_region_with (go_at_call 15; refine (eqFile_same n0 t0 _).mono ?_; rintro e x1 ⟨rfl, hb1⟩)
      all_goals
        go_wp2
        go_roundw
        case rel => exact ⟨k + 1, by omega, by go_num, (unhide HBel).drew.trans (hb1.mono (unhide HBel).size)⟩
        case measure => simp [intOf]; omega
    · go_wp2
      go_ret
      exact ⟨rfl, hbel⟩

set_option maxHeartbeats 1600000 in
theorem exTreeOk_walk (a : Option Addr) (len cap : Nat) (l : List Fl) (m : Int) (w : World) (w0 : FRow w a l ∧ l.length = len ∧ len ≤ maxLen ∧ ∀ i, i < len → (l.getD i default).p.size ≤ maxLen ∧ (l.getD i default).t.size ≤ maxLen) (hm : w.cell? ⟨0, 0, none⟩ = some (.int .i64 m)) :
    Calls Tryd.prog 3 #[.slice a len cap] w fun e w' => e = .returned (.bool true) ∧ Below w.heap.size w w' := by
  obtain ⟨hrow, hn, hlen, hsm⟩ := w0
  unfold maxLen at hlen hsm
  have hlI : (len : Int) ≤ 9223372036854775807 := by omega
  have HS : Hid (FAny l len) := fun i hi => by have := hsm i hi; omega
  have CM := hide (fun W (hb : Below w.heap.size w W) => (hb.cell (p := ⟨0, 0, none⟩) (World.block_lt_of_cell? _ _ hm)).trans hm)
  have Hn := hide hn
  have HR := hide hrow
  clear hm hn hrow hlen hsm
  go_enter Tryd.func3, Tryd.ntmps3
  go_wp2_with fail
  refine (szFileS_any a cap len l _ (unhide Hn) (unhide HR) hlI (unhide HS)).mono ?_
  rintro e x1 ⟨⟨k, rfl, k0, k1, hk⟩, hb1⟩
  have HB1 := hide hb1
  have HK := hide hk
  clear hb1 hk
  by_cases kn : k < 0
  · go_wp2
    go_ret
    exact ⟨rfl, unhide HB1⟩
  · obtain ⟨hL, hN⟩ := unhide HK (by omega)
    have HL : Hid (len ≤ 1048576) := by show _ ≤ _; omega
    have HZ : Hid (FSmall l len) := fun i hi => ⟨hN i hi, by have := (unhide HS i hi).2; omega⟩
    clear hN
    go_wp2_with fail
    refine (toFileS_any a cap len l _ (unhide Hn) ((unhide HR).later (unhide HB1)) (unhide HL)).mono ?_
    rintro e x2 ⟨rfl, h2, hb2⟩
    have HB2 := hide (bnext (unhide HB1) hb2)
    have HR2 := hide (fown_row (unhide Hn) h2)
    clear h2 hb2
    go_wp2_with fail
    refine (specTreeOk_any _ _ l len (unhide Hn) _ (unhide HR2) hL (unhide HZ)).mono ?_
    rintro e x3 ⟨rfl, hb3⟩
    have HB3 := hide (bnext (unhide HB2) hb3)
    clear hb3 HR2
    go_wp2_with fail
    refine (toFileS_any a cap len l _ (unhide Hn) ((unhide HR).later (unhide HB3)) (unhide HL)).mono ?_
    rintro e x4 ⟨rfl, h4, hb4⟩
    have HB4 := hide (bnext (unhide HB3) hb4)
    have HR4 := hide (fown_row (unhide Hn) h4)
    clear h4 hb4
    go_wp2_with fail
    refine (implTreeOk_any _ _ l len (unhide Hn) m _ (unhide HR4) hL (by omega) (unhide HZ) (unhide CM _ (unhide HB4))).mono ?_
    rintro e x5 ⟨rfl, hb5⟩
    have HB5 := hide (bnext (unhide HB4) hb5)
    have HR5 := hide ((unhide HR4).later hb5)
    clear hb5 HR4
    generalize treeB l = B
    go_wp2_with fail
    refine (toFileS_any a cap len l _ (unhide Hn) ((unhide HR).later (unhide HB5)) (unhide HL)).mono ?_
    rintro e x6 ⟨rfl, h6, hb6⟩
    have HB6 := hide (bnext (unhide HB5) hb6)
    have HR6 := hide (fown_row (unhide Hn) h6)
    have HR56 := hide ((unhide HR5).later hb6)
    clear h6 hb6 HR5
    go_wp2_with fail
    refine (eqFileS_same _ _ _ _ len l _ (unhide Hn) (unhide HR56) (unhide HR6) (by have := unhide HL; omega)).mono ?_
    rintro e x7 ⟨rfl, hb7⟩
    have HB7 := hide (bnext (unhide HB6) hb7)
    clear hb7
    go_wp2
    go_ret
    exact ⟨rfl, unhide HB7⟩

end Go.Proofs.YtjgbpcoajeaigaaDoor
