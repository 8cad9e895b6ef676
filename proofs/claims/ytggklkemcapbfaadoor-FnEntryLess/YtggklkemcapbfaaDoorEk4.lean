/- The walk of the law of a file with less in it. -/
import Derived.Test.YtggklkemcapbfaaDoorEk3
import Derived.Test.YtggklkemcapbfaaDoorBo1
namespace Go.Proofs.YtggklkemcapbfaaDoor
open Go.RowKit

theorem ent_yes {n t : ByteArray} {y mo d h mi s : Int} (k : entB n y mo d h mi s t = true) (u : ByteArray) : entB n y mo d h mi s u = decide (u.size ≤ 300) := by
  simp only [entB, Bool.and_eq_true] at k
  obtain ⟨k1, k2, _⟩ := k
  simp [entB, k1, k2]

set_option maxHeartbeats 4000000 in
theorem fnEntryLess_walk (a : Option Addr) (len cap : Nat) (zs : List Int) (m : Int) (w : World) (w0 : IsRow .u8 w a len cap zs) (hm : w.cell? ⟨0, 0, none⟩ = some (.int .i64 m)) :
    Calls Tryd.prog 7 #[.slice a len cap] w fun e w' => e = .returned (.bool true) ∧ Below w.heap.size w w' := by
  obtain ⟨⟨z, hsrc⟩, hc, hlen⟩ := src_of w0
  obtain ⟨i0, hi, hz0, hz1, hz2⟩ := info_parts Tryd.infoU8
  have hlen' := hide hlen
  have HM := hide hm
  have hmb := hide (World.block_lt_of_cell? _ _ hm)
  have CM := hide (fun W (hb : Below w.heap.size w W) => (hb.cell (p := ⟨0, 0, none⟩) (unhide hmb)).trans (unhide HM))
  unfold maxLen at hlen
  clear w0 hm
  by_cases hl : (len : Int) ≤ 1048576
  · go_enter Tryd.func7, Tryd.ntmps7
    go_wp2_with fail
    refine (drawEntryOk_any a len cap z _ hsrc hc (unhide hlen')).mono ?_
    rintro e x1 ⟨n, y, mo, d, h, mi, s, t, rfl, ⟨hn, ht⟩, hb1⟩
    have HN : Hid (n.size ≤ 1048576) := by show _ ≤ _; omega
    have htI : (t.size : Int) ≤ 9223372036854775807 := by omega
    have HB1 := hide (hb1.alloc hb1.size (.cells #[.string n, .int .i64 y, .int .i64 mo, .int .i64 d, .int .i64 h, .int .i64 mi, .int .i64 s, .string t] 31))
    clear hn ht hsrc
    have HS1 := hide hb1.size
    clear hb1
    go_wp2_with fail
    refine (implEntryOk_any n y mo d h mi s t m _ (unhide HN) htI (unhide CM _ (unhide HB1))).mono ?_
    rintro e x2 ⟨rfl, hb2⟩
    have HX2 := hide (ent_call hb2).1
    have HB2 := hide ((unhide HB1).trans (hb2.mono (Nat.le_trans (unhide HS1) (by simp))))
    clear hb2 HB1
    obtain ⟨⟨c0, c1, c2, c3, c4, c5, c6, c7⟩, _, _⟩ := unhide HX2
    go_wp2_with fail
    refine (specEntryOk_any n y mo d h mi s t _ (unhide HN) htI).mono ?_
    rintro e x3 ⟨rfl, hb3⟩
    have HX3 := hide ((unhide HX2).later hb3 (unhide HX2).2.2)
    have HB3 := hide (bnext (unhide HB2) hb3)
    clear hb3 HX2 HB2 c0 c1 c2 c3 c4 c5 c6 c7
    obtain ⟨⟨c0, c1, c2, c3, c4, c5, c6, c7⟩, _, hlt3⟩ := unhide HX3
    cases hk : entB n y mo d h mi s t
    · go_wp2_with fail
      refine (specEntryOk_any n y mo d h mi s t _ (unhide HN) htI).mono ?_
      rintro e x4 ⟨rfl, hb4⟩
      rw [hk]
      go_wp2
      go_ret
      exact ⟨rfl, bnext (unhide HB3) hb4⟩
    · have HE := hide (ent_yes hk)
      have e4 : (x3.alloc (.cells #[.string n, .int .i64 y, .int .i64 mo, .int .i64 d, .int .i64 h, .int .i64 mi, .int .i64 s, .string ⟨#[]⟩] 31)).heap.size = x3.heap.size + 1 := by simp
      have hq0 : Hid (BOwn ((x3.alloc (.cells #[.string n, .int .i64 y, .int .i64 mo, .int .i64 d, .int .i64 h, .int .i64 mi, .int .i64 s, .string ⟨#[]⟩] 31)).alloc (.cells #[] 5)) (x3.heap.size + 1) (.slice (some ⟨x3.heap.size + 1, 0, none⟩) 0 0) []) := by
        have := BOwn.lit (x3.alloc (.cells #[.string n, .int .i64 y, .int .i64 mo, .int .i64 d, .int .i64 h, .int .i64 mi, .int .i64 s, .string ⟨#[]⟩] 31)) (x3.heap.size + 1) (by rw [e4]; exact Nat.le_refl _)
        rw [e4] at this
        exact this
      have X50 := hide ((ent_alloc x3 n y mo d h mi s ⟨#[]⟩ 31).later ((Below.refl (x3.heap.size + 1) _).alloc (by rw [e4]; exact Nat.le_refl _) (.cells #[] 5)) (Nat.lt_succ_self _))
      have X30 := hide (((unhide HX3).later ((Below.refl x3.heap.size x3).alloc (Nat.le_refl _) (.cells #[.string n, .int .i64 y, .int .i64 mo, .int .i64 d, .int .i64 h, .int .i64 mi, .int .i64 s, .string ⟨#[]⟩] 31)) hlt3).later ((Below.refl (x3.heap.size + 1) _).alloc (by rw [e4]; exact Nat.le_refl _) (.cells #[] 5)) (Nat.lt_succ_of_lt hlt3))
      have HB5 : Hid (Below w.heap.size w ((x3.alloc (.cells #[.string n, .int .i64 y, .int .i64 mo, .int .i64 d, .int .i64 h, .int .i64 mi, .int .i64 s, .string ⟨#[]⟩] 31)).alloc (.cells #[] 5))) := ((unhide HB3).alloc (unhide HB3).size _).alloc (by rw [e4]; exact Nat.le_succ_of_le (unhide HB3).size) _
      have HS3 := hide (unhide HB3).size
      have HL3 := hide hlt3
      clear hk e4 HX3 HB3
      go_wp2_with fail
      go_loopw [6, 7] (fun v i wr => ∃ k : Nat, k ≤ 300 ∧ i = .int .i64 k ∧ BOwn wr (x3.heap.size + 1) v (List.replicate k 109) ∧ Below (x3.heap.size + 1) ((x3.alloc (.cells #[.string n, .int .i64 y, .int .i64 mo, .int .i64 d, .int .i64 h, .int .i64 mi, .int .i64 s, .string ⟨#[]⟩] 31)).alloc (.cells #[] 5)) wr) (fun _ i _ => 300 - (intOf i).toNat)
      case atStart => exact ⟨0, Nat.zero_le _, rfl, unhide hq0, Below.refl _ _⟩
      case round =>
        clear hq0
        obtain ⟨k, hk, rfl, hq, hbel⟩ := hrel
        have hlenk : Hid ((List.replicate k (109 : UInt8)).length = k) := List.length_replicate
        obtain ⟨va, vc, rfl⟩ := hq.formN (unhide hlenk)
        have hbs : x3.heap.size + 1 ≤ wr.heap.size := by have := hbel.size; simp at this; omega
        by_cases hlt : k < 300
        · have hltI : (k : Int) < 300 := by omega
          have hst : Hid (List.replicate k (109 : UInt8) ++ [109] = List.replicate (k + 1) 109) := by show _ = _; rw [List.replicate_succ']
          have bd : Hid (k + 1 ≤ maxLen ∧ (k + 1) * 1 ≤ 140737488355328) := by show _ ∧ _; unfold maxLen; omega
          have hqo := hide (hq.own (unhide hlenk))
          have HBel := hide hbel
          have HLT := hide hlt
          clear hq hbel hk hlt
          go_wp2_with (at_builtin; refine wpList_append_own _ rfl _ _ 34 rfl (x3.heap.size + 1) 5 i0 (.int .u8 0) 1 1 Tryd.underlying34 hi hz0 hz1 hz2 rfl (by decide) _ _ _ rfl (World.ownsRow.alloc (unhide hqo) _) ⟨wr.heap.size, 0, none⟩ 1 1 [.int .u8 109] rfl rfl (one_new _ _ rfl _ _) (one_byte _) (unhide bd).1 (unhide bd).2 (size_alloc_le hbs _) ?_; intro v' y2 hown hgrow hnil; clear hnil)
          have hb2 := hide (grown_step (v := .slice va k vc) hgrow (unhide hqo) (Nat.le_refl _) hbs (unhide HBel))
          have hq2 := bown_snoc (b := 109) (unhide hlenk) hown
          rw [unhide hst] at hq2
          have HQ2 := hide hq2
          clear hown hgrow hq2
          go_wp2
          go_roundw
          case rel => exact ⟨k + 1, by have := unhide HLT; omega, by go_num, unhide HQ2, unhide hb2⟩
          case measure => have := unhide HLT; simp [intOf]; omega
        · obtain rfl : k = 300 := by omega
          have hX : ∃ X : ByteArray, X = ⟨(List.replicate 300 (109 : UInt8)).toArray⟩ := ⟨_, rfl⟩
          obtain ⟨X, hX⟩ := hX
          have HXs : Hid (X.size = 300) := by show _ = _; rw [hX]; show (List.replicate 300 (109 : UInt8)).toArray.size = 300; rw [List.size_toArray, List.length_replicate]
          have hcv1 := (hq.later ((Below.refl wr.heap.size wr).alloc (Nat.le_refl _) (.cells #[.string n, .int .i64 y, .int .i64 mo, .int .i64 d, .int .i64 h, .int .i64 mi, .int .i64 s, .string t] 31)) (Nat.le_refl _)).text
          have hcv2 := (hq.later (((Below.refl wr.heap.size wr).alloc (Nat.le_refl _) (.cells #[.string n, .int .i64 y, .int .i64 mo, .int .i64 d, .int .i64 h, .int .i64 mi, .int .i64 s, .string X] 31)).alloc (by simp) (.cells #[.string n, .int .i64 y, .int .i64 mo, .int .i64 d, .int .i64 h, .int .i64 mi, .int .i64 s, .string t] 31)) (Nat.le_refl _)).text
          rw [← hX] at hcv1 hcv2
          have X3 := hide ((unhide X30).later hbel (Nat.lt_succ_of_lt (unhide HL3)))
          have X5 := hide ((unhide X50).later hbel (Nat.lt_succ_self _))
          have HBr := hide ((unhide HB5).trans (hbel.mono (Nat.le_succ_of_le (unhide HS3))))
          have hXI : (X.size : Int) = 300 := by have := unhide HXs; omega
          clear hq hbel hX X30 X50 HB5 hk hlt hlenk
          have r8 : (wr.alloc (.cells #[.string n, .int .i64 y, .int .i64 mo, .int .i64 d, .int .i64 h, .int .i64 mi, .int .i64 s, .string X] 31)).heap.size = wr.heap.size + 1 := by simp
          have T8 := hide ((ent_alloc wr n y mo d h mi s X 31).later ((Below.refl (wr.heap.size + 1) _).alloc (by rw [r8]; exact Nat.le_refl _) (.cells #[.string n, .int .i64 y, .int .i64 mo, .int .i64 d, .int .i64 h, .int .i64 mi, .int .i64 s, .string (X ++ ⟨#[109]⟩)] 31)) (Nat.lt_succ_self _))
          have T9 : Hid (Ent ((wr.alloc (.cells #[.string n, .int .i64 y, .int .i64 mo, .int .i64 d, .int .i64 h, .int .i64 mi, .int .i64 s, .string X] 31)).alloc (.cells #[.string n, .int .i64 y, .int .i64 mo, .int .i64 d, .int .i64 h, .int .i64 mi, .int .i64 s, .string (X ++ ⟨#[109]⟩)] 31)) (wr.heap.size + 1) n y mo d h mi s (X ++ ⟨#[109]⟩)) := by
            have := ent_alloc (wr.alloc (.cells #[.string n, .int .i64 y, .int .i64 mo, .int .i64 d, .int .i64 h, .int .i64 mi, .int .i64 s, .string X] 31)) n y mo d h mi s (X ++ ⟨#[109]⟩) 31
            rw [r8] at this
            exact this
          have T5 := hide (((unhide X5).later ((Below.refl wr.heap.size wr).alloc (Nat.le_refl _) (.cells #[.string n, .int .i64 y, .int .i64 mo, .int .i64 d, .int .i64 h, .int .i64 mi, .int .i64 s, .string X] 31)) (unhide X5).2.2).later ((Below.refl (wr.heap.size + 1) _).alloc (by rw [r8]; exact Nat.le_refl _) (.cells #[.string n, .int .i64 y, .int .i64 mo, .int .i64 d, .int .i64 h, .int .i64 mi, .int .i64 s, .string (X ++ ⟨#[109]⟩)] 31)) (Nat.lt_succ_of_lt (unhide X5).2.2))
          have TB : Hid (Below w.heap.size w ((wr.alloc (.cells #[.string n, .int .i64 y, .int .i64 mo, .int .i64 d, .int .i64 h, .int .i64 mi, .int .i64 s, .string X] 31)).alloc (.cells #[.string n, .int .i64 y, .int .i64 mo, .int .i64 d, .int .i64 h, .int .i64 mi, .int .i64 s, .string (X ++ ⟨#[109]⟩)] 31))) := ((unhide HBr).alloc (unhide HBr).size _).alloc (by rw [r8]; exact Nat.le_succ_of_le (unhide HBr).size) _
          obtain ⟨⟨p0, p1, p2, p3, p4, p5, p6, p7⟩, _, hl3⟩ := unhide X3
          obtain ⟨⟨d0, d1, d2, d3, d4, d5, d6, d7⟩, _, hl5⟩ := unhide X5
          have hs0 : Hid (entB n y mo d h mi s ⟨#[]⟩ = true) := by show _ = _; rw [unhide HE]; decide
          have hsX : Hid (entB n y mo d h mi s X = true) := by show _ = _; rw [unhide HE, unhide HXs]; decide
          have hsY : Hid (entB n y mo d h mi s (X ++ ⟨#[109]⟩) = false) := by show _ = _; rw [unhide HE, ByteArray.size_append, unhide HXs]; decide
          have HYs : Hid (((X ++ (⟨#[109]⟩ : ByteArray)).size : Int) ≤ 9223372036854775807) := by
            show _ ≤ _
            rw [ByteArray.size_append, unhide HXs]; decide
          clear X3 X5 HE r8
          go_wp2_with fail
          refine (implEntryOk_any n y mo d h mi s ⟨#[]⟩ m _ (unhide HN) (by decide) (unhide CM _ (unhide TB))).mono ?_
          rintro e y1 ⟨rfl, hb1⟩
          rw [unhide hs0]
          have U8 := hide ((unhide T8).later hb1 (unhide T8).2.2)
          have U9 := hide ((unhide T9).later hb1 (unhide T9).2.2)
          have UB := hide (bnext (unhide TB) hb1)
          clear hb1 T8 T9 T5 TB p0 p1 p2 p3 p4 p5 p6 p7 d0 d1 d2 d3 d4 d5 d6 d7
          obtain ⟨⟨p0, p1, p2, p3, p4, p5, p6, p7⟩, _, _⟩ := unhide U8
          go_wp2_with fail
          refine (implEntryOk_any n y mo d h mi s X m _ (unhide HN) (by omega) (unhide CM _ (unhide UB))).mono ?_
          rintro e y2 ⟨rfl, hb2⟩
          rw [unhide hsX]
          have Q9 := hide ((unhide U9).later hb2 (unhide U9).2.2)
          have QB := hide (bnext (unhide UB) hb2)
          clear hb2 U8 U9 UB p0 p1 p2 p3 p4 p5 p6 p7
          obtain ⟨⟨p0, p1, p2, p3, p4, p5, p6, p7⟩, _, _⟩ := unhide Q9
          have CC := implEntryOk_any n y mo d h mi s (X ++ (⟨#[109]⟩ : ByteArray)) m y2 (unhide HN) (unhide HYs) (unhide CM _ (unhide QB))
          rw [unhide hsY] at CC
          have HCC := hide CC
          clear CC
          generalize hYY : X ++ (⟨#[109]⟩ : ByteArray) = Y at *
          go_wp2_with fail
          refine (unhide HCC).mono ?_
          rintro e y3 ⟨rfl, hb3⟩
          have FB := hide (bnext (unhide QB) hb3)
          clear hb3
          go_wp2
          go_ret
          exact ⟨rfl, unhide FB⟩
  · go_enter Tryd.func7, Tryd.ntmps7
    go_wp2
    go_ret
    exact ⟨rfl, Below.refl _ _⟩

end Go.Proofs.YtggklkemcapbfaaDoor
