/- The walk of the law of parts of a name. -/
import Derived.Test.YtggklkemcapbfaaDoorNl2
namespace Go.Proofs.YtggklkemcapbfaaDoor
open Go.RowKit

set_option maxHeartbeats 4000000 in
theorem fnNameParts_walk (a : Option Addr) (len cap : Nat) (zs : List Int) (m : Int) (w : World) (w0 : IsRow .u8 w a len cap zs) (hm : w.cell? ⟨0, 0, none⟩ = some (.int .i64 m)) :
    Calls Tryd.prog 6 #[.slice a len cap] w fun e w' => e = .returned (.bool true) ∧ Below w.heap.size w w' := by
  obtain ⟨⟨z, hsrc⟩, hc, hlen⟩ := src_of w0
  have hlen' := hide hlen
  have HM := hide hm
  have hmb := hide (World.block_lt_of_cell? _ _ hm)
  have CM := hide (fun W (hb : Below w.heap.size w W) => (hb.cell (p := ⟨0, 0, none⟩) (unhide hmb)).trans (unhide HM))
  unfold maxLen at hlen
  clear w0 hm
  by_cases hl : (len : Int) ≤ 1048576
  · go_enter Tryd.func6, Tryd.ntmps6
    go_wp2_with fail
    refine (drawNameOk_any a len cap z _ hsrc hc (unhide hlen')).mono ?_
    rintro e x1 ⟨s, hs, rfl, hb1⟩
    have hsz := (names_all s hs).1
    have hN := parts_all s hs
    have HSZ := hide hsz
    have hszI : (s.size : Int) ≤ 100 := by omega
    have B1 := hide hb1
    clear hs hsrc hsz hb1
    go_wp2_with fail
    refine (implNameOk_any s m _ (by have := unhide HSZ; omega) (unhide CM _ (unhide B1))).mono ?_
    rintro e x2 ⟨rfl, hb2⟩
    have B2 := hide (bnext (unhide B1) hb2)
    clear hb2 B1
    go_wp2_with fail
    refine (specNameOk_any s _ (by have := unhide HSZ; omega)).mono ?_
    rintro e x3 ⟨rfl, hb3⟩
    have B3 := hide (bnext (unhide B2) hb3)
    clear hb3 B2
    cases hk : nameB s.data.toList
    · go_wp2_with fail
      refine (specNameOk_any s _ (by have := unhide HSZ; omega)).mono ?_
      rintro e x4 ⟨rfl, hb4⟩
      rw [hk]
      go_wp2
      go_ret
      exact ⟨rfl, bnext (unhide B3) hb4⟩
    · obtain ⟨q1, q2, q3⟩ := hN hk
      have Q1 := hide q1
      have Q2 := hide q2
      have Q3 := hide q3
      clear hN q1 q2 q3 hk
      go_wp2_with fail
      go_loopw [5, 6, 7] (fun pa fr i wr => ∃ (k F : Nat), k ≤ s.size + 1 ∧ i = .int .i64 k ∧ fr = .int .i64 F ∧ (k ≤ s.size → F = frm s.data.toList k) ∧ pa = .int .i64 (prt s.data.toList k : Nat) ∧ Below w.heap.size w wr) (fun _ _ i _ => s.size + 1 - (intOf i).toNat)
      case atStart => exact ⟨0, 0, by omega, rfl, rfl, fun _ => rfl, rfl, unhide B3⟩
      case round =>
        obtain ⟨k, F, hk, rfl, rfl, hF, rfl, hbel⟩ := hrel
        have HBel := hide hbel
        have hpl := prt_le s.data.toList k
        have hplI : (prt s.data.toList k : Int) ≤ 200 := by have := unhide HSZ; omega
        have HK := hide hk
        clear hbel hpl
        by_cases hkn : k ≤ s.size
        · obtain rfl := hF hkn
          have hfl := frm_le s.data.toList k
          have hflI : (frm s.data.toList k : Int) ≤ (k : Int) := by omega
          have hknI : (k : Int) ≤ (s.size : Int) := by omega
          have HFk : Hid (k + 1 ≤ s.size → s.data.toList.getD k 0 = 47 → k + 1 = frm s.data.toList (k + 1)) := fun _ h => by rw [frm, if_pos h]
          have HFn : Hid (¬ s.data.toList.getD k 0 = 47 → frm s.data.toList k = frm s.data.toList (k + 1)) := fun h => by rw [frm, if_neg h]
          have HPk : Hid (s.data.toList.getD k 0 = 47 → prt s.data.toList (k + 1) = prt s.data.toList k + 1) := fun h => by rw [prt, if_pos h]
          have HPn : Hid (¬ s.data.toList.getD k 0 = 47 → prt s.data.toList (k + 1) = prt s.data.toList k) := fun h => by rw [prt, if_neg h]
          have HQ := hide (fun h => (congrArg nameB (ex_list s (frm s.data.toList k) k)).trans (unhide Q1 k hkn h))
          have HES : Hid ((s.extract (frm s.data.toList k) k).size ≤ 1048576) := by
            show _ ≤ _
            have := unhide HSZ
            rw [ByteArray.size_extract]; omega
          generalize frm s.data.toList k = F at *
          generalize prt s.data.toList k = T at *
          clear hF hk
          by_cases hke : k = s.size
          · subst hke
            have HT := hide (unhide HQ (.inl rfl))
            have HP1 : Hid (prt s.data.toList (s.size + 1) = T) := unhide HPn (by
              rw [List.getD, List.getElem?_eq_none (by simp)]; decide)
            clear HQ HFk HFn HPk HPn hkn hknI
            go_wp2_with fail
            refine (implNameOk_any _ m _ (unhide HES) (unhide CM _ (unhide HBel))).mono ?_
            rintro e y1 ⟨rfl, hb⟩
            rw [unhide HT]
            have B5 := hide (bnext (unhide HBel) hb)
            clear hb
            go_wp2
            go_roundw
            case rel => exact ⟨s.size + 1, s.size + 1, by omega, by go_num, by go_num, fun h => by omega, by rw [unhide HP1], unhide B5⟩
            case measure => simp [intOf]
          · have hlt : k < s.size := by omega
            have hltI : (k : Int) < (s.size : Int) := by omega
            have hneI : ¬ (k : Int) = (s.size : Int) := by omega
            by_cases hb7 : s[k].toNat = 47
            · have hbI : (s[k].toNat : Int) = 47 := by omega
              have hg := (byte_at s k hlt).2 hb7
              have HT := hide (unhide HQ (.inr hg))
              have HP1 := hide (unhide HPk hg)
              have HF1 := hide (unhide HFk (by omega) hg)
              clear hg HQ HFk HFn HPk HPn
              go_wp2_with fail
              refine (implNameOk_any _ m _ (unhide HES) (unhide CM _ (unhide HBel))).mono ?_
              rintro e y1 ⟨rfl, hb⟩
              rw [unhide HT]
              have B5 := hide (bnext (unhide HBel) hb)
              clear hb
              go_wp2
              go_roundw
              case rel => exact ⟨k + 1, k + 1, by omega, by go_num, by go_num, fun _ => unhide HF1, by rw [unhide HP1]; go_num, unhide B5⟩
              case measure => simp [intOf]; omega
            · have hbI : ¬ (s[k].toNat : Int) = 47 := by omega
              have hg : ¬ s.data.toList.getD k 0 = 47 := fun h => hb7 ((byte_at s k hlt).1 h)
              have HP1 := hide (unhide HPn hg)
              have HF1 := hide (unhide HFn hg)
              clear hg HQ HFk HFn HPk HPn
              have hbB : ((s[k].toNat : Int) == 47) = false := by simp; omega
              have hkB : ((k : Int) == (s.size : Int)) = false := by simp; omega
              go_wp2_with fail
              all_goals first
                | (go_roundw
                   case rel => exact ⟨k + 1, F, by omega, by go_num, rfl, fun _ => unhide HF1, by rw [unhide HP1], unhide HBel⟩
                   case measure => simp [intOf]; omega)
                | (exfalso; rename_i hx; first | omega | (simp at hx; omega))
                | (exfalso; rename_i hx _; first | omega | (simp at hx; omega))
        · obtain rfl : k = s.size + 1 := by omega
          have hpe := prt_end s
          have HAP : Hid (nameB (s ++ (⟨#[47, 120]⟩ : ByteArray)).data.toList = decide (prt s.data.toList s.size < 4)) := by
            show _ = _
            rw [← unhide Q3]; congr 1
          have Q2' := unhide Q2
          rw [hpe]
          clear hpe hF hplI Q1 Q3 Q2
          generalize prt s.data.toList s.size = T at *
          have hT4 : (T : Int) ≤ 4 := by omega
          go_wp2_with fail
          refine (implNameOk_any _ m _ (by rw [ByteArray.size_append]; have := unhide HSZ; show s.size + 2 ≤ _; omega) (unhide CM _ (unhide HBel))).mono ?_
          rintro e y1 ⟨rfl, hb⟩
          rw [unhide HAP]
          have B5 := hide (bnext (unhide HBel) hb)
          clear hb
          by_cases hT : T < 4
          · have hTI : (T : Int) < 4 := by omega
            go_wp2
            go_ret
            exact ⟨ret_bool (by simp), unhide B5⟩
          · have hTI : ¬ (T : Int) < 4 := by omega
            go_wp2
            go_ret
            exact ⟨ret_bool (by simp; omega), unhide B5⟩
  · go_enter Tryd.func6, Tryd.ntmps6
    go_wp2
    go_ret
    exact ⟨rfl, Below.refl _ _⟩

end Go.Proofs.YtggklkemcapbfaaDoor
