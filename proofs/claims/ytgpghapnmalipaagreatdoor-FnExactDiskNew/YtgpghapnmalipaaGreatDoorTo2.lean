/- Contracts of the model's tokens of a text, over this seat's program. -/
import Derived.Test.YtgpghapnmalipaaGreatDoorTo1
import Derived.Test.YtgpghapnmalipaaGreatDoorM8
import Derived.Test.YtgpghapnmalipaaGreatDoorAr1
namespace Go.Proofs.YtgpghapnmalipaaGreatDoor
open Go.RowKit
theorem bestF_yes {L : List UInt8} {p k : Nat} (h : (bestF L p k).1 < agN L p (k + 1)) : bestF L p (k + 1) = (agN L p (k + 1), k + 1) := by simp only [bestF]; rw [if_pos h]
theorem bestF_no {L : List UInt8} {p k : Nat} (h : ¬ (bestF L p k).1 < agN L p (k + 1)) : bestF L p (k + 1) = bestF L p k := by simp only [bestF]; rw [if_neg h]
set_option maxRecDepth 100000 in
set_option maxHeartbeats 6400000 in
theorem l4Tokens_any (s : ByteArray) (w : World) (hs : s.size ≤ 100000) :
    Calls Tryz.prog 120 #[.string s] w fun e w' => ∃ v, e = .returned v ∧ KOwn w' w.heap.size v (toksP s.data.toList 0) ∧ Below w.heap.size w w' := by
  obtain ⟨i0, hi, hz0, hz1, hz2⟩ := info_parts Tryz.infoTok
  have hsI : (s.size : Int) ≤ 100000 := by omega
  have HS := hide hs
  have hL := hide (str_len s)
  have hl0 : KOwn (w.alloc (.cells #[] 232)) w.heap.size (.slice (some ⟨w.heap.size, 0, none⟩) 0 0) [] := KOwn.lit _ _ (Nat.le_refl _)
  have hb0 : Below w.heap.size w (w.alloc (.cells #[] 232)) := (Below.refl _ _).alloc (Nat.le_refl _) _
  clear hs
  go_enter Tryz.func120, Tryz.ntmps120
  go_wp2_with fail
  go_loopw [3, 4, 5, 6, 7, 8] (fun v i _ _ _ _ wr => ∃ (p : Nat) (D : List Tk), p ≤ s.size ∧ i = .int .i64 p ∧ KOwn wr w.heap.size v D ∧ D ++ toksP s.data.toList p = toksP s.data.toList 0 ∧ D.length ≤ p ∧ Below w.heap.size w wr) (fun _ i _ _ _ _ _ => s.size - (intOf i).toNat)
  case atStart => exact ⟨0, [], Nat.zero_le _, rfl, hl0, rfl, Nat.le_refl _, hb0⟩
  case round =>
    obtain ⟨p, D, hp, rfl, hq, hD, hDl, hbel⟩ := hrel
    clear hl0 hb0
    obtain ⟨va, vc, rfl⟩ := hq.form
    by_cases hlt : p < s.size
    · have hltI : (p : Int) < (s.size : Int) := by omega
      have HQ := hide (And.intro hq (And.intro hD (And.intro hDl (And.intro hbel hp))))
      clear hq hD hDl hbel hp
      go_wp2_with fail
      go_loopw [5, 6, 7, 8] (fun lo fa ba _ wq => ∃ k : Nat, k ≤ min p 250 ∧ ba = .int .i64 ((k : Int) + 1) ∧ lo = .int .i64 ((bestF s.data.toList p k).1 : Nat) ∧ fa = .int .i64 ((bestF s.data.toList p k).2 : Nat) ∧ Below wr.heap.size wr wq) (fun _ _ ba _ _ => 252 - (intOf ba).toNat)
      case atStart => exact ⟨0, Nat.zero_le _, rfl, rfl, rfl, Below.refl _ _⟩
      case round =>
        obtain ⟨k, hk, rfl, rfl, rfl, hbq⟩ := hrel
        have hbd := (bestF_le s.data.toList p k).1
        have HK := hide hk
        have hbI : ((bestF s.data.toList p k).1 : Int) ≤ 60 := by omega
        obtain ⟨b, hb⟩ : ∃ b : Nat, k + 1 = b := ⟨_, rfl⟩
        have hbbI : (k : Int) + 1 = (b : Int) := by omega
        have HB := hide hb
        by_cases h250 : (b : Int) ≤ 250
        · by_cases hbp : (b : Int) ≤ (p : Int)
          · have HA := hide (l4Again_any s p b wr (by have := unhide HS; omega) (by omega) (by omega) (by omega))
            have hyes := hide (fun h => bestF_yes (L := s.data.toList) (p := p) (k := k) h)
            have hno := hide (fun h => bestF_no (L := s.data.toList) (p := p) (k := k) h)
            have hag := agN_le s.data.toList p b
            have hagI : (agN s.data.toList p b : Int) ≤ 60 := by omega
            rw [hb] at hyes hno
            clear hk hbd hb hag
            generalize bestF s.data.toList p k = B at *
            obtain ⟨B1, B2⟩ := B
            simp only at hbI hyes hno ⊢
            generalize agN s.data.toList p b = A at *
            by_cases hc : B1 < A
            · have hcI : (B1 : Int) < (A : Int) := by omega
              have e1 := hide (unhide hyes hc)
              clear hyes hno hc
              go_wp2_with fail
              refine (unhide HA).mono ?_
              rintro e x1 ⟨rfl, hb1⟩
              go_wp2
              go_roundw
              case rel => exact ⟨k + 1, by have := unhide HB; omega, by have := unhide HB; go_num, by have := unhide HB; rw [this, unhide e1], by have := unhide HB; rw [this, unhide e1], bnext hbq hb1⟩
              case measure => simp [intOf]; omega
            · have hcI : ¬ (B1 : Int) < (A : Int) := by omega
              have e1 := hide (unhide hno hc)
              clear hyes hno hc
              go_wp2_with fail
              refine (unhide HA).mono ?_
              rintro e x1 ⟨rfl, hb1⟩
              go_wp2
              go_roundw
              case rel => exact ⟨k + 1, by have := unhide HB; omega, by have := unhide HB; go_num, by have := unhide HB; rw [this, unhide e1], by have := unhide HB; rw [this, unhide e1], bnext hbq hb1⟩
              case measure => simp [intOf]; omega
          · have hbp' : ¬ (b : Int) ≤ (p : Int) := hbp
            have hkm : Hid (k = min p 250) := by show k = min p 250; have := unhide HK; have := unhide HB; omega
            have hst := hide (toksP_step (L := s.data.toList) (p := p) (by rw [unhide hL]; exact hlt))
            have hsi := hide (sizP_in (L := s.data.toList) (p := p) (by rw [unhide hL]; exact hlt))
            have htk : Hid (tokP s.data.toList p = if (bestF s.data.toList p k).1 < 3 then (((s.data.toList.getD p 0).toNat : Int), 0, 0) else (0, ((bestF s.data.toList p k).1 : Int), ((bestF s.data.toList p k).2 : Int))) := by show _ = _; unfold tokP; rw [unhide hkm]
            have hsz : Hid (sizP s.data.toList p = if (bestF s.data.toList p k).1 < 3 then 1 else (bestF s.data.toList p k).1) := by show _ = _; unfold sizP; rw [unhide hkm]
            have hgx := hide (str_at s p hlt)
            have hx256 : (s[p].toNat : Int) < 256 := by have := UInt8.toNat_lt s[p]; omega
            have hq' := hide ((unhide HQ).1.later hbq (Nat.le_refl _))
            have hB' := hide (bnext (unhide HQ).2.2.2.1 hbq)
            have hbs := (unhide hB').size
            have bd : Hid (D.length + 1 ≤ maxLen ∧ (D.length + 1) * 24 ≤ 140737488355328) := by show _ ∧ _; have := (unhide HQ).2.2.1; have := unhide HS; unfold maxLen; omega
            clear hk hbd hb
            generalize bestF s.data.toList p k = B at *
            obtain ⟨B1, B2⟩ := B
            simp only at hbI htk hsz ⊢
            by_cases hc : B1 < 3
            · have hcI : (B1 : Int) < 3 := by omega
              have e1 : Hid (tokP s.data.toList p = ((s[p].toNat : Int), 0, 0)) := by show _ = _; rw [unhide htk, if_pos hc, unhide hgx]
              have e2 : Hid (sizP s.data.toList p = 1) := by show _ = _; rw [unhide hsz, if_pos hc]
              clear hc htk hsz
              go_wp2_with (at_builtin; refine wpList_append_own _ rfl _ _ 203 rfl w.heap.size 232 i0 (.agg #[.int .i64 0, .int .i64 0, .int .i64 0]) 3 24 Tryz.underlying203 hi hz0 hz1 hz2 rfl (by decide) _ _ _ rfl (World.ownsRow.alloc (unhide hq') _) ⟨wr.heap.size, 0, none⟩ 1 1 [.int .i64 (s[p].toNat : Int), .int .i64 0, .int .i64 0] rfl rfl (k3_new _ _ _ _ _ _ rfl) (k3_one _ _ _) (unhide bd).1 (unhide bd).2 (size_alloc_le hbs _) ?_; intro v' x2 hown hgrow hnil; clear hnil)
              have hb2 := grown_step (v := .slice va D.length vc) hgrow (unhide hq') (Nat.le_refl _) hbs (unhide hB')
              have hq2 := kown_snoc rfl hown
              rw [← unhide e1] at hq2
              clear hown hgrow
              go_wp2
              go_roundw
              case rel =>
                obtain ⟨_, hD, hDl, _, hp⟩ := unhide HQ
                have h1 := unhide hsi
                have h2 := unhide e2
                rw [h2, unhide hL] at h1
                refine ⟨p + 1, D ++ [tokP s.data.toList p], h1, by go_num, hq2, ?_, by rw [List.length_append, List.length_singleton]; omega, hb2⟩
                rw [← hD, unhide hst, h2, List.append_assoc]
                rfl
              case measure => simp [intOf]; omega
            · have hcI : ¬ (B1 : Int) < 3 := by omega
              have e1 : Hid (tokP s.data.toList p = (0, (B1 : Int), (B2 : Int))) := by show _ = _; rw [unhide htk, if_neg hc]
              have e2 : Hid (sizP s.data.toList p = B1) := by show _ = _; rw [unhide hsz, if_neg hc]
              have Hc := hide hc
              clear hc htk hsz
              go_wp2_with (at_builtin; refine wpList_append_own _ rfl _ _ 203 rfl w.heap.size 232 i0 (.agg #[.int .i64 0, .int .i64 0, .int .i64 0]) 3 24 Tryz.underlying203 hi hz0 hz1 hz2 rfl (by decide) _ _ _ rfl (World.ownsRow.alloc (unhide hq') _) ⟨wr.heap.size, 0, none⟩ 1 1 [.int .i64 0, .int .i64 (B1 : Int), .int .i64 (B2 : Int)] rfl rfl (k3_new _ _ _ _ _ _ rfl) (k3_one _ _ _) (unhide bd).1 (unhide bd).2 (size_alloc_le hbs _) ?_; intro v' x2 hown hgrow hnil; clear hnil)
              have hb2 := grown_step (v := .slice va D.length vc) hgrow (unhide hq') (Nat.le_refl _) hbs (unhide hB')
              have hq2 := kown_snoc rfl hown
              rw [← unhide e1] at hq2
              clear hown hgrow
              go_wp2
              go_roundw
              case rel =>
                obtain ⟨_, hD, hDl, _, hp⟩ := unhide HQ
                have h1 := unhide hsi
                have h2 := unhide e2
                have h3 := unhide Hc
                rw [h2, unhide hL] at h1
                refine ⟨p + B1, D ++ [tokP s.data.toList p], h1, by go_num, hq2, ?_, by rw [List.length_append, List.length_singleton]; omega, hb2⟩
                rw [← hD, unhide hst, h2, List.append_assoc]
                rfl
              case measure => have h3 := unhide Hc; simp [intOf]; omega
        · have h250' : ¬ (b : Int) ≤ 250 := h250
          have hkm : Hid (k = min p 250) := by show k = min p 250; have := unhide HK; have := unhide HB; omega
          have hst := hide (toksP_step (L := s.data.toList) (p := p) (by rw [unhide hL]; exact hlt))
          have hsi := hide (sizP_in (L := s.data.toList) (p := p) (by rw [unhide hL]; exact hlt))
          have htk : Hid (tokP s.data.toList p = if (bestF s.data.toList p k).1 < 3 then (((s.data.toList.getD p 0).toNat : Int), 0, 0) else (0, ((bestF s.data.toList p k).1 : Int), ((bestF s.data.toList p k).2 : Int))) := by show _ = _; unfold tokP; rw [unhide hkm]
          have hsz : Hid (sizP s.data.toList p = if (bestF s.data.toList p k).1 < 3 then 1 else (bestF s.data.toList p k).1) := by show _ = _; unfold sizP; rw [unhide hkm]
          have hgx := hide (str_at s p hlt)
          have hx256 : (s[p].toNat : Int) < 256 := by have := UInt8.toNat_lt s[p]; omega
          have hq' := hide ((unhide HQ).1.later hbq (Nat.le_refl _))
          have hB' := hide (bnext (unhide HQ).2.2.2.1 hbq)
          have hbs := (unhide hB').size
          have bd : Hid (D.length + 1 ≤ maxLen ∧ (D.length + 1) * 24 ≤ 140737488355328) := by show _ ∧ _; have := (unhide HQ).2.2.1; have := unhide HS; unfold maxLen; omega
          clear hk hbd hb
          generalize bestF s.data.toList p k = B at *
          obtain ⟨B1, B2⟩ := B
          simp only at hbI htk hsz ⊢
          by_cases hc : B1 < 3
          · have hcI : (B1 : Int) < 3 := by omega
            have e1 : Hid (tokP s.data.toList p = ((s[p].toNat : Int), 0, 0)) := by show _ = _; rw [unhide htk, if_pos hc, unhide hgx]
            have e2 : Hid (sizP s.data.toList p = 1) := by show _ = _; rw [unhide hsz, if_pos hc]
            clear hc htk hsz
            go_wp2_with (at_builtin; refine wpList_append_own _ rfl _ _ 203 rfl w.heap.size 232 i0 (.agg #[.int .i64 0, .int .i64 0, .int .i64 0]) 3 24 Tryz.underlying203 hi hz0 hz1 hz2 rfl (by decide) _ _ _ rfl (World.ownsRow.alloc (unhide hq') _) ⟨wr.heap.size, 0, none⟩ 1 1 [.int .i64 (s[p].toNat : Int), .int .i64 0, .int .i64 0] rfl rfl (k3_new _ _ _ _ _ _ rfl) (k3_one _ _ _) (unhide bd).1 (unhide bd).2 (size_alloc_le hbs _) ?_; intro v' x2 hown hgrow hnil; clear hnil)
            have hb2 := grown_step (v := .slice va D.length vc) hgrow (unhide hq') (Nat.le_refl _) hbs (unhide hB')
            have hq2 := kown_snoc rfl hown
            rw [← unhide e1] at hq2
            clear hown hgrow
            go_wp2
            go_roundw
            case rel =>
              obtain ⟨_, hD, hDl, _, hp⟩ := unhide HQ
              have h1 := unhide hsi
              have h2 := unhide e2
              rw [h2, unhide hL] at h1
              refine ⟨p + 1, D ++ [tokP s.data.toList p], h1, by go_num, hq2, ?_, by rw [List.length_append, List.length_singleton]; omega, hb2⟩
              rw [← hD, unhide hst, h2, List.append_assoc]
              rfl
            case measure => simp [intOf]; omega
          · have hcI : ¬ (B1 : Int) < 3 := by omega
            have e1 : Hid (tokP s.data.toList p = (0, (B1 : Int), (B2 : Int))) := by show _ = _; rw [unhide htk, if_neg hc]
            have e2 : Hid (sizP s.data.toList p = B1) := by show _ = _; rw [unhide hsz, if_neg hc]
            have Hc := hide hc
            clear hc htk hsz
            go_wp2_with (at_builtin; refine wpList_append_own _ rfl _ _ 203 rfl w.heap.size 232 i0 (.agg #[.int .i64 0, .int .i64 0, .int .i64 0]) 3 24 Tryz.underlying203 hi hz0 hz1 hz2 rfl (by decide) _ _ _ rfl (World.ownsRow.alloc (unhide hq') _) ⟨wr.heap.size, 0, none⟩ 1 1 [.int .i64 0, .int .i64 (B1 : Int), .int .i64 (B2 : Int)] rfl rfl (k3_new _ _ _ _ _ _ rfl) (k3_one _ _ _) (unhide bd).1 (unhide bd).2 (size_alloc_le hbs _) ?_; intro v' x2 hown hgrow hnil; clear hnil)
            have hb2 := grown_step (v := .slice va D.length vc) hgrow (unhide hq') (Nat.le_refl _) hbs (unhide hB')
            have hq2 := kown_snoc rfl hown
            rw [← unhide e1] at hq2
            clear hown hgrow
            go_wp2
            go_roundw
            case rel =>
              obtain ⟨_, hD, hDl, _, hp⟩ := unhide HQ
              have h1 := unhide hsi
              have h2 := unhide e2
              have h3 := unhide Hc
              rw [h2, unhide hL] at h1
              refine ⟨p + B1, D ++ [tokP s.data.toList p], h1, by go_num, hq2, ?_, by rw [List.length_append, List.length_singleton]; omega, hb2⟩
              rw [← hD, unhide hst, h2, List.append_assoc]
              rfl
            case measure => have h3 := unhide Hc; simp [intOf]; omega
    · have hltI : ¬ (p : Int) < (s.size : Int) := by omega
      have e0 : toksP s.data.toList p = [] := toksP_end (by rw [unhide hL]; exact hlt)
      rw [e0, List.append_nil] at hD
      have HD := hide hD
      clear hD e0
      go_wp2
      go_ret
      exact ⟨_, rfl, by rw [← unhide HD]; exact hq, hbel⟩
end Go.Proofs.YtgpghapnmalipaaGreatDoor