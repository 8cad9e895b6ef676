/- A text is cut at each slash: the model's. -/
import Derived.Test.YtjldafkcolmfeaaDoorNm1
import Derived.Test.YtjldafkcolmfeaaDoorSr1
namespace Go.Proofs.YtjldafkcolmfeaaDoor
open Go.RowKit

theorem cut_yes {Q : List (List UInt8)} {x t : List UInt8} (h : Q ++ [x] = cutG [] t) : cutG [] (t ++ [47]) = (Q ++ [x]) ++ [[]] := by
  rw [cutG_snoc, if_pos rfl, h]
theorem cut_no {Q : List (List UInt8)} {x t : List UInt8} {b : UInt8} (h : Q ++ [x] = cutG [] t) (hb : ¬ b = 47) : cutG [] (t ++ [b]) = Q ++ [x ++ [b]] := by
  rw [cutG_snoc, if_neg hb, ← h]; simp
theorem ex_list (s : ByteArray) (f k : Nat) : (s.extract f k).data.toList = (s.data.toList.take k).drop f := by
  rw [Lib.extract_data]; simp [List.drop_take]
theorem ex_snoc (s : ByteArray) (f k : Nat) (hf : f ≤ k) (hk : k < s.size) : (s.extract f (k + 1)).data.toList = (s.extract f k).data.toList ++ [s[k]] := by
  have hk' : k < s.data.toList.length := by simpa using hk
  rw [ex_list, ex_list, List.take_succ_eq_append_getElem hk', List.drop_append_of_le_length (by simp; omega)]
  rfl
theorem take_snocB (s : ByteArray) (k : Nat) (hk : k < s.size) : s.data.toList.take (k + 1) = s.data.toList.take k ++ [s[k]] := by
  have hk' : k < s.data.toList.length := by simpa using hk
  rw [List.take_succ_eq_append_getElem hk']
  rfl
theorem ex_same (s : ByteArray) (k : Nat) : (s.extract k k).data.toList = [] := by
  rw [ex_list]; simp

theorem step_yes {Q : List (List UInt8)} {x : List UInt8} (s : ByteArray) (k : Nat) (hk : k < s.size) (hb : s[k].toNat = 47) (h : Q ++ [x] = cutG [] (s.data.toList.take k)) : cutG [] (s.data.toList.take (k + 1)) = (Q ++ [x]) ++ [[]] := by
  have e : s[k] = 47 := UInt8.toNat_inj.1 hb
  rw [take_snocB s k hk, e]
  exact cut_yes h
theorem step_no {Q : List (List UInt8)} (s : ByteArray) (f k : Nat) (hf : f ≤ k) (hk : k < s.size) (hb : ¬ s[k].toNat = 47) (h : Q ++ [(s.extract f k).data.toList] = cutG [] (s.data.toList.take k)) : cutG [] (s.data.toList.take (k + 1)) = Q ++ [(s.extract f (k + 1)).data.toList] := by
  have e : ¬ s[k] = 47 := fun e => hb (by rw [e]; rfl)
  rw [take_snocB s k hk, ex_snoc s f k hf hk]
  exact cut_no h e

set_option maxRecDepth 100000 in
set_option maxHeartbeats 1600000 in
theorem l1Cut_any (s : ByteArray) (w : World) (hs : s.size ≤ 1048576) :
    Calls Tryd.prog 20 #[.string s, .int .u8 47, .int .i64 ((s.size : Int) + 1)] w fun e w' => ∃ v P, e = .returned v ∧ SOwn w' w.heap.size v P ∧ P.map (·.data.toList) = cutP s.data.toList ∧ Below w.heap.size w w' := by
  obtain ⟨i0, hi, hz0, hz1, hz2⟩ := info_parts Tryd.infoStr
  have hsI : (s.size : Int) ≤ 1048576 := by omega
  have HSZ := hide hs
  have hq0 := hide (SOwn.lit w w.heap.size (Nat.le_refl _))
  have hb0 : Hid (Below w.heap.size w (w.alloc (.cells #[] 9))) := (Below.refl _ _).alloc (Nat.le_refl _) _
  clear hs
  go_enter Tryd.func20, Tryd.ntmps20
  go_wp2_with fail
  go_loopw [7, 8, 9] (fun v fr i wr => ∃ (k f : Nat) (P : List ByteArray), k ≤ s.size ∧ f ≤ k ∧ i = .int .i64 k ∧ fr = .int .i64 f ∧ SOwn wr w.heap.size v P ∧ P.length ≤ k ∧ P.map (·.data.toList) ++ [(s.extract f k).data.toList] = cutG [] (s.data.toList.take k) ∧ Below w.heap.size w wr) (fun _ _ i _ => s.size - (intOf i).toNat)
  case atStart => exact ⟨0, 0, [], Nat.zero_le _, Nat.le_refl _, rfl, rfl, unhide hq0, Nat.le_refl _, by simp [cutG], unhide hb0⟩
  case round =>
    obtain ⟨k, f, P, hk, hf, rfl, rfl, hq, hPl, hcut, hbel⟩ := hrel
    obtain ⟨m, hm⟩ : ∃ m, P.length = m := ⟨_, rfl⟩
    rw [hm] at hPl
    have hmI : (m : Int) ≤ (k : Int) := by omega
    have hkI : (k : Int) ≤ (s.size : Int) := by omega
    have hfI : (f : Int) ≤ (k : Int) := by omega
    have HM := hide hm
    obtain ⟨va, vc, rfl⟩ := hq.formN hm
    have hqo := hide (hq.own hm)
    have hbs := hbel.size
    have HBel := hide hbel
    have HCut := hide hcut
    have HF := hide hf
    have HK := hide hk
    have bd : Hid (m + 1 ≤ maxLen ∧ (m + 1) * 16 ≤ 140737488355328) := by have := unhide HSZ; show _ ∧ _; unfold maxLen; omega
    have HPl := hide hPl
    clear hq hbel hm hcut hPl
    by_cases hlt : k < s.size
    · have hltI : (k : Int) < (s.size : Int) := by omega
      have hmS : (m : Int) < (s.size : Int) + 1 := by omega
      have HLt := hide hlt
      by_cases hb : s[k].toNat = 47
      · have hbI : (s[k].toNat : Int) = 47 := by omega
        have HE := hide (step_yes s k hlt hb (unhide HCut))
        go_wp2_with (at_builtin; refine wpList_append_own _ rfl _ _ 38 rfl w.heap.size 9 i0 (.string ByteArray.empty) 1 16 Tryd.underlying38 hi hz0 hz1 hz2 rfl (by decide) _ _ _ rfl (World.ownsRow.alloc (unhide hqo) _) ⟨wr.heap.size, 0, none⟩ 1 1 [.string (s.extract f k)] rfl rfl (one_new _ _ rfl _ _) (one_str _) (unhide bd).1 (unhide bd).2 (size_alloc_le hbs _) ?_; intro v' x2 hown hgrow hnil; clear hnil)
        have hb2 := grown_step (v := .slice va m vc) hgrow (unhide hqo) (Nat.le_refl _) hbs (unhide HBel)
        have hq2 := hide (sown_snoc (b := s.extract f k) (unhide HM) hown)
        have HB2 := hide hb2
        clear hown hgrow hb2
        go_wp2
        go_roundw
        case rel =>
          refine ⟨k + 1, k + 1, P ++ [s.extract f k], by have := unhide HLt; omega, Nat.le_refl _, by go_num, by go_num, unhide hq2, by have := unhide HM; have := unhide HPl; simp; omega, ?_, unhide HB2⟩
          rw [unhide HE, ex_same]; simp
        case measure => have := unhide HLt; simp [intOf]; omega
      · have hbI : ¬ (s[k].toNat : Int) = 47 := by omega
        have HE := hide (step_no s f k (unhide HF) hlt hb (unhide HCut))
        go_wp2
        go_roundw
        case rel =>
          refine ⟨k + 1, f, P, by have := unhide HLt; omega, by have := unhide HF; omega, by go_num, rfl, ?_, by have := unhide HM; have := unhide HPl; omega, ?_, unhide HBel⟩
          · have := unhide hqo
            rw [← unhide HM] at this ⊢
            exact this
          · rw [unhide HE]
        case measure => have := unhide HLt; simp [intOf]; omega
    · obtain rfl : k = s.size := by have := unhide HK; omega
      go_wp2_with (at_builtin; refine wpList_append_own _ rfl _ _ 38 rfl w.heap.size 9 i0 (.string ByteArray.empty) 1 16 Tryd.underlying38 hi hz0 hz1 hz2 rfl (by decide) _ _ _ rfl (World.ownsRow.alloc (unhide hqo) _) ⟨wr.heap.size, 0, none⟩ 1 1 [.string (s.extract f s.size)] rfl rfl (one_new _ _ rfl _ _) (one_str _) (unhide bd).1 (unhide bd).2 (size_alloc_le hbs _) ?_; intro v' x2 hown hgrow hnil; clear hnil)
      have hb2 := grown_step (v := .slice va m vc) hgrow (unhide hqo) (Nat.le_refl _) hbs (unhide HBel)
      have hq2 := hide (sown_snoc (b := s.extract f s.size) (unhide HM) hown)
      have HB2 := hide hb2
      clear hown hgrow hb2
      go_wp2
      go_ret
      refine ⟨_, _, rfl, unhide hq2, ?_, unhide HB2⟩
      have hc := unhide HCut
      have hl : s.data.toList.take s.size = s.data.toList := List.take_of_length_le (by simp)
      rw [hl] at hc
      rw [List.map_append]
      exact hc

end Go.Proofs.YtjldafkcolmfeaaDoor
