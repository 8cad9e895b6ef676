/- The model's NameOk. -/
import Derived.Test.YtjldafkcolmfeaaDoorNk1
namespace Go.Proofs.YtjldafkcolmfeaaDoor
open Go.RowKit

theorem okB_iff (b : UInt8) : okB b = true ↔ (97 ≤ b.toNat ∧ b.toNat ≤ 122) ∨ (48 ≤ b.toNat ∧ b.toNat ≤ 57) ∨ b.toNat = 46 ∨ b.toNat = 45 ∨ b.toNat = 95 := by
  simp [okB]
theorem part_byte {p : ByteArray} {m : Nat} (hm : m < p.size) (h : okB p[m] = false) : partB p.data.toList = false := by
  have : p.data.toList.all okB = false := by
    rw [List.all_eq_false]
    refine ⟨p[m], ?_, by simp [h]⟩
    have e : p[m] = p.data.toList[m]'(by simpa using hm) := rfl
    rw [e]; exact List.getElem_mem _
  simp [partB, this]
theorem part_size {p : ByteArray} (h : inB (p.size : Int) 1 10 = false) : partB p.data.toList = false := by
  have hb := inB_false.1 h
  have e : p.data.toList.length = p.size := by simp
  have : (decide (1 ≤ p.data.toList.length) && decide (p.data.toList.length ≤ 10)) = false := by rw [e]; simp; omega
  simp only [partB]
  rw [← Bool.and_assoc (decide _), this]; simp
theorem part_ok {p : ByteArray} (h : ∀ j (hj : j < p.size), okB p[j] = true) (hs : inB (p.size : Int) 1 10 = true) (h1 : (p.toList == [46]) = false) (h2 : (p.toList == [46, 46]) = false) : partB p.data.toList = true := by
  obtain ⟨b0, b1⟩ := inB_true.1 hs
  have e : p.data.toList.length = p.size := by simp
  have a : p.data.toList.all okB = true := by
    rw [List.all_eq_true]
    intro x hx
    obtain ⟨j, hj, rfl⟩ := List.getElem_of_mem hx
    exact h j (by rw [← e]; exact hj)
  rw [Lib.toList_data] at h1 h2
  simp only [partB, a, h1, h2, e]
  simp; omega
theorem part_dot {p : ByteArray} (h : (p.toList == [46]) = true) : partB p.data.toList = false := by
  rw [Lib.toList_data] at h
  rw [beq_iff_eq.1 h]; decide
theorem part_dots {p : ByteArray} (h : (p.toList == [46, 46]) = true) : partB p.data.toList = false := by
  rw [Lib.toList_data] at h
  rw [beq_iff_eq.1 h]; decide
theorem name_no {s : ByteArray} {l : List ByteArray} (hl : l.map (·.data.toList) = cutP s.data.toList) {j : Nat} (hj : j < l.length) (h : partB (l.getD j ByteArray.empty).data.toList = false) : nameB s.data.toList = false := by
  have : (cutP s.data.toList).all partB = false := by
    rw [← hl, List.all_eq_false]
    refine ⟨(l.getD j ByteArray.empty).data.toList, ?_, by rw [h]; simp⟩
    rw [List.mem_map]
    exact ⟨l.getD j ByteArray.empty, by simp [List.getD, hj], rfl⟩
  simp [nameB, this]
theorem name_yes {s : ByteArray} {l : List ByteArray} (hl : l.map (·.data.toList) = cutP s.data.toList) (h : ∀ j, j < l.length → partB (l.getD j ByteArray.empty).data.toList = true) : nameB s.data.toList = decide (l.length ≤ 4) := by
  have e : (cutP s.data.toList).length = l.length := by rw [← hl]; simp
  have : (cutP s.data.toList).all partB = true := by
    rw [← hl, List.all_eq_true]
    intro x hx
    rw [List.mem_map] at hx
    obtain ⟨y, hy, rfl⟩ := hx
    obtain ⟨j, hj, rfl⟩ := List.getElem_of_mem hy
    have := h j hj
    simpa [List.getD, hj] using this
  simp [nameB, this, e]

theorem cut_small : ∀ (l cur x : List UInt8), x ∈ cutG cur l → x.length ≤ cur.length + l.length
  | [], cur, x, h => by simp [cutG] at h; subst h; simp
  | b :: l, cur, x, h => by
    unfold cutG at h
    split at h
    · rcases List.mem_cons.1 h with rfl | h
      · simp
      · have := cut_small l [] x h; simp at this ⊢; omega
    · have := cut_small l (cur ++ [b]) x h; simp at this ⊢; omega

set_option maxRecDepth 100000 in
set_option maxHeartbeats 4000000 in
theorem specNameOk_any (s : ByteArray) (w : World) (hs : s.size ≤ 1048576) :
    Calls Tryd.prog 11 #[.string s] w fun e w' => e = .returned (.bool (nameB s.data.toList)) ∧ Below w.heap.size w w' := by
  have HSZ := hide hs
  have hsI : (s.size : Int) ≤ 1048576 := by omega
  clear hs
  go_enter Tryd.func11, Tryd.ntmps11
  go_wp2_with fail
  refine (l1Cut_any s _ (unhide HSZ)).mono ?_
  rintro e x1 ⟨v, l, rfl, hq, hcut, hb1⟩
  obtain ⟨n, hn⟩ : ∃ n, l.length = n := ⟨_, rfl⟩
  obtain ⟨va, vc, rfl⟩ := hq.formN hn
  have hn0 : 0 < n := by
    have e := congrArg List.length hcut
    have := cutG_ne s.data.toList []
    cases h : cutG [] s.data.toList with
    | nil => exact absurd h this
    | cons a t =>
      simp only [cutP, h, List.length_map, List.length_cons] at e
      omega
  have hnS : n ≤ s.size + 1 := by
    have e := congrArg List.length hcut
    have := cutG_len s.data.toList []
    simp only [List.length_map] at e
    have h2 : s.data.toList.length = s.size := by simp
    unfold cutP at e
    omega
  have hnI : (n : Int) ≤ 1048577 := by omega
  obtain ⟨g, rfl, hg, hcl⟩ := hq.at hn hn0
  have PL : Hid (∀ k, k < n → (l.getD k ByteArray.empty).size ≤ 1048576) := by
    intro k hk
    have hmem : (l.getD k ByteArray.empty).data.toList ∈ cutP s.data.toList := by
      rw [← hcut, List.mem_map]
      exact ⟨l.getD k ByteArray.empty, by simp [List.getD, hn, hk], rfl⟩
    have := cut_small s.data.toList [] _ hmem
    have e1 : (l.getD k ByteArray.empty).data.toList.length = (l.getD k ByteArray.empty).size := by simp
    have e2 : s.data.toList.length = s.size := by simp
    have := unhide HSZ
    simp only [List.length_nil] at *
    omega
  have HC := hide hcl
  have HB := hide hb1
  have HNO := hide (fun j (hj : j < l.length) => @name_no s l hcut j hj)
  have HYES := hide (@name_yes s l hcut)
  rw [hn] at HNO HYES
  clear hq hcut hcl hb1 hn0 hnS HSZ hsI
  go_wp2_with fail
  go_loop [4, 5, 6] (fun i _ _ => ∃ k : Nat, k ≤ n ∧ i = .int .i64 k ∧ ∀ j, j < k → partB (l.getD j ByteArray.empty).data.toList = true) (fun i _ _ => n - (intOf i).toNat)
  case atStart => exact ⟨0, Nat.zero_le _, rfl, fun j hj => absurd hj (by omega)⟩
  case round =>
    obtain ⟨k, hk, rfl, hall⟩ := hrel
    have HALL := hide hall
    have HK := hide hk
    clear hall
    by_cases hkn : k < n
    · have hkI : (k : Int) < (n : Int) := by omega
      have hc := unhide HC k hkn
      have HNOk := hide (unhide HNO k hkn)
      have HNX : Hid (partB (l.getD k ByteArray.empty).data.toList = true → ∀ j, j < k + 1 → partB (l.getD j ByteArray.empty).data.toList = true) := by
        intro e j hj
        by_cases hjk : j = k
        · rw [hjk]; exact e
        · exact unhide HALL j (by omega)
      have HKN := hide hkn
      clear hk HALL
      have HPS := hide (unhide PL k hkn)
      generalize l.getD k ByteArray.empty = p at *
      have hpS : (p.size : Int) ≤ 9223372036854775807 := by
        have := unhide HPS; omega
      go_wp2_with fail
      go_loop [6] (fun q => ∃ m : Nat, m ≤ p.size ∧ q = .int .i64 m ∧ ∀ j (hj : j < p.size), j < m → okB p[j] = true) (fun q => p.size - (intOf q).toNat)
      case atStart => exact ⟨0, Nat.zero_le _, rfl, fun j _ hj => absurd hj (by omega)⟩
      case round =>
        obtain ⟨m, hm, rfl, hoks⟩ := hrel
        have HOKS := hide hoks
        have HMM := hide hm
        clear hoks
        by_cases hml : m < p.size
        · have hmI : (m : Int) < (p.size : Int) := by omega
          have HML := hide hml
          have HMX : Hid (okB p[m] = true → ∀ j (hj : j < p.size), j < m + 1 → okB p[j] = true) := by
            intro e j hj hjm
            by_cases hjk : j = m
            · subst hjk; exact e
            · exact unhide HOKS j hj (by omega)
          have hlo : (0 : Int) ≤ (p[m].toNat : Int) := by omega
          have hhi : (p[m].toNat : Int) < 256 := by have := p[m].toNat_lt; omega
          clear hm HOKS HMM
          cases hok : okB p[m]
          · have hno : ¬ ((97 ≤ p[m].toNat ∧ p[m].toNat ≤ 122) ∨ (48 ≤ p[m].toNat ∧ p[m].toNat ≤ 57) ∨ p[m].toNat = 46 ∨ p[m].toNat = 45 ∨ p[m].toNat = 95) := fun e => Bool.noConfusion (hok.symm.trans ((okB_iff _).2 e))
            have e46 : ¬ (p[m].toNat : Int) = 46 := by omega
            have e45 : ¬ (p[m].toNat : Int) = 45 := by omega
            have e95 : ¬ (p[m].toNat : Int) = 95 := by omega
            by_cases a1 : (97 : Int) ≤ (p[m].toNat : Int)
            · have a2 : ¬ (p[m].toNat : Int) ≤ 122 := by omega
              have a3 : (48 : Int) ≤ (p[m].toNat : Int) := by omega
              have a4 : ¬ (p[m].toNat : Int) ≤ 57 := by omega
              have k1 : decide ((97 : Int) ≤ (p[m].toNat : Int)) = true := by simp; omega
              have k2 : decide ((p[m].toNat : Int) ≤ 122) = false := by simp; omega
              have k3 : decide ((48 : Int) ≤ (p[m].toNat : Int)) = true := by simp; omega
              have k4 : decide ((p[m].toNat : Int) ≤ 57) = false := by simp; omega
              have k5 : ((p[m].toNat : Int) == 46) = false := by simp; omega
              have k6 : ((p[m].toNat : Int) == 45) = false := by simp; omega
              have k7 : ((p[m].toNat : Int) == 95) = false := by simp; omega
              clear hno
              have HP := hide (unhide HNOk (part_byte (unhide HML) hok))
              go_wp2
              all_goals first
                | (go_ret; exact ⟨ret_bool (unhide HP).symm, unhide HB⟩)
                | (exfalso; rename_i hx; first | omega | (simp at hx; omega))
                | (exfalso; rename_i hx _ _; simp at hx; omega)
            · by_cases a3 : (48 : Int) ≤ (p[m].toNat : Int)
              · have a4 : ¬ (p[m].toNat : Int) ≤ 57 := by omega
                have k1 : decide ((97 : Int) ≤ (p[m].toNat : Int)) = false := by simp; omega
                have k2 : decide ((p[m].toNat : Int) ≤ 122) = true := by simp; omega
                have k3 : decide ((48 : Int) ≤ (p[m].toNat : Int)) = true := by simp; omega
                have k4 : decide ((p[m].toNat : Int) ≤ 57) = false := by simp; omega
                have k5 : ((p[m].toNat : Int) == 46) = false := by simp; omega
                have k6 : ((p[m].toNat : Int) == 45) = false := by simp; omega
                have k7 : ((p[m].toNat : Int) == 95) = false := by simp; omega
                clear hno
                have HP := hide (unhide HNOk (part_byte (unhide HML) hok))
                go_wp2
                all_goals first
                  | (go_ret; exact ⟨ret_bool (unhide HP).symm, unhide HB⟩)
                  | (exfalso; rename_i hx; first | omega | (simp at hx; omega))
                  | (exfalso; rename_i hx _ _; simp at hx; omega)
              · skip
                have k1 : decide ((97 : Int) ≤ (p[m].toNat : Int)) = false := by simp; omega
                have k2 : decide ((p[m].toNat : Int) ≤ 122) = true := by simp; omega
                have k3 : decide ((48 : Int) ≤ (p[m].toNat : Int)) = false := by simp; omega
                have k4 : decide ((p[m].toNat : Int) ≤ 57) = true := by simp; omega
                have k5 : ((p[m].toNat : Int) == 46) = false := by simp; omega
                have k6 : ((p[m].toNat : Int) == 45) = false := by simp; omega
                have k7 : ((p[m].toNat : Int) == 95) = false := by simp; omega
                clear hno
                have HP := hide (unhide HNOk (part_byte (unhide HML) hok))
                go_wp2
                all_goals first
                  | (go_ret; exact ⟨ret_bool (unhide HP).symm, unhide HB⟩)
                  | (exfalso; rename_i hx; first | omega | (simp at hx; omega))
                  | (exfalso; rename_i hx _ _; simp at hx; omega)
          · have hyes := (okB_iff p[m]).1 hok
            rcases hyes with ⟨a1, a2⟩ | ⟨a1, a2⟩ | a1 | a1 | a1
            · have b1 : (97 : Int) ≤ (p[m].toNat : Int) := by omega
              have b2 : (p[m].toNat : Int) ≤ 122 := by omega
              have k1 : decide ((97 : Int) ≤ (p[m].toNat : Int)) = true := by simp; omega
              have k2 : decide ((p[m].toNat : Int) ≤ 122) = true := by simp; omega
              have k3 : decide ((48 : Int) ≤ (p[m].toNat : Int)) = true := by simp; omega
              have k4 : decide ((p[m].toNat : Int) ≤ 57) = false := by simp; omega
              have k5 : ((p[m].toNat : Int) == 46) = false := by simp; omega
              have k6 : ((p[m].toNat : Int) == 45) = false := by simp; omega
              clear a1 a2
              go_wp2
              all_goals first
                | (go_round
                   case rel => exact ⟨m + 1, by have := unhide HML; omega, by go_num, unhide HMX hok⟩
                   case measure => have := unhide HML; simp [intOf]; omega)
                | (exfalso; rename_i hx; first | omega | (simp at hx; omega))
                | (exfalso; rename_i hx _ _; simp at hx; omega)
            · have b1 : ¬ (97 : Int) ≤ (p[m].toNat : Int) := by omega
              have b2 : (48 : Int) ≤ (p[m].toNat : Int) := by omega
              have b3 : (p[m].toNat : Int) ≤ 57 := by omega
              have k1 : decide ((97 : Int) ≤ (p[m].toNat : Int)) = false := by simp; omega
              have k2 : decide ((p[m].toNat : Int) ≤ 122) = true := by simp; omega
              have k3 : decide ((48 : Int) ≤ (p[m].toNat : Int)) = true := by simp; omega
              have k4 : decide ((p[m].toNat : Int) ≤ 57) = true := by simp; omega
              have k5 : ((p[m].toNat : Int) == 46) = false := by simp; omega
              have k6 : ((p[m].toNat : Int) == 45) = false := by simp; omega
              have k7 : ((p[m].toNat : Int) == 95) = false := by simp; omega
              clear a1 a2
              go_wp2
              all_goals first
                | (go_round
                   case rel => exact ⟨m + 1, by have := unhide HML; omega, by go_num, unhide HMX hok⟩
                   case measure => have := unhide HML; simp [intOf]; omega)
                | (exfalso; rename_i hx; first | omega | (simp at hx; omega))
                | (exfalso; rename_i hx _ _; simp at hx; omega)
            · have b1 : (p[m].toNat : Int) = 46 := by omega
              have k1 : decide ((97 : Int) ≤ (p[m].toNat : Int)) = false := by simp; omega
              have k2 : decide ((p[m].toNat : Int) ≤ 122) = true := by simp; omega
              have k3 : decide ((48 : Int) ≤ (p[m].toNat : Int)) = false := by simp; omega
              have k4 : decide ((p[m].toNat : Int) ≤ 57) = true := by simp; omega
              have k5 : ((p[m].toNat : Int) == 46) = true := by simp; omega
              have k6 : ((p[m].toNat : Int) == 45) = false := by simp; omega
              have k7 : ((p[m].toNat : Int) == 95) = false := by simp; omega
              clear a1
              go_wp2
              all_goals first
                | (go_round
                   case rel => exact ⟨m + 1, by have := unhide HML; omega, by go_num, unhide HMX hok⟩
                   case measure => have := unhide HML; simp [intOf]; omega)
                | (exfalso; rename_i hx; first | omega | (simp at hx; omega))
                | (exfalso; rename_i hx _ _; simp at hx; omega)
            · have b1 : (p[m].toNat : Int) = 45 := by omega
              have k1 : decide ((97 : Int) ≤ (p[m].toNat : Int)) = false := by simp; omega
              have k2 : decide ((p[m].toNat : Int) ≤ 122) = true := by simp; omega
              have k3 : decide ((48 : Int) ≤ (p[m].toNat : Int)) = false := by simp; omega
              have k4 : decide ((p[m].toNat : Int) ≤ 57) = true := by simp; omega
              have k5 : ((p[m].toNat : Int) == 46) = false := by simp; omega
              have k6 : ((p[m].toNat : Int) == 45) = true := by simp; omega
              have k7 : ((p[m].toNat : Int) == 95) = false := by simp; omega
              clear a1
              go_wp2
              all_goals first
                | (go_round
                   case rel => exact ⟨m + 1, by have := unhide HML; omega, by go_num, unhide HMX hok⟩
                   case measure => have := unhide HML; simp [intOf]; omega)
                | (exfalso; rename_i hx; first | omega | (simp at hx; omega))
                | (exfalso; rename_i hx _ _; simp at hx; omega)
            · have b1 : (p[m].toNat : Int) = 95 := by omega
              have k1 : decide ((97 : Int) ≤ (p[m].toNat : Int)) = false := by simp; omega
              have k2 : decide ((p[m].toNat : Int) ≤ 122) = true := by simp; omega
              have k3 : decide ((48 : Int) ≤ (p[m].toNat : Int)) = true := by simp; omega
              have k4 : decide ((p[m].toNat : Int) ≤ 57) = false := by simp; omega
              have k5 : ((p[m].toNat : Int) == 46) = false := by simp; omega
              have k6 : ((p[m].toNat : Int) == 45) = false := by simp; omega
              have k7 : ((p[m].toNat : Int) == 95) = true := by simp; omega
              clear a1
              go_wp2
              all_goals first
                | (go_round
                   case rel => exact ⟨m + 1, by have := unhide HML; omega, by go_num, unhide HMX hok⟩
                   case measure => have := unhide HML; simp [intOf]; omega)
                | (exfalso; rename_i hx; first | omega | (simp at hx; omega))
                | (exfalso; rename_i hx _ _; simp at hx; omega)
        · obtain rfl : m = p.size := by have := unhide HMM; omega
          have HOK2 : Hid (∀ j (hj : j < p.size), okB p[j] = true) := fun j hj => unhide HOKS j hj hj
          clear HOKS hml hm
          cases hz : inB (p.size : Int) 1 10
          · have HP := hide (unhide HNOk (part_size hz))
            go_wp2_with (go_at_call 21; refine (l1In_any _ _ _ _).mono ?_; rintro e w9 ⟨rfl, hw9⟩; rw [hw9]; clear hw9; rw [hz])
            go_ret
            exact ⟨ret_bool (unhide HP).symm, unhide HB⟩
          · cases d1 : (p.toList == [46])
            · have d1' : ¬ p.toList = [46] := by simpa using d1
              cases d2 : (p.toList == [46, 46])
              · have d2' : ¬ p.toList = [46, 46] := by simpa using d2
                have HP := hide (unhide HNX (part_ok (unhide HOK2) hz d1 d2))
                go_wp2_with (go_at_call 21; refine (l1In_any _ _ _ _).mono ?_; rintro e w9 ⟨rfl, hw9⟩; rw [hw9]; clear hw9; rw [hz])
                go_round
                case rel => exact ⟨k + 1, by have := unhide HKN; omega, by go_num, unhide HP⟩
                case measure => have := unhide HKN; simp [intOf]; omega
              · have HP := hide (unhide HNOk (part_dots d2))
                have d2' : p.toList = [46, 46] := by simpa using d2
                go_wp2_with (go_at_call 21; refine (l1In_any _ _ _ _).mono ?_; rintro e w9 ⟨rfl, hw9⟩; rw [hw9]; clear hw9; rw [hz])
                go_ret
                exact ⟨ret_bool (unhide HP).symm, unhide HB⟩
            · have HP := hide (unhide HNOk (part_dot d1))
              have d1' : p.toList = [46] := by simpa using d1
              go_wp2_with (go_at_call 21; refine (l1In_any _ _ _ _).mono ?_; rintro e w9 ⟨rfl, hw9⟩; rw [hw9]; clear hw9; rw [hz])
              go_ret
              exact ⟨ret_bool (unhide HP).symm, unhide HB⟩
    · obtain rfl : k = n := by omega
      have HY := hide (unhide HYES (unhide HALL))
      clear HALL HYES HNO HC
      by_cases h4 : k ≤ 4
      · have h4I : (k : Int) ≤ 4 := by omega
        go_wp2
        go_ret
        exact ⟨ret_bool (by rw [unhide HY]; simp [h4]), unhide HB⟩
      · have h4I : ¬ (k : Int) ≤ 4 := by omega
        go_wp2
        go_ret
        exact ⟨ret_bool (by rw [unhide HY]; simp [h4]), unhide HB⟩

end Go.Proofs.YtjldafkcolmfeaaDoor
