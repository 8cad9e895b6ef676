/- Contracts of the program's best token at a place, over this seat's program. -/
import Derived.Test.YtgpghapnmalipaaGreatDoorTo2
import Derived.Test.YtgpghapnmalipaaGreatDoorTi1
namespace Go.Proofs.YtgpghapnmalipaaGreatDoor
open Go.RowKit
theorem k2_frz {w : World} {b : Nat} {x y : Value} {t : TypeId} (h : w.heap[b]? = some (Obj.cells #[x, y] t)) : w.frozen? ⟨b, 0, none⟩ = false ∧ w.frozen? ⟨b, 1, none⟩ = false := ⟨by simp [World.frozen?, h], by simp [World.frozen?, h]⟩
theorem k2_set {w : World} {b : Nat} {x y : Value} {t : TypeId} (h : w.heap[b]? = some (Obj.cells #[x, y] t)) (u v : Value) : ((w.setCell ⟨b, 0, none⟩ u).setCell ⟨b, 1, none⟩ v).heap[b]? = some (Obj.cells #[u, v] t) := by
  have h1 : (w.setCell ⟨b, 0, none⟩ u).heap[b]? = some (Obj.cells #[u, y] t) := by
    show (w.heap.modify b _)[b]? = _
    rw [Array.getElem?_modify, if_pos rfl, h]
    simp
  generalize w.setCell ⟨b, 0, none⟩ u = W at *
  show (W.heap.modify b _)[b]? = _
  rw [Array.getElem?_modify, if_pos rfl, h1]
  simp
theorem k2_below {w x : World} {b : Nat} (h : Below b w x) (u v : Value) : Below b w ((x.setCell ⟨b, 0, none⟩ u).setCell ⟨b, 1, none⟩ v) :=
  (h.setCell (p := ⟨b, 0, none⟩) (Nat.le_refl _) u).setCell (p := ⟨b, 1, none⟩) (Nat.le_refl _) v
theorem tokP_ok (L : List UInt8) (p : Nat) : okT (tokP L p) = true := by
  unfold tokP
  obtain ⟨h1, h2, h3, h4⟩ := bestF_le L p (min p 250)
  split
  · have := UInt8.toNat_lt (L.getD p 0)
    generalize L.getD p 0 = c at *
    simp only [okT, isB, inB]
    simp
    omega
  · rename_i hn
    obtain ⟨h5, h6⟩ := h3 (by omega)
    simp only [okT, isK, isB, inB]
    simp
    omega
set_option maxHeartbeats 6400000 in
theorem lzBest_any (s : ByteArray) (p : Nat) (w : World) (hs : s.size ≤ 100000) (hp : p < s.size) :
    Calls Tryz.prog 135 #[.string s, .int .i64 (p : Nat)] w fun e w' => e = .returned (tokV (tokP s.data.toList p)) ∧ Below w.heap.size w w' := by
  have hsI : (s.size : Int) ≤ 100000 := by omega
  have hpI : (p : Int) < (s.size : Int) := by omega
  have HS := hide (And.intro hs hp)
  have hL := hide (str_len s)
  have hbx : (w.alloc (.cells #[.int .i64 0, .int .i64 0] 174)).heap[w.heap.size]? = some (Obj.cells #[.int .i64 0, .int .i64 0] 174) := alloc_at _ _
  have hb0 : Below w.heap.size w (w.alloc (.cells #[.int .i64 0, .int .i64 0] 174)) := (Below.refl _ _).alloc (Nat.le_refl _) _
  have H0 := hide (And.intro hbx hb0)
  obtain ⟨M, hM⟩ : ∃ M : Nat, min p 250 = M := ⟨_, rfl⟩
  have hMI : (if (250 : Int) < (p : Int) then 250 else (p : Int)) = (M : Int) := by split <;> omega
  have hM2 : (M : Int) ≤ 250 := by omega
  have HM := hide (And.intro hM (And.intro (show M ≤ p by omega) (show M ≤ 250 by omega)))
  have htk : Hid (tokP s.data.toList p = if (bestF s.data.toList p M).1 < 3 then (((s.data.toList.getD p 0).toNat : Int), 0, 0) else (0, ((bestF s.data.toList p M).1 : Int), ((bestF s.data.toList p M).2 : Int))) := by show _ = _; unfold tokP; rw [hM]
  clear hs hp hbx hb0 hM
  go_enter Tryz.func135, Tryz.ntmps135
  go_wp2_with fail
  go_loopw [6, 7] (fun ba _ wr => ∃ k : Nat, k ≤ M ∧ ba = .int .i64 ((k : Int) + 1) ∧ wr.heap[w.heap.size]? = some (Obj.cells #[.int .i64 ((bestF s.data.toList p k).1 : Nat), .int .i64 ((bestF s.data.toList p k).2 : Nat)] 174) ∧ Below w.heap.size w wr) (fun ba _ _ => 252 - (intOf ba).toNat)
  case atStart => exact ⟨0, Nat.zero_le _, rfl, (unhide H0).1, (unhide H0).2⟩
  case round =>
    obtain ⟨k, hk, rfl, hbox, hbel⟩ := hrel
    have hbd := (bestF_le s.data.toList p k).1
    have HK := hide hk
    have hbI : ((bestF s.data.toList p k).1 : Int) ≤ 60 := by omega
    obtain ⟨b, hb⟩ : ∃ b : Nat, k + 1 = b := ⟨_, rfl⟩
    have hbbI : (k : Int) + 1 = (b : Int) := by omega
    have HB := hide hb
    by_cases hbM : (b : Int) ≤ (M : Int)
    · have HA := hide (lzAgain_any s p b wr (by have := (unhide HS).1; omega) (by have := (unhide HS).2; omega) (by omega) (by have := (unhide HM).2.1; omega))
      have hyes := hide (fun h => bestF_yes (L := s.data.toList) (p := p) (k := k) h)
      have hno := hide (fun h => bestF_no (L := s.data.toList) (p := p) (k := k) h)
      have hag := agN_le s.data.toList p b
      have hagI : (agN s.data.toList p b : Int) ≤ 60 := by omega
      rw [hb] at hyes hno
      clear hk hbd hb hag htk
      generalize bestF s.data.toList p k = B at *
      obtain ⟨B1, B2⟩ := B
      simp only at hbI hyes hno hbox ⊢
      have HW := hide (And.intro hbox hbel)
      generalize agN s.data.toList p b = A at *
      by_cases hc : B1 < A
      · have hcI : (B1 : Int) < (A : Int) := by omega
        have e1 := hide (unhide hyes hc)
        clear hyes hno hc hbox hbel
        go_wp2_with fail
        refine (unhide HA).mono ?_
        rintro e x1 ⟨rfl, hb1⟩
        have hbx1 : x1.heap[w.heap.size]? = some (Obj.cells #[.int .i64 (B1 : Nat), .int .i64 (B2 : Nat)] 174) := (hb1.block _ (k2_cells (unhide HW).1).2.2).trans (unhide HW).1
        have hbe1 := bnext (unhide HW).2 hb1
        obtain ⟨c0, c1, hlw⟩ := k2_cells hbx1
        obtain ⟨f0, f1⟩ := k2_frz hbx1
        go_wp2
        go_roundw
        case rel => exact ⟨b, by omega, by go_num, by rw [unhide e1]; exact k2_set hbx1 _ _, k2_below hbe1 _ _⟩
        case measure => simp [intOf]; omega
      · have hcI : ¬ (B1 : Int) < (A : Int) := by omega
        have e1 := hide (unhide hno hc)
        clear hyes hno hc hbox hbel
        go_wp2_with fail
        refine (unhide HA).mono ?_
        rintro e x1 ⟨rfl, hb1⟩
        have hbx1 : x1.heap[w.heap.size]? = some (Obj.cells #[.int .i64 (B1 : Nat), .int .i64 (B2 : Nat)] 174) := (hb1.block _ (k2_cells (unhide HW).1).2.2).trans (unhide HW).1
        have hbe1 := bnext (unhide HW).2 hb1
        obtain ⟨c0, c1, hlw⟩ := k2_cells hbx1
        go_wp2
        go_roundw
        case rel => exact ⟨b, by omega, by go_num, by rw [unhide e1]; exact hbx1, hbe1⟩
        case measure => simp [intOf]; omega
    · have hkM : k = M := by omega
      subst hkM
      have hgx := hide (str_at s p (unhide HS).2)
      have hx256 : (s[p]'((unhide HS).2)).toNat < 256 := UInt8.toNat_lt _
      have hps := (unhide HS).2
      clear hk hbd hb
      generalize bestF s.data.toList p k = B at *
      obtain ⟨B1, B2⟩ := B
      simp only at hbI hbox htk ⊢
      have HW := hide (And.intro hbox hbel)
      obtain ⟨c0, c1, hlw⟩ := k2_cells hbox
      by_cases hc : B1 < 3
      · have hcI : (B1 : Int) < 3 := by omega
        have e1 : Hid (tokP s.data.toList p = ((s[p].toNat : Int), 0, 0)) := by show _ = _; rw [unhide htk, if_pos hc, unhide hgx]
        have e2 : Hid (tokV (tokP s.data.toList p) = .iface 172 (.int .u8 (s[p].toNat : Int))) := by
          show _ = _
          rw [unhide e1]
          refine tokV_B ?_
          simp only [isB, inB]
          simp
          omega
        clear htk hc hbox hbel
        go_wp2
        go_ret
        exact ⟨by rw [unhide e2]; rfl, (unhide HW).2⟩
      · have hcI : ¬ (B1 : Int) < 3 := by omega
        have e1 : Hid (tokP s.data.toList p = (0, (B1 : Int), (B2 : Int))) := by show _ = _; rw [unhide htk, if_neg hc]
        have hok := tokP_ok s.data.toList p
        have e2 : Hid (tokV (tokP s.data.toList p) = .iface 174 (.agg #[.int .i64 (B1 : Int), .int .i64 (B2 : Int)])) := by
          show _ = _
          rw [unhide e1] at hok ⊢
          refine tokV_K ?_
          simp only [okT, isB, isK, inB] at hok ⊢
          simp at hok ⊢
          omega
        clear htk hc hbox hbel hok
        go_wp2
        go_ret
        exact ⟨by rw [unhide e2]; rfl, (unhide HW).2⟩
end Go.Proofs.YtgpghapnmalipaaGreatDoor