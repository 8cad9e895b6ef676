/- The program's NameOk, and the walk of its exact law. -/
import Derived.Test.YtjldafkcolmfeaaDoorNk3
namespace Go.Proofs.YtjldafkcolmfeaaDoor
open Go.RowKit

def slashB : ByteArray := ⟨#[47]⟩
/-- The parts of a text, as the program has them. -/
def partsB (s : ByteArray) : List ByteArray := Lib.splitB slashB 0 (Lib.countB s slashB) s
theorem parts_len (s : ByteArray) : (partsB s).length = Lib.countB s slashB + 1 := Lib.splitB_all slashB (by decide) 0 _ s rfl
theorem parts_cut (s : ByteArray) : (partsB s).map (·.data.toList) = cutP s.data.toList := by
  unfold partsB cutP
  rw [Lib.splitB_data, ← split_cut]
  rfl
theorem split_any (s : ByteArray) (m : Int) (w : World) (hs : s.size ≤ 1048576) (hm : w.cell? ⟨0, 0, none⟩ = some (.int .i64 m)) :
    Calls Tryd.prog 17 #[.string s, .string slashB] w fun e w' => e = .returned (.slice (some ⟨w.heap.size, 0, none⟩) (partsB s).length (partsB s).length) ∧ w' = w.alloc (.cells ((partsB s).map Value.string).toArray 9) := by
  have := Tryd.strings_Split s slashB m w (by omega) hm (by decide)
  rw [parts_len]
  exact this

set_option maxRecDepth 100000 in
set_option maxHeartbeats 4000000 in
theorem implNameOk_any (s : ByteArray) (m : Int) (w : World) (hs : s.size ≤ 1048576) (hm : w.cell? ⟨0, 0, none⟩ = some (.int .i64 m)) :
    Calls Tryd.prog 9 #[.string s] w fun e w' => e = .returned (.bool (nameB s.data.toList)) ∧ Below w.heap.size w w' := by
  have HSP := hide (split_any s m w hs hm)
  unfold slashB at HSP
  have hcut := parts_cut s
  generalize partsB s = l at *
  obtain ⟨n, hn⟩ : ∃ n, l.length = n := ⟨_, rfl⟩
  rw [hn] at HSP
  have hnS : n ≤ s.size + 1 := by
    have e := congrArg List.length hcut
    have := cutG_len s.data.toList []
    simp only [List.length_map] at e
    have h2 : s.data.toList.length = s.size := by simp
    unfold cutP at e
    omega
  have hnI : (n : Int) ≤ 1048577 := by omega
  have PL : Hid (∀ k, k < n → (l.getD k ByteArray.empty).size ≤ 1048576) := by
    intro k hk
    have hmem : (l.getD k ByteArray.empty).data.toList ∈ cutP s.data.toList := by
      rw [← hcut, List.mem_map]
      exact ⟨l.getD k ByteArray.empty, by simp [List.getD, hn, hk], rfl⟩
    have := cut_small s.data.toList [] _ hmem
    have e1 : (l.getD k ByteArray.empty).data.toList.length = (l.getD k ByteArray.empty).size := by simp
    have e2 : s.data.toList.length = s.size := by simp
    simp only [List.length_nil] at *
    omega
  have HNO := hide (fun j (hj : j < l.length) => @name_no s l hcut j hj)
  have HYES := hide (@name_yes s l hcut)
  rw [hn] at HNO HYES
  obtain ⟨x1, hx1⟩ : ∃ x, x = w.alloc (.cells (l.map Value.string).toArray 9) := ⟨_, rfl⟩
  have HC : Hid (∀ j, j < n → x1.cell? ⟨w.heap.size, j, none⟩ = some (.string (l.getD j ByteArray.empty))) := by
    intro j hj
    rw [hx1]
    have : j < l.length := by omega
    simp [this, List.getD]
  have HB1 : Hid (Below w.heap.size w x1) := by rw [hx1]; exact (Below.refl _ _).alloc (Nat.le_refl _) _
  have HL1 : Hid (w.heap.size < x1.heap.size) := by show _ < _; rw [hx1]; simp
  rw [← hx1] at HSP
  clear hx1 hs hm hcut hnS hn
  go_enter Tryd.func9, Tryd.ntmps9
  go_wp2_with fail
  refine (unhide HSP).mono ?_
  rintro e y1 ⟨rfl, hy1⟩
  rw [hy1]
  clear hy1 HSP
  go_wp2_with fail
  go_loopw [5, 10] (fun _ i wr => ∃ k : Nat, k ≤ n ∧ i = .int .i64 k ∧ (∀ j, j < k → partB (l.getD j ByteArray.empty).data.toList = true) ∧ Below x1.heap.size x1 wr) (fun _ i _ => n - (intOf i).toNat)
  case atStart => exact ⟨0, Nat.zero_le _, rfl, fun j hj => absurd hj (by omega), Below.refl _ _⟩
  case round =>
    obtain ⟨k, hk, rfl, hall, hbel⟩ := hrel
    have HALL := hide hall
    have HK := hide hk
    have HBel := hide hbel
    clear hall
    by_cases hkn : k < n
    · have hkI : (k : Int) < (n : Int) := by omega
      have hc := (hbel.cell (p := ⟨w.heap.size, k, none⟩) (unhide HL1)).trans (unhide HC k hkn)
      have HNOk := hide (unhide HNO k hkn)
      have HNX : Hid (partB (l.getD k ByteArray.empty).data.toList = true → ∀ j, j < k + 1 → partB (l.getD j ByteArray.empty).data.toList = true) := by
        intro e j hj
        by_cases hjk : j = k
        · rw [hjk]; exact e
        · exact unhide HALL j (by omega)
      have HKN := hide hkn
      have HPS := hide (unhide PL k hkn)
      clear hk HALL hbel
      generalize l.getD k ByteArray.empty = p at *
      go_wp2_with fail
      refine (partOk_any p _ (unhide HPS)).mono ?_
      rintro e z1 ⟨rfl, hz⟩
      have HZ := hide (bnext (unhide HBel) hz)
      clear hz
      cases hp : partB p.data.toList
      · have HP := hide (unhide HNOk hp)
        go_wp2
        go_ret
        exact ⟨ret_bool (unhide HP).symm, (unhide HB1).trans ((unhide HZ).mono (unhide HB1).size)⟩
      · have HP := hide (unhide HNX hp)
        go_wp2
        go_roundw
        case rel => exact ⟨k + 1, by have := unhide HKN; omega, by go_num, unhide HP, unhide HZ⟩
        case measure => have := unhide HKN; simp [intOf]; omega
    · obtain rfl : k = n := by omega
      have HY := hide (unhide HYES (unhide HALL))
      have HB := hide ((unhide HB1).trans (hbel.mono (unhide HB1).size))
      clear HALL HYES HNO HC hbel
      by_cases h4 : k ≤ 4
      · have h4I : (k : Int) ≤ 4 := by omega
        go_wp2
        go_ret
        exact ⟨ret_bool (by rw [unhide HY]; simp [h4]), unhide HB⟩
      · have h4I : ¬ (k : Int) ≤ 4 := by omega
        go_wp2
        go_ret
        exact ⟨ret_bool (by rw [unhide HY]; simp [h4]), unhide HB⟩


end Go.Proofs.YtjldafkcolmfeaaDoor
