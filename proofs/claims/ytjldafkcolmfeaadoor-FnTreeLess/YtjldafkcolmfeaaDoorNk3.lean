/- The program's partOk and NameOk. -/
import Derived.Test.YtjldafkcolmfeaaDoorNk2
import Derived.Test.YtjldafkcolmfeaaDoorShelf
import Derived.Test.YtjldafkcolmfeaaDoorCvt
namespace Go.Proofs.YtjldafkcolmfeaaDoor
open Go.RowKit

def partS : ByteArray := ⟨#[97, 98, 99, 100, 101, 102, 103, 104, 105, 106, 107, 108, 109, 110, 111, 112, 113, 114, 115, 116, 117, 118, 119, 120, 121, 122, 48, 49, 50, 51, 52, 53, 54, 55, 56, 57, 46, 45, 95]⟩
theorem index_part (b : UInt8) : Lib.indexByte partS.data.toList ((b.toNat : Int).toNat.toUInt8) = Lib.indexByte partL b := by
  have : (b.toNat : Int).toNat.toUInt8 = b := by simp
  rw [this]; rfl
theorem index_any (b : UInt8) (w : World) : Calls Tryd.prog 28 #[.string partS, .int .u8 (b.toNat : Int)] w fun e w' => e = .returned (.int .i64 (Lib.indexByte partL b)) ∧ w' = w := by
  have := Tryd.strings_IndexByte partS (b.toNat : Int) w
  rw [index_part] at this
  exact this

set_option maxRecDepth 100000 in
set_option maxHeartbeats 4000000 in
theorem partOk_any (p : ByteArray) (w : World) (hs : p.size ≤ 1048576) :
    Calls Tryd.prog 18 #[.string p] w fun e w' => e = .returned (.bool (partB p.data.toList)) ∧ Below w.heap.size w w' := by
  have hsI : (p.size : Int) ≤ 1048576 := by omega
  obtain ⟨c, x1, cs, f, hcv, hbx, hrow, hcs⟩ := convB_text p w
  have HB := hide hbx
  have HC : Hid (∀ i (h : i < p.size), x1.cell? ⟨w.heap.size, i, none⟩ = some (.int .u8 (p[i].toNat : Int))) := fun i h => rowB_cell hrow (hcs i h)
  have HI := hide (fun b W => index_any b W)
  unfold partS at HI
  clear hs hrow hcs hbx
  go_enter Tryd.func18, Tryd.ntmps18
  go_wp2_with fail
  go_loop [4, 8] (fun _ i => ∃ m : Nat, m ≤ p.size ∧ i = .int .i64 m ∧ ∀ j (hj : j < p.size), j < m → okB p[j] = true) (fun _ i => p.size - (intOf i).toNat)
  case atStart => exact ⟨0, Nat.zero_le _, rfl, fun j _ hj => absurd hj (by omega)⟩
  case round =>
    obtain ⟨m, hm, rfl, hoks⟩ := hrel
    have HOKS := hide hoks
    have HMM := hide hm
    clear hoks
    by_cases hml : m < p.size
    · have hmI : (m : Int) < (p.size : Int) := by omega
      have HML := hide hml
      have hc := unhide HC m hml
      have HMX : Hid (okB p[m] = true → ∀ j (hj : j < p.size), j < m + 1 → okB p[j] = true) := by
        intro e j hj hjm
        by_cases hjk : j = m
        · subst hjk; exact e
        · exact unhide HOKS j hj (by omega)
      have HNo := hide (fun e => @part_byte p m hml e)
      have hpin := part_in p[m]
      have HIb := hide (unhide HI p[m])
      generalize p[m] = b at *
      generalize Lib.indexByte partL b = ix at *
      have hlo : (0 : Int) ≤ (b.toNat : Int) := by omega
      have hhi : (b.toNat : Int) < 256 := by have := b.toNat_lt; omega
      clear hm HOKS HMM HI HC
      cases hok : okB b
      · have hix : ix < 0 := by rw [hok] at hpin; simpa using hpin
        have HP := hide (unhide HNo hok)
        clear hpin
        go_wp2_with (go_at_call 28; refine (unhide HIb _).mono ?_; rintro e w9 ⟨rfl, hw9⟩; rw [hw9]; clear hw9)
        go_ret
        exact ⟨ret_bool (unhide HP).symm, unhide HB⟩
      · have hix : ¬ ix < 0 := by rw [hok] at hpin; simpa using hpin
        have HX := hide (unhide HMX hok)
        clear hpin
        go_wp2_with (go_at_call 28; refine (unhide HIb _).mono ?_; rintro e w9 ⟨rfl, hw9⟩; rw [hw9]; clear hw9)
        go_round
        case rel => exact ⟨m + 1, by have := unhide HML; omega, by go_num, unhide HX⟩
        case measure => have := unhide HML; simp [intOf]; omega
    · obtain rfl : m = p.size := by have := unhide HMM; omega
      have HOK2 : Hid (∀ j (hj : j < p.size), okB p[j] = true) := fun j hj => unhide HOKS j hj hj
      clear HOKS hml hm HI HC
      by_cases z1 : (1 : Int) ≤ (p.size : Int)
      · by_cases z2 : (p.size : Int) ≤ 10
        · have hz : inB (p.size : Int) 1 10 = true := inB_true.2 ⟨z1, z2⟩
          cases d1 : (p.toList == [46])
          · have d1' : ¬ p.toList = [46] := by simpa using d1
            cases d2 : (p.toList == [46, 46])
            · have d2' : ¬ p.toList = [46, 46] := by simpa using d2
              have HP := hide (part_ok (unhide HOK2) hz d1 d2)
              go_wp2
              go_ret
              exact ⟨ret_bool (unhide HP).symm, unhide HB⟩
            · have HP := hide (part_dots d2)
              have d2' : p.toList = [46, 46] := by simpa using d2
              go_wp2
              go_ret
              exact ⟨ret_bool (unhide HP).symm, unhide HB⟩
          · have HP := hide (part_dot d1)
            have d1' : p.toList = [46] := by simpa using d1
            go_wp2
            go_ret
            exact ⟨ret_bool (unhide HP).symm, unhide HB⟩
        · have HP := hide (part_size (inB_false.2 (.inr (by omega)) : inB (p.size : Int) 1 10 = false))
          go_wp2
          go_ret
          exact ⟨ret_bool (unhide HP).symm, unhide HB⟩
      · have HP := hide (part_size (inB_false.2 (.inl (by omega)) : inB (p.size : Int) 1 10 = false))
        go_wp2
        go_ret
        exact ⟨ret_bool (unhide HP).symm, unhide HB⟩

end Go.Proofs.YtjldafkcolmfeaaDoor
