/- Names within names: the program's nameWithin and namesClash. -/
import Derived.Test.YtjldafkcolmfeaaDoorZk1
import Derived.Test.YtjldafkcolmfeaaDoorShelf
namespace Go.Proofs.YtjldafkcolmfeaaDoor
open Go.RowKit

/-- No archive has both names. -/
def clashL (a b : List UInt8) : Bool := a == b || (undL b a || undL a b)

theorem nameWithin_any (a b : ByteArray) (w : World) (hb : (b.size : Int) ≤ 1048576) :
    Calls Tryd.prog 19 #[.string a, .string b] w fun e w' => e = .returned (.bool (undL b.data.toList a.data.toList)) ∧ w' = w := by
  have HC : Hid (∀ W, Calls Tryd.prog 29 #[.string a, .string (b ++ (⟨#[47]⟩ : ByteArray))] W fun e w' => e = .returned (.bool (undL b.data.toList a.data.toList)) ∧ w' = W) := by
    intro W
    have h := Tryd.strings_HasPrefix a (b ++ (⟨#[47]⟩ : ByteArray)) W
    have e : Lib.hasPrefix a.data.toList (b ++ (⟨#[47]⟩ : ByteArray)).data.toList = undL b.data.toList a.data.toList := by
      unfold Lib.hasPrefix undL
      congr 1
    rw [e] at h
    exact h
  go_enter Tryd.func19, Tryd.ntmps19
  go_wp2_with fail
  refine (unhide HC _).mono ?_
  rintro e w1 ⟨rfl, hw⟩
  rw [hw]
  clear hw
  go_wp2
  go_ret
  exact ⟨rfl, rfl⟩

theorem list_of_ba {a b : ByteArray} : a.toList = b.toList ↔ a.data.toList = b.data.toList := by rw [Lib.toList_data, Lib.toList_data]
set_option maxHeartbeats 800000 in
theorem namesClash_any (a b : ByteArray) (w : World) (ha : (a.size : Int) ≤ 1048576) (hb : (b.size : Int) ≤ 1048576) :
    Calls Tryd.prog 10 #[.string a, .string b] w fun e w' => e = .returned (.bool (clashL a.data.toList b.data.toList)) ∧ w' = w := by
  have C1 := hide (fun W => nameWithin_any a b W hb)
  have C2 := hide (fun W => nameWithin_any b a W ha)
  by_cases h : a.toList = b.toList
  · have HU : Hid (clashL a.data.toList b.data.toList = true) := by show _ = _; simp [clashL, list_of_ba.1 h]
    go_enter Tryd.func10, Tryd.ntmps10
    go_wp2
    go_ret
    exact ⟨ret_bool (unhide HU).symm, rfl⟩
  · have h' : (a.data.toList == b.data.toList) = false := by simp only [beq_eq_false_iff_ne, ne_eq]; exact fun e => h (list_of_ba.2 e)
    have hB : (a.toList == b.toList) = false := by simp only [beq_eq_false_iff_ne, ne_eq]; exact h
    have HU : Hid (clashL a.data.toList b.data.toList = (undL b.data.toList a.data.toList || undL a.data.toList b.data.toList)) := by show _ = _; simp [clashL, h']
    clear h'
    generalize undL b.data.toList a.data.toList = u1 at *
    generalize undL a.data.toList b.data.toList = u2 at *
    cases u1
    · go_enter Tryd.func10, Tryd.ntmps10
      go_wp2_with fail
      refine (unhide C1 _).mono ?_
      rintro e w1 ⟨rfl, hw⟩
      rw [hw]
      clear hw
      go_wp2_with fail
      refine (unhide C2 _).mono ?_
      rintro e w2 ⟨rfl, hw⟩
      rw [hw]
      clear hw
      go_wp2
      go_ret
      exact ⟨ret_bool (by rw [unhide HU]; rfl), rfl⟩
    · go_enter Tryd.func10, Tryd.ntmps10
      go_wp2_with fail
      refine (unhide C1 _).mono ?_
      rintro e w1 ⟨rfl, hw⟩
      rw [hw]
      clear hw
      go_wp2
      go_ret
      exact ⟨ret_bool (by rw [unhide HU]; rfl), rfl⟩

end Go.Proofs.YtjldafkcolmfeaaDoor
