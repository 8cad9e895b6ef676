/- Of what the proof is made: 2 texts, one behind the other. -/
import Derived.Test.YtbacpebljannfaaGreatDoorM18
import Derived.Test.YtbacpebljannfaaGreatDoorGq3
import Derived.Test.YtbacpebljannfaaGreatDoorM24
import Derived.Test.YtbacpebljannfaaGreatDoorM3
import Derived.Test.YtbacpebljannfaaGreatDoorM6
import Derived.Test.YtbacpebljannfaaGreatDoorM29
import Derived.Deep.RegionHeld3
import Derived.Deep.RegionLawGrows
import Derived.Test.YtbacpebljannfaaGreatDoorM22
import Derived.Test.YtbacpebljannfaaGreatDoorM8
import Derived.Test.YtbacpebljannfaaGreatDoorM2
import Derived.Test.YtbacpebljannfaaGreatDoorStepLaw
import Derived.Test.YtbacpebljannfaaGreatDoorM14
import Derived.Test.YtbacpebljannfaaGreatDoorM20
import Derived.Test.YtbacpebljannfaaGreatDoorM12
namespace Go.Proofs.YtbacpebljannfaaGreatDoor
open Corb
def unpB (how : Nat) (b : ByteArray) : Option ByteArray :=
  if how = 0 then some b else if how = 8 then (match flateG b with
    | some (T, q) => if q / 8 = b.size then some ⟨T.toArray⟩ else none
    | none => none) else none
def nmB (s : ByteArray) : ByteArray := s.extract 30 (30 + wd s.data.toList 26 2)
def bdB (s : ByteArray) : ByteArray := s.extract (30 + wd s.data.toList 26 2) (30 + wd s.data.toList 26 2 + wd s.data.toList 18 4)
def hdB (s : ByteArray) : Bool := decide (30 ≤ s.size) && (fixB s.data.toList && decide (30 + wd s.data.toList 26 2 + wd s.data.toList 18 4 ≤ s.size))
def entG (s T : ByteArray) : Bool := entB (nmB s) (gY (wd s.data.toList 10 4 : Nat)) (gM (wd s.data.toList 10 4 : Nat)) (gD (wd s.data.toList 10 4 : Nat)) (gH (wd s.data.toList 10 4 : Nat)) (gI (wd s.data.toList 10 4 : Nat)) (gS (wd s.data.toList 10 4 : Nat)) T
def locE (s T : ByteArray) : Value := .agg #[.string (nmB s), .int .i64 (gY (wd s.data.toList 10 4 : Nat)), .int .i64 (gM (wd s.data.toList 10 4 : Nat)), .int .i64 (gD (wd s.data.toList 10 4 : Nat)), .int .i64 (gH (wd s.data.toList 10 4 : Nat)), .int .i64 (gI (wd s.data.toList 10 4 : Nat)), .int .i64 (gS (wd s.data.toList 10 4 : Nat)), .string T]
def noE : Value := .agg #[.string ⟨#[]⟩, .int .i64 0, .int .i64 0, .int .i64 0, .int .i64 0, .int .i64 0, .int .i64 0, .string ⟨#[]⟩]
def fitB (s T : ByteArray) : Bool := decide (wd s.data.toList 14 4 = crcMore 0 T.data.toList) && (decide (wd s.data.toList 22 4 = T.size) && entG s T)
def locG (s : ByteArray) : Option ByteArray := if hdB s then (match unpB (wd s.data.toList 8 2) (bdB s) with
  | some T => if fitB s T then some T else none
  | none => none) else none
def locV (s : ByteArray) : Value := match locG s with
  | some T => .tuple #[locE s T, .int .i64 ((30 + wd s.data.toList 26 2 + wd s.data.toList 18 4 : Nat) : Int), .bool true]
  | none => .tuple #[noE, .int .i64 0, .bool false]
theorem nmB_list (s : ByteArray) : (nmB s).data.toList = (s.data.toList.drop 30).take (wd s.data.toList 26 2) := by
  unfold nmB
  rw [ext_list, Nat.add_sub_cancel_left]
theorem bdB_list (s : ByteArray) : (bdB s).data.toList = (s.data.toList.drop (30 + wd s.data.toList 26 2)).take (wd s.data.toList 18 4) := by
  unfold bdB
  rw [ext_list, Nat.add_sub_cancel_left]
theorem hdB_is {s : ByteArray} : hdB s = true ↔ 30 ≤ s.size ∧ fixB s.data.toList = true ∧ 30 + wd s.data.toList 26 2 + wd s.data.toList 18 4 ≤ s.size := by
  simp [hdB]
theorem nmB_size {s : ByteArray} (h : 30 + wd s.data.toList 26 2 ≤ s.size) : (nmB s).size = wd s.data.toList 26 2 := by
  unfold nmB
  rw [ByteArray.size_extract]; omega
theorem bdB_size {s : ByteArray} (h : 30 + wd s.data.toList 26 2 + wd s.data.toList 18 4 ≤ s.size) : (bdB s).size = wd s.data.toList 18 4 := by
  unfold bdB
  rw [ByteArray.size_extract]; omega
end Go.Proofs.YtbacpebljannfaaGreatDoor
namespace Go.Proofs.YtbacpebljannfaaGreatDoor
open Go.RowKit Corb
set_option maxRecDepth 100000
def txT (how : Nat) (b : ByteArray) : ByteArray := if how = 0 then b else match flateG b with
  | some (T, _) => ⟨T.toArray⟩
  | none => ⟨#[]⟩
def txO (how : Nat) (b : ByteArray) : Bool := (unpB how b).isSome
theorem unp_tx (how : Nat) (b : ByteArray) : unpB how b = if txO how b = true then some (txT how b) else none := by
  unfold txO txT unpB
  by_cases h0 : how = 0
  · simp [h0]
  · simp only [if_neg h0]
    by_cases h8 : how = 8
    · simp only [if_pos h8]
      rcases flateG b with _ | ⟨T, q⟩
      · simp
      · by_cases hq : q / 8 = b.size <;> simp [hq]
    · simp [h8]
theorem flateG_bd {b : ByteArray} {T : List UInt8} {q : Nat} (hf : flateG b = some (T, q)) : T.length ≤ 300 ∧ q ≤ 5600 := by
  unfold flateG at hf
  split at hf
  · have := wholeG_bd hf (by omega)
    exact ⟨this.2.2.2 (by simp), by omega⟩
  · cases hf
theorem tx_small {how : Nat} {b : ByteArray} (hb : b.size ≤ 1048576) : (txT how b).size ≤ 1048576 := by
  unfold txT
  split
  · exact hb
  · rcases hf : flateG b with _ | ⟨T, q⟩
    · exact Nat.zero_le _
    · have := (flateG_bd hf).1
      show T.toArray.size ≤ _
      simp; omega
end Go.Proofs.YtbacpebljannfaaGreatDoor
