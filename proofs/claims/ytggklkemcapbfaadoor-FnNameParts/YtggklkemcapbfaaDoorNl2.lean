/- Parts of a name: where they begin, how many they are. -/
import Derived.Test.YtggklkemcapbfaaDoorNl1
namespace Go.Proofs.YtggklkemcapbfaaDoor
open Go.RowKit

/-- Where the part begins that is in hand; how many parts have begun. -/
def frm (l : List UInt8) : Nat → Nat
  | 0 => 0
  | k + 1 => if l.getD k 0 = 47 then k + 1 else frm l k
def prt (l : List UInt8) : Nat → Nat
  | 0 => 1
  | k + 1 => if l.getD k 0 = 47 then prt l k + 1 else prt l k
theorem prt_le (l : List UInt8) : ∀ k, prt l k ≤ k + 1
  | 0 => Nat.le_refl _
  | k + 1 => by have := prt_le l k; unfold prt; split <;> omega
theorem frm_le (l : List UInt8) : ∀ k, frm l k ≤ k
  | 0 => Nat.le_refl _
  | k + 1 => by have := frm_le l k; unfold frm; split <;> omega
theorem parts_all (s : ByteArray) (hs : s ∈ noNames ++ okNames) : nameB s.data.toList = true → (∀ k, k ≤ s.size → (k = s.size ∨ s.data.toList.getD k 0 = 47) → nameB ((s.data.toList.take k).drop (frm s.data.toList k)) = true) ∧ prt s.data.toList s.size ≤ 4 ∧ nameB (s.data.toList ++ [47, 120]) = decide (prt s.data.toList s.size < 4) := by
  simp only [noNames, okNames, List.cons_append, List.nil_append, List.mem_cons, List.not_mem_nil, or_false] at hs
  rcases hs with rfl | rfl | rfl | rfl | rfl | rfl | rfl | rfl | rfl | rfl | rfl | rfl | rfl | rfl | rfl | rfl <;> decide +kernel
theorem byte_at (s : ByteArray) (k : Nat) (hk : k < s.size) : s.data.toList.getD k 0 = 47 ↔ s[k].toNat = 47 := by
  have hl : k < s.data.toList.length := by simpa using hk
  have e : s.data.toList.getD k 0 = s[k] := by
    rw [List.getD, List.getElem?_eq_getElem hl]; rfl
  rw [e]
  exact ⟨fun h => by rw [h]; rfl, fun h => UInt8.toNat_inj.1 h⟩
theorem prt_end (s : ByteArray) : prt s.data.toList (s.size + 1) = prt s.data.toList s.size := by
  have : s.data.toList.getD s.size 0 = 0 := by rw [List.getD, List.getElem?_eq_none (by simp)]; rfl
  rw [prt, this, if_neg (by decide)]


end Go.Proofs.YtggklkemcapbfaaDoor
