/- A file with its head: the model's LocalPut, the program's. -/
import Derived.Test.YtfpnnlekblamhaaGreatDoorM32
import Derived.Test.YtfpnnlekblamhaaGreatDoorM3
import Derived.Test.YtfpnnlekblamhaaGreatDoorM5
import Derived.Test.YtfpnnlekblamhaaGreatDoorM25
import Derived.Test.YtfpnnlekblamhaaGreatDoorM6
namespace Go.Proofs.YtfpnnlekblamhaaGreatDoor
open Go.RowKit Corb
set_option maxRecDepth 100000
theorem cutG_small : ∀ (l cur : List UInt8), (∀ p ∈ cutG cur l, p.length ≤ 10) → cur.length + l.length + 1 ≤ 11 * (cutG cur l).length
  | [], cur, h => by
    have := h cur (by simp [cutG])
    simp [cutG]; omega
  | b :: l, cur, h => by
    by_cases e : b = 47
    · simp only [cutG, if_pos e] at h ⊢
      have h1 := h cur (by simp)
      have h2 := cutG_small l [] (fun p hp => h p (by simp [hp]))
      simp at h2 ⊢
      omega
    · simp only [cutG, if_neg e] at h ⊢
      have h2 := cutG_small l (cur ++ [b]) h
      simp at h2 ⊢
      omega
theorem name_small {l : List UInt8} (h : nameB l = true) : l.length ≤ 43 := by
  simp only [nameB, Bool.and_eq_true, List.all_eq_true, decide_eq_true_eq] at h
  have := cutG_small l [] (fun p hp => by
    have := h.1 p hp
    simp only [partB, Bool.and_eq_true, decide_eq_true_eq] at this
    omega)
  have h2 := h.2
  unfold cutP at h2
  simp at this
  omega
theorem ent_facts {n : ByteArray} {y mo d h mi s : Int} {t : ByteArray} (k : entB n y mo d h mi s t = true) : n.size ≤ 43 ∧ t.size ≤ 300 ∧ stOk y mo d h mi s = true := by
  simp only [entB, Bool.and_eq_true, decide_eq_true_eq] at k
  have := name_small k.1
  exact ⟨by simpa using this, k.2.2, k.2.1⟩
end Go.Proofs.YtfpnnlekblamhaaGreatDoor