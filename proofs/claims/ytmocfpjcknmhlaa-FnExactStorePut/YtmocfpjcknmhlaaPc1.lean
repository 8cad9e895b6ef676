/- Contracts of how many bits pieces are, over this seat's program. -/
import Derived.Test.YtmocfpjcknmhlaaPr1
import Derived.Test.YtmocfpjcknmhlaaBt2
namespace Go.Proofs.Ytmocfpjcknmhlaa
open Go.RowKit Corb

/-- All pieces are ok. -/
def allOk (l : List (Int × Int)) : Bool := l.all (fun p => pOk p.1 p.2)
theorem allOk_take (l : List (Int × Int)) (k : Nat) (h : k < l.length) : allOk (l.take (k + 1)) = (allOk (l.take k) && pOk (l.getD k (0, 0)).1 (l.getD k (0, 0)).2) := by
  rw [List.take_succ_eq_append_getElem h, allOk, List.all_append]
  congr 1
  simp [List.getD, h]
theorem allOk_of_take {l : List (Int × Int)} {k : Nat} (h : allOk (l.take k) = false) : allOk l = false := by
  rw [← Bool.not_eq_true] at h ⊢
  intro h2
  apply h
  simp only [allOk, List.all_eq_true] at h2 ⊢
  intro x hx
  exact h2 x (List.mem_of_mem_take hx)


end Go.Proofs.Ytmocfpjcknmhlaa
