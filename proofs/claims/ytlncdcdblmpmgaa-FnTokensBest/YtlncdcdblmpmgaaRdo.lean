/- One of some that a draw lays, over this seat's program. -/
import Derived.Test.YtlncdcdblmpmgaaRd2
namespace Go.Proofs.Ytlncdcdblmpmgaa
open Go.RowKit

theorem one_only (B b m n : Nat) (l : List Int) (t : TypeId) (w : World) (hn : l.length = n) (h : Rd w B b m) (hm : m ≤ 100000) (n1 : 0 < n) (n2 : n ≤ 70000) :
    Calls Try.prog 49 #[.pointer (some ⟨b, 0, none⟩), .slice (some ⟨w.heap.size, 0, none⟩) n n] (w.alloc (.cells (l.map (Value.int .i64)).toArray t)) fun e w' => ∃ v : Int, v ∈ l ∧ e = .returned (.int .i64 v) ∧ Rd w' B b (m + 1) ∧ Only b (w.alloc (.cells (l.map (Value.int .i64)).toArray t)) w' := by
  subst hn
  have hlt := h.lt
  refine (one_any B b m w.heap.size 0 l.length l.length (fun i => l.getD i 0) _ (h.alloc _) hm n1 n2 (Nat.ne_of_gt hlt) (lit_cells w l t)).mono ?_
  rintro e w' ⟨i, hi, he, hr, ho⟩
  refine ⟨l.getD i 0, ?_, he, hr, ho⟩
  simp [List.getD, hi]

end Go.Proofs.Ytlncdcdblmpmgaa
