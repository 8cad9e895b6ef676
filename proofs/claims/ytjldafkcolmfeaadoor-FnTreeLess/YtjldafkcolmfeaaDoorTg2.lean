/- Contracts of the draw of a tree: one file laid into a row of files, the model's. -/
import Derived.Test.YtjldafkcolmfeaaDoorTf1
import Derived.Test.YtjldafkcolmfeaaDoorStepLaw
import Derived.Test.YtjldafkcolmfeaaDoorWk1
import Derived.Deep.RegionHeld3
namespace Go.Proofs.YtjldafkcolmfeaaDoor
open Go.RowKit
set_option maxRecDepth 100000

/-- Files that are small. -/
def TinyF (l : List Fl) : Prop := ∀ e ∈ l, e.p.size ≤ 1000 ∧ e.t.size ≤ 1000
theorem TinyF.app {a b : List Fl} (h : TinyF a) (k : TinyF b) : TinyF (a ++ b) := fun e he => by
  rcases List.mem_append.1 he with x | x
  · exact h e x
  · exact k e x
theorem TinyF.take {l : List Fl} (h : TinyF l) (k : Nat) : TinyF (l.take k) := fun e he => h e (List.mem_of_mem_take he)
theorem TinyF.drop {l : List Fl} (h : TinyF l) (k : Nat) : TinyF (l.drop k) := fun e he => h e (List.mem_of_mem_drop he)
theorem flat_take (l : List Fl) (k : Nat) : (l.take k).flatMap encF = (l.flatMap encF).take (k * 2) := by
  induction l generalizing k with
  | nil => simp
  | cons x l ih =>
    cases k with
    | zero => simp
    | succ k =>
      rw [List.take_succ_cons, List.flatMap_cons, List.flatMap_cons, ih, show (k + 1) * 2 = (encF x).length + k * 2 by rw [encF_len]; omega, List.take_length_add_append]
theorem flat_drop (l : List Fl) (k : Nat) : (l.drop k).flatMap encF = (l.flatMap encF).drop (k * 2) := by
  induction l generalizing k with
  | nil => simp
  | cons x l ih =>
    cases k with
    | zero => simp
    | succ k =>
      rw [List.drop_succ_cons, List.flatMap_cons, ih, show (k + 1) * 2 = (encF x).length + k * 2 by rw [encF_len]; omega, List.drop_length_add_append]
/-- Cells of a row of files, from one on. -/
theorem row_news {w : World} {g : Nat} {l : List Fl} (h : ∀ j, j < l.length * 2 → w.cell? ⟨g, j, none⟩ = (l.flatMap encF)[j]?) (k : Nat) : ∀ j u, ((l.drop k).flatMap encF)[j]? = some u → w.cell? ((⟨g, k * 2, none⟩ : Addr).add j) = some u := by
  intro j u hj
  rw [flat_drop, List.getElem?_drop] at hj
  have hlt : k * 2 + j < (l.flatMap encF).length := (List.getElem?_eq_some_iff.1 hj).1
  rw [flat_len encF_len] at hlt
  have e : (⟨g, k * 2, none⟩ : Addr).add j = ⟨g, k * 2 + j, none⟩ := by unfold Addr.add; split <;> simp_all
  rw [e, h _ hlt, hj]
theorem encs_one (l : List Fl) : ∀ u ∈ l.flatMap encF, u.oneCell' = true := fun u hu => by
  obtain ⟨x, _, hx⟩ := List.mem_flatMap.1 hu
  exact encF_one x u hx

end Go.Proofs.YtjldafkcolmfeaaDoor
