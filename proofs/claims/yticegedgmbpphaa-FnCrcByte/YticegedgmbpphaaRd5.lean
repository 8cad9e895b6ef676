/- Contracts of what draws an input out of a code: any text, one of some numbers. -/
import Derived.Test.YticegedgmbpphaaRd4
namespace Go.Proofs.Yticegedgmbpphaa
open Go.RowKit Corb

theorem lit_cells (w : World) (l : List Int) (t : TypeId) : ∀ i, i < l.length → (w.alloc (.cells (l.map (Value.int .i64)).toArray t)).cell? ⟨w.heap.size, 0 + i, none⟩ = some (.int .i64 (l.getD i 0)) := by
  intro i hi
  simp [hi]

theorem one_lit (B b m n : Nat) (l : List Int) (t : TypeId) (w : World) (hn : l.length = n) (h : Rd w B b m) (hm : m ≤ 100000) (n1 : 0 < n) (n2 : n ≤ 70000) :
    Calls Try.prog 37 #[.pointer (some ⟨b, 0, none⟩), .slice (some ⟨w.heap.size, 0, none⟩) n n] (w.alloc (.cells (l.map (Value.int .i64)).toArray t)) fun e w' => ∃ v : Int, v ∈ l ∧ e = .returned (.int .i64 v) ∧ Rd w' B b (m + 1) ∧ Below b w w' := by
  subst hn
  have hlt := h.lt
  refine (one_any B b m w.heap.size 0 l.length l.length (fun i => l.getD i 0) _ (h.alloc _) hm n1 n2 (Nat.ne_of_gt hlt) (lit_cells w l t)).mono ?_
  rintro e w' ⟨i, hi, he, hr, ho⟩
  refine ⟨l.getD i 0, ?_, he, hr, ((Below.refl _ _).alloc (Nat.le_of_lt hlt) _).trans ho.1⟩
  simp [List.getD, hi]

theorem l11AnyText_any (B b m : Nat) (w : World) (h : Rd w B b m) (hm : m ≤ 80000) :
    Calls Try.prog 34 #[.pointer (some ⟨b, 0, none⟩)] w fun e w' => (∃ s : ByteArray, e = .returned (.string s) ∧ s.size ≤ 400) ∧ Rd w' B b (m + 60) ∧ Below b w w' := by
  go_enter Try.func34, Try.ntmps34
  go_wp2_with fail
  refine (pick_any B b m _ _ h (by omega) (by omega) (by omega)).mono ?_
  rintro e w1 ⟨r, rfl, r0, r1, hrd1, hon1⟩
  by_cases h0 : r = 0
  · subst h0
    go_wp2_with (go_at_call 50; refine (l1Many_any _ _ _ (by omega) (by omega) (by decide)).mono ?_; rintro e w' ⟨⟨t, rfl, ht⟩, rfl⟩)
    go_ret
    exact ⟨⟨t, rfl, by rw [ht]; decide⟩, hrd1.mono (by omega), hon1.1⟩
  · have g0 : (r == 0) = false := by simpa using h0
    clear h0
    go_wp2_with (go_at_call 38; refine (l11Text_any B b (m + 1) _ hrd1 (by omega)).mono ?_; rintro e w2 ⟨⟨s, rfl, hs⟩, hrd2, hbel2⟩)
    go_ret
    exact ⟨⟨s, rfl, hs⟩, hrd2.mono (by omega), hon1.1.trans hbel2⟩

end Go.Proofs.Yticegedgmbpphaa
