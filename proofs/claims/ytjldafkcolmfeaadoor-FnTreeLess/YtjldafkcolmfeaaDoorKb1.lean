/- Worlds that are kept but for one block, where something may be new. -/
import Derived.Test.YtjldafkcolmfeaaDoorRd2
namespace Go.Proofs.YtjldafkcolmfeaaDoor
open Go.RowKit

def Kn (b : Nat) (w w' : World) : Prop := Below b w w' ∧ (∀ k, k < w.heap.size → k ≠ b → w'.heap[k]? = w.heap[k]?) ∧ w.heap.size ≤ w'.heap.size
theorem Kn.trans {b : Nat} {u v w : World} (h : Kn b u v) (k : Kn b v w) : Kn b u w :=
  ⟨h.1.trans k.1, fun i hi hb => (k.2.1 i (Nat.lt_of_lt_of_le hi h.2.2) hb).trans (h.2.1 i hi hb), Nat.le_trans h.2.2 k.2.2⟩
theorem Only.kn {b : Nat} {w w' : World} (h : Only b w w') : Kn b w w' := ⟨h.1, fun k _ hk => h.2.1 k hk, by rw [h.2.2]; exact Nat.le_refl _⟩
theorem kn_alloc {b : Nat} (w : World) (o : Obj) (hb : b < w.heap.size) : Kn b w (w.alloc o) :=
  ⟨(Below.refl _ _).alloc (Nat.le_of_lt hb) _, fun k hk _ => ((Below.refl w.heap.size w).alloc (Nat.le_refl _) o).block k hk, by simp⟩

set_option maxHeartbeats 400000 in
theorem ofN_any (B b m lb lo n cap : Nat) (v : Nat → ByteArray) (w : World) (h : Rd w B b m) (hm : m ≤ 100000) (n1 : 0 < n) (n2 : n ≤ 70000) (hlb : lb ≠ b) (hc : ∀ i, i < n → w.cell? ⟨lb, lo + i, none⟩ = some (.string (v i))) :
    Calls Tryd.prog 25 #[.pointer (some ⟨b, 0, none⟩), .slice (some ⟨lb, lo, none⟩) n cap] w fun e w' => ∃ i : Nat, i < n ∧ e = .returned (.string (v i)) ∧ Rd w' B b (m + 1) ∧ Only b w w' := by
  have n1' : (1 : Int) ≤ (n : Int) := by omega
  have n2' : (n : Int) ≤ 70000 := by omega
  have hc' := hide hc
  clear hc
  go_enter Tryd.func25, Tryd.ntmps25
  go_wp2_with (go_at_call 14; refine (pick_any B b m _ _ h hm n1' n2').mono ?_; rintro e w' ⟨r, rfl, r0, r1, hrd, hon⟩; obtain ⟨k, rfl⟩ := Int.eq_ofNat_of_zero_le r0; have hck : w'.cell? ⟨lb, lo + k, none⟩ = some (.string (v k)) := (hon.cell (p := ⟨lb, lo + k, none⟩) hlb).trans (unhide hc' k (by omega)))
  go_ret
  exact ⟨k, by omega, rfl, hrd, hon⟩
theorem litS_cells (w : World) (l : List ByteArray) (t : TypeId) : ∀ i, i < l.length → (w.alloc (.cells (l.map Value.string).toArray t)).cell? ⟨w.heap.size, 0 + i, none⟩ = some (.string (l.getD i ByteArray.empty)) := by
  intro i hi
  simp [hi]
theorem of_kn (B b m n lb : Nat) (l : List ByteArray) (t : TypeId) (w : World) (hb : w.heap.size = lb) (hn : l.length = n) (h : Rd w B b m) (hm : m ≤ 100000) (n1 : 0 < n) (n2 : n ≤ 70000) :
    Calls Tryd.prog 25 #[.pointer (some ⟨b, 0, none⟩), .slice (some ⟨lb, 0, none⟩) n n] (w.alloc (.cells (l.map Value.string).toArray t)) fun e w' => ∃ v : ByteArray, v ∈ l ∧ e = .returned (.string v) ∧ Rd w' B b (m + 1) ∧ Kn b w w' := by
  subst hn hb
  have hlt := h.lt
  refine (ofN_any B b m w.heap.size 0 l.length l.length (fun i => l.getD i ByteArray.empty) _ (h.alloc _) hm n1 n2 (Nat.ne_of_gt hlt) (litS_cells w l t)).mono ?_
  rintro e w' ⟨i, hi, he, hr, ho⟩
  refine ⟨l.getD i ByteArray.empty, ?_, he, hr, (kn_alloc w _ hlt).trans ho.kn⟩
  simp [List.getD, hi]

def strB (l : List UInt8) : ByteArray := ⟨l.toArray⟩
/-- Names that are drawn. -/
def okNames : List ByteArray := [⟨#[97]⟩, ⟨#[98, 46, 116, 120, 116]⟩, ⟨#[100, 105, 114, 47, 97]⟩, ⟨#[100, 105, 114, 47, 98]⟩, ⟨#[120, 45, 121, 95, 122]⟩, ⟨#[97, 47, 98, 47, 99, 47, 100]⟩, ⟨#[114, 101, 97, 100, 109, 101]⟩]
def noNames : List ByteArray := [⟨#[]⟩, ⟨#[47]⟩, ⟨#[97, 47]⟩, ⟨#[46, 46]⟩, ⟨#[97, 47, 46, 46, 47, 98]⟩, ⟨#[65]⟩, ⟨#[97, 32, 98]⟩, ⟨#[101, 108, 101, 118, 101, 110, 108, 101, 116, 116, 101]⟩, ⟨#[97, 47, 98, 47, 99, 47, 100, 47, 101]⟩]

theorem l11Name_any (B b m : Nat) (w : World) (h : Rd w B b m) (hm : m ≤ 99000) :
    Calls Tryd.prog 23 #[.pointer (some ⟨b, 0, none⟩)] w fun e w' => ∃ v, v ∈ okNames ∧ e = .returned (.string v) ∧ Rd w' B b (m + 1) ∧ Kn b w w' := by
  go_enter Tryd.func23, Tryd.ntmps23
  go_wp2_with fail
  refine (of_kn B b m 7 w.heap.size okNames 9 w rfl rfl h (by omega) (by omega) (by omega)).mono ?_
  rintro e w1 ⟨v, hv, rfl, hr, hk⟩
  have HV := hide hv
  clear hv
  go_wp2
  go_ret
  exact ⟨v, unhide HV, rfl, hr, hk⟩
theorem l11AnyName_any (B b m : Nat) (w : World) (h : Rd w B b m) (hm : m ≤ 98000) :
    Calls Tryd.prog 15 #[.pointer (some ⟨b, 0, none⟩)] w fun e w' => ∃ v, v ∈ noNames ++ okNames ∧ e = .returned (.string v) ∧ Rd w' B b (m + 2) ∧ Kn b w w' := by
  go_enter Tryd.func15, Tryd.ntmps15
  go_wp2_with fail
  refine (pick_any B b m 6 _ h (by omega) (by omega) (by omega)).mono ?_
  rintro e w1 ⟨r, rfl, r0, r1, hrd, hon⟩
  have R1 := hide hrd
  have K1 := hide hon.kn
  clear h hrd hon
  by_cases hr : r = 0
  · subst hr
    go_wp2_with fail
    refine (of_kn B b _ 9 w1.heap.size noNames 9 w1 rfl rfl (unhide R1) (by omega) (by omega) (by omega)).mono ?_
    rintro e w2 ⟨v, hv, rfl, hr, hk⟩
    have HV := hide hv
    clear hv
    go_wp2
    go_ret
    exact ⟨v, List.mem_append.2 (.inl (unhide HV)), rfl, hr, (unhide K1).trans hk⟩
  · go_wp2_with fail
    refine (l11Name_any B b _ _ (unhide R1) (by omega)).mono ?_
    rintro e w2 ⟨v, hv, rfl, hr, hk⟩
    have HV := hide hv
    clear hv
    go_wp2
    go_ret
    exact ⟨v, List.mem_append.2 (.inr (unhide HV)), rfl, hr, (unhide K1).trans hk⟩

end Go.Proofs.YtjldafkcolmfeaaDoor
