/- The contract of the model's BitsPut, over this seat's program. -/
import Derived.Test.YtmocfpjcknmhlaaPo2
namespace Go.Proofs.Ytmocfpjcknmhlaa
open Go.RowKit Corb

/-- The pieces as natural numbers. -/
def natP (l : List (Int × Int)) : List (Nat × Nat) := l.map (fun p => (p.1.toNat, p.2.toNat))
/-- The number that pieces make, and how many bits. -/
def valP (l : List (Int × Int)) : Nat × Nat := putV (0, 0) (natP l)
/-- The text that pieces make. -/
def textP (l : List (Int × Int)) : List UInt8 := leS (((valP l).2 + 7) / 8) (valP l).1
def putS (l : List (Int × Int)) : List UInt8 := if lOk l = true then textP l else []
theorem putS_yes {l : List (Int × Int)} (h : lOk l = true) : putS l = textP l := if_pos h
theorem putS_no {l : List (Int × Int)} (h : lOk l = false) : putS l = [] := if_neg (by simp [h])

theorem valP_take (l : List (Int × Int)) (k : Nat) (h : k < l.length) : valP (l.take (k + 1)) =
    ((valP (l.take k)).1 + (l.getD k (0, 0)).1.toNat * p2 (valP (l.take k)).2, (valP (l.take k)).2 + (l.getD k (0, 0)).2.toNat) := by
  rw [List.take_succ_eq_append_getElem h, valP, natP, List.map_append, putV_append]
  simp only [List.map_cons, List.map_nil, putV]
  have e : l.getD k (0, 0) = l[k] := by simp [List.getD, h]
  rw [e]
  rfl
theorem valP_bits (l : List (Int × Int)) (h : allOk l = true) : ((valP l).2 : Int) = sumBits l := by
  have key : ∀ (m : List (Int × Int)) (s : Nat × Nat), allOk m = true → ((putV s (natP m)).2 : Int) = (s.2 : Int) + sumBits m := by
    intro m
    induction m with
    | nil => intro s _; simp [natP, putV, sumBits]
    | cons p m ih =>
      intro s hm
      simp only [allOk, List.all_cons, Bool.and_eq_true] at hm
      have hp := pOk_true.1 hm.1
      have := ih (s.1 + p.1.toNat * 2 ^ s.2, s.2 + p.2.toNat) hm.2
      simp only [natP, List.map_cons, putV] at this ⊢
      rw [this]
      simp only [sumBits, List.map_cons, List.sum_cons]
      omega
  have := key l (0, 0) h
  simpa [valP] using this
theorem valP_lt (l : List (Int × Int)) (h : allOk l = true) : (valP l).1 < p2 (valP l).2 := by
  have key : ∀ (m : List (Int × Int)) (s : Nat × Nat), s.1 < p2 s.2 → allOk m = true → (putV s (natP m)).1 < p2 (putV s (natP m)).2 := by
    intro m
    induction m with
    | nil => intro s hs _; exact hs
    | cons p m ih =>
      intro s hs hm
      simp only [allOk, List.all_cons, Bool.and_eq_true] at hm
      have hp := pOk_true.1 hm.1
      have hn : p.1.toNat < p2 p.2.toNat := by omega
      exact ih _ (piece_lt s.1 s.2 p.1.toNat p.2.toNat hs hn) hm.2
  exact key l (0, 0) (by decide) h

theorem out_new (w : World) (t : TypeId) : Out (w.alloc (.cells #[.slice none 0 0, .int .i64 0, .int .i64 0] t)) w.heap.size 0 0 := by
  refine ⟨by decide, .slice none 0 0, ⟨by simp, by simp, by simp, by simp, by simp, by simp, by simp⟩, ?_⟩
  exact World.ownsRow_nil _ _ _ _

/-- The last byte is filled with noughts. -/
theorem whole_out {w : World} {b V m : Nat} (h : Out w b V m) (hr : m % 8 = 0) : ∃ v, Three w b v (.int .i64 (V / p2 (8 * (m / 8)) : Nat)) (.int .i64 (m % 8 : Nat)) ∧ Bys w b v (leS ((m + 7) / 8) V) := by
  obtain ⟨_, v, ht, hy⟩ := h
  exact ⟨v, ht, by rw [show (m + 7) / 8 = m / 8 by omega]; exact hy⟩

set_option maxHeartbeats 800000 in
theorem whole_any (b V m : Nat) (w : World) (h : Out w b V m) (hm : m ≤ 90000) :
    Calls Try.prog 10 #[.pointer (some ⟨b, 0, none⟩)] w fun e w' => e = .returned (.tuple #[]) ∧ (∃ v x y, Three w' b v x y ∧ Bys w' b v (leS ((m + 7) / 8) V)) ∧ Below b w w' := by
  have h' := hide h
  obtain ⟨hV, v, ht, hy⟩ := h
  obtain ⟨k0, k1, k2, f0, f1, f2, hbw⟩ := ht
  by_cases hr : m % 8 = 0
  · obtain ⟨v', T, Y⟩ := whole_out (unhide h') hr
    have TY := hide (And.intro T Y)
    have hr0 : ((m % 8 : Nat) : Int) = 0 := by omega
    clear T Y hr hV hy k0 k1 hm
    go_enter Try.func10, Try.ntmps10
    go_wp2
    go_end0
    exact ⟨rfl, ⟨v', _, _, (unhide TY).1, (unhide TY).2⟩, Below.refl _ _⟩
  · have hr0 : (0 : Int) < ((m % 8 : Nat) : Int) := by omega
    have hr1 : ((m % 8 : Nat) : Int) < 8 := by omega
    have hfin : Hid ((m + (8 - m % 8)) % 8 = 0 ∧ (m + (8 - m % 8)) / 8 = (m + 7) / 8) := by
      show (m + (8 - m % 8)) % 8 = 0 ∧ (m + (8 - m % 8)) / 8 = (m + 7) / 8
      omega
    have htn : Hid ((8 - ((m % 8 : Nat) : Int)).toNat = 8 - m % 8) := by show (8 - ((m % 8 : Nat) : Int)).toNat = 8 - m % 8; omega
    have hm' := hide hm
    clear hr hV hy k0 k1 hm
    generalize ((m % 8 : Nat) : Int) = r at *
    go_enter Try.func10, Try.ntmps10
    go_wp2_with fail
    refine (put_any b V m 0 (8 - r) _ (unhide h') (by omega) (by omega) (by omega) (by omega) (by have := unhide hm'; omega)).mono ?_
    rintro e w1 ⟨rfl, ho, hb⟩
    rw [unhide htn] at ho
    simp only [Int.toNat_zero, Nat.zero_mod, Nat.zero_mul, Nat.add_zero] at ho
    obtain ⟨_, v', T, Y⟩ := ho
    rw [(unhide hfin).2] at Y
    have TY := hide (And.intro T Y)
    clear T Y
    go_wp2
    go_end0
    exact ⟨rfl, ⟨v', _, _, (unhide TY).1, (unhide TY).2⟩, hb⟩

end Go.Proofs.Ytmocfpjcknmhlaa
