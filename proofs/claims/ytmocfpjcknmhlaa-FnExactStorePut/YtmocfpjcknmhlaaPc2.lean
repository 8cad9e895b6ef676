/- Contracts of BitsLong, the program's and the model's, over this seat's program. -/
import Derived.Test.YtmocfpjcknmhlaaPc1
namespace Go.Proofs.Ytmocfpjcknmhlaa
open Go.RowKit Corb

/-- How many bits pieces are together. -/
def sumBits (l : List (Int × Int)) : Int := (l.map (·.2)).sum
def lOk (l : List (Int × Int)) : Bool := allOk l && decide (l.length ≤ 4000)
def longI (l : List (Int × Int)) : Int := if lOk l = true then sumBits l else -1
theorem longI_yes {l : List (Int × Int)} (h : lOk l = true) : longI l = sumBits l := if_pos h
theorem longI_no {l : List (Int × Int)} (h : lOk l = false) : longI l = -1 := if_neg (by simp [h])
theorem sum_take (l : List (Int × Int)) (k : Nat) (h : k < l.length) : sumBits (l.take (k + 1)) = sumBits (l.take k) + (l.getD k (0, 0)).2 := by
  rw [List.take_succ_eq_append_getElem h, sumBits, List.map_append, List.sum_append]
  simp [sumBits, List.getD, h]
theorem sum_bd {l : List (Int × Int)} (h : allOk l = true) : 0 ≤ sumBits l ∧ sumBits l ≤ 16 * (l.length : Int) := by
  induction l with
  | nil => simp [sumBits]
  | cons p l ih =>
    simp only [allOk, List.all_cons, Bool.and_eq_true] at h
    have h1 := pOk_true.1 h.1
    have h2 := ih h.2
    simp only [sumBits, List.map_cons, List.sum_cons, List.length_cons] at h2 ⊢
    omega
theorem allOk_get {l : List (Int × Int)} (h : allOk l = true) (k : Nat) (hk : k < l.length) : pOk (l.getD k (0, 0)).1 (l.getD k (0, 0)).2 = true := by
  simp only [allOk, List.all_eq_true] at h
  have e : l.getD k (0, 0) = l[k] := by simp [List.getD, hk]
  rw [e]
  exact h _ (List.getElem_mem hk)
theorem allOk_take_true {l : List (Int × Int)} (h : allOk l = true) (k : Nat) : allOk (l.take k) = true := by
  simp only [allOk, List.all_eq_true] at h ⊢
  exact fun x hx => h x (List.mem_of_mem_take hx)

set_option maxHeartbeats 800000 in
theorem implBitsLong_any (a : Option Addr) (cap : Nat) (l : List (Int × Int)) (w : World) (h : PRow w a l) (hm : l.length ≤ 1000000000) :
    Calls Try.prog 11 #[.slice a l.length cap] w fun e w' => e = .returned (.int .i64 (longI l)) ∧ Below w.heap.size w w' := by
  have hm' : (l.length : Int) ≤ 1000000000 := by omega
  by_cases h4 : (l.length : Int) ≤ 4000
  · go_enter Try.func11, Try.ntmps11
    go_wp2_with fail
    go_loopw [3, 5, 11] (fun n _ i wr => ∃ k : Nat, k ≤ l.length ∧ i = .int .i64 k ∧ n = .int .i64 (sumBits (l.take k)) ∧ allOk (l.take k) = true ∧ Below w.heap.size w wr) (fun _ _ i _ => l.length - (intOf i).toNat)
    case atStart => exact ⟨0, Nat.zero_le _, rfl, rfl, rfl, Below.refl _ _⟩
    case round =>
      obtain ⟨k, hk, rfl, rfl, hall, hbel⟩ := hrel
      obtain ⟨s0, s1⟩ := sum_bd hall
      have s2 : ((l.take k).length : Int) ≤ 4000 := by simp; omega
      have s3 : sumBits (l.take k) ≤ 64000 := by omega
      by_cases hlt : k < l.length
      · obtain ⟨g, o, rfl, hg, hc⟩ := (h.later hbel) (by omega)
        obtain ⟨c0, c1⟩ := hc k hlt
        have hs := hide (sum_take l k hlt)
        have ha := hide (allOk_take l k hlt)
        have hall' := hide hall
        clear hc h hall s1 s2
        generalize (l.getD k (0, 0)).1 = x at *
        generalize (l.getD k (0, 0)).2 = y at *
        cases hp : pOk x y
        · have HF : Hid (longI l = -1) := longI_no (by
            have : allOk l = false := allOk_of_take (k := k + 1) (by rw [unhide ha, hp]; simp)
            simp [lOk, this])
          generalize sumBits (l.take k) = S at *
          go_wp2_with (go_at_call 14; refine (pieceOk_any _ _ _).mono ?_; rintro e w1 ⟨rfl, hb1⟩)
          go_ret
          exact ⟨ret_int (unhide HF).symm, (hbel.alloc hbel.size _).trans (hb1.mono (by have := hbel.size; simp; omega))⟩
        · obtain ⟨⟨y0, y1⟩, _⟩ := pOk_true.1 hp
          generalize sumBits (l.take k) = S at *
          go_wp2_with (go_at_call 14; refine (pieceOk_any _ _ _).mono ?_; rintro e w1 ⟨rfl, hb1⟩; have cy : w1.cell? ⟨wr.heap.size, 1, none⟩ = some (.int .i64 y) := (hb1.cell (p := ⟨wr.heap.size, 1, none⟩) (by simp)).trans (by simp))
          go_roundw
          case rel => exact ⟨k + 1, by omega, by go_num, by rw [unhide hs], by rw [unhide ha, unhide hall', hp]; rfl, (hbel.alloc hbel.size _).trans (hb1.mono (by have := hbel.size; simp; omega))⟩
          case measure => simp [intOf]; omega
      · have HE : Hid (longI l = sumBits (l.take k)) := by
          rw [List.take_of_length_le (by omega)] at hall ⊢
          exact longI_yes (by simp [lOk, hall]; omega)
        clear h hall
        go_wp2
        go_ret
        exact ⟨ret_int (unhide HE).symm, hbel⟩
  · have HI : Hid (longI l = -1) := longI_no (by simp [lOk]; omega)
    go_enter Try.func11, Try.ntmps11
    go_wp2
    go_ret
    exact ⟨ret_int (unhide HI).symm, Below.refl _ _⟩

end Go.Proofs.Ytmocfpjcknmhlaa
