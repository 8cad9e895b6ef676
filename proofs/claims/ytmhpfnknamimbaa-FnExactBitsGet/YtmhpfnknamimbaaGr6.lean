/- The program's reading of numbers, over this seat's program. -/
import Derived.Test.YtmhpfnknamimbaaGr5
namespace Go.Proofs.Ytmhpfnknamimbaa
open Go.RowKit Corb

def blank (l : List Int) : List (Int × Int) := l.map fun b => (0, b)
theorem blank_len (l : List Int) : (blank l).length = l.length := by simp [blank]
theorem pOk_blank (b : Int) : pOk 0 b = inB b 0 16 := by
  rw [Bool.eq_iff_iff, pOk_true, inB_true]
  have := p2_pos b.toNat
  constructor
  · exact fun h => h.1
  · exact fun h => ⟨h, by omega, by omega⟩
theorem blank_ok (l : List Int) : allOk (blank l) = bitsOk l := by
  simp only [allOk, bitsOk, blank, List.all_map]
  congr 1
  funext b
  exact pOk_blank b
theorem blank_sum (l : List Int) (h : bitsOk l = true) : sumBits (blank l) = (sumN l : Int) := by
  induction l with
  | nil => rfl
  | cons b l ih =>
    have h' : (0 ≤ b ∧ b ≤ 16) ∧ bitsOk l = true := by simpa [bitsOk] using h
    have := ih h'.2
    simp only [sumBits, blank, List.map_cons, List.sum_cons] at this ⊢
    rw [sumN_cons, this]
    omega
theorem blank_long (l : List Int) (h4 : l.length ≤ 4000) : longI (blank l) = if bitsOk l = true then (sumN l : Int) else -1 := by
  unfold longI lOk
  rw [blank_ok, blank_len]
  rcases hb : bitsOk l with _ | _
  · simp
  · simp [h4, blank_sum l hb]
theorem blank_snoc (l : List Int) (b : Int) : blank (l ++ [b]) = blank l ++ [(0, b)] := by simp [blank]
theorem blank_get (l : List Int) (k : Nat) (h : k < l.length) : (blank l).getD k (0, 0) = (0, l.getD k 0) := by
  simp [blank, List.getD, h]

set_option maxHeartbeats 400000 in
theorem blankOf_any (b : Int) (w : World) :
    Calls Try.prog 46 #[.int .i64 b] w fun e w' => e = .returned (.agg #[.int .i64 0, .int .i64 b]) ∧ Below w.heap.size w w' := by
  go_enter Try.func46, Try.ntmps46
  go_wp2
  exact bodyPost_ret (v := .agg #[.int .i64 0, .int .i64 b]) (by simp [results, Try.results46, go_sem]) rfl ⟨rfl, (Below.refl _ _).alloc (Nat.le_refl _) _⟩

set_option maxHeartbeats 1600000 in
theorem eachB_any (a : Option Addr) (cap : Nat) (l : List Int) (w : World) (h : IRow w a l) (h4 : l.length ≤ 4000) :
    Calls Try.prog 45 #[.slice a l.length cap, .func (.func 46) #[] #[]] w fun e w' => ∃ v, e = .returned v ∧ Pcs w' w.heap.size v (blank l) ∧ Below w.heap.size w w' := by
  have H4 := hide h4
  have h4' : (l.length : Int) ≤ 4000 := by omega
  clear h4
  obtain ⟨i0, hi, hz0, hz1, hz2⟩ := info_parts Try.infoPiece
  go_enter Try.func45, Try.ntmps45
  go_wp2_with fail
  go_loopw [5, 7, 10] (fun o _ i wr => ∃ k : Nat, k ≤ l.length ∧ i = .int .i64 k ∧ Pcs wr w.heap.size o (blank (l.take k)) ∧ Below w.heap.size w wr) (fun _ _ i _ => l.length - (intOf i).toNat)
  case atStart => exact ⟨0, Nat.zero_le _, rfl, World.ownsRow_nil _ _ _ _, Below.refl _ _⟩
  case round =>
    obtain ⟨k, hk, rfl, hq, hbel⟩ := hrel
    have hbs := hbel.size
    by_cases hlt : k < l.length
    · obtain ⟨g, o, rfl, hg, hc⟩ := (h.later hbel) (by omega)
      have c0 := hc k hlt
      have htk := hide (take_snocI l k hlt)
      have hlk : Hid ((blank (l.take k)).length = k) := by show (blank (l.take k)).length = k; rw [blank_len]; simp; omega
      have HK := hide hk
      clear hc hk h
      generalize l.getD k 0 = y at *
      go_wp2_with fail
      refine (blankOf_any y _).mono ?_
      rintro e x1 ⟨rfl, hb1⟩
      have hq1 := Pcs.later hq hb1 (Nat.le_refl _)
      have hbel1 := bnext hbel hb1
      have hbs1 := hbel1.size
      clear hq hbel hb1
      go_wp2_with (at_builtin; refine wpList_append_own _ rfl _ _ 23 rfl w.heap.size 29 i0 (.agg #[.int .i64 0, .int .i64 0]) 2 16 Try.underlying23 hi hz0 hz1 hz2 rfl (by decide) _ _ _ rfl (World.ownsRow.alloc hq1 _) ⟨x1.heap.size, 0, none⟩ 1 1 [.int .i64 0, .int .i64 y] rfl rfl (by intro j u hj; match j, hj with | 0, hj => simp at hj; subst hj; simp [Addr.add] | 1, hj => simp at hj; subst hj; simp [Addr.add]) (by intro u hu; simp at hu; rcases hu with rfl | rfl <;> rfl) (by have := unhide hlk; have := unhide H4; unfold maxLen; omega) (by have := unhide hlk; have := unhide H4; omega) (by simp; omega) ?_; intro v' x2 hown hgrow hnil; clear hnil)
      have hb2 := grown_step (v := u5) hgrow hq1 (Nat.le_refl _) hbs1 hbel1
      have hq2 := pcs_snoc hown
      rw [← blank_snoc, ← unhide htk] at hq2
      clear hown hgrow hq1
      go_wp2
      go_roundw
      case rel => exact ⟨k + 1, by have := unhide HK; omega, by go_num, hq2, hb2⟩
      case measure => simp [intOf]; omega
    · have hlk2 : l.take k = l := List.take_of_length_le (by omega)
      rw [hlk2] at hq
      obtain ⟨va, vc, rfl⟩ := hq.form
      clear hlk2 h
      go_wp2
      go_ret
      exact ⟨_, rfl, hq, hbel⟩

end Go.Proofs.Ytmhpfnknamimbaa
