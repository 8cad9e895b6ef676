/- The program's lengths by counts are the model's. -/
import Derived.Test.YtkkhaleiehnihaaHp9
namespace Go.Proofs.Ytkkhaleiehnihaa
open Go.RowKit Corb

theorem seed_has (l : List Int) (k i : Nat) (hi : i < k) (hp : 0 < l.getD i 0) : ∃ g ∈ seed l k, g.fst = (i : Int) := by
  induction k with
  | zero => omega
  | succ k ih =>
    by_cases e : i = k
    · subst e
      refine ⟨⟨l.getD i 0, (i : Int), [(i : Int)], .slice none 0 0⟩, ?_, rfl⟩
      rw [seed_yes hp]
      simp
    · obtain ⟨g, hg, hf⟩ := ih (by omega)
      refine ⟨g, ?_, hf⟩
      simp only [seed]
      split
      · simp [hg]
      · exact hg
theorem seed_pos (l : List Int) (k : Nat) : ∀ g ∈ seed l k, ∃ i : Nat, g.fst = (i : Int) ∧ i < k ∧ 0 < l.getD i 0 := by
  induction k with
  | zero => intro g hg; simp [seed] at hg
  | succ k ih =>
    intro g hg
    simp only [seed] at hg
    split at hg
    · rename_i hp
      simp only [List.mem_append, List.mem_singleton] at hg
      rcases hg with hg | rfl
      · obtain ⟨i, h1, h2, h3⟩ := ih g hg
        exact ⟨i, h1, by omega, h3⟩
      · exact ⟨k, rfl, by omega, hp⟩
    · obtain ⟨i, h1, h2, h3⟩ := ih g hg
      exact ⟨i, h1, by omega, h3⟩
theorem huf_one {l : List Int} (hc : okC l) (h1 : (seed l l.length).length = 1) : hufL l = l.map oneI := by
  unfold hufL
  rw [if_pos h1]
  obtain ⟨x, hx⟩ : ∃ x, seed l l.length = [x] := by
    cases hs : seed l l.length with
    | nil => rw [hs] at h1; simp at h1
    | cons x t => rw [hs] at h1; simp at h1; exact ⟨x, by rw [h1]⟩
  obtain ⟨q, hq, hql, hqp⟩ := seed_pos l l.length x (by rw [hx]; simp)
  rw [hx]
  simp only [List.getD_cons_zero]
  rw [hq, Int.toNat_natCast]
  apply List.ext_getElem
  · simp
  · intro i h2 h3
    have hi : i < l.length := by simpa using h3
    have e : l.getD i 0 = l[i] := by simp [List.getD, hi]
    have hci := hc i hi
    rw [List.getElem_set, List.getElem_map, List.getElem_replicate]
    by_cases hqi : q = i
    · subst hqi
      rw [if_pos rfl]
      rw [e] at hqp hci
      unfold oneI
      split <;> omega
    · rw [if_neg hqi]
      have hz : ¬ 0 < l.getD i 0 := by
        intro hp
        obtain ⟨g, hg, hf⟩ := seed_has l l.length i hi hp
        rw [hx] at hg
        simp only [List.mem_singleton] at hg
        subst hg
        rw [hq] at hf
        omega
      rw [e] at hz hci
      unfold oneI
      split <;> omega
theorem fit_one {l : List Int} {m : Int} (hm : 1 ≤ m) (hc : okC l) (h1 : (seed l l.length).length = 1) : fitL m l = l.map oneI := by
  have hf : fits (hufL l) m = true := by
    refine fits_of (by omega) ?_
    rw [huf_one hc h1]
    intro i hi
    have hi' : i < l.length := by simpa using hi
    have e : (l.map oneI).getD i 0 = oneI l[i] := by simp [List.getD, hi']
    have e2 : l.getD i 0 = l[i] := by simp [List.getD, hi']
    have hci := hc i hi'
    rw [e2] at hci
    rw [e]
    unfold oneI
    split <;> omega
  rw [← huf_one hc h1]
  unfold fitL
  cases sumP l with
  | zero => rfl
  | succ f => simp only [fitF]; rw [hf]; rfl
theorem huf_pos {l : List Int} (hc : okC l) (hn : l.length ≤ 300) (h2 : 1 < (seed l l.length).length) : ∀ i, i < (hufL l).length → 0 ≤ (hufL l).getD i 0 := by
  intro i hi
  have e : hufL l = (hufI l ((seed l l.length).length - 1)).2 := by unfold hufL; rw [if_neg (by omega)]
  rw [e] at hi ⊢
  exact ((hufI_max l (fun i hi => (hc i hi).2) hn _ (.inl (by omega))) i hi).1

set_option maxHeartbeats 800000 in
theorem implLensOf_nil (a : Option Addr) (cap n : Nat) (l : List Int) (m : Int) (w : World) (hn : l.length = n) (h : IRow w a l) (hm : n ≤ 1048576) (hno : lofOk l m = false) :
    Calls Try.prog 11 #[.slice a n cap, .int .i64 m] w fun e w' => e = .returned (.slice none 0 0) ∧ Below w.heap.size w w' := by
  have HU := hide (countsUsed_any a cap n l w hn h hm)
  by_cases h1 : m < 1
  · clear hn h hm hno
    generalize usedI l = U at *
    go_enter Try.func11, Try.ntmps11
    go_wp2_with fail
    refine (unhide HU).mono ?_
    rintro e x1 ⟨rfl, hx1⟩
    rw [hx1]
    go_wp2
    go_ret
    exact ⟨rfl, Below.refl _ _⟩
  · by_cases h15 : 15 < m
    · clear hn h hm hno
      generalize usedI l = U at *
      go_enter Try.func11, Try.ntmps11
      go_wp2_with fail
      refine (unhide HU).mono ?_
      rintro e x1 ⟨rfl, hx1⟩
      rw [hx1]
      go_wp2
      go_ret
      exact ⟨rfl, Below.refl _ _⟩
    · by_cases hu1 : usedI l < 1
      · clear hn h hm hno
        generalize usedI l = U at *
        go_enter Try.func11, Try.ntmps11
        go_wp2_with fail
        refine (unhide HU).mono ?_
        rintro e x1 ⟨rfl, hx1⟩
        rw [hx1]
        go_wp2
        go_ret
        exact ⟨rfl, Below.refl _ _⟩
      · obtain ⟨mm, rfl⟩ : ∃ mm : Nat, m = (mm : Int) + 1 := ⟨(m - 1).toNat, by omega⟩
        have hin : (decide (l.length ≤ 300) && inC l) = true := by
          cases hx : decide (l.length ≤ 300) && inC l
          · exfalso
            apply hu1
            unfold usedI
            rw [hx]
            simp
          · rfl
        have hbig : (p2 mm : Int) < usedI l := by
          simp only [Bool.and_eq_true, decide_eq_true_eq] at hin
          rw [usedI_yes hin.1 hin.2] at hu1 ⊢
          unfold lofOk at hno
          rw [decide_eq_true hin.1, hin.2, inB_true.2 ⟨by omega, by omega⟩] at hno
          have e3 : ((mm : Int) + 1).toNat = mm + 1 := by omega
          rw [e3, p2_half] at hno
          simp only [Bool.true_and] at hno
          have := inB_false.1 hno
          omega
        have hub : usedI l ≤ 300 := by
          simp only [Bool.and_eq_true, decide_eq_true_eq] at hin
          rw [usedI_yes hin.1 hin.2]
          have := us_le l
          omega
        have hp2 : (1 : Int) * 2 ^ mm = (p2 mm : Int) := by rw [Int.one_mul, p2_int]
        have hp2' : (2 : Int) ^ mm = (p2 mm : Int) := (p2_int mm).symm
        have hmI : (mm : Int) ≤ 14 := by omega
        have h15' : ¬ (15 : Int) < (mm : Int) + 1 := h15
        have hw2 : IntKind.i64.wrap (p2 mm : Int) = (p2 mm : Int) := wrap_id _ (by omega) (by omega)
        clear hn h hm hno hin
        generalize usedI l = U at *
        generalize p2 mm = PW at *
        go_enter Try.func11, Try.ntmps11
        go_wp2_with fail
        refine (unhide HU).mono ?_
        rintro e x1 ⟨rfl, hx1⟩
        rw [hx1]
        go_wp2
        go_ret
        exact ⟨rfl, Below.refl _ _⟩

end Go.Proofs.Ytkkhaleiehnihaa
