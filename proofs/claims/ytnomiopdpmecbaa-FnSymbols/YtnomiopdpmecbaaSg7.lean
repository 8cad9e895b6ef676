/- Symbols read by a code: the first of some, and each has a code. -/
import Derived.Test.YtnomiopdpmecbaaSg6
namespace Go.Proofs.Ytnomiopdpmecbaa
open Go.RowKit Corb

theorem decs_take {l : List Int} {V sz k m p : Nat} {L : List Int} (h : decs l V sz m = some (L, p)) (hk : k ≤ m) : ∃ q, decs l V sz k = some (L.take k, q) := by
  induction m generalizing L p with
  | zero =>
    have : k = 0 := by omega
    subst this
    exact ⟨0, rfl⟩
  | succ m ih =>
    by_cases e : k = m + 1
    · subst e
      exact ⟨p, by rw [List.take_of_length_le (by rw [decs_len h]; omega)]; exact h⟩
    · simp only [decs] at h
      split at h
      · cases h
      · split at h
        · cases h
        · rename_i L' p' hL _ i q hd
          simp only [Option.some.injEq, Prod.mk.injEq] at h
          obtain ⟨q', hq'⟩ := ih hL (by omega)
          refine ⟨q', ?_⟩
          rw [← h.1, List.take_append_of_le_length (by rw [decs_len hL]; omega)]
          exact hq'

/-- A number is a symbol that has a code. -/
def coded (l : List Int) (i : Int) : Prop := 0 ≤ i ∧ i < (l.length : Int) ∧ 0 < l.getD i.toNat 0

theorem decF_has {l : List Int} {V sz p f n : Nat} {i : Int} {q : Nat} (hf : n + f = 15) (hi : nx l n ≤ cd V p n) (h : decF l V sz p f n = some (i, q)) : coded l i := by
  induction f generalizing n with
  | zero => simp [decF] at h
  | succ f ih =>
    simp only [decF] at h
    split at h
    · cases h
    · split at h
      · rename_i hc
        simp only [Option.some.injEq, Prod.mk.injEq] at h
        obtain ⟨j, hj, hl, _, hs⟩ := sym_there (l := l) (n := n) (c := cd V p (n + 1)) (by omega) (by simp only [cd]; omega) hc
        rw [hs] at h
        rw [← h.1]
        refine ⟨by omega, by omega, ?_⟩
        rw [Int.toNat_natCast, hl]; omega
      · rename_i hc
        exact ih (by omega) (by omega) h
theorem dec_has {l : List Int} {V sz p q : Nat} {i : Int} (h : dec l V sz p = some (i, q)) : coded l i := decF_has rfl (Nat.zero_le _) h
theorem decs_has {l : List Int} {V sz m p : Nat} {L : List Int} (h : decs l V sz m = some (L, p)) : ∀ x ∈ L, coded l x := by
  induction m generalizing L p with
  | zero => simp only [decs, Option.some.injEq, Prod.mk.injEq] at h; rw [← h.1]; intro x hx; simp at hx
  | succ m ih =>
    simp only [decs] at h
    split at h
    · cases h
    · split at h
      · cases h
      · rename_i L' p' hL _ i q hd
        simp only [Option.some.injEq, Prod.mk.injEq] at h
        rw [← h.1]
        intro x hx
        rcases List.mem_append.1 hx with hx | hx
        · exact ih hL x hx
        · simp at hx; subst hx; exact dec_has hd

theorem sg_first {l : List Int} {s : ByteArray} {m : Nat} (h : sgOk l s (m : Int) = true) : (sgL l s m).length = m ∧ (∀ x ∈ sgL l s m, coded l x) ∧ ∀ k : Nat, k ≤ m → sgOk l s (k : Int) = true ∧ sgL l s (k : Int) = (sgL l s m).take k := by
  simp only [sgOk, Bool.and_eq_true] at h
  obtain ⟨⟨h1, h2⟩, h3⟩ := h
  rw [Int.toNat_natCast] at h3
  obtain ⟨⟨L, p⟩, hd⟩ := Option.isSome_iff_exists.1 h3
  have e := sg_yes (s := s) (m := (m : Int)) h1 h2 (by rw [Int.toNat_natCast]; exact hd)
  refine ⟨by rw [e.2]; exact decs_len hd, by rw [e.2]; exact decs_has hd, fun k hk => ?_⟩
  obtain ⟨q, hq⟩ := decs_take hd hk
  have hb := inB_true.1 h2
  have e2 := sg_yes (s := s) (m := (k : Int)) h1 (inB_true.2 (by omega)) (by rw [Int.toNat_natCast]; exact hq)
  exact ⟨e2.1, by rw [e2.2, e.2]⟩
theorem sg_neg {l : List Int} {s : ByteArray} {c : Int} (h : sgOk l s c = true) : 0 ≤ c ∧ c ≤ 4000 := by
  simp only [sgOk, Bool.and_eq_true] at h
  exact inB_true.1 h.1.2

theorem IRow.take {w : World} {a : Option Addr} {l : List Int} (h : IRow w a l) (k : Nat) : IRow w a (l.take k) := by
  intro h0
  have hl : (l.take k).length ≤ l.length := by simp; omega
  obtain ⟨g, o, e, hg, hc⟩ := h (by omega)
  refine ⟨g, o, e, hg, fun i hi => ?_⟩
  have h1 : i < k := by simp at hi; omega
  rw [hc i (by omega)]
  simp [List.getD, h1]

end Go.Proofs.Ytnomiopdpmecbaa
