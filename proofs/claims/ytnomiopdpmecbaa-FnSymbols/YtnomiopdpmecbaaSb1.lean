/- Plain mathematics: symbols that were written by a code are read back. -/
import Derived.Test.YtnomiopdpmecbaaM11
import Derived.Test.YtnomiopdpmecbaaM8
import Derived.Test.YtnomiopdpmecbaaM6
import Derived.Test.YtnomiopdpmecbaaM12
namespace Go.Proofs.Ytnomiopdpmecbaa
open Corb

theorem bit_low (V n j : Nat) (h : j < n) : V % 2 ^ n / 2 ^ j % 2 = V / 2 ^ j % 2 := by
  have h1 : V % 2 ^ n / 2 ^ j % 2 = V % 2 ^ n % 2 ^ (j + 1) / 2 ^ j := by
    rw [Nat.pow_succ, Nat.mod_mul_right_div_self]
  have h2 : V / 2 ^ j % 2 = V % 2 ^ (j + 1) / 2 ^ j := by
    rw [Nat.pow_succ, Nat.mod_mul_right_div_self]
  rw [h1, h2]
  congr 1
  apply Nat.mod_mod_of_dvd
  exact Nat.pow_dvd_pow 2 (by omega)
theorem rv_at (n c j : Nat) (h : j < n) : rv n c / 2 ^ j % 2 = c / 2 ^ (n - 1 - j) % 2 := by
  have e := rv_bit n c j
  rw [Nat.testBit_eq_decide_div_mod_eq, Nat.testBit_eq_decide_div_mod_eq, decide_eq_true h, Bool.true_and] at e
  have h1 := Nat.mod_two_eq_zero_or_one (rv n c / 2 ^ j)
  have h2 := Nat.mod_two_eq_zero_or_one (c / 2 ^ (n - 1 - j))
  rcases h1 with h1 | h1 <;> rcases h2 with h2 | h2 <;> rw [h1, h2] at e ⊢ <;> simp at e
theorem cd_code {V p n c : Nat} (h : V / 2 ^ p % 2 ^ n = rv n c) (hc : c < 2 ^ n) (m : Nat) (hm : m ≤ n) : cd V p m = c / 2 ^ (n - m) := by
  induction m with
  | zero => simp only [cd]; rw [Nat.sub_zero, Nat.div_eq_of_lt hc]
  | succ m ih =>
    simp only [cd]
    rw [ih (by omega)]
    have e : bitV V (p + m) = c / 2 ^ (n - 1 - m) % 2 := by
      unfold bitV
      rw [Nat.pow_add, ← Nat.div_div_eq_div_mul, ← bit_low (V / 2 ^ p) n m (by omega), h, rv_at n c m (by omega)]
    rw [e, show n - m = (n - 1 - m) + 1 by omega, ← div_pow_succ, show n - (m + 1) = n - 1 - m by omega]
    omega

theorem nx_under {l : List Int} {i n m : Nat} (hl : l.getD i 0 = (n : Int) + 1) (hm : m ≤ n) : nx l m ≤ codeAt l i / 2 ^ (n + 1 - m) := by
  have h1 := nx_grow l m (n - m)
  rw [show m + (n - m) = n by omega] at h1
  have h2 : 2 * nx l n ≤ codeAt l i := by
    unfold codeAt
    rw [hl, show ((n : Int) + 1).toNat - 1 = n by omega]; omega
  rw [Nat.le_div_iff_mul_le (Nat.two_pow_pos _), show n + 1 - m = (n - m) + 1 by omega, Nat.pow_succ]
  unfold p2 at h1
  have : nx l m * (2 ^ (n - m) * 2) = 2 * (nx l m * 2 ^ (n - m)) := by rw [← Nat.mul_assoc, Nat.mul_comm]
  omega

theorem decF_code {l : List Int} (hok : lensOk l = true) {V sz p i n : Nat} (hi : i < l.length) (hl : l.getD i 0 = (n : Int) + 1) (hn : n < 15) (h : V / 2 ^ p % 2 ^ (n + 1) = rv (n + 1) (codeAt l i)) (hsz : p + n + 1 ≤ sz) (m f : Nat) (hm : m ≤ n) (hf : n < m + f) : decF l V sz p f m = some ((i : Int), p + n + 1) := by
  have hlt := codeAt_lt hok hi (by omega)
  rw [hl, show ((n : Int) + 1).toNat = n + 1 by omega] at hlt
  induction f generalizing m with
  | zero => omega
  | succ f ih =>
    have hcd := cd_code h hlt.1 (m + 1) (by omega)
    by_cases e : m = n
    · subst e
      rw [Nat.sub_self, Nat.pow_zero, Nat.div_one] at hcd
      rw [decF_hit (by omega) (by rw [hcd]; exact hlt.2), hcd]
      have hs : symAt l m (codeAt l i) = (i : Int) := by
        unfold symAt
        have e2 : codeAt l i - 2 * nx l m = many l ((m : Int) + 1) i := by
          unfold codeAt
          rw [hl, show ((m : Int) + 1).toNat - 1 = m by omega]; omega
        rw [e2]
        exact symsN_get l 15 m i hi hl hn
      rw [hs]
    · rw [decF_next (by omega) (by rw [hcd]; have := nx_under (m := m + 1) hl (by omega); omega)]
      exact ih (m + 1) (by omega) (by omega)
theorem dec_code {l : List Int} (hok : lensOk l = true) {V sz p i n : Nat} (hi : i < l.length) (hl : l.getD i 0 = (n : Int) + 1) (h : V / 2 ^ p % 2 ^ (n + 1) = rv (n + 1) (codeAt l i)) (hsz : p + n + 1 ≤ sz) : dec l V sz p = some ((i : Int), p + n + 1) := by
  have hb := inL_bd (lensOk_in hok) hi
  exact decF_code hok hi hl (by omega) h hsz 0 15 (Nat.zero_le _) (by omega)

theorem symP_ok {l t : List Int} (hok : lensOk l = true) (ht : t.all (hasS l) = true) : allOk (symP l t) = true := by
  simp only [allOk, symP, List.all_map, List.all_eq_true]
  intro x hx
  obtain ⟨h0, h1, h2⟩ := hasS_true (List.all_eq_true.1 ht x hx)
  have hk : x.toNat < l.length := by omega
  obtain ⟨e1, e2, e3⟩ := pcOf_eq hok hk h2
  have hb := inL_bd (lensOk_in hok) hk
  show pOk (btI ((outN l 15).2.getD x.toNat 0) (l.getD x.toNat 0)) (l.getD x.toNat 0) = true
  rw [e3, pOk_true]
  have := rv_lt (l.getD x.toNat 0).toNat ((outN l 15).2.getD x.toNat 0).toNat
  refine ⟨⟨by omega, by omega⟩, by omega, ?_⟩
  unfold p2
  omega

theorem decs_put {l t : List Int} (hok : lensOk l = true) (ht : t.all (hasS l) = true) {V sz : Nat} (hV : V = (valP (symP l t)).1) (hsz : sumN (bitsOf (symP l t)) ≤ sz) (k : Nat) (hk : k ≤ t.length) : decs l V sz k = some (t.take k, sumN ((bitsOf (symP l t)).take k)) := by
  induction k with
  | zero => rfl
  | succ k ih =>
    have hk' : k < t.length := by omega
    have hin : t.getD k 0 ∈ t := by simp [List.getD, hk']
    obtain ⟨h0, h1, h2⟩ := hasS_true (List.all_eq_true.1 ht _ hin)
    have hi : (t.getD k 0).toNat < l.length := by omega
    obtain ⟨e1, _, e3⟩ := pcOf_eq hok hi h2
    have hp := put_at (symP_ok hok ht) k (by rw [symP_len]; exact hk')
    have hg : (symP l t).getD k (0, 0) = pcOf l (t.getD k 0) := by simp [symP, List.getD, hk']
    rw [hg, ← hV] at hp
    have hpc : pcOf l (t.getD k 0) = (btI ((outN l 15).2.getD (t.getD k 0).toNat 0) (l.getD (t.getD k 0).toNat 0), l.getD (t.getD k 0).toNat 0) := rfl
    rw [hpc] at hp
    simp only at hp
    rw [e3, e1, Int.toNat_natCast, Int.toNat_natCast] at hp
    obtain ⟨n, hn⟩ : ∃ n : Nat, l.getD (t.getD k 0).toNat 0 = (n : Int) + 1 := ⟨(l.getD (t.getD k 0).toNat 0 - 1).toNat, by omega⟩
    rw [hn, show ((n : Int) + 1).toNat = n + 1 by omega] at hp
    have hb : (bitsOf (symP l t)).take (k + 1) = (bitsOf (symP l t)).take k ++ [(n : Int) + 1] := by
      have hlen : k < (bitsOf (symP l t)).length := by rw [bitsOf_len, symP_len]; exact hk'
      rw [List.take_succ_eq_append_getElem hlen]
      congr 2
      have : (bitsOf (symP l t))[k] = (pcOf l (t.getD k 0)).2 := by simp [bitsOf, symP, List.getD, hk']
      rw [this, hpc]
      exact hn
    have hs1 : sumN ((bitsOf (symP l t)).take (k + 1)) = sumN ((bitsOf (symP l t)).take k) + n + 1 := by
      rw [hb, sumN_append]
      have : sumN [(n : Int) + 1] = n + 1 := by simp [sumN]
      omega
    have hs2 : sumN ((bitsOf (symP l t)).take (k + 1)) ≤ sumN (bitsOf (symP l t)) := by
      have := sumN_append ((bitsOf (symP l t)).take (k + 1)) ((bitsOf (symP l t)).drop (k + 1))
      rw [List.take_append_drop] at this
      omega
    have hd := dec_code hok hi hn hp (sz := sz) (by omega)
    have := decs_some (ih (by omega)) hd
    rw [this, hs1]
    congr 2
    rw [List.take_succ_eq_append_getElem hk']
    congr 2
    have : t[k] = t.getD k 0 := by simp [List.getD, hk']
    rw [this]; omega

end Go.Proofs.Ytnomiopdpmecbaa
