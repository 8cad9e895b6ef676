/- Plain mathematics: what the tokens of a text make. -/
import Derived.Test.YtlncdcdblmpmgaaTm2
import Derived.Test.YtlncdcdblmpmgaaTt3
namespace Go.Proofs.Ytlncdcdblmpmgaa
open Go.RowKit

theorem textK_front (D : List Tk) (r : List Tk) : ∀ k, k ≤ D.length → textK (D ++ r) k = textK D k := by
  intro k
  induction k with
  | zero => intro _; rfl
  | succ k ih =>
    intro h
    simp only [textK]
    rw [ih (by omega)]
    have e : (D ++ r).getD k k0 = D.getD k k0 := by
      simp only [List.getD_eq_getElem?_getD]
      rw [List.getElem?_append_left (by omega)]
    rw [e]
theorem textT_snoc (D : List Tk) (t : Tk) : textT (D ++ [t]) = (textT D).bind fun s => addL s t := by
  unfold textT
  rw [List.length_append, List.length_singleton]
  simp only [textK]
  rw [textK_front D [t] D.length (Nat.le_refl _)]
  have e : (D ++ [t]).getD D.length k0 = t := by simp
  rw [e]
theorem textT_go {D : List Tk} {t : Tk} {s x : List UInt8} (h : textT D = some s) (ha : addL s t = some x) : textT (D ++ [t]) = some x := by rw [textT_snoc, h]; exact ha
theorem textT_off {D : List Tk} {t : Tk} (h : textT D = none) : textT (D ++ [t]) = none := by rw [textT_snoc, h]; rfl
/-- Bytes that stand so far back, again. -/
theorem rep_take (L : List UInt8) (p b : Nat) (hb : 1 ≤ b) (hbp : b ≤ p) : ∀ n, p + n ≤ L.length → (∀ i, i < n → L.getD (p + i) 0 = L.getD (p + i - b) 0) → rep (L.take p) b n = L.take (p + n) := by
  intro n
  induction n with
  | zero => intro _ _; rfl
  | succ n ih =>
    intro h hi
    have e := ih (by omega) (fun i h2 => hi i (by omega))
    simp only [rep]
    rw [e, List.length_take, show min (p + n) L.length = p + n by omega]
    have e2 : (L.take (p + n)).getD (p + n - b) 0 = L.getD (p + n) 0 := by
      rw [hi n (by omega)]
      simp only [List.getD_eq_getElem?_getD]
      rw [List.getElem?_take, if_pos (by omega)]
    rw [e2, ← Nat.add_assoc, List.take_add_one]
    congr 1
    rw [List.getD_eq_getElem?_getD, List.getElem?_eq_getElem (by omega)]
    rfl
theorem byteT_of (b : UInt8) : byteT (b.toNat : Int) = b := by
  unfold byteT
  simp
/-- The token at a place makes what stands there. -/
theorem addL_tokP {L : List UInt8} {p : Nat} (h : p < L.length) (hl : L.length ≤ 300) : addL (L.take p) (tokP L p) = some (L.take (p + sizP L p)) := by
  obtain ⟨h1, h2, h3, h4⟩ := bestF_le L p (min p 250)
  have hin := sizP_in h
  have hlen : (L.take p).length = p := by rw [List.length_take]; omega
  unfold tokP
  unfold sizP at hin ⊢
  by_cases hc : (bestF L p (min p 250)).1 < 3
  · rw [if_pos hc, if_pos hc]
    have hx := UInt8.toNat_lt (L.getD p 0)
    have hB : isB (((L.getD p 0).toNat : Int), 0, 0) = true := by
      generalize L.getD p 0 = c at *
      simp only [isB, inB]; simp; omega
    rw [addL_yes (by unfold okT; rw [hB]; rfl) (fun hk => by rw [isB_K hB] at hk; cases hk) (by unfold sizT; rw [hB, hlen]; simp only [if_true]; omega), hB]
    simp only [if_true]
    rw [byteT_of, List.take_add_one, List.getD_eq_getElem?_getD, List.getElem?_eq_getElem h]
    rfl
  · rw [if_neg hc] at hin ⊢
    rw [if_neg hc]
    obtain ⟨h5, h6⟩ := h3 (by omega)
    generalize hn : (bestF L p (min p 250)).1 = n at *
    generalize hb : (bestF L p (min p 250)).2 = b at *
    have hK : isK ((0 : Int), (n : Int), (b : Int)) = true := by simp only [isK, inB]; simp; omega
    have hB : isB ((0 : Int), (n : Int), (b : Int)) = false := by
      cases e : isB ((0 : Int), (n : Int), (b : Int))
      · rfl
      · rw [isB_K e] at hK; cases hK
    rw [addL_yes (by unfold okT; rw [hB, hK]; rfl) (fun _ => by rw [hlen]; simp only; omega) (by unfold sizT; rw [hB, hlen]; simp; omega), hB]
    simp only [Bool.false_eq_true, if_false, Int.toNat_natCast]
    rw [rep_take L p b h5 (by omega) n hin (fun i hi => agN_eq L p b i (by rw [← h6]; exact hi))]
theorem toks_from {L : List UInt8} (hl : L.length ≤ 300) : ∀ n p D, L.length - p ≤ n → p ≤ L.length → textT D = some (L.take p) → textT (D ++ toksP L p) = some L := by
  intro n
  induction n with
  | zero =>
    intro p D h hp hD
    rw [toksP_end (by omega), List.append_nil, hD, List.take_of_length_le (by omega)]
  | succ n ih =>
    intro p D h hp hD
    by_cases hlt : p < L.length
    · have hs := sizP_pos L p
      have hin := sizP_in hlt
      rw [toksP_step hlt, List.append_cons]
      exact ih (p + sizP L p) (D ++ [tokP L p]) (by omega) hin (textT_go hD (addL_tokP hlt hl))
    · rw [toksP_end hlt, List.append_nil, hD, List.take_of_length_le (by omega)]
/-- A text is read back from its tokens. -/
theorem toks_text {L : List UInt8} (hl : L.length ≤ 300) : textT (toksP L 0) = some L := by
  have := toks_from hl L.length 0 [] (by omega) (by omega) rfl
  simpa using this
theorem toksOf_text {L : List UInt8} (hl : L.length ≤ 300) : textT (toksOf L) = some L := by unfold toksOf; rw [if_pos hl]; exact toks_text hl
theorem toksOf_less (L : List UInt8) : (toksOf L).length ≤ L.length := by
  unfold toksOf
  split
  · have := toksP_len L L.length 0 (by omega); omega
  · simp
/-- What is told of a text that tokens make. -/
theorem textAll {ts : List Tk} {s : List UInt8} (h : textT ts = some s) : textS ts = s ∧ textB ts = true ∧ textN ts = (s.length : Int) := by
  obtain ⟨h1, h2⟩ := textS_yes h
  refine ⟨h1, h2, ?_⟩
  unfold textN
  rw [h2, h1]
  rfl
theorem textNone {ts : List Tk} (h : textT ts = none) : textS ts = [] ∧ textB ts = false ∧ textN ts = -1 := by
  obtain ⟨h1, h2⟩ := textS_no h
  refine ⟨h1, h2, ?_⟩
  unfold textN
  rw [h2]
  rfl
/-- A text twice. -/
theorem twice_text {L : List UInt8} (h3 : 3 ≤ L.length) (h6 : L.length ≤ 60) : textT (toksOf L ++ [((0 : Int), (L.length : Int), (L.length : Int))]) = some (L ++ L) := by
  refine textT_go (toksOf_text (by omega)) ?_
  have hK : isK ((0 : Int), (L.length : Int), (L.length : Int)) = true := by simp only [isK, inB]; simp; omega
  have hB : isB ((0 : Int), (L.length : Int), (L.length : Int)) = false := by
    cases e : isB ((0 : Int), (L.length : Int), (L.length : Int))
    · rfl
    · rw [isB_K e] at hK; cases hK
  rw [addL_yes (by unfold okT; rw [hB, hK]; rfl) (fun _ => by simp) (by unfold sizT; rw [hB]; simp; omega), hB]
  simp only [Bool.false_eq_true, if_false, Int.toNat_natCast]
  have := rep_take (L ++ L) L.length L.length (by omega) (Nat.le_refl _) L.length (by simp) (fun i hi => by
    simp only [List.getD_eq_getElem?_getD]
    rw [List.getElem?_append_right (by omega), List.getElem?_append_left (by omega)])
  rw [List.take_left'  rfl] at this
  rw [this, List.take_of_length_le (by simp)]
/-- Bytes one by one behind a text. -/
theorem addL_byte {s : List UInt8} (b : UInt8) (h : s.length + 1 ≤ 300) : addL s ((b.toNat : Int), 0, 0) = some (s ++ [b]) := by
  have hB : isB ((b.toNat : Int), 0, 0) = true := by
    have := UInt8.toNat_lt b
    simp only [isB, inB]; simp; omega
  rw [addL_yes (by unfold okT; rw [hB]; rfl) (fun hk => by rw [isB_K hB] at hk; cases hk) (by unfold sizT; rw [hB]; simp only [if_true]; omega), hB]
  simp only [if_true]
  rw [byteT_of]
theorem addL_over {s : List UInt8} (b : UInt8) (h : 300 < s.length + 1) : addL s ((b.toNat : Int), 0, 0) = none := by
  refine addL_long ?_
  have hB : isB ((b.toNat : Int), 0, 0) = true := by
    have := UInt8.toNat_lt b
    simp only [isB, inB]; simp; omega
  unfold sizT
  rw [hB]
  simp only [if_true]
  omega
def byteK (b : UInt8) : Tk := ((b.toNat : Int), 0, 0)
theorem bytes_from {D : List Tk} {s : List UInt8} (h : textT D = some s) : ∀ m : List UInt8, textT (D ++ m.map byteK) = if s.length + m.length ≤ 300 then some (s ++ m) else none := by
  intro m
  have hs : s.length ≤ 300 := textK_len h
  suffices H : ∀ n, ∀ m : List UInt8, m.length = n → textT (D ++ m.map byteK) = if s.length + m.length ≤ 300 then some (s ++ m) else none from H _ m rfl
  intro n
  induction n with
  | zero =>
    intro m hm
    obtain rfl : m = [] := List.length_eq_zero_iff.1 hm
    simp [h, hs]
  | succ n ih =>
    intro m hm
    obtain ⟨m', b, rfl⟩ : ∃ m' b, m = m' ++ [b] := ⟨m.dropLast, m.getLast (by intro e; rw [e] at hm; simp at hm), (List.dropLast_concat_getLast _).symm⟩
    have hm' : m'.length = n := by simpa using hm
    rw [List.map_append, ← List.append_assoc]
    show textT ((D ++ m'.map byteK) ++ [byteK b]) = _
    rw [textT_snoc, ih m' hm']
    have el : (m' ++ [b]).length = m'.length + 1 := by simp
    rw [el]
    by_cases hx : s.length + m'.length ≤ 300
    · rw [if_pos hx]
      by_cases hy : s.length + (m'.length + 1) ≤ 300
      · rw [if_pos hy, ← List.append_assoc]
        exact addL_byte b (by simp; omega)
      · rw [if_neg hy]
        exact addL_over b (by simp; omega)
    · rw [if_neg hx, if_neg (by omega)]
      rfl

end Go.Proofs.Ytlncdcdblmpmgaa
