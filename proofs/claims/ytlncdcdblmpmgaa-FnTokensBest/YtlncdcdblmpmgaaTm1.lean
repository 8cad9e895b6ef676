/- Plain mathematics: the text that tokens make. -/
import Derived.Test.YtlncdcdblmpmgaaTk1
namespace Go.Proofs.Ytlncdcdblmpmgaa
open Go.RowKit

/-- A text, and so many bytes more, each that which stands so far back. -/
def rep (s : List UInt8) (back : Nat) : Nat → List UInt8
  | 0 => s
  | n + 1 => rep s back n ++ [(rep s back n).getD ((rep s back n).length - back) 0]
theorem rep_len (s : List UInt8) (back n : Nat) : (rep s back n).length = s.length + n := by
  induction n with
  | zero => rfl
  | succ n ih => simp only [rep, List.length_append, List.length_singleton, ih]; omega
def byteT (x : Int) : UInt8 := UInt8.ofNat x.toNat
theorem byteT_nat {x : Int} (h0 : 0 ≤ x) (h1 : x ≤ 255) : ((byteT x).toNat : Int) = x := by
  unfold byteT
  rw [UInt8.toNat_ofNat']
  omega
/-- A token that is a byte. -/
def isB (t : Tk) : Bool := decide (t.2.1 = 0) && (inB t.1 0 255 && decide (t.2.2 = 0))
/-- A token that leads back. -/
def isK (t : Tk) : Bool := decide (t.1 = 0) && inB t.2.1 3 60 && inB t.2.2 1 250
/-- A text with what a token tells. -/
def addT (s : List UInt8) (t : Tk) : Option (List UInt8) :=
  if isB t then some (s ++ [byteT t.1]) else if isK t && decide (t.2.2 ≤ (s.length : Int)) then some (rep s t.2.2.toNat t.2.1.toNat) else none
def addL (s : List UInt8) (t : Tk) : Option (List UInt8) := (addT s t).bind fun x => if x.length ≤ 300 then some x else none
def textK (ts : List Tk) : Nat → Option (List UInt8)
  | 0 => some []
  | k + 1 => (textK ts k).bind fun s => addL s (ts.getD k k0)
/-- The text that tokens make. -/
def textT (ts : List Tk) : Option (List UInt8) := textK ts ts.length
theorem textK_none {ts : List Tk} {k n : Nat} (h : textK ts k = none) (hn : k ≤ n) : textK ts n = none := by
  induction n with
  | zero => obtain rfl : k = 0 := by omega
            exact h
  | succ n ih =>
    by_cases e : k = n + 1
    · subst e; exact h
    · simp only [textK]
      rw [ih (by omega)]
      rfl
theorem addL_len {s x : List UInt8} {t : Tk} (h : addL s t = some x) : x.length ≤ 300 := by
  unfold addL at h
  cases ha : addT s t with
  | none => rw [ha] at h; cases h
  | some y =>
    rw [ha] at h
    simp only [Option.bind_some] at h
    split at h
    · simp only [Option.some.injEq] at h; subst h; assumption
    · cases h
theorem textK_len {ts : List Tk} {k : Nat} {s : List UInt8} (h : textK ts k = some s) : s.length ≤ 300 := by
  cases k with
  | zero => simp only [textK, Option.some.injEq] at h; subst h; simp
  | succ k =>
    simp only [textK] at h
    cases hk : textK ts k with
    | none => rw [hk] at h; cases h
    | some y => rw [hk] at h; exact addL_len h
theorem isB_K {t : Tk} (h : isB t = true) : isK t = false := by
  simp only [isB, Bool.and_eq_true, decide_eq_true_eq] at h
  have : inB t.2.1 3 60 = false := inB_false.2 (by omega)
  simp [isK, this]
/-- How many bytes a token makes. -/
def sizT (t : Tk) : Nat := if isB t then 1 else t.2.1.toNat
def okT (t : Tk) : Bool := isB t || isK t
theorem addL_yes {s : List UInt8} {t : Tk} (ho : okT t = true) (hb : isK t = true → t.2.2 ≤ (s.length : Int)) (hl : s.length + sizT t ≤ 300) : addL s t = some (if isB t then s ++ [byteT t.1] else rep s t.2.2.toNat t.2.1.toNat) := by
  unfold addL addT
  unfold sizT at hl
  cases hB : isB t
  · have hK : isK t = true := by simpa [okT, hB] using ho
    rw [hB] at hl
    simp only [Bool.false_eq_true, if_false] at hl ⊢
    rw [hK, decide_eq_true (hb hK)]
    simp only [Bool.and_true, if_true, Option.bind_some]
    rw [if_pos (by rw [rep_len]; exact hl)]
  · rw [hB] at hl
    simp only [if_true, Option.bind_some] at hl ⊢
    rw [if_pos (by simp; omega)]
theorem addL_bad {s : List UInt8} {t : Tk} (ho : okT t = false) : addL s t = none := by
  have hB : isB t = false := by cases h : isB t <;> simp [okT, h] at ho ⊢
  have hK : isK t = false := by simpa [okT, hB] using ho
  unfold addL addT
  rw [hB, hK]; rfl
theorem addL_far {s : List UInt8} {t : Tk} (hK : isK t = true) (hb : (s.length : Int) < t.2.2) : addL s t = none := by
  have hB : isB t = false := by
    cases h : isB t
    · rfl
    · rw [isB_K h] at hK; cases hK
  unfold addL addT
  rw [hB, hK, decide_eq_false (by omega)]; rfl
theorem addL_long {s : List UInt8} {t : Tk} (hl : 300 < s.length + sizT t) : addL s t = none := by
  unfold addL addT
  unfold sizT at hl
  cases hB : isB t
  · rw [hB] at hl
    simp only [Bool.false_eq_true, if_false] at hl ⊢
    split
    · simp only [Option.bind_some]
      rw [if_neg (by rw [rep_len]; omega)]
    · rfl
  · rw [hB] at hl
    simp only [if_true, Option.bind_some] at hl ⊢
    rw [if_neg (by simp; omega)]
/-- The text, or none; whether there is one; how long it is. -/
def textS (ts : List Tk) : List UInt8 := (textT ts).getD []
def textB (ts : List Tk) : Bool := (textT ts).isSome
def textN (ts : List Tk) : Int := if textB ts then ((textS ts).length : Int) else -1

end Go.Proofs.Ytlncdcdblmpmgaa
