/- Of what the proof is made: 2 texts, one behind the other. -/
import Derived.Test.YtbacpebljannfaaGreatDoorM6
import Derived.Test.YtbacpebljannfaaGreatDoorAr1
import Derived.Deep.RegionWith
namespace Go.Proofs.YtbacpebljannfaaGreatDoor
open Go.RowKit
abbrev Tk := Int × Int × Int
def k0 : Tk := (0, 0, 0)
end Go.Proofs.YtbacpebljannfaaGreatDoor
namespace Go.Proofs.YtbacpebljannfaaGreatDoor
open Go.RowKit
def rep (s : List UInt8) (back : Nat) : Nat → List UInt8
  | 0 => s
  | n + 1 => rep s back n ++ [(rep s back n).getD ((rep s back n).length - back) 0]
theorem rep_len (s : List UInt8) (back n : Nat) : (rep s back n).length = s.length + n := by
  induction n with
  | zero => rfl
  | succ n ih => simp only [rep, List.length_append, List.length_singleton, ih]; omega
def byteT (x : Int) : UInt8 := UInt8.ofNat x.toNat
theorem byteT_nat {x : Int} (h0 : 0 ≤ x) (h1 : x ≤ 255) : ((byteT x).toNat : Int) = x := by
  unfold byteT
  rw [UInt8.toNat_ofNat']
  omega
def isB (t : Tk) : Bool := decide (t.2.1 = 0) && (inB t.1 0 255 && decide (t.2.2 = 0))
def isK (t : Tk) : Bool := decide (t.1 = 0) && inB t.2.1 3 60 && inB t.2.2 1 250
def addT (s : List UInt8) (t : Tk) : Option (List UInt8) :=
  if isB t then some (s ++ [byteT t.1]) else if isK t && decide (t.2.2 ≤ (s.length : Int)) then some (rep s t.2.2.toNat t.2.1.toNat) else none
def addL (s : List UInt8) (t : Tk) : Option (List UInt8) := (addT s t).bind fun x => if x.length ≤ 300 then some x else none
theorem addL_len {s x : List UInt8} {t : Tk} (h : addL s t = some x) : x.length ≤ 300 := by
  unfold addL at h
  cases ha : addT s t with
  | none => rw [ha] at h; cases h
  | some y =>
    rw [ha] at h
    simp only [Option.bind_some] at h
    split at h
    · simp only [Option.some.injEq] at h; subst h; assumption
    · cases h
theorem isB_K {t : Tk} (h : isB t = true) : isK t = false := by
  simp only [isB, Bool.and_eq_true, decide_eq_true_eq] at h
  have : inB t.2.1 3 60 = false := inB_false.2 (by omega)
  simp [isK, this]
def sizT (t : Tk) : Nat := if isB t then 1 else t.2.1.toNat
def okT (t : Tk) : Bool := isB t || isK t
theorem addL_yes {s : List UInt8} {t : Tk} (ho : okT t = true) (hb : isK t = true → t.2.2 ≤ (s.length : Int)) (hl : s.length + sizT t ≤ 300) : addL s t = some (if isB t then s ++ [byteT t.1] else rep s t.2.2.toNat t.2.1.toNat) := by
  unfold addL addT
  unfold sizT at hl
  cases hB : isB t
  · have hK : isK t = true := by simpa [okT, hB] using ho
    rw [hB] at hl
    simp only [Bool.false_eq_true, if_false] at hl ⊢
    rw [hK, decide_eq_true (hb hK)]
    simp only [Bool.and_true, if_true, Option.bind_some]
    rw [if_pos (by rw [rep_len]; exact hl)]
  · rw [hB] at hl
    simp only [if_true, Option.bind_some] at hl ⊢
    rw [if_pos (by simp; omega)]
theorem addL_bad {s : List UInt8} {t : Tk} (ho : okT t = false) : addL s t = none := by
  have hB : isB t = false := by cases h : isB t <;> simp [okT, h] at ho ⊢
  have hK : isK t = false := by simpa [okT, hB] using ho
  unfold addL addT
  rw [hB, hK]; rfl
theorem addL_far {s : List UInt8} {t : Tk} (hK : isK t = true) (hb : (s.length : Int) < t.2.2) : addL s t = none := by
  have hB : isB t = false := by
    cases h : isB t
    · rfl
    · rw [isB_K h] at hK; cases hK
  unfold addL addT
  rw [hB, hK, decide_eq_false (by omega)]; rfl
theorem addL_long {s : List UInt8} {t : Tk} (hl : 300 < s.length + sizT t) : addL s t = none := by
  unfold addL addT
  unfold sizT at hl
  cases hB : isB t
  · rw [hB] at hl
    simp only [Bool.false_eq_true, if_false] at hl ⊢
    split
    · simp only [Option.bind_some]
      rw [if_neg (by rw [rep_len]; omega)]
    · rfl
  · rw [hB] at hl
    simp only [if_true, Option.bind_some] at hl ⊢
    rw [if_neg (by simp; omega)]
end Go.Proofs.YtbacpebljannfaaGreatDoor
