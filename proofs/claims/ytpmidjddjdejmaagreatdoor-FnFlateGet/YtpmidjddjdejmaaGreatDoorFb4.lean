/- Both books write all tokens of a text: the program's putAll. -/
import Derived.Test.YtpmidjddjdejmaaGreatDoorM17
import Derived.Test.YtpmidjddjdejmaaGreatDoorM20
namespace Go.Proofs.YtpmidjddjdejmaaGreatDoor
open Go.RowKit Go.Shelf Corb
attribute [local go_sem] Oper.semAt_some
def fitsT (L D : List Int) (t : Tk) : Prop := if isB t then t.1.toNat < L.length else 257 + fnd 3 4 t.2.1.toNat 27 < L.length ∧ fnd 1 2 t.2.2.toNat 29 < D.length
theorem isK_bd {t : Tk} (h : isK t = true) : 3 ≤ t.2.1 ∧ t.2.1 ≤ 60 ∧ 1 ≤ t.2.2 ∧ t.2.2 ≤ 250 := by
  unfold isK inB at h; simp only [Bool.and_eq_true, decide_eq_true_eq] at h; omega
theorem isB_bd {t : Tk} (h : isB t = true) : 0 ≤ t.1 ∧ t.1 ≤ 255 := by
  unfold isB inB at h; simp only [Bool.and_eq_true, decide_eq_true_eq] at h; omega
end Go.Proofs.YtpmidjddjdejmaaGreatDoor