/- Contracts of the program's best token at a place, over this seat's program. -/
import Derived.Test.YtpmidjddjdejmaaGreatDoorTo2
import Derived.Test.YtpmidjddjdejmaaGreatDoorTi1
namespace Go.Proofs.YtpmidjddjdejmaaGreatDoor
open Go.RowKit
theorem tokP_ok (L : List UInt8) (p : Nat) : okT (tokP L p) = true := by
  unfold tokP
  obtain ⟨h1, h2, h3, h4⟩ := bestF_le L p (min p 250)
  split
  · have := UInt8.toNat_lt (L.getD p 0)
    generalize L.getD p 0 = c at *
    simp only [okT, isB, inB]
    simp
    omega
  · rename_i hn
    obtain ⟨h5, h6⟩ := h3 (by omega)
    simp only [okT, isK, isB, inB]
    simp
    omega
end Go.Proofs.YtpmidjddjdejmaaGreatDoor