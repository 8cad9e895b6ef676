/- Contracts of the model's texts that tokens make, over this seat's program. -/
import Derived.Test.YtpmidjddjdejmaaDoorM7
import Derived.Test.YtpmidjddjdejmaaDoorM5
import Derived.Test.YtpmidjddjdejmaaDoorM2
import Derived.Deep.RegionHeld3
import Derived.Deep.RegionLawGrows
import Derived.Test.YtpmidjddjdejmaaDoorStepLaw
namespace Go.Proofs.YtpmidjddjdejmaaDoor
open Go.RowKit
set_option maxRecDepth 100000

theorem byteT_conv {x : Int} (h0 : 0 ≤ x) (h1 : x ≤ 255) : Value.int .u8 x = .int .u8 ((byteT x).toNat : Int) := by rw [byteT_nat h0 h1]
theorem grown_cell {W x1 : World} {v u : Value} {k o : Nat} (hg : W.grownBy x1 v.ownBlock) (hv : ∀ g, v.ownBlock = some g → g < k) (hc : W.cell? ⟨k, o, none⟩ = some u) : x1.cell? ⟨k, o, none⟩ = some u :=
  hg.cell hc (fun e => by have := hv k e.symm; omega)
theorem row_below {w : World} {base size n : Nat} {e : TypeId} {v : Value} {xs : List Value} (h : w.ownsRow base e size v n xs) : ∀ g, v.ownBlock = some g → g < w.heap.size := fun g hg => (World.ownsRow.lt h g hg).2


end Go.Proofs.YtpmidjddjdejmaaDoor
