/- Of what the proof is made: 2 texts, one behind the other. -/
import Derived.Test.YtbacpebljannfaaGreatDoorTr1
import Derived.Deep.RegionHeld3
import Derived.BigQuiet
import Derived.Test.YtbacpebljannfaaGreatDoorM6
namespace Go.Proofs.YtbacpebljannfaaGreatDoor
open Go.RowKit
def lessG (x y : Grp) : Bool := decide (x.cnt < y.cnt) || (decide (x.cnt = y.cnt) && decide (x.fst < y.fst))
def leastF (L : List Grp) : Nat → Nat
  | 0 => 0
  | k + 1 => if lessG (L.getD (k + 1) g0) (L.getD (leastF L k) g0) then k + 1 else leastF L k
def least (L : List Grp) : Nat := leastF L (L.length - 1)
end Go.Proofs.YtbacpebljannfaaGreatDoor
namespace Go.Proofs.YtbacpebljannfaaGreatDoor
open Go.RowKit
def bare (g : Grp) : Grp := ⟨g.cnt, g.fst, g.syms, .slice none 0 0⟩
/-! What is bare is as it was. -/
/-! Bounds. -/
/-! Lengths stay small. -/
end Go.Proofs.YtbacpebljannfaaGreatDoor
