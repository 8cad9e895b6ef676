/- Pieces put and counted by the program, with their number as a letter. -/
import Derived.Test.YtnomiopdpmecbaaPw3
namespace Go.Proofs.Ytnomiopdpmecbaa
open Go.RowKit Corb

theorem implBitsPut_n (a : Option Addr) (cap n : Nat) (l : List (Int × Int)) (w : World) (hn : l.length = n) (h : PRow w a l) (hm : n ≤ 1000000000) :
    Calls Try.prog 12 #[.slice a n cap] w fun e w' => e = .returned (.string ⟨(putS l).toArray⟩) ∧ Below w.heap.size w w' := by
  subst hn; exact implBitsPut_any a cap l w h hm
theorem implBitsLong_n (a : Option Addr) (cap n : Nat) (l : List (Int × Int)) (w : World) (hn : l.length = n) (h : PRow w a l) (hm : n ≤ 1000000000) :
    Calls Try.prog 14 #[.slice a n cap] w fun e w' => e = .returned (.int .i64 (longI l)) ∧ Below w.heap.size w w' := by
  subst hn; exact implBitsLong_any a cap l w h hm

end Go.Proofs.Ytnomiopdpmecbaa
