/- How long a text of pieces is. -/
import Derived.Test.YtnomiopdpmecbaaPo4
namespace Go.Proofs.Ytnomiopdpmecbaa
open Go.RowKit Corb

theorem putS_len (l : List (Int × Int)) (h : l.length ≤ 4000) : (putS l).length ≤ 8001 := by
  cases hk : lOk l
  · rw [putS_no hk]; simp
  · rw [putS_yes hk, textP, leS_len]
    simp only [lOk, Bool.and_eq_true] at hk
    have h1 := valP_bits l hk.1
    have h2 := sum_bd hk.1
    omega

end Go.Proofs.Ytnomiopdpmecbaa
