/- Contracts of the model's texts that tokens make: tokens that lead back, over this seat's program. -/
import Derived.Test.YthnekjleaolndaaDoorTt1
import Derived.Test.YthnekjleaolndaaDoorM5
namespace Go.Proofs.YthnekjleaolndaaDoor
open Go.RowKit

theorem isB_long {t : Tk} (h : t.2.1 ≠ 0) : isB t = false := by simp [isB, h]


end Go.Proofs.YthnekjleaolndaaDoor
