/- Contracts of the model's texts that tokens make: tokens that lead back, over this seat's program. -/
import Derived.Test.YtpmidjddjdejmaaDoorTt1
import Derived.Test.YtpmidjddjdejmaaDoorM5
namespace Go.Proofs.YtpmidjddjdejmaaDoor
open Go.RowKit

theorem isB_long {t : Tk} (h : t.2.1 ≠ 0) : isB t = false := by simp [isB, h]


end Go.Proofs.YtpmidjddjdejmaaDoor
