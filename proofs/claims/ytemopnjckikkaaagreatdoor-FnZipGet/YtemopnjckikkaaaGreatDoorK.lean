/- Facts of the row. -/
import Derived.Test.YtemopnjckikkaaaGreatDoorCards
import Derived.Test.YtemopnjckikkaaaGreatDoorTie
import Derived.ShutString
import Derived.Below
set_option linter.all false
namespace Go.Proofs.YtemopnjckikkaaaGreatDoor
namespace fnZipGetDone
open Go.ChangeShapes Go.WideShapes Go.RowKit
open Go.ChangeMaps (open_string shut_string)

def kIn : (Rows.fnZipGetRow.inPlace == Tryz.pinned.checked.prog.inPlace 3) = true := by kernel_rfl
def kUn : (Rows.fnZipGetRow.unfollowed == Tryz.pinned.checked.prog.unfollowed 3) = true := by kernel_rfl
def kRe : (Rows.fnZipGetRow.recurses == Tryz.pinned.checked.prog.recurses 3) = true := by kernel_rfl
def kNa : (Rows.fnZipGetRow.named == Tryz.pinned.checked.prog.varsNamed 3) = true := by kernel_rfl
def closed : joinedFacts Tryz.pinned.checked.prog 3 Tryz.f3 Rows.fnZipGetSpec Rows.fnZipGetRow = true := by
  unfold joinedFacts
  rw [kIn, kUn, kRe, kNa]
  kernel_rfl
end fnZipGetDone
