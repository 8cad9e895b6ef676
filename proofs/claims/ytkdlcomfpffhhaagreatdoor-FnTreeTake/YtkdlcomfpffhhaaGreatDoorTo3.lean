/- Contracts of the program's best token at a place, over this seat's program. -/
import Derived.Test.YtkdlcomfpffhhaaGreatDoorTo2
import Derived.Test.YtkdlcomfpffhhaaGreatDoorTi1
set_option linter.unusedSimpArgs false
set_option linter.unusedVariables false
namespace Go.Proofs.YtkdlcomfpffhhaaGreatDoor
open Go.RowKit
theorem Mi(L:List UInt8)(p:Nat):okT (tU L p)=true:=by
 unfold tU;obtain⟨b,h2,a,d⟩:=nu L p (min p 250)
 split
 .
  have:=UInt8.toNat_lt (L.getD p 0);generalize L.getD p 0=c at *
  simp only[okT,isB,inB];simp;omega
 . rename_i hn;obtain⟨e,f⟩:=a (by omega);simp only[okT,isK,isB,inB];simp;omega
end Go.Proofs.YtkdlcomfpffhhaaGreatDoor
