/- Contracts of the program's best token at a place, over this seat's program. -/
import Derived.Test.YtlpmnnjlmjffpaaGreatDoorM12
import Derived.Test.YtlpmnnjlmjffpaaGreatDoorTi1
set_option linter.unusedSimpArgs false
set_option linter.unusedVariables false
namespace Go.Proofs.YtlpmnnjlmjffpaaGreatDoor
open Go.RowKit
theorem Nn(L:List UInt8)(p:Nat):okT (mT L p)=true:=by
 unfold mT;obtain⟨b,h2,a,d⟩:=lu L p (min p 250)
 split
 .
  have:=a3J (L.getD p 0);generalize L.getD p 0=c at *
  simp only[okT,isB,inB];simp;omega
 . rename_i hn;obtain⟨e,f⟩:=a (by omega);simp only[okT,isK,isB,inB];simp;omega
end Go.Proofs.YtlpmnnjlmjffpaaGreatDoor
