/- What the row lists of the library's table of powers. -/
import Derived.Test.YtlpmnnjlmjffpaaGreatDoorM45
import Derived.Test.YtlpmnnjlmjffpaaGreatDoorM5
import Derived.Test.YtlpmnnjlmjffpaaGreatDoorRows
import Derived.ChangeVars
import Derived.OpenVars
import Derived.Lib.LaidTab
set_option linter.unusedSimpArgs false
set_option linter.unusedVariables false
namespace Go.Proofs.YtlpmnnjlmjffpaaGreatDoor
open Go.Proofs.Tryz
open Go.ChangeShapes Go.WideShapes Go.ChangeAt Go.RowKit
theorem vi{W:World}{nm:String}{a:DataW Unit} : ∀(laid:List (String×DataW Unit)) (ps:List MemPlace),DataW.LaidVars prog W laid ps->(nm,a)∈laid->∃ps',DataW.LaidVars prog W [(nm,a)] ps'
 | [],_,_,h=>by cases h
 | (n,d) :: r,ps,hL,h=>by
  obtain⟨g,t,b,fuel,p,q,c,i,j,hd,f,_⟩:=hL;rcases a1a.1 h with e|e
  . obtain⟨rfl,rfl⟩:=Prod.mk.inj e;exact⟨_,g,t,b,fuel,p,[],c,i,j,hd,rfl,rfl⟩
  . exact vi r q f e
theorem uw{W:World}{laid:List (String×DataW Unit)}(h:laidMetH prog laid W)(hp:(laid.filter fun x=>x.2.handleName?.isSome).isEmpty=false)(hm:("internal/strconv.uint64pow10",Rows.laid_internal_strconv_uint64pow10)∈laid.filter fun x=>x.2.handleName?.isNone):mO W:=by
 have h':laidMet prog (laid.filter fun x=>x.2.handleName?.isNone) W:=by
  unfold laidMetH at h;generalize (laid.filter fun x=>x.2.handleName?.isSome)=fl at *
  cases fl with
  | nil=>cases hp
  | cons a r=>exact h.1
 obtain⟨ps,h1,_,_⟩:=h';obtain⟨ps',g',t',cs,fuel,p,q,hg',ht',hvar,hd,_,_⟩:=vi _ _ h1 hm;obtain rfl:=a02 ((show prog.globalNamed "internal/strconv.uint64pow10" = some 3 by kernel_rfl).symm.trans hg');obtain rfl:=a02 ((show(prog.globals[3]?).map (·.type)=some 302 by kernel_rfl).symm.trans ht');have e:(Rows.laid_internal_strconv_uint64pow10:DataW Unit)=Lib.tabData .u64 Lib.pow10Tab:=by rfl
 rw[e]at hd;unfold mO Lib.TabIs;rw[hvar,←Lib.cells_of_tab underlying302 underlying198 (by kernel_rfl) (by kernel_rfl) hd]
end Go.Proofs.YtlpmnnjlmjffpaaGreatDoor
