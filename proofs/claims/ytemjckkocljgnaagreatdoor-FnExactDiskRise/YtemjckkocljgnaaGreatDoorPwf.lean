/- What the row lists of the library's table of powers. -/
import Derived.Test.YtemjckkocljgnaaGreatDoorM41
import Derived.Test.YtemjckkocljgnaaGreatDoorM5
import Derived.Test.YtemjckkocljgnaaGreatDoorRows
import Derived.ChangeVars
import Derived.OpenVars
import Derived.Lib.LaidTab
namespace Go.Proofs.YtemjckkocljgnaaGreatDoor
open Go.ChangeShapes Go.WideShapes Go.ChangeAt Go.RowKit
theorem laid_part {W:World} {nm:String} {d0:DataW Unit} : ∀ (laid:List (String×DataW Unit)) (ps:List MemPlace),DataW.LaidVars Tryz.prog W laid ps→(nm,d0)∈laid→∃ ps',DataW.LaidVars Tryz.prog W [(nm,d0)] ps'
 | [],_,_,h=>by cases h
 | (n,d) :: r,ps,hL,h=>by
  obtain ⟨g,t,cs,fuel,p,q,hg,ht,hv,hd,hr,_⟩:=hL
  rcases List.mem_cons.1 h with e | e
  ·
   obtain ⟨rfl,rfl⟩:=Prod.mk.inj e
   exact ⟨_,g,t,cs,fuel,p,[],hg,ht,hv,hd,rfl,rfl⟩
  ·
   exact laid_part r q hr e
theorem pow_of_laidsH {W:World} {laid:List (String×DataW Unit)} (h:laidMetH Tryz.prog laid W) (hp:(laid.filter fun x=>x.2.handleName?.isSome).isEmpty=false) (hm:("internal/strconv.uint64pow10",Rows.laid_internal_strconv_uint64pow10)∈laid.filter fun x=>x.2.handleName?.isNone):PowT W:=by
 have h':laidMet Tryz.prog (laid.filter fun x=>x.2.handleName?.isNone) W:=by
  unfold laidMetH at h
  generalize (laid.filter fun x=>x.2.handleName?.isSome)=fl at *
  cases fl with
  | nil=>cases hp
  | cons a r=>exact h.1
 obtain ⟨ps,h1,_,_⟩:=h'
 obtain ⟨ps',g',t',cs,fuel,p,q,hg',ht',hvar,hd,_,_⟩:=laid_part _ _ h1 hm
 obtain rfl:=Option.some.inj ((show Tryz.prog.globalNamed "internal/strconv.uint64pow10" = some 2 by kernel_rfl).symm.trans hg')
 obtain rfl:=Option.some.inj ((show (Tryz.prog.globals[2]?).map (·.type)=some 195 by kernel_rfl).symm.trans ht')
 have e:(Rows.laid_internal_strconv_uint64pow10:DataW Unit)=Lib.tabData .u64 Lib.pow10Tab:=by rfl
 rw [e] at hd
 unfold PowT Lib.TabIs
 rw [hvar,←Lib.cells_of_tab Tryz.underlying195 Tryz.underlying159 (by kernel_rfl) (by kernel_rfl) hd]
end Go.Proofs.YtemjckkocljgnaaGreatDoor
