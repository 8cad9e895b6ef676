/- Of what the proof is made: 2 texts, one behind the other. -/
import Derived.Test.YtemjckkocljgnaaGreatDoorM5
import Derived.Test.YtemjckkocljgnaaGreatDoorM22
import Derived.ChangeVars
import Derived.OpenVars
import Derived.Test.YtemjckkocljgnaaGreatDoorM26
namespace Go.Proofs.YtemjckkocljgnaaGreatDoor
open Go.ChangeShapes Go.WideShapes Go.ChangeAt Go.RowKit
def ordW:DataW Unit:=.agg (ordL.map fun n=>.lit (.int .i64 (n:Nat)))
theorem ord_part {W:World} : ∀ (laid:List (String×DataW Unit)) (ps:List MemPlace),DataW.LaidVars Tryz.prog W laid ps→("loop.example/corbel/impl.lenOrder",ordW)∈laid→∃ ps',DataW.LaidVars Tryz.prog W [("loop.example/corbel/impl.lenOrder",ordW)] ps'
 | [],_,_,h=>by cases h
 | (n,d) :: r,ps,hL,h=>by
  obtain ⟨g,t,cs,fuel,p,q,hg,ht,hv,hd,hr,_⟩:=hL
  rcases List.mem_cons.1 h with e | e
  ·
   obtain ⟨rfl,rfl⟩:=Prod.mk.inj e
   exact ⟨_,g,t,cs,fuel,p,[],hg,ht,hv,hd,rfl,rfl⟩
  ·
   exact ord_part r q hr e
theorem ord_cellV {W:World} {ps:List MemPlace} (h:DataW.LaidVars Tryz.prog W [("loop.example/corbel/impl.lenOrder",ordW)] ps) (r:Nat) (hr:r<19):W.cell? ⟨5,r,none⟩=some (.int .i64 (ordL.getD r 0:Nat)):=by
 obtain ⟨g,t,cs,fuel,p,q,hg,ht,hv,hd,_,_⟩:=h
 obtain rfl:=Option.some.inj ((show Tryz.prog.globalNamed "loop.example/corbel/impl.lenOrder" = some 5 by kernel_rfl).symm.trans hg)
 obtain rfl:=Option.some.inj ((show (Tryz.prog.globals[5]?).map (·.type)=some 260 by kernel_rfl).symm.trans ht)
 obtain ⟨xs,m,_,ex,_,hl,hel⟩:=DataW.trod_array Tryz.underlying260 hd
 have c5:Tryz.prog.cellsOf 3=1:=by kernel_rfl
 have hE:=hel r hr
 rw [c5,Nat.mul_one,List.getElem?_eq_getElem (by omega)] at hE
 obtain ⟨z,e1,e2,_⟩:=DataW.trod_int Tryz.underlying3 hE
 have hlen:ordL.length=19:=rfl
 have e3:(xs.map (·.1))=ordL.map fun n=>.lit (.int .i64 (n:Nat)):=(DataW.agg.inj (Prod.mk.inj ex).1).symm
 have e4:(xs.map (·.1))[r]?=(ordL.map fun n=>(DataW.lit (.int .i64 (n:Nat)):DataW Unit))[r]?:=by rw [e3]
 rw [List.getElem?_map,List.getElem?_map,List.getElem?_eq_getElem (by omega:r<xs.length),List.getElem?_eq_getElem (by omega:r<ordL.length),e2] at e4
 have hz:z=(ordL.getD r 0:Nat):=by
  simp only [Option.map_some,Option.some.injEq,DataW.lit.injEq,Lit.int.injEq,true_and] at e4
  rw [e4,List.getD,List.getElem?_eq_getElem (by omega:r<ordL.length)]; rfl
 rw [World.var?_cell hg hv r,←hz]
 have:cs.toList[r]?=some (.int .i64 z):=by
  have h0:((cs.toList.drop r).take 1)[0]?=some (.int .i64 z):=by rw [e1]; rfl
  simpa using h0
 simpa using this
theorem ord_of_V {W:World} {ps:List MemPlace} (h:DataW.LaidVars Tryz.prog W [("loop.example/corbel/impl.lenOrder",ordW)] ps):OrdC W:=by
 refine ⟨fun j v hv=>?_,?_⟩
 ·
  have hj:j<19:=by
   have:=(List.getElem?_eq_some_iff.1 hv).1
   have e:ordC.toList.length=19:=rfl
   omega
  rw [Nat.zero_add,ord_cellV h j hj]
  have h1:=ordC_get j hj
  rw [Array.getElem?_toList,h1] at hv
  exact hv
 ·
  have h0:=ord_cellV h 0 (by omega)
  rcases Nat.lt_or_ge 5 W.heap.size with h1 | h1
  ·
   exact h1
  ·
   simp [World.cell?,h1] at h0
theorem ord_of_laidsH {W:World} {laid:List (String×DataW Unit)} (h:laidMetH Tryz.prog laid W) (hp:(laid.filter fun x=>x.2.handleName?.isSome).isEmpty=false) (hm:("loop.example/corbel/impl.lenOrder",ordW)∈laid.filter fun x=>x.2.handleName?.isNone):OrdC W:=by
 have h':laidMet Tryz.prog (laid.filter fun x=>x.2.handleName?.isNone) W:=by
  unfold laidMetH at h
  generalize (laid.filter fun x=>x.2.handleName?.isSome)=fl at *
  cases fl with
  | nil=>cases hp
  | cons a r=>exact h.1
 obtain ⟨ps,h1,_,_⟩:=h'
 obtain ⟨ps',h2⟩:=ord_part _ _ h1 hm
 exact ord_of_V h2
end Go.Proofs.YtemjckkocljgnaaGreatDoor
namespace Go.Proofs.YtemjckkocljgnaaGreatDoor
open Go.RowKit Go.Shelf Corb
attribute [local go_sem] Oper.semAt_some
end Go.Proofs.YtemjckkocljgnaaGreatDoor
