/- A row of files that is handed in, read as data; the variable that holds the type of errors. -/
import Derived.Test.YtchidddpplangaaGreatDoorM26
import Derived.Deep.Strs
import Derived.ShutString
import Derived.Test.YtchidddpplangaaGreatDoorM4
import Derived.Deep.Slices
import Derived.ChangeSame
import Derived.Test.YtchidddpplangaaGreatDoorM32
import Derived.LaidHandle
import Derived.LaidLaws
import Derived.Lay
import Derived.RowKitTokens
import Derived.Stop.Joined
set_option linter.unusedSimpArgs false
set_option linter.unusedVariables false
namespace Go.Proofs.YtchidddpplangaaGreatDoor
open Go.Proofs.Tryz
open Go.RowKit Go.Deep Go.ChangeShapes Go.WideShapes
theorem Tryz.et:prog.globalNamed "errors.errorType" = some 0:=by kernel_rfl
theorem Tryz.rtt:(prog.cutTypes.find? (·.1 == "internal/reflectlite.rtype")).map (·.2)=some 149:=by kernel_rfl
theorem Tryz.tsize:∃n,prog.types.size=n/\((List.range n).filter fun t=>prog.rowNamed t [101,114,114,111,114])=[67]:=⟨_,rfl,by kernel_rfl⟩
theorem Mh{laid:List (String×DataW Unit)}{W:World}(h:laidMetH prog laid W)
  (hm:("errors.errorType",(DataW.iface "internal/reflectlite.rtype" (.agg [.ptr (.lit (.string [101,114,114,111,114]))]):DataW Unit))∈laid.filter fun x=>x.2.handleName?.isSome):pR W:=by
 have h':handlesMet prog (laid.filter fun x=>x.2.handleName?.isSome) W:=by
  unfold laidMetH at h;generalize (laid.filter fun x=>x.2.handleName?.isSome)=fl at *
  cases fl with
  | nil=>cases hm
  | cons a r=>exact h.2
 obtain⟨name,u,ty,e1,e2,e3,e4,e5⟩:=h' _ hm;have en:name=[101,114,114,111,114]:=(a1I e1).symm;subst en;obtain rfl:=a1I (Tryz.rtt.symm.trans e2);obtain⟨n,hn,hone⟩:=Tryz.tsize;have hmm:ty∈(List.range n).filter fun t=>prog.rowNamed t [101,114,114,111,114]:=List.mem_filter.2 ⟨List.mem_range.2 (by rw[←hn];exact e3),e4⟩;rw[hone]at hmm;obtain rfl:=a07.1 hmm;have hh:typeHandle prog 67 = .pointer (some ⟨5,67,none⟩):=by kernel_rfl
 rw[hh]at e5;unfold pR;simpa using World.var?_cell Tryz.et e5 0
noncomputable def handW (os:Os):World:=
 let w0:=World.holding prog os ⟨#[],#[],[]⟩
 { w0 with heap:=w0.heap.modify 0 fun
   | .cells _ t frozen=>.cells #[.iface 149 (.agg #[.pointer (some ⟨5,67,none⟩)])] t frozen
   | o=>o }
theorem xW{P:Program}{w0:World}{laid:List (String×DataW Unit)}(args:Array Value)(b:w0.layFits P laid []=true)(c:w0.layIfaces P laid (w0.layVars P laid)=true) :
  laidMet P laid ((w0.layVars P laid).forCall (fun _ _=>0) ⟨#[],args,[]⟩).memory:=by
 have e1:(laid.filter fun x=>(laid.map (·.1)).contains x.1)=laid:=List.filter_eq_self.2 fun x a=>List.contains_iff_mem.2 (a2H.2 ⟨x,a,rfl⟩);have e2:(laid.filter fun x=>!(laid.map (·.1)).contains x.1)=[]:=List.filter_eq_nil_iff.2 fun x a=>by rw[List.contains_iff_mem.2 (a2H.2 ⟨x,a,rfl⟩)];simp
 have h:laidMet P laid (w0.layVars P laid):=laidMet_layVars (w0:=w0) (laid.map (·.1)) [] (by rw[e1]) (by rw[e1];exact b) (by rw[e1];exact c) (by rw[e2];exact LaidIn.none);exact h.of_heap (by simp[World.memory,World.forCall,Input.heap])
end Go.Proofs.YtchidddpplangaaGreatDoor
