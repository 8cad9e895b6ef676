/- Of what the proof is made: 3 texts, one behind the other. -/
import Derived.Test.YtlpmnnjlmjffpaaGreatDoorM28
import Derived.Deep.Strs
import Derived.ShutString
import Derived.Test.YtlpmnnjlmjffpaaGreatDoorM4
import Derived.Deep.Slices
import Derived.ChangeSame
import Derived.Test.YtlpmnnjlmjffpaaGreatDoorM34
import Derived.LaidHandle
import Derived.LaidLaws
import Derived.Lay
import Derived.RowKitTokens
import Derived.Stop.Joined
import Derived.Test.YtlpmnnjlmjffpaaGreatDoorM35
import Derived.Test.YtlpmnnjlmjffpaaGreatDoorM29
import Derived.Test.YtlpmnnjlmjffpaaGreatDoorM7
set_option maxRecDepth 100000
set_option linter.unusedSimpArgs false
set_option linter.unusedVariables false
namespace Go.Proofs.YtlpmnnjlmjffpaaGreatDoor
open Go.Proofs.Tryz
open Go.RowKit Go.Deep Go.ChangeShapes Go.WideShapes
theorem Tryz.et:prog.globalNamed "errors.errorType" = some 0:=by kernel_rfl
theorem Tryz.rtt:(prog.cutTypes.find? (·.1 == "internal/reflectlite.rtype")).map (·.2)=some 170:=by kernel_rfl
theorem Tryz.tsize:∃n,prog.types.size=n/\((List.range n).filter fun t=>prog.rowNamed t [101,114,114,111,114])=[54]:=⟨_,rfl,by kernel_rfl⟩
theorem Mc{laid:List (String×DataW Unit)}{W:World}(h:laidMetH prog laid W)
  (hm:("errors.errorType",(DataW.iface "internal/reflectlite.rtype" (.agg [.ptr (.lit (.string [101,114,114,111,114]))]):DataW Unit))∈laid.filter fun x=>x.2.handleName?.isSome):io W:=by
 have h':handlesMet prog (laid.filter fun x=>x.2.handleName?.isSome) W:=by
  unfold laidMetH at h;generalize (laid.filter fun x=>x.2.handleName?.isSome)=fl at *
  cases fl with
  | nil=>cases hm
  | cons a r=>exact h.2
 obtain⟨name,u,ty,e1,e2,e3,e4,e5⟩:=h' _ hm;have en:name=[101,114,114,111,114]:=(a02 e1).symm;subst en;obtain rfl:=a02 (Tryz.rtt.symm.trans e2);obtain⟨n,hn,hone⟩:=Tryz.tsize;have hmm:ty∈(List.range n).filter fun t=>prog.rowNamed t [101,114,114,111,114]:=List.mem_filter.2 ⟨List.mem_range.2 (by rw[←hn];exact e3),e4⟩;rw[hone]at hmm;obtain rfl:=a09.1 hmm;have hh:typeHandle prog 54 = .pointer (some ⟨8,54,none⟩):=by kernel_rfl
 rw[hh]at e5;unfold io;simpa using World.var?_cell Tryz.et e5 0
noncomputable def handW (os:Os):World:=
 let w0:=World.holding prog os ⟨#[],#[],[]⟩
 { w0 with heap:=w0.heap.modify 0 fun
   | .cells _ t frozen=>.cells #[.iface 170 (.agg #[.pointer (some ⟨8,54,none⟩)])] t frozen
   | o=>o }
theorem wU{P:Program}{w0:World}{laid:List (String×DataW Unit)}(args:Array Value)(b:w0.layFits P laid []=true)(c:w0.layIfaces P laid (w0.layVars P laid)=true) :
  laidMet P laid ((w0.layVars P laid).forCall (fun _ _=>0) ⟨#[],args,[]⟩).memory:=by
 have e1:(laid.filter fun x=>(laid.map (·.1)).contains x.1)=laid:=List.filter_eq_self.2 fun x a=>List.contains_iff_mem.2 (a2L.2 ⟨x,a,rfl⟩);have e2:(laid.filter fun x=>!(laid.map (·.1)).contains x.1)=[]:=List.filter_eq_nil_iff.2 fun x a=>by rw[List.contains_iff_mem.2 (a2L.2 ⟨x,a,rfl⟩)];simp
 have h:laidMet P laid (w0.layVars P laid):=laidMet_layVars (w0:=w0) (laid.map (·.1)) [] (by rw[e1]) (by rw[e1];exact b) (by rw[e1];exact c) (by rw[e2];exact LaidIn.none);exact h.of_heap (by simp[World.memory,World.forCall,Input.heap])
end Go.Proofs.YtlpmnnjlmjffpaaGreatDoor
namespace Go.Proofs.YtlpmnnjlmjffpaaGreatDoor
open Go.Proofs.Tryz
open Go.RowKit Corb
variable {d h mi mo s y:Int}{n t:ByteArray}
theorem nb.drew{w W:World}(k:nb w n y mo d h mi s t W):nb w n y mo d h mi s t W.drew:=⟨k.1.drew,k.2.1,k.2.2⟩
theorem nb.set{w W:World}(k:nb w n y mo d h mi s t W){A:Nat}(a:w.heap.size<A)(o:Nat)(v:Value):nb w n y mo d h mi s t (W.setCell ⟨A,o,none⟩ v):=by
 have e:(W.setCell ⟨A,o,none⟩ v).heap[w.heap.size]?=W.heap[w.heap.size]?:=a0S W ⟨A,o,none⟩ v w.heap.size (a1x a);obtain⟨b,c,e0,e1,e2,e3,e4,e5,e6,e7⟩:=k;exact⟨aj b (a0C a) _,by simpa using c,(World.cell?_of_block (w:=W) e).trans e0,(World.cell?_of_block (w:=W) e).trans e1,(World.cell?_of_block (w:=W) e).trans e2,(World.cell?_of_block (w:=W) e).trans e3,(World.cell?_of_block (w:=W) e).trans e4,(World.cell?_of_block (w:=W) e).trans e5,(World.cell?_of_block (w:=W) e).trans e6,(World.cell?_of_block (w:=W) e).trans e7⟩
theorem ni:∀(l cur:List UInt8),(∀p∈dj cur l,p.length<=10)->cur.length+l.length+1<=11*(dj cur l).length
 | [],cur,h=>by
  have:=h cur (by simp[dj]);simp[dj];omega
 | b :: l,cur,h=>by
  by_cases e:b=47
  . simp only[dj,a0e e]at h ⊢;have c:=h cur (by simp);have h2:=ni l [] (fun p a=>h p (by simp[a]));simp at h2 ⊢;omega
  . simp only[dj,a0d e]at h ⊢;have h2:=ni l (cur++[b]) h;simp at h2 ⊢;omega
theorem Cs{l:List UInt8}(h:j8 l=true):l.length<=43:=by
 simp only[j8,a0h,a05,a0o]at h;have:=ni l [] (fun p a=>by
  have:=h.1 p a;simp only[fj,a0h,a0o]at this;omega)
 have h2:=h.2;unfold mP at h2;simp at this;omega
theorem dz(k:gn n y mo d h mi s t=true):n.size<=43/\t.size<=300/\cz y mo d h mi s=true:=by
 simp only[gn,a0h,a0o]at k;have:=Cs k.1;exact⟨by simpa using this,k.2.2,k.2.1⟩
theorem Ag(k:cz y mo d h mi s=true):((0<=y/\y<=100000)/\(0<=mo/\mo<=100)/\(0<=d/\d<=100)/\(0<=h/\h<=100)/\(0<=mi/\mi<=100) /\ -100<=s/\s<=100)/\(((((y-1980)*16+mo)*32+d)*32+h)*64+mi)*32+Int.tdiv s 2=((stN y mo d h mi s).toNat:Int)/\(stN y mo d h mi s).toNat<4294967296/\stI y mo d h mi s=((stN y mo d h mi s).toNat:Int):=by
 have e1:stI y mo d h mi s=stN y mo d h mi s:=by simp[stI,k]
 obtain⟨f,b,hd,e,a,c,h2⟩:=NQ k;have e2:Int.tdiv s 2=s/2:=Int.tdiv_eq_ediv_of_nonneg c.1;have e3:0<=stN y mo d h mi s/\stN y mo d h mi s<4294967296:=by unfold stN;omega
 rw[e1,e2];have e4:(((((y-1980)*16+mo)*32+d)*32+h)*64+mi)*32+s/2=stN y mo d h mi s:=rfl;rw[e4];refine⟨by omega,by omega,by omega,by omega⟩
end Go.Proofs.YtlpmnnjlmjffpaaGreatDoor
