/- Of what the proof is made: 2 texts, one behind the other. -/
import Derived.Test.YtfhdadkcophoaaaGreatDoorM3
import Derived.Carry
import Derived.MapKept
import Derived.ChangeMaps4
import Derived.RangeFuncRecord
import Derived.Test.YtfhdadkcophoaaaGreatDoorRows
import Derived.Handed
import Derived.HandedShaped
import Derived.ProofKit
import Derived.OpenShut
import Derived.Shelf.Vars
import Derived.Lay
import Derived.SevenTiedAt
import Derived.Stop.Joined
import Derived.LaidMore
set_option linter.unusedSimpArgs false
set_option linter.unusedVariables false
namespace Go.Proofs.YtfhdadkcophoaaaGreatDoor
open Go.RowKit
def iH(w:World)(b:Nat)(es:List (Int×Value)):Prop:=
 w.heap[b]?=some (.map ((es.zipIdx.map fun(x,i)=>({ key:=.int .i64 x.1,val:=x.2,born:=i } : MapEntry)).toArray) es.length)
theorem Bo(w:World):iH (w.alloc (.map #[] 0)) w.heap.size []:=World.alloc_heap_new w _
theorem qm(k:Int)(d:IntKind)(es:List MapEntry)(i:Nat)(h:∀e∈es,∃x,e.key = .int .i64 x/\x≠k):Instr.findNow (.int d) (.int .i64 k) es i=some none:=by
 induction es generalizing i with
 | nil=>rfl
 | cons e es ih=>
  obtain⟨x,e1,hx⟩:=h e (by simp);have:(k == x)=false:=by simpa using fun e=>hx e.symm
  simp only[Instr.findNow,e1,Instr.sameNow,a0U,this];exact ih _ (fun e he=>h e (by simp[he]))
theorem Ls{kt:TypeId}{d:IntKind}(hk:Tryz.prog.underlying kt=some (.int d))(em:Bool)(k:Int)(w:World)(n:Nat):(Instr.checkKey em (n+1) kt (.int .i64 k)).run Tryz.prog w = .ok () w:=by
 simp[Instr.checkKey,a1t hk,Result.andThen]
theorem yV{kt:TypeId}{d:IntKind}(hk:Tryz.prog.underlying kt=some (.int d))(em:Bool)(k:Int)(w:World):(Instr.checkKey em 10000 kt (.int .i64 k)).run Tryz.prog w = .ok () w:=Ls hk em k w 9999
theorem lu{t kt et:TypeId}{d:IntKind}(hu:Tryz.prog.underlying t=some (.map kt et))(hk:Tryz.prog.underlying kt=some (.int d))(w:World)(b:Nat)(es:List (Int×Value))(k:Int)(v:Value)(h:iH w b es)(hn:∀x∈es,x.1≠k) :
  ∃w',(Instr.mapUpdate t (.map (some b)) (.int .i64 k) v).run Tryz.prog w = .ok () w'/\iH w' b (es++[(k,v)])/\w'=w.putObj b (.map (((es++[(k,v)]).zipIdx.map fun(x,i)=>({ key:=.int .i64 x.1,val:=x.2,born:=i } : MapEntry)).toArray) (es++[(k,v)]).length):=by
 have hb:b<w.heap.size:=(Array.getElem?_eq_some_iff.1 h).1;have hf:Instr.findNow (.int d) (.int .i64 k) (es.zipIdx.map fun(x,i)=>({ key:=.int .i64 x.1,val:=x.2,born:=i } : MapEntry)) 0=some none:=by
  refine qm k d _ 0 (fun e he=>?_);obtain⟨⟨x,i⟩,hx,rfl⟩:=a2w.1 he;refine⟨x.1,rfl,hn x ?_⟩;have:=List.mem_zipIdx hx;rw[this.2.2];exact a1O _
 refine⟨_,?_,?_,rfl⟩
 · unfold iH at h;simp[Instr.mapUpdate,a1t hu,a1t hk,MapKept.run_getObj_map h,yV hk,Instr.findKey,hf,MapKept.run_setObj_map _ h,Result.andThen,World.putObj,List.zipIdx_append]
 · unfold iH;exact World.putObj_heap_same hb
theorem vZ(k:Int)(d:IntKind)(v:Value)(A:List (Int×Value)):∀(i:Nat),(k,v)∈A->(A.map Prod.fst).Nodup->∃j,Instr.findNow (.int d) (.int .i64 k) ((A.zipIdx i).map fun(x,i)=>({ key:=.int .i64 x.1,val:=x.2,born:=i } : MapEntry)) i=some (some (j,v)):=by
 induction A with
 | nil=>intro i h;cases h
 | cons a A ih=>
  intro i h hd;simp only[a0p,List.nodup_cons]at hd;rcases a04.1 h with rfl|h
  · exact⟨i,by simp[Instr.findNow,Instr.sameNow]⟩
  ·
   obtain⟨j,hj⟩:=ih (i+1) h hd.2;have hne:¬ k=a.1:=fun e=>hd.1 (by rw[←e];exact a2P (f:=Prod.fst) h);have hb:(k == a.1)=false:=by simpa using hne
   refine⟨j,?_⟩;simp only[List.zipIdx_cons,a0p,Instr.findNow,Instr.sameNow,a0U,hb];exact hj
theorem Bl{t kt et:TypeId}{d:IntKind}(hu:Tryz.prog.underlying t=some (.map kt et))(hk:Tryz.prog.underlying kt=some (.int d))(w:World)(b:Nat)(es:List (Int×Value))(k:Int)(v:Value)(co:Bool)(h:iH w b es)(hm:(k,v)∈es)(hd:(es.map Prod.fst).Nodup) :
  (Instr.lookup t (.map (some b)) (.int .i64 k) co).run Tryz.prog w = .ok (if co then .tuple #[v,.bool true]else v) w:=by
 obtain⟨j,hj⟩:=vZ k d v es 0 hm hd;unfold iH at h;simp[Instr.lookup,a1t hu,a1t hk,MapKept.run_getObj_map h,yV hk,Instr.findKey,hj,Result.andThen]
theorem map_none{t kt et:TypeId}{d:IntKind}(hu:Tryz.prog.underlying t=some (.map kt et))(hk:Tryz.prog.underlying kt=some (.int d))(w:World)(b:Nat)(es:List (Int×Value))(k:Int)(z:Value)(h:iH w b es)(hn:∀x∈es,x.1≠k)(hz:(zeroValue et).run Tryz.prog w = .ok z w) :
  (Instr.lookup t (.map (some b)) (.int .i64 k) true).run Tryz.prog w = .ok (.tuple #[z,.bool false]) w:=by
 have hf:Instr.findNow (.int d) (.int .i64 k) (es.zipIdx.map fun(x,i)=>({ key:=.int .i64 x.1,val:=x.2,born:=i } : MapEntry)) 0=some none:=by
  refine qm k d _ 0 (fun e he=>?_);obtain⟨⟨x,i⟩,hx,rfl⟩:=a2w.1 he;refine⟨x.1,rfl,hn x ?_⟩;have:=List.mem_zipIdx hx;rw[this.2.2];exact a1O _
 unfold iH at h;simp[Instr.lookup,a1t hu,a1t hk,MapKept.run_getObj_map h,yV hk,Instr.findKey,hf,hz,Result.andThen]
theorem iH.later{w w':World}{b:Nat}{es:List (Int×Value)}(h:iH w b es)(hb:Below w.heap.size w w'):iH w' b es:=(hb.block b (Array.getElem?_eq_some_iff.1 h).1).trans h
end Go.Proofs.YtfhdadkcophoaaaGreatDoor
namespace Go.Proofs.YtfhdadkcophoaaaGreatDoor
open Go.ChangeShapes Go.WideShapes Go.ChangeAt Go.RowKit
section
variable {H : Type} {enc : TypeId × Value → H}
theorem py{a:Assume}{C:Checked}{os:Os}{f:FuncId}{fn:Func}{s:ChangeSpec}{conds:List PathCond}{apart fresh handsOn again:Bool}{laid:List (String×DataW Unit)}
  (own:ownKnob C.prog.godebug=none) (started:os.Started) (noInit:C.prog.inits.idxOf? f=none) (hfn:C.prog.funcs[f]?=some fn)
  (witness:∃(w:World) (tape:Tape) (i:Input),w.os=os/\(w.forCall tape i).Shaped C.prog/\i.vars=[]/\Input.okWide C.prog (w.forCall tape i) .any w.heap.size f i /\
   ((s.pre enc C.prog fn conds apart (w.forCall tape i).memory i.args/\laidMetH C.prog laid (w.forCall tape i).memory)/\sizedMet enc C.prog fn (OpenSpec.ofChange s) apart (w.forCall tape i).memory i.args)/\a.holds C.prog (lone (Frame.enter C.prog f i.args .normal) [] (w.forCall tape i)))
  (contract:∀(W:World) (base:Nat) (args:Array Value) (ds gs:List (DataW H)) (before:List MemPlace),
   (∀(j:Nat) t v,fn.params[j]?=some t->args[j]?=some v->Value.okWide C.prog W .any base t v) ->
   DataW.Whole enc C.prog fn.params.toList s.vars apart W args.toList ds gs before->W.ShapedOpen C.prog->laidMetH C.prog laid W ->
   Calls C.prog f args W fun e W'=>∃v,e = .returned v/\s.post enc C.prog fn apart fresh handsOn again W args v W') :
  ReturnsInHanded a C os f .any (fun w args=>(s.pre enc C.prog fn conds apart w args/\laidMetH C.prog laid w)/\sizedMet enc C.prog fn (OpenSpec.ofChange s) apart w args) (s.post enc C.prog fn apart fresh handsOn again):=by
 refine returnsInHanded_of_calls own started noInit witness ?_;intro w tape i _ hsh _ hok hpre _;obtain⟨_,_,_,fn',hfn',_,_,_,_,hval⟩:=hok;have e:fn'=fn:=a1u (hfn'.symm.trans hfn);subst e;obtain⟨⟨⟨ds,gs,before,hw,_⟩,hL⟩,_⟩:=hpre;have hw':=DataW.Whole.of_heap (w':=w.forCall tape i) (by rfl) hw;refine(contract (w.forCall tape i) w.heap.size i.args ds gs before hval hw' hsh (hL.of_heap (by rfl))).mono fun e W' ⟨v,he,hp⟩=>?_;subst he;exact ChangeSpec.post_blind hp
end
theorem xg(w:World)(h:w.ShapedOpen Tryz.prog):∃m,w.cell? ⟨2,0,none⟩=some (.int .i64 m):=
 cell_of_shapedOpen_int (zero:=#[.int .i64 0]) (t:=3) h (of_decide_eq_true (by kernel_rfl)) (by kernel_rfl) rfl (by kernel_rfl) (by kernel_rfl) a1P
end Go.Proofs.YtfhdadkcophoaaaGreatDoor
