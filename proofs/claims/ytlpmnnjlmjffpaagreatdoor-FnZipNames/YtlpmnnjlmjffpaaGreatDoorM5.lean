/- Of what the proof is made: 2 texts, one behind the other. -/
import Derived.Test.YtlpmnnjlmjffpaaGreatDoorM3
import Derived.Carry
import Derived.MapKept
import Derived.ChangeMaps4
import Derived.RangeFuncRecord
import Derived.Test.YtlpmnnjlmjffpaaGreatDoorRows
import Derived.Handed
import Derived.HandedShaped
import Derived.ProofKit
import Derived.OpenShut
import Derived.Shelf.Vars
import Derived.Lay
import Derived.SevenTiedAt
import Derived.Stop.Joined
import Derived.LaidMore
set_option linter.unusedSimpArgs false
set_option linter.unusedVariables false
namespace Go.Proofs.YtlpmnnjlmjffpaaGreatDoor
open Go.Proofs.Tryz
open Go.RowKit
variable {et kt t:TypeId}
def ko(w:World)(b:Nat)(es:List (Int×Value)):Prop:=
 w.heap[b]?=some (.map ((es.zipIdx.map fun(x,i)=>({ key:=.int .i64 x.1,val:=x.2,born:=i } : MapEntry)).toArray) es.length)
theorem MF(w:World):ko (w.alloc (.map #[] 0)) w.heap.size []:=World.alloc_heap_new w _
theorem sj(k:Int)(d:IntKind)(es:List MapEntry)(i:Nat)(h:∀e∈es,∃x,e.key = .int .i64 x/\x≠k):Instr.findNow (.int d) (.int .i64 k) es i=some none:=by
 induction es generalizing i with
 | nil=>rfl
 | cons e es ih=>
  obtain⟨x,e1,b⟩:=h e (by simp);have:(k == x)=false:=by simpa using fun e=>b e.symm
  simp only[Instr.findNow,e1,Instr.sameNow,a0R,this];exact ih _ (fun e a=>h e (by simp[a]))
theorem Ob{d:IntKind}(a:prog.underlying kt=some (.int d))(em:Bool)(k:Int)(w:World)(n:Nat):(Instr.checkKey em (n+1) kt (.int .i64 k)).run prog w = .ok () w:=by
 simp[Instr.checkKey,a13 a,Result.andThen]
theorem BA{d:IntKind}(a:prog.underlying kt=some (.int d))(em:Bool)(k:Int)(w:World):(Instr.checkKey em 10000 kt (.int .i64 k)).run prog w = .ok () w:=Ob a em k w 9999
theorem wX{d:IntKind}(j:prog.underlying t=some (.map kt et))(a:prog.underlying kt=some (.int d))(w:World)(b:Nat)(es:List (Int×Value))(k:Int)(v:Value)(h:ko w b es)(g:∀x∈es,x.1≠k) :
  ∃w',(Instr.mapUpdate t (.map (some b)) (.int .i64 k) v).run prog w = .ok () w'/\ko w' b (es++[(k,v)])/\w'=w.putObj b (.map (((es++[(k,v)]).zipIdx.map fun(x,i)=>({ key:=.int .i64 x.1,val:=x.2,born:=i } : MapEntry)).toArray) (es++[(k,v)]).length):=by
 have hb:b<w.heap.size:=(Array.getElem?_eq_some_iff.1 h).1;have f:Instr.findNow (.int d) (.int .i64 k) (es.zipIdx.map fun(x,i)=>({ key:=.int .i64 x.1,val:=x.2,born:=i } : MapEntry)) 0=some none:=by
  refine sj k d _ 0 (fun e c=>?_);obtain⟨⟨x,i⟩,l,rfl⟩:=a2L.1 c;refine⟨x.1,rfl,g x ?_⟩;have:=List.mem_zipIdx l;rw[this.2.2];exact a1Q _
 refine⟨_,?_,?_,rfl⟩
 . unfold ko at h;simp[Instr.mapUpdate,a13 j,a13 a,MapKept.run_getObj_map h,BA a,Instr.findKey,f,MapKept.run_setObj_map _ h,Result.andThen,World.putObj,List.zipIdx_append]
 . unfold ko;exact World.putObj_heap_same hb
theorem yj(k:Int)(d:IntKind)(v:Value)(A:List (Int×Value)):∀(i:Nat),(k,v)∈A->(A.map Prod.fst).Nodup->∃j,Instr.findNow (.int d) (.int .i64 k) ((A.zipIdx i).map fun(x,i)=>({ key:=.int .i64 x.1,val:=x.2,born:=i } : MapEntry)) i=some (some (j,v)):=by
 induction A with
 | nil=>intro i h;cases h
 | cons a A ih=>
  intro i h hd;simp only[a0E,List.nodup_cons]at hd;rcases a1a.1 h with rfl|h
  . exact⟨i,by simp[Instr.findNow,Instr.sameNow]⟩
  .
   obtain⟨j,c⟩:=ih (i+1) h hd.2;have b:¬ k=a.1:=fun e=>hd.1 (by rw[←e];exact a2W (f:=Prod.fst) h);have hb:(k == a.1)=false:=by simpa using b
   refine⟨j,?_⟩;simp only[List.zipIdx_cons,a0E,Instr.findNow,Instr.sameNow,a0R,hb];exact c
theorem ME{d:IntKind}(g:prog.underlying t=some (.map kt et))(c:prog.underlying kt=some (.int d))(w:World)(b:Nat)(es:List (Int×Value))(k:Int)(v:Value)(a:Bool)(h:ko w b es)(f:(k,v)∈es)(hd:(es.map Prod.fst).Nodup) :
  (Instr.lookup t (.map (some b)) (.int .i64 k) a).run prog w = .ok (if a then .tuple #[v,.bool true]else v) w:=by
 obtain⟨j,e⟩:=yj k d v es 0 f hd;unfold ko at h;simp[Instr.lookup,a13 g,a13 c,MapKept.run_getObj_map h,BA c,Instr.findKey,e,Result.andThen]
theorem map_none{d:IntKind}(j:prog.underlying t=some (.map kt et))(a:prog.underlying kt=some (.int d))(w:World)(b:Nat)(es:List (Int×Value))(k:Int)(z:Value)(h:ko w b es)(g:∀x∈es,x.1≠k)(m:(zeroValue et).run prog w = .ok z w) :
  (Instr.lookup t (.map (some b)) (.int .i64 k) true).run prog w = .ok (.tuple #[z,.bool false]) w:=by
 have f:Instr.findNow (.int d) (.int .i64 k) (es.zipIdx.map fun(x,i)=>({ key:=.int .i64 x.1,val:=x.2,born:=i } : MapEntry)) 0=some none:=by
  refine sj k d _ 0 (fun e c=>?_);obtain⟨⟨x,i⟩,l,rfl⟩:=a2L.1 c;refine⟨x.1,rfl,g x ?_⟩;have:=List.mem_zipIdx l;rw[this.2.2];exact a1Q _
 unfold ko at h;simp[Instr.lookup,a13 j,a13 a,MapKept.run_getObj_map h,BA a,Instr.findKey,f,m,Result.andThen]
theorem ko.later{w w':World}{b:Nat}{es:List (Int×Value)}(h:ko w b es)(hb:Below w.heap.size w w'):ko w' b es:=(hb.block b (Array.getElem?_eq_some_iff.1 h).1).trans h
end Go.Proofs.YtlpmnnjlmjffpaaGreatDoor
namespace Go.Proofs.YtlpmnnjlmjffpaaGreatDoor
open Go.Proofs.Tryz
open Go.ChangeShapes Go.WideShapes Go.ChangeAt Go.RowKit
section
variable {H : Type} {enc : TypeId × Value → H}
theorem rk{a:Assume}{C:Checked}{os:Os}{f:FuncId}{fn:Func}{s:ChangeSpec}{d:List PathCond}{apart fresh b again:Bool}{laid:List (String×DataW Unit)}
  (own:ownKnob C.prog.godebug=none) (started:os.Started) (noInit:C.prog.inits.idxOf? f=none) (m:C.prog.funcs[f]?=some fn)
  (witness:∃(w:World) (tape:Tape) (i:Input),w.os=os/\(w.forCall tape i).Shaped C.prog/\i.vars=[]/\Input.okWide C.prog (w.forCall tape i) .any w.heap.size f i /\
   ((s.pre enc C.prog fn d apart (w.forCall tape i).memory i.args/\laidMetH C.prog laid (w.forCall tape i).memory)/\sizedMet enc C.prog fn (OpenSpec.ofChange s) apart (w.forCall tape i).memory i.args)/\a.holds C.prog (lone (Frame.enter C.prog f i.args .normal) [] (w.forCall tape i)))
  (c:∀(W:World) (base:Nat) (args:Array Value) (l gs:List (DataW H)) (before:List MemPlace),
   (∀(j:Nat) t v,fn.params[j]?=some t->args[j]?=some v->Value.okWide C.prog W .any base t v) ->
   DataW.Whole enc C.prog fn.params.toList s.vars apart W args.toList l gs before->W.ShapedOpen C.prog->laidMetH C.prog laid W ->
   Calls C.prog f args W fun e W'=>∃v,e = .returned v/\s.post enc C.prog fn apart fresh b again W args v W') :
  ReturnsInHanded a C os f .any (fun w args=>(s.pre enc C.prog fn d apart w args/\laidMetH C.prog laid w)/\sizedMet enc C.prog fn (OpenSpec.ofChange s) apart w args) (s.post enc C.prog fn apart fresh b again):=by
 refine returnsInHanded_of_calls own started noInit witness ?_;intro w tape i _ o _ n h _;obtain⟨_,_,_,fn',g,_,_,_,_,k⟩:=n;have e:fn'=fn:=a02 (g.symm.trans m);subst e;obtain⟨⟨⟨l,gs,before,x,_⟩,q⟩,_⟩:=h;have p:=DataW.Whole.of_heap (w':=w.forCall tape i) (by rfl) x;refine(c (w.forCall tape i) w.heap.size i.args l gs before k p o (q.of_heap (by rfl))).mono fun e W' ⟨v,r,u⟩=>?_;subst r;exact ChangeSpec.post_blind u
end
theorem zm(w:World)(h:w.ShapedOpen prog):∃m,w.cell? ⟨1,0,none⟩=some (.int .i64 m):=
 cell_of_shapedOpen_int (zero:=#[.int .i64 0]) (t:=3) h (a2X (by kernel_rfl)) (by kernel_rfl) rfl (by kernel_rfl) (by kernel_rfl) a2C
end Go.Proofs.YtlpmnnjlmjffpaaGreatDoor
