/- Texts. -/
import Derived.Test.YtckocaibjciplaaGreatDoorM3
import Derived.RangeFuncRecord
import Derived.HandedShaped
import Derived.ProofKit
import Derived.OpenShut
import Derived.Shelf.Vars
import Derived.Lay
import Derived.SevenTiedAt
import Derived.LaidMore
set_option linter.all false
namespace Go.Proofs.YtckocaibjciplaaGreatDoor
open Go.Proofs.Tryz
open Go.RowKit
variable {et kt t:TypeId}
def kG(w:World)(b:Nat)(es:List (Int×Value)):Prop:=
 w.heap[b]?=some (.map ((es.zipIdx.map fun(x,i)=>({ key:=.int .i64 x.1,val:=x.2,born:=i } : MapEntry)).toArray) es.length)
def Gu(w:World):kG (w.alloc (.map #[] 0)) w.heap.size []:=World.alloc_heap_new w _
def uh(k:Int)(d:IntKind)(es:List MapEntry)(i:Nat)(h:∀e∈es,∃x,e.key = .int .i64 x/\x≠k):Instr.findNow (.int d) (.int .i64 k) es i=some none:=by
 induction es generalizing i with
 | nil=>rfl
 | cons e es ih=>
  obtain⟨x,e1,b⟩:=h e (by simp);have:(k == x)=false:=by simpa using fun e=>b e.symm
  simp only[Instr.findNow,e1,Instr.sameNow,a0V,this];exact ih _ (fun e a=>h e (by simp[a]))
def QH{d:IntKind}(a:prog.underlying kt=some (.int d))(em:Bool)(k:Int)(w:World)(n:Nat):(Instr.checkKey em (n+1) kt (.int .i64 k)).run prog w = .ok () w:=by
 simp[Instr.checkKey,a1W a,Result.andThen]
def Eh{d:IntKind}(a:prog.underlying kt=some (.int d))(em:Bool)(k:Int)(w:World):(Instr.checkKey em 10000 kt (.int .i64 k)).run prog w = .ok () w:=QH a em k w 9999
def nS{d:IntKind}(j:prog.underlying t=some (.map kt et))(a:prog.underlying kt=some (.int d))(w:World)(b:Nat)(es:List (Int×Value))(k:Int)(v:Value)(h:kG w b es)(g:∀x∈es,x.1≠k) :
  ∃w',(Instr.mapUpdate t (.map (some b)) (.int .i64 k) v).run prog w = .ok () w'/\kG w' b (es++[(k,v)])/\w'=w.putObj b (.map (((es++[(k,v)]).zipIdx.map fun(x,i)=>({ key:=.int .i64 x.1,val:=x.2,born:=i } : MapEntry)).toArray) (es++[(k,v)]).length):=by
 have hb:b<w.heap.size:=(Array.getElem?_eq_some_iff.1 h).1;have f:Instr.findNow (.int d) (.int .i64 k) (es.zipIdx.map fun(x,i)=>({ key:=.int .i64 x.1,val:=x.2,born:=i } : MapEntry)) 0=some none:=by
  refine uh k d _ 0 (fun e c=>?_);obtain⟨⟨x,i⟩,l,rfl⟩:=a2K.1 c;refine⟨x.1,rfl,g x ?_⟩;have:=List.mem_zipIdx l;rw[this.2.2];exact a2n _
 refine⟨_,?_,?_,rfl⟩
 . unfold kG at h;simp[Instr.mapUpdate,a1W j,a1W a,MapKept.run_getObj_map h,Eh a,Instr.findKey,f,MapKept.run_setObj_map _ h,Result.andThen,World.putObj,List.zipIdx_append]
 . unfold kG;exact World.putObj_heap_same hb
def AC(k:Int)(d:IntKind)(v:Value)(A:List (Int×Value)):∀(i:Nat),(k,v)∈A->(A.map Prod.fst).Nodup->∃j,Instr.findNow (.int d) (.int .i64 k) ((A.zipIdx i).map fun(x,i)=>({ key:=.int .i64 x.1,val:=x.2,born:=i } : MapEntry)) i=some (some (j,v)):=by
 induction A with
 | nil=>intro i h;cases h
 | cons a A ih=>
  intro i h hd;simp only[a0C,List.nodup_cons]at hd;rcases a0Z.1 h with rfl|h
  . exact⟨i,by simp[Instr.findNow,Instr.sameNow]⟩
  .
   obtain⟨j,c⟩:=ih (i+1) h hd.2;have b:¬ k=a.1:=fun e=>hd.1 (by rw[←e];exact a2E (f:=Prod.fst) h);have hb:(k == a.1)=false:=by simpa using b
   refine⟨j,?_⟩;simp only[List.zipIdx_cons,a0C,Instr.findNow,Instr.sameNow,a0V,hb];exact c
def Gt{d:IntKind}(g:prog.underlying t=some (.map kt et))(c:prog.underlying kt=some (.int d))(w:World)(b:Nat)(es:List (Int×Value))(k:Int)(v:Value)(a:Bool)(h:kG w b es)(f:(k,v)∈es)(hd:(es.map Prod.fst).Nodup) :
  (Instr.lookup t (.map (some b)) (.int .i64 k) a).run prog w = .ok (if a then .tuple #[v,.bool true]else v) w:=by
 obtain⟨j,e⟩:=AC k d v es 0 f hd;unfold kG at h;simp[Instr.lookup,a1W g,a1W c,MapKept.run_getObj_map h,Eh c,Instr.findKey,e,Result.andThen]
def map_none{d:IntKind}(j:prog.underlying t=some (.map kt et))(a:prog.underlying kt=some (.int d))(w:World)(b:Nat)(es:List (Int×Value))(k:Int)(z:Value)(h:kG w b es)(g:∀x∈es,x.1≠k)(m:(zeroValue et).run prog w = .ok z w) :
  (Instr.lookup t (.map (some b)) (.int .i64 k) true).run prog w = .ok (.tuple #[z,.bool false]) w:=by
 have f:Instr.findNow (.int d) (.int .i64 k) (es.zipIdx.map fun(x,i)=>({ key:=.int .i64 x.1,val:=x.2,born:=i } : MapEntry)) 0=some none:=by
  refine uh k d _ 0 (fun e c=>?_);obtain⟨⟨x,i⟩,l,rfl⟩:=a2K.1 c;refine⟨x.1,rfl,g x ?_⟩;have:=List.mem_zipIdx l;rw[this.2.2];exact a2n _
 unfold kG at h;simp[Instr.lookup,a1W j,a1W a,MapKept.run_getObj_map h,Eh a,Instr.findKey,f,m,Result.andThen]
def kG.later{w w':World}{b:Nat}{es:List (Int×Value)}(h:kG w b es)(hb:Below w.heap.size w w'):kG w' b es:=(hb.block b (Array.getElem?_eq_some_iff.1 h).1).trans h
end Go.Proofs.YtckocaibjciplaaGreatDoor
namespace Go.Proofs.YtckocaibjciplaaGreatDoor
open Go.Proofs.Tryz
open Go.ChangeShapes Go.WideShapes Go.ChangeAt Go.RowKit
section
variable {H : Type} {enc : TypeId × Value → H}
def tj{a:Assume}{C:Checked}{os:Os}{f:FuncId}{fn:Func}{s:ChangeSpec}{d:List PathCond}{apart fresh b again:Bool}{laid:List (String×DataW Unit)}
  (own:ownKnob C.prog.godebug=none) (started:os.Started) (noInit:C.prog.inits.idxOf? f=none) (m:C.prog.funcs[f]?=some fn)
  (witness:∃(w:World) (tape:Tape) (i:Input),w.os=os/\(w.forCall tape i).Shaped C.prog/\i.vars=[]/\Input.okWide C.prog (w.forCall tape i) .any w.heap.size f i /\
   ((s.pre enc C.prog fn d apart (w.forCall tape i).memory i.args/\laidMetH C.prog laid (w.forCall tape i).memory)/\sizedMet enc C.prog fn (OpenSpec.ofChange s) apart (w.forCall tape i).memory i.args)/\a.holds C.prog (lone (Frame.enter C.prog f i.args .normal) [] (w.forCall tape i)))
  (c:∀(W:World) (base:Nat) (args:Array Value) (l gs:List (DataW H)) (before:List MemPlace),
   (∀(j:Nat) t v,fn.params[j]?=some t->args[j]?=some v->Value.okWide C.prog W .any base t v) ->
   DataW.Whole enc C.prog fn.params.toList s.vars apart W args.toList l gs before->W.ShapedOpen C.prog->laidMetH C.prog laid W ->
   Calls C.prog f args W fun e W'=>∃v,e = .returned v/\s.post enc C.prog fn apart fresh b again W args v W') :
  ReturnsInHanded a C os f .any (fun w args=>(s.pre enc C.prog fn d apart w args/\laidMetH C.prog laid w)/\sizedMet enc C.prog fn (OpenSpec.ofChange s) apart w args) (s.post enc C.prog fn apart fresh b again):=by
 refine returnsInHanded_of_calls own started noInit witness ?_;intro w tape i _ o _ n h _;obtain⟨_,_,_,fn',g,_,_,_,_,k⟩:=n;have e:fn'=fn:=a1s (g.symm.trans m);subst e;obtain⟨⟨⟨l,gs,before,x,_⟩,q⟩,_⟩:=h;have p:=DataW.Whole.of_heap (w':=w.forCall tape i) (by rfl) x;refine(c (w.forCall tape i) w.heap.size i.args l gs before k p o (q.of_heap (by rfl))).mono fun e W' ⟨v,r,u⟩=>?_;subst r;exact ChangeSpec.post_blind u
end
def BX(w:World)(h:w.ShapedOpen prog):∃m,w.cell? ⟨2,0,none⟩=some (.int .i64 m):=
 cell_of_shapedOpen_int (zero:=#[.int .i64 0]) (t:=3) h (a3q (by kernel_rfl)) (by kernel_rfl) rfl (by kernel_rfl) (by kernel_rfl) a2d
