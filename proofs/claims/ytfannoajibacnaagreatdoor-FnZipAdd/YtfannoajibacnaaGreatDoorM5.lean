/- Texts. -/
import Derived.ProofKit
import Derived.OpenShut
import Derived.Test.YtfannoajibacnaaGreatDoorM3
import Derived.Deep.RegionHeld3
import Derived.RangeFuncRecord
import Derived.HandedShaped
import Derived.Shelf.Vars
import Derived.Lay
import Derived.SevenTiedAt
import Derived.LaidMore
set_option linter.all false
set_option maxHeartbeats 800000
namespace Go.Proofs.YtfannoajibacnaaGreatDoor
open Go.ChangeShapes Go.WideShapes Go.ChangeAt Go.RowKit
section
variable {H : Type} {enc : TypeId × Value → H} {P : Program} {w : World} {base : Nat} {spare : Nat → Bool} {held : Bool}
end
end Go.Proofs.YtfannoajibacnaaGreatDoor
namespace Go.Proofs.YtfannoajibacnaaGreatDoor
open Go.RowKit
variable {a b:ByteArray}
theorem fw{P:Program}{md:Region.Mode}{ops:Array Oper}{Q:Exit->Act->World->Prop}{S S':World->Prop}(c:∀w,S' w->S w):∀(fuel:Nat) (listed:Array Bool) (a:Act) (w:World),wpAnyH P md ops Q S' fuel listed a w->wpAnyH P md ops Q S fuel listed a w
 | 0,_,_,_,h=>h
 | fuel+1,_,_,_,h=>⟨h.1,fun i d=>wpOp_mono (fun a' w' b=>⟨c _ b.1,fw c fuel _ a' w' b.2⟩) (h.2 i d)⟩
def gr(a b:List UInt8):Bool:=(a++[47]).isPrefixOf b
def Mv(h:b.size<=a.size):gr a.data.toList b.data.toList=false:=by
 cases e:gr a.data.toList b.data.toList
 . rfl
 .
  have:=(List.isPrefixOf_iff_prefix.1 e).length_le;have e1:a.data.toList.length=a.size:=by simp
  have e2:b.data.toList.length=b.size:=by simp
  rw[a0i]at this;simp only[a0C,a0U]at this;omega
def Mu(k:¬ (b.data.toList.take a.size)=a.data.toList):gr a.data.toList b.data.toList=false:=by
 cases e:gr a.data.toList b.data.toList
 . rfl
 .
  exfalso;apply k;obtain⟨t,c⟩:=List.isPrefixOf_iff_prefix.1 e;rw[←c];have e1:a.data.toList.length=a.size:=by simp
  rw[a0I,←e1,a3x];rfl
def QF(h:a.size<b.size)(k:(b.data.toList.take a.size)=a.data.toList):gr a.data.toList b.data.toList=(b[a.size] == 47):=by
 have e2:b.data.toList.length=b.size:=by simp
 have d:a.size<b.data.toList.length:=by omega
 have e3:b.data.toList=a.data.toList++(b[a.size] :: b.data.toList.drop (a.size+1)):=by
  have:=a1z a.size b.data.toList;rw[k,a28 d]at this;exact this.symm
 unfold gr;rw[e3];cases hb:(b[a.size] == 47)
 .
  cases e:(a.data.toList++[47]).isPrefixOf (a.data.toList++(b[a.size] :: b.data.toList.drop (a.size+1)))
  . rfl
  . have:=List.isPrefixOf_iff_prefix.1 e;rw[List.prefix_append_right_inj]at this;obtain⟨t,c⟩:=this;simp only[a1q,a1a,List.cons.injEq]at c;rw[←c.1]at hb;simp at hb
 . rw[List.isPrefixOf_iff_prefix,List.prefix_append_right_inj];rw[a2A.1 hb];exact⟨_,rfl⟩
def I9(b:ByteArray)(k:Nat):(b.extract 0 k).toList=b.data.toList.take k:=by
 rw[a1S,Lib.extract_data];simp
def Nt(x:UInt8):((x.toNat:Int) == 47)=(x == 47):=by
 cases e:(x == 47)
 .
  have:¬ x.toNat=47:=fun h=>by rw[UInt8.toNat_inj.1 (show x.toNat=(47:UInt8).toNat from h)]at e;cases e
  simp;omega
 . rw[a2A.1 e];rfl
def od(a b:ByteArray)(w:World)(g:(a.size:Int)<=1048576)(_:(b.size:Int)<=1048576) :
  Calls Tryz.prog 81 #[a,b] w fun e w'=>e = .returned (.bool (gr a.data.toList b.data.toList))/\w'=w:=by
 by_cases h:a.size<b.size
 .
  have d:(a.size:Int)<(b.size:Int):=by omega
  by_cases k:(b.data.toList.take a.size)=a.data.toList
  .
   have c:=af (QF h k);have f:(b.extract 0 a.size).toList=a.toList:=(by rw[I9,k,a1S]);go_enter Tryz.func81,Tryz.ntmps81;go_wp2;go_ret;exact⟨am ((Nt _).trans c.symm),rfl⟩
  . have c:=af (Mu k);have f:¬ (b.extract 0 a.size).toList=a.toList:=fun e=>k (by rw[←I9,e,a1S]);go_enter Tryz.func81,Tryz.ntmps81;go_wp2;go_ret;exact⟨am c.symm,rfl⟩
 .
  have c:=af (Mv (a:=a) (b:=b) (by omega));have d:¬ (a.size:Int)<(b.size:Int):=by omega
  go_enter Tryz.func81,Tryz.ntmps81;go_wp2;go_ret;exact⟨am c.symm,rfl⟩
end Go.Proofs.YtfannoajibacnaaGreatDoor
set_option linter.all false
namespace Go.Proofs.YtfannoajibacnaaGreatDoor
open Go.Proofs.Tryz
open Go.RowKit
variable {et kt t:TypeId}
def lB(w:World)(b:Nat)(es:List (Int×Value)):Prop:=
 w.heap[b]?=some (.map ((es.zipIdx.map fun(x,i)=>({ key:=.int .i64 x.1,val:=x.2,born:=i } : MapEntry)).toArray) es.length)
def Jl(w:World):lB (w.alloc (.map #[] 0)) w.heap.size []:=World.alloc_heap_new w _
def vU(k:Int)(d:IntKind)(es:List MapEntry)(i:Nat)(h:∀e∈es,∃x,e.key = .int .i64 x/\x≠k):Instr.findNow (.int d) (.int .i64 k) es i=some none:=by
 induction es generalizing i with
 | nil=>rfl
 | cons e es ih=>
  obtain⟨x,e1,b⟩:=h e (by simp);have:(k == x)=false:=by simpa using fun e=>b e.symm
  simp only[Instr.findNow,e1,Instr.sameNow,a0Y,this];exact ih _ (fun e a=>h e (by simp[a]))
def TN{d:IntKind}(a:prog.underlying kt=some (.int d))(em:Bool)(k:Int)(w:World)(n:Nat):(Instr.checkKey em (n+1) kt (.int .i64 k)).run prog w = .ok () w:=by
 simp[Instr.checkKey,a1T a,Result.andThen]
def Gq{d:IntKind}(a:prog.underlying kt=some (.int d))(em:Bool)(k:Int)(w:World):(Instr.checkKey em 10000 kt (.int .i64 k)).run prog w = .ok () w:=TN a em k w 9999
def pf{d:IntKind}(j:prog.underlying t=some (.map kt et))(a:prog.underlying kt=some (.int d))(w:World)(b:Nat)(es:List (Int×Value))(k:Int)(v:Value)(h:lB w b es)(g:∀x∈es,x.1≠k) :
  ∃w',(Instr.mapUpdate t (.map (some b)) (.int .i64 k) v).run prog w = .ok () w'/\lB w' b (es++[(k,v)])/\w'=w.putObj b (.map (((es++[(k,v)]).zipIdx.map fun(x,i)=>({ key:=.int .i64 x.1,val:=x.2,born:=i } : MapEntry)).toArray) (es++[(k,v)]).length):=by
 have hb:b<w.heap.size:=(Array.getElem?_eq_some_iff.1 h).1;have f:Instr.findNow (.int d) (.int .i64 k) (es.zipIdx.map fun(x,i)=>({ key:=.int .i64 x.1,val:=x.2,born:=i } : MapEntry)) 0=some none:=by
  refine vU k d _ 0 (fun e c=>?_);obtain⟨⟨x,i⟩,l,rfl⟩:=a2S.1 c;refine⟨x.1,rfl,g x ?_⟩;have:=List.mem_zipIdx l;rw[this.2.2];exact a2g _
 refine⟨_,?_,?_,rfl⟩
 . unfold lB at h;simp[Instr.mapUpdate,a1T j,a1T a,MapKept.run_getObj_map h,Gq a,Instr.findKey,f,MapKept.run_setObj_map _ h,Result.andThen,World.putObj,List.zipIdx_append]
 . unfold lB;exact World.putObj_heap_same hb
def Dr(k:Int)(d:IntKind)(v:Value)(A:List (Int×Value)):∀(i:Nat),(k,v)∈A->(A.map Prod.fst).Nodup->∃j,Instr.findNow (.int d) (.int .i64 k) ((A.zipIdx i).map fun(x,i)=>({ key:=.int .i64 x.1,val:=x.2,born:=i } : MapEntry)) i=some (some (j,v)):=by
 induction A with
 | nil=>intro i h;cases h
 | cons a A ih=>
  intro i h hd;simp only[a0D,List.nodup_cons]at hd;rcases a02.1 h with rfl|h
  . exact⟨i,by simp[Instr.findNow,Instr.sameNow]⟩
  .
   obtain⟨j,c⟩:=ih (i+1) h hd.2;have b:¬ k=a.1:=fun e=>hd.1 (by rw[←e];exact a2I (f:=Prod.fst) h);have hb:(k == a.1)=false:=by simpa using b
   refine⟨j,?_⟩;simp only[List.zipIdx_cons,a0D,Instr.findNow,Instr.sameNow,a0Y,hb];exact c
def Jk{d:IntKind}(g:prog.underlying t=some (.map kt et))(c:prog.underlying kt=some (.int d))(w:World)(b:Nat)(es:List (Int×Value))(k:Int)(v:Value)(a:Bool)(h:lB w b es)(f:(k,v)∈es)(hd:(es.map Prod.fst).Nodup) :
  (Instr.lookup t (.map (some b)) (.int .i64 k) a).run prog w = .ok (if a then .tuple #[v,.bool true]else v) w:=by
 obtain⟨j,e⟩:=Dr k d v es 0 f hd;unfold lB at h;simp[Instr.lookup,a1T g,a1T c,MapKept.run_getObj_map h,Gq c,Instr.findKey,e,Result.andThen]
def map_none{d:IntKind}(j:prog.underlying t=some (.map kt et))(a:prog.underlying kt=some (.int d))(w:World)(b:Nat)(es:List (Int×Value))(k:Int)(z:Value)(h:lB w b es)(g:∀x∈es,x.1≠k)(m:(zeroValue et).run prog w = .ok z w) :
  (Instr.lookup t (.map (some b)) (.int .i64 k) true).run prog w = .ok (.tuple #[z,.bool false]) w:=by
 have f:Instr.findNow (.int d) (.int .i64 k) (es.zipIdx.map fun(x,i)=>({ key:=.int .i64 x.1,val:=x.2,born:=i } : MapEntry)) 0=some none:=by
  refine vU k d _ 0 (fun e c=>?_);obtain⟨⟨x,i⟩,l,rfl⟩:=a2S.1 c;refine⟨x.1,rfl,g x ?_⟩;have:=List.mem_zipIdx l;rw[this.2.2];exact a2g _
 unfold lB at h;simp[Instr.lookup,a1T j,a1T a,MapKept.run_getObj_map h,Gq a,Instr.findKey,f,m,Result.andThen]
def lB.later{w w':World}{b:Nat}{es:List (Int×Value)}(h:lB w b es)(hb:Below w.heap.size w w'):lB w' b es:=(hb.block b (Array.getElem?_eq_some_iff.1 h).1).trans h
end Go.Proofs.YtfannoajibacnaaGreatDoor
namespace Go.Proofs.YtfannoajibacnaaGreatDoor
open Go.Proofs.Tryz
open Go.ChangeShapes Go.WideShapes Go.ChangeAt Go.RowKit
section
variable {H : Type} {enc : TypeId × Value → H}
def uT{a:Assume}{C:Checked}{os:Os}{f:FuncId}{fn:Func}{s:ChangeSpec}{d:List PathCond}{apart fresh b again:Bool}{laid:List (String×DataW Unit)}
  (own:ownKnob C.prog.godebug=none) (started:os.Started) (noInit:C.prog.inits.idxOf? f=none) (m:C.prog.funcs[f]?=some fn)
  (witness:∃(w:World) (tape:Tape) (i:Input),w.os=os/\(w.forCall tape i).Shaped C.prog/\i.vars=[]/\Input.okWide C.prog (w.forCall tape i) .any w.heap.size f i /\
   ((s.pre enc C.prog fn d apart (w.forCall tape i).memory i.args/\laidMetH C.prog laid (w.forCall tape i).memory)/\sizedMet enc C.prog fn (OpenSpec.ofChange s) apart (w.forCall tape i).memory i.args)/\a.holds C.prog (lone (Frame.enter C.prog f i.args .normal) [] (w.forCall tape i)))
  (c:∀(W:World) (base:Nat) (args:Array Value) (l gs:List (DataW H)) (before:List MemPlace),
   (∀(j:Nat) t v,fn.params[j]?=some t->args[j]?=some v->Value.okWide C.prog W .any base t v) ->
   DataW.Whole enc C.prog fn.params.toList s.vars apart W args.toList l gs before->W.ShapedOpen C.prog->laidMetH C.prog laid W ->
   Calls C.prog f args W fun e W'=>∃v,e = .returned v/\s.post enc C.prog fn apart fresh b again W args v W') :
  ReturnsInHanded a C os f .any (fun w args=>(s.pre enc C.prog fn d apart w args/\laidMetH C.prog laid w)/\sizedMet enc C.prog fn (OpenSpec.ofChange s) apart w args) (s.post enc C.prog fn apart fresh b again):=by
 refine returnsInHanded_of_calls own started noInit witness ?_;intro w tape i _ o _ n h _;obtain⟨_,_,_,fn',g,_,_,_,_,k⟩:=n;have e:fn'=fn:=a1A (g.symm.trans m);subst e;obtain⟨⟨⟨l,gs,before,x,_⟩,q⟩,_⟩:=h;have p:=DataW.Whole.of_heap (w':=w.forCall tape i) (by rfl) x;refine(c (w.forCall tape i) w.heap.size i.args l gs before k p o (q.of_heap (by rfl))).mono fun e W' ⟨v,r,u⟩=>?_;subst r;exact ChangeSpec.post_blind u
end
def Ew(w:World)(h:w.ShapedOpen prog):∃m,w.cell? ⟨2,0,none⟩=some (.int .i64 m):=
 cell_of_shapedOpen_int (zero:=#[.int .i64 0]) (t:=3) h (a3y (by kernel_rfl)) (by kernel_rfl) rfl (by kernel_rfl) (by kernel_rfl) a10
