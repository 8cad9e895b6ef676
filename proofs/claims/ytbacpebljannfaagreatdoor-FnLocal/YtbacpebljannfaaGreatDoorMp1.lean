/- A map from small numbers to functions, of the call's own: put, and look up. -/
import Derived.Test.YtbacpebljannfaaGreatDoorM3
import Derived.Carry
import Derived.MapKept
import Derived.ChangeMaps4
import Derived.RangeFuncRecord
set_option linter.unusedSimpArgs false
namespace Go.Proofs.YtbacpebljannfaaGreatDoor
open Go.RowKit
def jf(w:World)(b:Nat)(es:List (Int×Value)):Prop:=
 w.heap[b]?=some (.map ((es.zipIdx.map fun(x,i)=>({ key:=.int .i64 x.1,val:=x.2,born:=i } : MapEntry)).toArray) es.length)
theorem Bf(w:World):jf (w.alloc (.map #[] 0)) w.heap.size []:=World.alloc_heap_new w _
theorem qW(k:Int)(d:IntKind)(es:List MapEntry)(i:Nat)(h:∀e∈es,∃x,e.key = .int .i64 x/\x≠k):Instr.findNow (.int d) (.int .i64 k) es i=some none:=by
 induction es generalizing i with
 | nil=>rfl
 | cons e es ih=>
  obtain⟨x,e1,hx⟩:=h e (by simp);have:(k == x)=false:=by simpa using fun e=>hx e.symm
  simp only[Instr.findNow,e1,Instr.sameNow,a0Z,this];exact ih _ (fun e he=>h e (by simp[he]))
theorem Jg{kt:TypeId}{d:IntKind}(hk:Tryz.prog.underlying kt=some (.int d))(em:Bool)(k:Int)(w:World)(n:Nat):(Instr.checkKey em (n+1) kt (.int .i64 k)).run Tryz.prog w = .ok () w:=by
 simp[Instr.checkKey,a1H hk,Result.andThen]
theorem y8{kt:TypeId}{d:IntKind}(hk:Tryz.prog.underlying kt=some (.int d))(em:Bool)(k:Int)(w:World):(Instr.checkKey em 10000 kt (.int .i64 k)).run Tryz.prog w = .ok () w:=Jg hk em k w 9999
theorem mn{t kt et:TypeId}{d:IntKind}(hu:Tryz.prog.underlying t=some (.map kt et))(hk:Tryz.prog.underlying kt=some (.int d))(w:World)(b:Nat)(es:List (Int×Value))(k:Int)(v:Value)(h:jf w b es)(hn:∀x∈es,x.1≠k) :
  ∃w',(Instr.mapUpdate t (.map (some b)) (.int .i64 k) v).run Tryz.prog w = .ok () w'/\jf w' b (es++[(k,v)])/\w'=w.putObj b (.map (((es++[(k,v)]).zipIdx.map fun(x,i)=>({ key:=.int .i64 x.1,val:=x.2,born:=i } : MapEntry)).toArray) (es++[(k,v)]).length):=by
 have hb:b<w.heap.size:=(Array.getElem?_eq_some_iff.1 h).1;have hf:Instr.findNow (.int d) (.int .i64 k) (es.zipIdx.map fun(x,i)=>({ key:=.int .i64 x.1,val:=x.2,born:=i } : MapEntry)) 0=some none:=by
  refine qW k d _ 0 (fun e he=>?_);obtain⟨⟨x,i⟩,hx,rfl⟩:=a2z.1 he;refine⟨x.1,rfl,hn x ?_⟩;have:=List.mem_zipIdx hx;rw[this.2.2];exact a2o _
 refine⟨_,?_,?_,rfl⟩
 · unfold jf at h;simp[Instr.mapUpdate,a1H hu,a1H hk,MapKept.run_getObj_map h,y8 hk,Instr.findKey,hf,MapKept.run_setObj_map _ h,Result.andThen,World.putObj,List.zipIdx_append]
 · unfold jf;exact World.putObj_heap_same hb
theorem wt(k:Int)(d:IntKind)(v:Value)(A:List (Int×Value)):∀(i:Nat),(k,v)∈A->(A.map Prod.fst).Nodup->∃j,Instr.findNow (.int d) (.int .i64 k) ((A.zipIdx i).map fun(x,i)=>({ key:=.int .i64 x.1,val:=x.2,born:=i } : MapEntry)) i=some (some (j,v)):=by
 induction A with
 | nil=>intro i h;cases h
 | cons a A ih=>
  intro i h hd;simp only[a0C,List.nodup_cons]at hd;rcases a06.1 h with rfl|h
  · exact⟨i,by simp[Instr.findNow,Instr.sameNow]⟩
  ·
   obtain⟨j,hj⟩:=ih (i+1) h hd.2;have hne:¬ k=a.1:=fun e=>hd.1 (by rw[←e];exact a2p (f:=Prod.fst) h);have hb:(k == a.1)=false:=by simpa using hne
   refine⟨j,?_⟩;simp only[List.zipIdx_cons,a0C,Instr.findNow,Instr.sameNow,a0Z,hb];exact hj
theorem Be{t kt et:TypeId}{d:IntKind}(hu:Tryz.prog.underlying t=some (.map kt et))(hk:Tryz.prog.underlying kt=some (.int d))(w:World)(b:Nat)(es:List (Int×Value))(k:Int)(v:Value)(co:Bool)(h:jf w b es)(hm:(k,v)∈es)(hd:(es.map Prod.fst).Nodup) :
  (Instr.lookup t (.map (some b)) (.int .i64 k) co).run Tryz.prog w = .ok (if co then .tuple #[v,.bool true]else v) w:=by
 obtain⟨j,hj⟩:=wt k d v es 0 hm hd;unfold jf at h;simp[Instr.lookup,a1H hu,a1H hk,MapKept.run_getObj_map h,y8 hk,Instr.findKey,hj,Result.andThen]
theorem map_none{t kt et:TypeId}{d:IntKind}(hu:Tryz.prog.underlying t=some (.map kt et))(hk:Tryz.prog.underlying kt=some (.int d))(w:World)(b:Nat)(es:List (Int×Value))(k:Int)(z:Value)(h:jf w b es)(hn:∀x∈es,x.1≠k)(hz:(zeroValue et).run Tryz.prog w = .ok z w) :
  (Instr.lookup t (.map (some b)) (.int .i64 k) true).run Tryz.prog w = .ok (.tuple #[z,.bool false]) w:=by
 have hf:Instr.findNow (.int d) (.int .i64 k) (es.zipIdx.map fun(x,i)=>({ key:=.int .i64 x.1,val:=x.2,born:=i } : MapEntry)) 0=some none:=by
  refine qW k d _ 0 (fun e he=>?_);obtain⟨⟨x,i⟩,hx,rfl⟩:=a2z.1 he;refine⟨x.1,rfl,hn x ?_⟩;have:=List.mem_zipIdx hx;rw[this.2.2];exact a2o _
 unfold jf at h;simp[Instr.lookup,a1H hu,a1H hk,MapKept.run_getObj_map h,y8 hk,Instr.findKey,hf,hz,Result.andThen]
theorem jf.later{w w':World}{b:Nat}{es:List (Int×Value)}(h:jf w b es)(hb:Below w.heap.size w w'):jf w' b es:=(hb.block b (Array.getElem?_eq_some_iff.1 h).1).trans h
end Go.Proofs.YtbacpebljannfaaGreatDoor
