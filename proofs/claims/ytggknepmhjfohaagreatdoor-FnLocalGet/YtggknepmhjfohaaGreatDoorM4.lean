/- Of what the proof is made: 2 texts, one behind the other. -/
import Derived.Test.YtggknepmhjfohaaGreatDoorM3
import Derived.Deep.RegionHeld3
import Derived.Carry
import Derived.MapKept
import Derived.ChangeMaps4
import Derived.RangeFuncRecord
set_option linter.unusedSimpArgs false
set_option linter.unusedVariables false
namespace Go.Proofs.YtggknepmhjfohaaGreatDoor
open Go.Proofs.Tryz
open Go.RowKit
variable {et kt t:TypeId}{w:World}
theorem ag{P : Program}{ops : Array Oper}{Q : Exit -> Act -> World -> Prop}{md : Region.Mode}{S : World -> Prop}(i : Nat)(v : Value){oi : Oper}{fuel : Nat}{listed : Array Bool}{a : Act}(g : ops[i]? = some oi)(hb : (Region.noSelect ops && Region.free md ops listed i && (Region.ready md ops listed).contains i) = true)(e : ∀c a w, Q (.panic c) (a.put oi.dst v) w -> Q (.panic c) a w)(b : Region.wanted oi (yielded ops a.tmps) = true)(d : ∀w, S w -> (execOp a.eval oi).run P w = .ok (.value v) w)(f : S w)(h : wpAnyH P md ops Q S fuel (listed.setIfInBounds i true) (a.put oi.dst v) w) : wpAnyH P md ops Q S (fuel + 1) listed a w := by
 simp only[a0l]at hb;exact wpAnyH_take g hb.1.1 hb.1.2 hb.2 e (a0o ⟨b, d⟩) f h
theorem ai{P : Program}{ops : Array Oper}{Q : Exit -> Act -> World -> Prop}{md : Region.Mode}{S : World -> Prop}(i : Nat){o : Oper}{fuel : Nat}{listed : Array Bool}{a : Act}(c : Region.ready md ops listed = [i])(b : ops[i]? = some o)(h : ∀K' : Act -> World -> Prop, Shut (∀a w, S w -> (S w -> wpAnyH P md ops Q S fuel (listed.setIfInBounds i true) a w) -> K' a w) -> if Region.wanted o (yielded ops a.tmps) = true then Oper.wp P o a w K' Q else K' (a.put o.dst undef) w) : wpAnyH P md ops Q S (fuel + 1) listed a w := wpAnyH_ready c (by simp) (AllReadyH.cons b h AllReadyH.nil)
theorem fF{P:Program}{md:Region.Mode}{ops:Array Oper}{Q:Exit->Act->World->Prop}{S S':World->Prop}(c:∀w,S' w->S w):∀(fuel:Nat) (listed:Array Bool) (a:Act) (w:World),wpAnyH P md ops Q S' fuel listed a w->wpAnyH P md ops Q S fuel listed a w
 | 0,_,_,_,h=>h
 | fuel+1,_,_,_,h=>⟨h.1,fun i d=>wpOp_mono (fun a' w' b=>⟨c _ b.1,fF c fuel _ a' w' b.2⟩) (h.2 i d)⟩
def jz(w:World)(b:Nat)(es:List (Int×Value)):Prop:=
 w.heap[b]?=some (.map ((es.zipIdx.map fun(x,i)=>({ key:=.int .i64 x.1,val:=x.2,born:=i } : MapEntry)).toArray) es.length)
theorem Di(w:World):jz (w.alloc (.map #[] 0)) w.heap.size []:=World.alloc_heap_new w _
theorem rV(k:Int)(d:IntKind)(es:List MapEntry)(i:Nat)(h:∀e∈es,∃x,e.key = .int .i64 x/\x≠k):Instr.findNow (.int d) (.int .i64 k) es i=some none:=by
 induction es generalizing i with
 | nil=>rfl
 | cons e es ih=>
  obtain⟨x,e1,b⟩:=h e (by simp);have:(k == x)=false:=by simpa using fun e=>b e.symm
  simp only[Instr.findNow,e1,Instr.sameNow,a0T,this];exact ih _ (fun e a=>h e (by simp[a]))
theorem Ln{d:IntKind}(a:prog.underlying kt=some (.int d))(em:Bool)(k:Int)(w:World)(n:Nat):(Instr.checkKey em (n+1) kt (.int .i64 k)).run prog w = .ok () w:=by
 simp[Instr.checkKey,a1M a,Result.andThen]
theorem AD{d:IntKind}(a:prog.underlying kt=some (.int d))(em:Bool)(k:Int)(w:World):(Instr.checkKey em 10000 kt (.int .i64 k)).run prog w = .ok () w:=Ln a em k w 9999
theorem mA{d:IntKind}(j:prog.underlying t=some (.map kt et))(a:prog.underlying kt=some (.int d))(w:World)(b:Nat)(es:List (Int×Value))(k:Int)(v:Value)(h:jz w b es)(g:∀x∈es,x.1≠k) :
  ∃w',(Instr.mapUpdate t (.map (some b)) (.int .i64 k) v).run prog w = .ok () w'/\jz w' b (es++[(k,v)])/\w'=w.putObj b (.map (((es++[(k,v)]).zipIdx.map fun(x,i)=>({ key:=.int .i64 x.1,val:=x.2,born:=i } : MapEntry)).toArray) (es++[(k,v)]).length):=by
 have hb:b<w.heap.size:=(Array.getElem?_eq_some_iff.1 h).1;have f:Instr.findNow (.int d) (.int .i64 k) (es.zipIdx.map fun(x,i)=>({ key:=.int .i64 x.1,val:=x.2,born:=i } : MapEntry)) 0=some none:=by
  refine rV k d _ 0 (fun e c=>?_);obtain⟨⟨x,i⟩,l,rfl⟩:=a2C.1 c;refine⟨x.1,rfl,g x ?_⟩;have:=List.mem_zipIdx l;rw[this.2.2];exact a2r _
 refine⟨_,?_,?_,rfl⟩
 . unfold jz at h;simp[Instr.mapUpdate,a1M j,a1M a,MapKept.run_getObj_map h,AD a,Instr.findKey,f,MapKept.run_setObj_map _ h,Result.andThen,World.putObj,List.zipIdx_append]
 . unfold jz;exact World.putObj_heap_same hb
theorem xO(k:Int)(d:IntKind)(v:Value)(A:List (Int×Value)):∀(i:Nat),(k,v)∈A->(A.map Prod.fst).Nodup->∃j,Instr.findNow (.int d) (.int .i64 k) ((A.zipIdx i).map fun(x,i)=>({ key:=.int .i64 x.1,val:=x.2,born:=i } : MapEntry)) i=some (some (j,v)):=by
 induction A with
 | nil=>intro i h;cases h
 | cons a A ih=>
  intro i h hd;simp only[a0B,List.nodup_cons]at hd;rcases a08.1 h with rfl|h
  . exact⟨i,by simp[Instr.findNow,Instr.sameNow]⟩
  .
   obtain⟨j,c⟩:=ih (i+1) h hd.2;have b:¬ k=a.1:=fun e=>hd.1 (by rw[←e];exact a2s (f:=Prod.fst) h);have hb:(k == a.1)=false:=by simpa using b
   refine⟨j,?_⟩;simp only[List.zipIdx_cons,a0B,Instr.findNow,Instr.sameNow,a0T,hb];exact c
theorem Dh{d:IntKind}(g:prog.underlying t=some (.map kt et))(c:prog.underlying kt=some (.int d))(w:World)(b:Nat)(es:List (Int×Value))(k:Int)(v:Value)(a:Bool)(h:jz w b es)(f:(k,v)∈es)(hd:(es.map Prod.fst).Nodup) :
  (Instr.lookup t (.map (some b)) (.int .i64 k) a).run prog w = .ok (if a then .tuple #[v,.bool true]else v) w:=by
 obtain⟨j,e⟩:=xO k d v es 0 f hd;unfold jz at h;simp[Instr.lookup,a1M g,a1M c,MapKept.run_getObj_map h,AD c,Instr.findKey,e,Result.andThen]
theorem map_none{d:IntKind}(j:prog.underlying t=some (.map kt et))(a:prog.underlying kt=some (.int d))(w:World)(b:Nat)(es:List (Int×Value))(k:Int)(z:Value)(h:jz w b es)(g:∀x∈es,x.1≠k)(m:(zeroValue et).run prog w = .ok z w) :
  (Instr.lookup t (.map (some b)) (.int .i64 k) true).run prog w = .ok (.tuple #[z,.bool false]) w:=by
 have f:Instr.findNow (.int d) (.int .i64 k) (es.zipIdx.map fun(x,i)=>({ key:=.int .i64 x.1,val:=x.2,born:=i } : MapEntry)) 0=some none:=by
  refine rV k d _ 0 (fun e c=>?_);obtain⟨⟨x,i⟩,l,rfl⟩:=a2C.1 c;refine⟨x.1,rfl,g x ?_⟩;have:=List.mem_zipIdx l;rw[this.2.2];exact a2r _
 unfold jz at h;simp[Instr.lookup,a1M j,a1M a,MapKept.run_getObj_map h,AD a,Instr.findKey,f,m,Result.andThen]
theorem jz.later{w':World}{b:Nat}{es:List (Int×Value)}(h:jz w b es)(hb:Below w.heap.size w w'):jz w' b es:=(hb.block b (Array.getElem?_eq_some_iff.1 h).1).trans h
end Go.Proofs.YtggknepmhjfohaaGreatDoor
