/- Of what the proof is made: 6 texts, one behind the other. -/
import Derived.Test.YtkdlcomfpffhhaaGreatDoorFrm
import Derived.Test.YtkdlcomfpffhhaaGreatDoorM21
import Derived.ChangeVars
import Derived.OpenVars
import Derived.Test.YtkdlcomfpffhhaaGreatDoorM27
import Derived.LaidEql
import Derived.Stop.Asserts
import Derived.RowKitTokens
namespace Go.Proofs.YtkdlcomfpffhhaaGreatDoor
open Go.ChangeShapes Go.WideShapes Go.ChangeAt Go.RowKit
def ordW:DataW Unit:=.agg (ordL.map fun n=>.lit (.int .i64 (n:Nat)))
theorem ord_part {W:World} : ∀ (laid:List (String×DataW Unit)) (ps:List MemPlace),DataW.LaidVars Tryz.prog W laid ps→("loop.example/corbel/impl.lenOrder",ordW)∈laid→∃ ps',DataW.LaidVars Tryz.prog W [("loop.example/corbel/impl.lenOrder",ordW)] ps'
 | [],_,_,h=>by cases h
 | (n,d) :: r,ps,hL,h=>by
  obtain ⟨g,t,cs,fuel,p,q,hg,ht,hv,hd,hr,_⟩:=hL
  rcases List.mem_cons.1 h with e | e
  ·
   obtain ⟨rfl,rfl⟩:=Prod.mk.inj e
   exact ⟨_,g,t,cs,fuel,p,[],hg,ht,hv,hd,rfl,rfl⟩
  ·
   exact ord_part r q hr e
theorem ord_cellV {W:World} {ps:List MemPlace} (h:DataW.LaidVars Tryz.prog W [("loop.example/corbel/impl.lenOrder",ordW)] ps) (r:Nat) (hr:r<19):W.cell? ⟨1,r,none⟩=some (.int .i64 (ordL.getD r 0:Nat)):=by
 obtain ⟨g,t,cs,fuel,p,q,hg,ht,hv,hd,_,_⟩:=h
 obtain rfl:=Option.some.inj ((show Tryz.prog.globalNamed "loop.example/corbel/impl.lenOrder" = some 1 by kernel_rfl).symm.trans hg)
 obtain rfl:=Option.some.inj ((show (Tryz.prog.globals[1]?).map (·.type)=some 262 by kernel_rfl).symm.trans ht)
 obtain ⟨xs,m,_,ex,_,hl,hel⟩:=DataW.trod_array Tryz.underlying262 hd
 have c5:Tryz.prog.cellsOf 3=1:=by kernel_rfl
 have hE:=hel r hr
 rw [c5,Nat.mul_one,List.getElem?_eq_getElem (by omega)] at hE
 obtain ⟨z,e1,e2,_⟩:=DataW.trod_int Tryz.underlying3 hE
 have hlen:ordL.length=19:=rfl
 have e3:(xs.map (·.1))=ordL.map fun n=>.lit (.int .i64 (n:Nat)):=(DataW.agg.inj (Prod.mk.inj ex).1).symm
 have e4:(xs.map (·.1))[r]?=(ordL.map fun n=>(DataW.lit (.int .i64 (n:Nat)):DataW Unit))[r]?:=by rw [e3]
 rw [List.getElem?_map,List.getElem?_map,List.getElem?_eq_getElem (by omega:r<xs.length),List.getElem?_eq_getElem (by omega:r<ordL.length),e2] at e4
 have hz:z=(ordL.getD r 0:Nat):=by
  simp only [Option.map_some,Option.some.injEq,DataW.lit.injEq,Lit.int.injEq,true_and] at e4
  rw [e4,List.getD,List.getElem?_eq_getElem (by omega:r<ordL.length)]; rfl
 rw [World.var?_cell hg hv r,←hz]
 have:cs.toList[r]?=some (.int .i64 z):=by
  have h0:((cs.toList.drop r).take 1)[0]?=some (.int .i64 z):=by rw [e1]; rfl
  simpa using h0
 simpa using this
theorem ord_of_V {W:World} {ps:List MemPlace} (h:DataW.LaidVars Tryz.prog W [("loop.example/corbel/impl.lenOrder",ordW)] ps):OrdC W:=by
 refine ⟨fun j v hv=>?_,?_⟩
 ·
  have hj:j<19:=by
   have:=(List.getElem?_eq_some_iff.1 hv).1
   have e:ordC.toList.length=19:=rfl
   omega
  rw [Nat.zero_add,ord_cellV h j hj]
  have h1:=ordC_get j hj
  rw [Array.getElem?_toList,h1] at hv
  exact hv
 ·
  have h0:=ord_cellV h 0 (by omega)
  rcases Nat.lt_or_ge 1 W.heap.size with h1 | h1
  ·
   exact h1
  ·
   simp [World.cell?,h1] at h0
theorem ord_of_laidsH {W:World} {laid:List (String×DataW Unit)} (h:laidMetH Tryz.prog laid W) (hp:(laid.filter fun x=>x.2.handleName?.isSome).isEmpty=false) (hm:("loop.example/corbel/impl.lenOrder",ordW)∈laid.filter fun x=>x.2.handleName?.isNone):OrdC W:=by
 have h':laidMet Tryz.prog (laid.filter fun x=>x.2.handleName?.isNone) W:=by
  unfold laidMetH at h
  generalize (laid.filter fun x=>x.2.handleName?.isSome)=fl at *
  cases fl with
  | nil=>cases hp
  | cons a r=>exact h.1
 obtain ⟨ps,h1,_,_⟩:=h'
 obtain ⟨ps',h2⟩:=ord_part _ _ h1 hm
 exact ord_of_V h2
end Go.Proofs.YtkdlcomfpffhhaaGreatDoor
namespace Go.Proofs.YtkdlcomfpffhhaaGreatDoor
open Go.RowKit Go.Extern.Stop Go.Stop Go.Extern
theorem as_nil (t:Value) (w:World) :
  Calls Tryz.prog 81 #[.nilIface,t] w fun e w'=>e = .returned (.bool false)∧w'=w:=by
 go_enter Tryz.func81,Tryz.ntmps81
 go_wp2
 go_ret
 exact ⟨rfl,rfl⟩
theorem asValueP (t:Addr) (w:World):(ReflectliteValue.unpack (.iface 124 (.pointer (some t)))).run Tryz.prog w
  = .ok (.agg #[.pointer (some ⟨5,124,none⟩),.pointer (some ⟨w.heap.size,0,none⟩),.int .u64 150]) (w.alloc (.cells #[.pointer (some t)] 124)):=by kernel_rfl
theorem asValueE (c:Int) (w:World):(ReflectliteValue.unpack (.iface 121 (.agg #[.int .i64 c]))).run Tryz.prog w
  = .ok (.agg #[.pointer (some ⟨5,121,none⟩),.pointer (some ⟨w.heap.size,0,none⟩),.int .u64 153]) (w.alloc (.cells #[.int .i64 c] 121)):=by kernel_rfl
theorem asTypeP (a:Addr) (w:World):(ReflectliteValue.methodAny (ReflectliteValue.valueError "reflectlite.Value.Type" 0) (fun t _ _ _=>ReflectliteType.toType t) #[.agg #[.pointer (some ⟨5,124,none⟩),.pointer (some a),.int .u64 150]]).run Tryz.prog w
  = .ok (.iface 221 (.agg #[.pointer (some ⟨5,124,none⟩)])) w:=by kernel_rfl
theorem asMethodKind (h:Value) (w:World):(Go.method 500 221 (.agg #[h]) "Kind").run Tryz.prog w = .ok (307,h) w:=by kernel_rfl
theorem asKindP (w:World):((ReflectliteType.abiMethod fun t=>(fun a:Nat=>Value.int IntKind.u8 (a:Int)) <$> Rtype.kind t) #[.pointer (some ⟨5,124,none⟩)]).run Tryz.prog w = .ok (.int .u8 22) w:=by kernel_rfl
theorem asKindE (w:World):((ReflectliteType.abiMethod fun t=>(fun a:Nat=>Value.int IntKind.u8 (a:Int)) <$> Rtype.kind t) #[.pointer (some ⟨5,121,none⟩)]).run Tryz.prog w = .ok (.int .u8 25) w:=by kernel_rfl
theorem asRl (z:Sem Value) (f:TypeId→Addr→Nat→Nat→Sem Value) (v:Value) :
  ReflectliteValue.method z f #[v]=(do match ←ReflectliteValue.parts v with | none=>z | some (t,a,fl)=>f t a fl (fl%32)):=rfl
theorem asPartsP (a:Addr) (w:World):(ReflectliteValue.parts (.agg #[.pointer (some ⟨5,124,none⟩),.pointer (some a),.int .u64 150])).run Tryz.prog w = .ok (some (124,a,150)) w:=by kernel_rfl
theorem asIsNil (a p:Addr) (W:World) (ha:W.cell? a=some (.pointer (some p))) :
  (ReflectliteValue.method (ReflectliteValue.valueError "reflectlite.Value.IsNil" 0) ReflectliteValue.isNil #[.agg #[.pointer (some ⟨5,124,none⟩),.pointer (some a),.int .u64 150]]).run Tryz.prog W = .ok (.bool false) W:=by
 rw [asRl]
 simp only [Sem.run_bind,asPartsP,Result.andThen]
 simp [ReflectliteValue.isNil,loadVar,isAgg,underlying,Tryz.underlying124,ha,Result.andThen]
theorem asMethodElem (h:Value) (w:World):(Go.method 500 221 (.agg #[h]) "Elem").run Tryz.prog w = .ok (321,.agg #[h]) w:=by kernel_rfl
theorem asMethodImpl (h:Value) (w:World):(Go.method 500 221 (.agg #[h]) "Implements").run Tryz.prog w = .ok (322,.agg #[h]) w:=by kernel_rfl
theorem asMethodAss (h:Value) (w:World):(Go.method 500 221 (.agg #[h]) "AssignableTo").run Tryz.prog w = .ok (319,.agg #[h]) w:=by kernel_rfl
theorem asElemT (w:World):(ReflectliteType.method ReflectliteType.elem #[.agg #[.pointer (some ⟨5,124,none⟩)]]).run Tryz.prog w = .ok (.iface 221 (.agg #[.pointer (some ⟨5,121,none⟩)])) w:=by kernel_rfl
theorem asImplE (w:World):(ReflectliteType.relation "Implements" ReflectliteType.implements_ #[.agg #[.pointer (some ⟨5,121,none⟩)],.iface 221 (.agg #[.pointer (some ⟨5,80,none⟩)])]).run Tryz.prog w = .ok (.bool true) w:=by kernel_rfl
theorem asTypeOfE (v:Value) (w:World):(ReflectliteType.typeOf #[.iface 121 v]).run Tryz.prog w = .ok (.iface 221 (.agg #[.pointer (some ⟨5,121,none⟩)])) w:=by kernel_rfl
theorem asAssE (w:World):(ReflectliteType.relation "AssignableTo" ReflectliteType.assignableTo #[.agg #[.pointer (some ⟨5,121,none⟩)],.iface 221 (.agg #[.pointer (some ⟨5,121,none⟩)])]).run Tryz.prog w = .ok (.bool true) w:=by kernel_rfl
theorem asElemOf (w:World):(Rtype.elem? 124).run Tryz.prog w = .ok (some 121) w:=by kernel_rfl
theorem asMkE (p:Addr) (w:World):(ReflectliteValue.mk 121 p ReflectliteValue.flagAddr).run Tryz.prog w = .ok (.agg #[.pointer (some ⟨5,121,none⟩),.pointer (some p),.int .u64 409]) w:=by kernel_rfl
theorem asElemV (a p:Addr) (W:World) (ha:W.cell? a=some (.pointer (some p))) :
  (ReflectliteValue.method (ReflectliteValue.valueError "reflectlite.Value.Elem" 0) ReflectliteValue.elem #[.agg #[.pointer (some ⟨5,124,none⟩),.pointer (some a),.int .u64 150]]).run Tryz.prog W
   = .ok (.agg #[.pointer (some ⟨5,121,none⟩),.pointer (some p),.int .u64 409]) W:=by
 rw [asRl]
 simp only [Sem.run_bind,asPartsP,Result.andThen]
 simp [ReflectliteValue.elem,loadVar,isAgg,underlying,Tryz.underlying124,ha,Result.andThen,asElemOf,asMkE]
theorem asPartsEa (a:Addr) (w:World):(ReflectliteValue.parts (.agg #[.pointer (some ⟨5,121,none⟩),.pointer (some a),.int .u64 409])).run Tryz.prog w = .ok (some (121,a,409)) w:=by kernel_rfl
theorem asPartsE (a:Addr) (w:World):(ReflectliteValue.parts (.agg #[.pointer (some ⟨5,121,none⟩),.pointer (some a),.int .u64 153])).run Tryz.prog w = .ok (some (121,a,153)) w:=by kernel_rfl
theorem asDirect (w:World):(Rtype.directlyAssignable 121 121).run Tryz.prog w = .ok true w:=by kernel_rfl
theorem asSet (tb b:Nat) (c:Int) (old:Value) (W:World) (hb:W.cell? ⟨b,0,none⟩=some (.int .i64 c)) (ht:W.cell? ⟨tb,0,none⟩=some old) (hf:W.frozen? ⟨tb,0,none⟩=false) :
  (ReflectliteValue.set #[.agg #[.pointer (some ⟨5,121,none⟩),.pointer (some ⟨tb,0,none⟩),.int .u64 409],.agg #[.pointer (some ⟨5,121,none⟩),.pointer (some ⟨b,0,none⟩),.int .u64 153]]).run Tryz.prog W
   = .ok (.tuple #[]) (W.setCell ⟨tb,0,none⟩ (.int .i64 c)):=by
 show (Bind.bind (ReflectliteValue.parts _) _:Sem Value).run Tryz.prog W=_
 simp only [Array.getLit,List.getElem_toArray,List.getElem_cons_zero,List.getElem_cons_succ,Sem.run_bind,asPartsEa,asPartsE,Result.andThen]
 have hl:(loadCells ⟨b,0,none⟩ 1).run Tryz.prog W = .ok #[.int .i64 c] W:=by simp [loadCells,loadCellsFrom,go_sem,hb]
 simp [ReflectliteValue.flagAddr,loadVar,isAgg,underlying,Tryz.underlying121,Result.andThen,asDirect,storeVar,Value.cells,hl]
 simp [storeCells,Addr.add]
 rw [run_store Tryz.prog W ⟨tb,0,none⟩ _ _ (by rfl)]
 simp [ht,hf]
set_option maxHeartbeats 4000000 in
theorem as_hit (c:Int) (tb:Nat) (old:Value) (w:World) (hg:w.cell? ⟨0,0,none⟩=some (.iface 221 (.agg #[.pointer (some ⟨5,80,none⟩)]))) (ht0:w.cell? ⟨tb,0,none⟩=some old) (hf0:w.frozen? ⟨tb,0,none⟩=false) :
  Calls Tryz.prog 81 #[.iface 121 (.agg #[.int .i64 c]),.iface 124 (.pointer (some ⟨tb,0,none⟩))] w fun ev w'=>ev = .returned (.bool true)∧w'=((((w.alloc (.cells #[.pointer (some ⟨tb,0,none⟩)] 124)).alloc (.cells #[.pointer (some ⟨5,124,none⟩),.pointer (some ⟨w.heap.size,0,none⟩),.int .u64 150] 157)).alloc (.cells #[.pointer (some ⟨5,124,none⟩),.pointer (some ⟨w.heap.size,0,none⟩),.int .u64 150] 157)).alloc (.cells #[.int .i64 c] 121)).setCell ⟨tb,0,none⟩ (.int .i64 c):=by
 have h6:=@run_callFunc_extern Tryz.prog 122 _ (fun args=>ReflectliteValue.unpack (args.getD 0 (.tuple #[]))) Tryz.func122 (by kernel_rfl) (by kernel_rfl) (by kernel_rfl) (by kernel_rfl)
 have h7:=@run_callFunc_extern Tryz.prog 123 _ (ReflectliteValue.methodAny (ReflectliteValue.valueError "reflectlite.Value.Type" 0) (fun t _ _ _=>ReflectliteType.toType t)) Tryz.func123 (by kernel_rfl) (by kernel_rfl) (by kernel_rfl) (by kernel_rfl)
 have h8:=@run_callFunc_extern Tryz.prog 124 _ (ReflectliteValue.method (ReflectliteValue.valueError "reflectlite.Value.IsNil" 0) ReflectliteValue.isNil) Tryz.func124 (by kernel_rfl) (by kernel_rfl) (by kernel_rfl) (by kernel_rfl)
 have h27:=@run_callFunc_extern Tryz.prog 307 _ (ReflectliteType.abiMethod fun t=>do pure (.int .u8 (←Rtype.kind t))) Tryz.func307 (by kernel_rfl) (by kernel_rfl) (by kernel_rfl) (by kernel_rfl)
 have h37:=@run_callFunc_extern Tryz.prog 321 _ (ReflectliteType.method ReflectliteType.elem) Tryz.func321 (by kernel_rfl) (by kernel_rfl) (by kernel_rfl) (by kernel_rfl)
 have h38:=@run_callFunc_extern Tryz.prog 322 _ (ReflectliteType.relation "Implements" ReflectliteType.implements_) Tryz.func322 (by kernel_rfl) (by kernel_rfl) (by kernel_rfl) (by kernel_rfl)
 have h10:=@run_callFunc_extern Tryz.prog 164 _ ReflectliteType.typeOf Tryz.func164 (by kernel_rfl) (by kernel_rfl) (by kernel_rfl) (by kernel_rfl)
 have h35:=@run_callFunc_extern Tryz.prog 319 _ (ReflectliteType.relation "AssignableTo" ReflectliteType.assignableTo) Tryz.func319 (by kernel_rfl) (by kernel_rfl) (by kernel_rfl) (by kernel_rfl)
 have h11:=@run_callFunc_extern Tryz.prog 165 _ (ReflectliteValue.method (ReflectliteValue.valueError "reflectlite.Value.Elem" 0) ReflectliteValue.elem) Tryz.func165 (by kernel_rfl) (by kernel_rfl) (by kernel_rfl) (by kernel_rfl)
 have h12:=@run_callFunc_extern Tryz.prog 166 _ ReflectliteValue.set Tryz.func166 (by kernel_rfl) (by kernel_rfl) (by kernel_rfl) (by kernel_rfl)
 have tO:=asTypeOfE
 have mA:=asMethodAss
 have a25:=asAssE
 have v25:=asValueE
 have f6:=asValueP
 have f7:=asTypeP
 have mK:=asMethodKind
 have mE:=asMethodElem
 have mI:=asMethodImpl
 have k27:=asKindP
 have k25:=asKindE
 have e27:=asElemT
 have i25:=asImplE
 generalize htd:(⟨tb,0,none⟩:Addr)=t at *
 have n8:=asIsNil ⟨w.heap.size,0,none⟩ t ((w.alloc (.cells #[.pointer (some t)] 124)).alloc (.cells #[.pointer (some ⟨5,124,none⟩),.pointer (some ⟨w.heap.size,0,none⟩),.int .u64 150] 157)) (by simp)
 have hlt:0<w.heap.size:=by
  rcases Nat.eq_zero_or_pos w.heap.size with h0 | h
  ·
   simp [World.cell?,h0] at hg
  ·
   exact h
 have hg2:((w.alloc (.cells #[.pointer (some t)] 124)).alloc (.cells #[.pointer (some ⟨5,124,none⟩),.pointer (some ⟨w.heap.size,0,none⟩),.int .u64 150] 157)).cell? ⟨0,0,none⟩=some (.iface 221 (.agg #[.pointer (some ⟨5,80,none⟩)])):=by
  rw [World.cell?_alloc_lt _ _ ⟨0,0,none⟩ (by simp),World.cell?_alloc_lt _ _ ⟨0,0,none⟩ hlt]; exact hg
 have htl:t.block<w.heap.size:=by
  rcases Nat.lt_or_ge t.block w.heap.size with h | h
  ·
   exact h
  ·
   simp [World.cell?,Array.getElem?_eq_none h] at ht0
 have el:=asElemV ⟨w.heap.size,0,none⟩ t (((w.alloc (.cells #[.pointer (some t)] 124)).alloc (.cells #[.pointer (some ⟨5,124,none⟩),.pointer (some ⟨w.heap.size,0,none⟩),.int .u64 150] 157)).alloc (.cells #[.pointer (some ⟨5,124,none⟩),.pointer (some ⟨w.heap.size,0,none⟩),.int .u64 150] 157)) (by rw [World.cell?_alloc_lt _ _ ⟨w.heap.size,0,none⟩ (by simp; omega)]; simp)
 have st:=asSet tb (w.heap.size+1+1+1) c old ((((w.alloc (.cells #[.pointer (some t)] 124)).alloc (.cells #[.pointer (some ⟨5,124,none⟩),.pointer (some ⟨w.heap.size,0,none⟩),.int .u64 150] 157)).alloc (.cells #[.pointer (some ⟨5,124,none⟩),.pointer (some ⟨w.heap.size,0,none⟩),.int .u64 150] 157)).alloc (.cells #[.int .i64 c] 121))
  (by rw [World.cell?_alloc_at _ _ _ _ (by simp)]; rfl)
  (by rw [htd,World.cell?_alloc_lt _ _ t (by simp; omega),World.cell?_alloc_lt _ _ t (by simp; omega),World.cell?_alloc_lt _ _ t (by simp; omega),World.cell?_alloc_lt _ _ t htl]; exact ht0)
  (by rw [htd,World.frozen?_alloc_old _ _ t (by simp; omega),World.frozen?_alloc_old _ _ t (by simp; omega),World.frozen?_alloc_old _ _ t (by simp; omega),World.frozen?_alloc_old _ _ t (Nat.ne_of_lt htl)]; exact hf0)
 rw [htd] at st
 go_enter Tryz.func81,Tryz.ntmps81
 go_wp2
 refine wp_loop_rounds 1 ?_
 rw [rounds_succ]
 go_wp2
 go_ret
 exact ⟨rfl,rfl⟩
end Go.Proofs.YtkdlcomfpffhhaaGreatDoor
namespace Go.Proofs.YtkdlcomfpffhhaaGreatDoor
open Go.RowKit
def ErrT (w:World):Prop:=w.cell? ⟨0,0,none⟩=some (.iface 221 (.agg #[.pointer (some ⟨5,80,none⟩)]))
set_option maxHeartbeats 1600000 in
theorem zipCode_any (c:Int) (w:World) (hg:ErrT w) :
  Calls Tryz.prog 47 #[faultV c] w fun e w'=>e = .returned (.int .i64 c)∧Below w.heap.size w w':=by
 by_cases h:c=0
 ·
  subst h
  have hv:faultV 0 = .nilIface:=rfl
  rw [hv]
  go_enter Tryz.func47,Tryz.ntmps47
  go_wp2_with fail
  refine (as_nil _ _).mono ?_
  rintro e w1 ⟨rfl,hw⟩
  rw [hw]
  clear hw
  go_wp2
  go_ret
  exact ⟨rfl,(Below.refl _ _).alloc (Nat.le_refl _) _⟩
 ·
  have hv:faultV c = .iface 121 (.agg #[.int .i64 c]):=by unfold faultV; rw [if_neg h]
  rw [hv]
  have hlt:0<w.heap.size:=World.block_lt_of_cell? _ _ hg
  have hgA:(w.alloc (.cells #[.int .i64 0] 121)).cell? ⟨0,0,none⟩=some (.iface 221 (.agg #[.pointer (some ⟨5,80,none⟩)])):=by
   rw [World.cell?_alloc_past _ _ _ hlt]; exact hg
  have HA:=hide (as_hit c w.heap.size (.int .i64 0) (w.alloc (.cells #[.int .i64 0] 121)) hgA (by simp) (by simp))
  clear hv hgA hg h
  go_enter Tryz.func47,Tryz.ntmps47
  go_wp2_with fail
  refine (unhide HA).mono ?_
  rintro e w1 ⟨rfl,hw⟩
  have hc:w1.cell? ⟨w.heap.size,0,none⟩=some (.int .i64 c):=by
   rw [hw]
   refine World.cell?_setCell_same _ _ _ (u:=.int .i64 0) ?_
   rw [World.cell?_alloc_past _ _ _ (by first | (simp; done) | (simp; omega)),World.cell?_alloc_past _ _ _ (by first | (simp; done) | (simp; omega)),World.cell?_alloc_past _ _ _ (by first | (simp; done) | (simp; omega)),World.cell?_alloc_past _ _ _ (by first | (simp; done) | (simp; omega))]
   simp
  have HB:Hid (Below w.heap.size w w1):=by
   rw [hw]
   refine below_set ?_ (Nat.le_refl _) _
   exact (((((Below.refl _ _).alloc (Nat.le_refl _) _).alloc (by simp) _).alloc (by simp; omega) _).alloc (by simp; omega) _).alloc (by simp; omega) _
  clear hw HA
  go_wp2
  go_ret
  exact ⟨rfl,unhide HB⟩
end Go.Proofs.YtkdlcomfpffhhaaGreatDoor
