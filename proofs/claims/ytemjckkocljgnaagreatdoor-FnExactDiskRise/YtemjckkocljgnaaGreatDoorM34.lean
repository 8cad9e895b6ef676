/- Of what the proof is made: 5 texts, one behind the other. -/
import Derived.Test.YtemjckkocljgnaaGreatDoorM33
import Derived.LaidEql
import Derived.Stop.Asserts
import Derived.RowKitTokens
namespace Go.Proofs.YtemjckkocljgnaaGreatDoor
open Go.RowKit Go.Extern.Stop Go.Stop Go.Extern
theorem as_nil (t:Value) (w:World) :
  Calls Tryz.prog 53 #[.nilIface,t] w fun e w'=>e = .returned (.bool false)∧w'=w:=by
 go_enter Tryz.func53,Tryz.ntmps53
 go_wp2
 go_ret
 exact ⟨rfl,rfl⟩
theorem asValueP (t:Addr) (w:World):(ReflectliteValue.unpack (.iface 95 (.pointer (some t)))).run Tryz.prog w
  = .ok (.agg #[.pointer (some ⟨8,95,none⟩),.pointer (some ⟨w.heap.size,0,none⟩),.int .u64 150]) (w.alloc (.cells #[.pointer (some t)] 95)):=by kernel_rfl
theorem asValueE (c:Int) (w:World):(ReflectliteValue.unpack (.iface 89 (.agg #[.int .i64 c]))).run Tryz.prog w
  = .ok (.agg #[.pointer (some ⟨8,89,none⟩),.pointer (some ⟨w.heap.size,0,none⟩),.int .u64 153]) (w.alloc (.cells #[.int .i64 c] 89)):=by kernel_rfl
theorem asTypeP (a:Addr) (w:World):(ReflectliteValue.methodAny (ReflectliteValue.valueError "reflectlite.Value.Type" 0) (fun t _ _ _=>ReflectliteType.toType t) #[.agg #[.pointer (some ⟨8,95,none⟩),.pointer (some a),.int .u64 150]]).run Tryz.prog w
  = .ok (.iface 145 (.agg #[.pointer (some ⟨8,95,none⟩)])) w:=by kernel_rfl
theorem asMethodKind (h:Value) (w:World):(Go.method 414 145 (.agg #[h]) "Kind").run Tryz.prog w = .ok (214,h) w:=by kernel_rfl
theorem asKindP (w:World):((ReflectliteType.abiMethod fun t=>(fun a:Nat=>Value.int IntKind.u8 (a:Int)) <$> Rtype.kind t) #[.pointer (some ⟨8,95,none⟩)]).run Tryz.prog w = .ok (.int .u8 22) w:=by kernel_rfl
theorem asKindE (w:World):((ReflectliteType.abiMethod fun t=>(fun a:Nat=>Value.int IntKind.u8 (a:Int)) <$> Rtype.kind t) #[.pointer (some ⟨8,89,none⟩)]).run Tryz.prog w = .ok (.int .u8 25) w:=by kernel_rfl
theorem asRl (z:Sem Value) (f:TypeId→Addr→Nat→Nat→Sem Value) (v:Value) :
  ReflectliteValue.method z f #[v]=(do match ←ReflectliteValue.parts v with | none=>z | some (t,a,fl)=>f t a fl (fl%32)):=rfl
theorem asPartsP (a:Addr) (w:World):(ReflectliteValue.parts (.agg #[.pointer (some ⟨8,95,none⟩),.pointer (some a),.int .u64 150])).run Tryz.prog w = .ok (some (95,a,150)) w:=by kernel_rfl
theorem asIsNil (a p:Addr) (W:World) (ha:W.cell? a=some (.pointer (some p))) :
  (ReflectliteValue.method (ReflectliteValue.valueError "reflectlite.Value.IsNil" 0) ReflectliteValue.isNil #[.agg #[.pointer (some ⟨8,95,none⟩),.pointer (some a),.int .u64 150]]).run Tryz.prog W = .ok (.bool false) W:=by
 rw [asRl]
 simp only [Sem.run_bind,asPartsP,Result.andThen]
 simp [ReflectliteValue.isNil,loadVar,isAgg,underlying,Tryz.underlying95,ha,Result.andThen]
theorem asMethodElem (h:Value) (w:World):(Go.method 414 145 (.agg #[h]) "Elem").run Tryz.prog w = .ok (224,.agg #[h]) w:=by kernel_rfl
theorem asMethodImpl (h:Value) (w:World):(Go.method 414 145 (.agg #[h]) "Implements").run Tryz.prog w = .ok (225,.agg #[h]) w:=by kernel_rfl
theorem asMethodAss (h:Value) (w:World):(Go.method 414 145 (.agg #[h]) "AssignableTo").run Tryz.prog w = .ok (222,.agg #[h]) w:=by kernel_rfl
theorem asElemT (w:World):(ReflectliteType.method ReflectliteType.elem #[.agg #[.pointer (some ⟨8,95,none⟩)]]).run Tryz.prog w = .ok (.iface 145 (.agg #[.pointer (some ⟨8,89,none⟩)])) w:=by kernel_rfl
theorem asImplE (w:World):(ReflectliteType.relation "Implements" ReflectliteType.implements_ #[.agg #[.pointer (some ⟨8,89,none⟩)],.iface 145 (.agg #[.pointer (some ⟨8,67,none⟩)])]).run Tryz.prog w = .ok (.bool true) w:=by kernel_rfl
theorem asTypeOfE (v:Value) (w:World):(ReflectliteType.typeOf #[.iface 89 v]).run Tryz.prog w = .ok (.iface 145 (.agg #[.pointer (some ⟨8,89,none⟩)])) w:=by kernel_rfl
theorem asAssE (w:World):(ReflectliteType.relation "AssignableTo" ReflectliteType.assignableTo #[.agg #[.pointer (some ⟨8,89,none⟩)],.iface 145 (.agg #[.pointer (some ⟨8,89,none⟩)])]).run Tryz.prog w = .ok (.bool true) w:=by kernel_rfl
theorem asElemOf (w:World):(Rtype.elem? 95).run Tryz.prog w = .ok (some 89) w:=by kernel_rfl
theorem asMkE (p:Addr) (w:World):(ReflectliteValue.mk 89 p ReflectliteValue.flagAddr).run Tryz.prog w = .ok (.agg #[.pointer (some ⟨8,89,none⟩),.pointer (some p),.int .u64 409]) w:=by kernel_rfl
theorem asElemV (a p:Addr) (W:World) (ha:W.cell? a=some (.pointer (some p))) :
  (ReflectliteValue.method (ReflectliteValue.valueError "reflectlite.Value.Elem" 0) ReflectliteValue.elem #[.agg #[.pointer (some ⟨8,95,none⟩),.pointer (some a),.int .u64 150]]).run Tryz.prog W
   = .ok (.agg #[.pointer (some ⟨8,89,none⟩),.pointer (some p),.int .u64 409]) W:=by
 rw [asRl]
 simp only [Sem.run_bind,asPartsP,Result.andThen]
 simp [ReflectliteValue.elem,loadVar,isAgg,underlying,Tryz.underlying95,ha,Result.andThen,asElemOf,asMkE]
theorem asPartsEa (a:Addr) (w:World):(ReflectliteValue.parts (.agg #[.pointer (some ⟨8,89,none⟩),.pointer (some a),.int .u64 409])).run Tryz.prog w = .ok (some (89,a,409)) w:=by kernel_rfl
theorem asPartsE (a:Addr) (w:World):(ReflectliteValue.parts (.agg #[.pointer (some ⟨8,89,none⟩),.pointer (some a),.int .u64 153])).run Tryz.prog w = .ok (some (89,a,153)) w:=by kernel_rfl
theorem asDirect (w:World):(Rtype.directlyAssignable 89 89).run Tryz.prog w = .ok true w:=by kernel_rfl
theorem asSet (tb b:Nat) (c:Int) (old:Value) (W:World) (hb:W.cell? ⟨b,0,none⟩=some (.int .i64 c)) (ht:W.cell? ⟨tb,0,none⟩=some old) (hf:W.frozen? ⟨tb,0,none⟩=false) :
  (ReflectliteValue.set #[.agg #[.pointer (some ⟨8,89,none⟩),.pointer (some ⟨tb,0,none⟩),.int .u64 409],.agg #[.pointer (some ⟨8,89,none⟩),.pointer (some ⟨b,0,none⟩),.int .u64 153]]).run Tryz.prog W
   = .ok (.tuple #[]) (W.setCell ⟨tb,0,none⟩ (.int .i64 c)):=by
 show (Bind.bind (ReflectliteValue.parts _) _:Sem Value).run Tryz.prog W=_
 simp only [Array.getLit,List.getElem_toArray,List.getElem_cons_zero,List.getElem_cons_succ,Sem.run_bind,asPartsEa,asPartsE,Result.andThen]
 have hl:(loadCells ⟨b,0,none⟩ 1).run Tryz.prog W = .ok #[.int .i64 c] W:=by simp [loadCells,loadCellsFrom,go_sem,hb]
 simp [ReflectliteValue.flagAddr,loadVar,isAgg,underlying,Tryz.underlying89,Result.andThen,asDirect,storeVar,Value.cells,hl]
 simp [storeCells,Addr.add]
 rw [run_store Tryz.prog W ⟨tb,0,none⟩ _ _ (by rfl)]
 simp [ht,hf]
set_option maxHeartbeats 4000000 in
theorem as_hit (c:Int) (tb:Nat) (old:Value) (w:World) (hg:w.cell? ⟨0,0,none⟩=some (.iface 145 (.agg #[.pointer (some ⟨8,67,none⟩)]))) (ht0:w.cell? ⟨tb,0,none⟩=some old) (hf0:w.frozen? ⟨tb,0,none⟩=false) :
  Calls Tryz.prog 53 #[.iface 89 (.agg #[.int .i64 c]),.iface 95 (.pointer (some ⟨tb,0,none⟩))] w fun ev w'=>ev = .returned (.bool true)∧w'=((((w.alloc (.cells #[.pointer (some ⟨tb,0,none⟩)] 95)).alloc (.cells #[.pointer (some ⟨8,95,none⟩),.pointer (some ⟨w.heap.size,0,none⟩),.int .u64 150] 116)).alloc (.cells #[.pointer (some ⟨8,95,none⟩),.pointer (some ⟨w.heap.size,0,none⟩),.int .u64 150] 116)).alloc (.cells #[.int .i64 c] 89)).setCell ⟨tb,0,none⟩ (.int .i64 c):=by
 have h6:=@run_callFunc_extern Tryz.prog 75 _ (fun args=>ReflectliteValue.unpack (args.getD 0 (.tuple #[]))) Tryz.func75 (by kernel_rfl) (by kernel_rfl) (by kernel_rfl) (by kernel_rfl)
 have h7:=@run_callFunc_extern Tryz.prog 76 _ (ReflectliteValue.methodAny (ReflectliteValue.valueError "reflectlite.Value.Type" 0) (fun t _ _ _=>ReflectliteType.toType t)) Tryz.func76 (by kernel_rfl) (by kernel_rfl) (by kernel_rfl) (by kernel_rfl)
 have h8:=@run_callFunc_extern Tryz.prog 77 _ (ReflectliteValue.method (ReflectliteValue.valueError "reflectlite.Value.IsNil" 0) ReflectliteValue.isNil) Tryz.func77 (by kernel_rfl) (by kernel_rfl) (by kernel_rfl) (by kernel_rfl)
 have h27:=@run_callFunc_extern Tryz.prog 214 _ (ReflectliteType.abiMethod fun t=>do pure (.int .u8 (←Rtype.kind t))) Tryz.func214 (by kernel_rfl) (by kernel_rfl) (by kernel_rfl) (by kernel_rfl)
 have h37:=@run_callFunc_extern Tryz.prog 224 _ (ReflectliteType.method ReflectliteType.elem) Tryz.func224 (by kernel_rfl) (by kernel_rfl) (by kernel_rfl) (by kernel_rfl)
 have h38:=@run_callFunc_extern Tryz.prog 225 _ (ReflectliteType.relation "Implements" ReflectliteType.implements_) Tryz.func225 (by kernel_rfl) (by kernel_rfl) (by kernel_rfl) (by kernel_rfl)
 have h10:=@run_callFunc_extern Tryz.prog 102 _ ReflectliteType.typeOf Tryz.func102 (by kernel_rfl) (by kernel_rfl) (by kernel_rfl) (by kernel_rfl)
 have h35:=@run_callFunc_extern Tryz.prog 222 _ (ReflectliteType.relation "AssignableTo" ReflectliteType.assignableTo) Tryz.func222 (by kernel_rfl) (by kernel_rfl) (by kernel_rfl) (by kernel_rfl)
 have h11:=@run_callFunc_extern Tryz.prog 103 _ (ReflectliteValue.method (ReflectliteValue.valueError "reflectlite.Value.Elem" 0) ReflectliteValue.elem) Tryz.func103 (by kernel_rfl) (by kernel_rfl) (by kernel_rfl) (by kernel_rfl)
 have h12:=@run_callFunc_extern Tryz.prog 104 _ ReflectliteValue.set Tryz.func104 (by kernel_rfl) (by kernel_rfl) (by kernel_rfl) (by kernel_rfl)
 have tO:=asTypeOfE
 have mA:=asMethodAss
 have a25:=asAssE
 have v25:=asValueE
 have f6:=asValueP
 have f7:=asTypeP
 have mK:=asMethodKind
 have mE:=asMethodElem
 have mI:=asMethodImpl
 have k27:=asKindP
 have k25:=asKindE
 have e27:=asElemT
 have i25:=asImplE
 generalize htd:(⟨tb,0,none⟩:Addr)=t at *
 have n8:=asIsNil ⟨w.heap.size,0,none⟩ t ((w.alloc (.cells #[.pointer (some t)] 95)).alloc (.cells #[.pointer (some ⟨8,95,none⟩),.pointer (some ⟨w.heap.size,0,none⟩),.int .u64 150] 116)) (by simp)
 have hlt:0<w.heap.size:=by
  rcases Nat.eq_zero_or_pos w.heap.size with h0 | h
  ·
   simp [World.cell?,h0] at hg
  ·
   exact h
 have hg2:((w.alloc (.cells #[.pointer (some t)] 95)).alloc (.cells #[.pointer (some ⟨8,95,none⟩),.pointer (some ⟨w.heap.size,0,none⟩),.int .u64 150] 116)).cell? ⟨0,0,none⟩=some (.iface 145 (.agg #[.pointer (some ⟨8,67,none⟩)])):=by
  rw [World.cell?_alloc_lt _ _ ⟨0,0,none⟩ (by simp),World.cell?_alloc_lt _ _ ⟨0,0,none⟩ hlt]; exact hg
 have htl:t.block<w.heap.size:=by
  rcases Nat.lt_or_ge t.block w.heap.size with h | h
  ·
   exact h
  ·
   simp [World.cell?,Array.getElem?_eq_none h] at ht0
 have el:=asElemV ⟨w.heap.size,0,none⟩ t (((w.alloc (.cells #[.pointer (some t)] 95)).alloc (.cells #[.pointer (some ⟨8,95,none⟩),.pointer (some ⟨w.heap.size,0,none⟩),.int .u64 150] 116)).alloc (.cells #[.pointer (some ⟨8,95,none⟩),.pointer (some ⟨w.heap.size,0,none⟩),.int .u64 150] 116)) (by rw [World.cell?_alloc_lt _ _ ⟨w.heap.size,0,none⟩ (by simp; omega)]; simp)
 have st:=asSet tb (w.heap.size+1+1+1) c old ((((w.alloc (.cells #[.pointer (some t)] 95)).alloc (.cells #[.pointer (some ⟨8,95,none⟩),.pointer (some ⟨w.heap.size,0,none⟩),.int .u64 150] 116)).alloc (.cells #[.pointer (some ⟨8,95,none⟩),.pointer (some ⟨w.heap.size,0,none⟩),.int .u64 150] 116)).alloc (.cells #[.int .i64 c] 89))
  (by rw [World.cell?_alloc_at _ _ _ _ (by simp)]; rfl)
  (by rw [htd,World.cell?_alloc_lt _ _ t (by simp; omega),World.cell?_alloc_lt _ _ t (by simp; omega),World.cell?_alloc_lt _ _ t (by simp; omega),World.cell?_alloc_lt _ _ t htl]; exact ht0)
  (by rw [htd,World.frozen?_alloc_old _ _ t (by simp; omega),World.frozen?_alloc_old _ _ t (by simp; omega),World.frozen?_alloc_old _ _ t (by simp; omega),World.frozen?_alloc_old _ _ t (Nat.ne_of_lt htl)]; exact hf0)
 rw [htd] at st
 go_enter Tryz.func53,Tryz.ntmps53
 go_wp2
 refine wp_loop_rounds 1 ?_
 rw [rounds_succ]
 go_wp2
 go_ret
 exact ⟨rfl,rfl⟩
end Go.Proofs.YtemjckkocljgnaaGreatDoor
namespace Go.Proofs.YtemjckkocljgnaaGreatDoor
open Go.RowKit
def ErrT (w:World):Prop:=w.cell? ⟨0,0,none⟩=some (.iface 145 (.agg #[.pointer (some ⟨8,67,none⟩)]))
set_option maxHeartbeats 1600000 in
theorem zipCode_any (c:Int) (w:World) (hg:ErrT w) :
  Calls Tryz.prog 37 #[faultV c] w fun e w'=>e = .returned (.int .i64 c)∧Below w.heap.size w w':=by
 by_cases h:c=0
 ·
  subst h
  have hv:faultV 0 = .nilIface:=rfl
  rw [hv]
  go_enter Tryz.func37,Tryz.ntmps37
  go_wp2_with fail
  refine (as_nil _ _).mono ?_
  rintro e w1 ⟨rfl,hw⟩
  rw [hw]
  clear hw
  go_wp2
  go_ret
  exact ⟨rfl,(Below.refl _ _).alloc (Nat.le_refl _) _⟩
 ·
  have hv:faultV c = .iface 89 (.agg #[.int .i64 c]):=by unfold faultV; rw [if_neg h]
  rw [hv]
  have hlt:0<w.heap.size:=World.block_lt_of_cell? _ _ hg
  have hgA:(w.alloc (.cells #[.int .i64 0] 89)).cell? ⟨0,0,none⟩=some (.iface 145 (.agg #[.pointer (some ⟨8,67,none⟩)])):=by
   rw [World.cell?_alloc_past _ _ _ hlt]; exact hg
  have HA:=hide (as_hit c w.heap.size (.int .i64 0) (w.alloc (.cells #[.int .i64 0] 89)) hgA (by simp) (by simp))
  clear hv hgA hg h
  go_enter Tryz.func37,Tryz.ntmps37
  go_wp2_with fail
  refine (unhide HA).mono ?_
  rintro e w1 ⟨rfl,hw⟩
  have hc:w1.cell? ⟨w.heap.size,0,none⟩=some (.int .i64 c):=by
   rw [hw]
   refine World.cell?_setCell_same _ _ _ (u:=.int .i64 0) ?_
   rw [World.cell?_alloc_past _ _ _ (by first | (simp; done) | (simp; omega)),World.cell?_alloc_past _ _ _ (by first | (simp; done) | (simp; omega)),World.cell?_alloc_past _ _ _ (by first | (simp; done) | (simp; omega)),World.cell?_alloc_past _ _ _ (by first | (simp; done) | (simp; omega))]
   simp
  have HB:Hid (Below w.heap.size w w1):=by
   rw [hw]
   refine below_set ?_ (Nat.le_refl _) _
   exact (((((Below.refl _ _).alloc (Nat.le_refl _) _).alloc (by simp) _).alloc (by simp; omega) _).alloc (by simp; omega) _).alloc (by simp; omega) _
  clear hw HA
  go_wp2
  go_ret
  exact ⟨rfl,unhide HB⟩
end Go.Proofs.YtemjckkocljgnaaGreatDoor
