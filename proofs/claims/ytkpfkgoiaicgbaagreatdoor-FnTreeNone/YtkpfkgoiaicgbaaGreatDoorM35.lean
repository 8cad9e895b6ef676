/- Of what the proof is made: 5 texts, one behind the other. -/
import Derived.Test.YtkpfkgoiaicgbaaGreatDoorM31
import Derived.LaidEql
import Derived.Stop.Asserts
import Derived.RowKitTokens
set_option linter.unusedSimpArgs false
set_option linter.unusedVariables false
set_option maxHeartbeats 4000000
namespace Go.Proofs.YtkpfkgoiaicgbaaGreatDoor
open Go.RowKit Go.Extern.Stop Go.Stop Go.Extern
theorem LB(t:Value)(w:World) :
  Calls Tryz.prog 68 #[.nilIface,t] w fun e w'=>e = .returned (.bool false)/\w'=w:=by
 go_enter Tryz.func68,Tryz.ntmps68;go_wp2;go_ret;exact⟨rfl,rfl⟩
theorem Fs(t:Addr)(w:World):(ReflectliteValue.unpack (.iface 127 (.pointer (some t)))).run Tryz.prog w
  = .ok (.agg #[.pointer (some ⟨5,127,none⟩),.pointer (some ⟨w.heap.size,0,none⟩),.int .u64 150]) (w.alloc (.cells #[.pointer (some t)] 127)):=by kernel_rfl
theorem Fq(c:Int)(w:World):(ReflectliteValue.unpack (.iface 124 (.agg #[.int .i64 c]))).run Tryz.prog w
  = .ok (.agg #[.pointer (some ⟨5,124,none⟩),.pointer (some ⟨w.heap.size,0,none⟩),.int .u64 153]) (w.alloc (.cells #[.int .i64 c] 124)):=by kernel_rfl
theorem JI(a:Addr)(w:World):(ReflectliteValue.methodAny (ReflectliteValue.valueError "reflectlite.Value.Type" 0) (fun t _ _ _=>ReflectliteType.toType t) #[.agg #[.pointer (some ⟨5,127,none⟩),.pointer (some a),.int .u64 150]]).run Tryz.prog w
  = .ok (.iface 227 (.agg #[.pointer (some ⟨5,127,none⟩)])) w:=by kernel_rfl
theorem uy(h:Value)(w:World):(Go.method 476 227 (.agg #[h]) "Kind").run Tryz.prog w = .ok (245,h) w:=by kernel_rfl
theorem JH(w:World):((ReflectliteType.abiMethod fun t=>(fun a:Nat=>Value.int IntKind.u8 (a:Int)) <$> Rtype.kind t) #[.pointer (some ⟨5,127,none⟩)]).run Tryz.prog w = .ok (.int .u8 22) w:=by kernel_rfl
theorem JG(w:World):((ReflectliteType.abiMethod fun t=>(fun a:Nat=>Value.int IntKind.u8 (a:Int)) <$> Rtype.kind t) #[.pointer (some ⟨5,124,none⟩)]).run Tryz.prog w = .ok (.int .u8 25) w:=by kernel_rfl
theorem Mx(z:Sem Value)(f:TypeId->Addr->Nat->Nat->Sem Value)(v:Value) :
  ReflectliteValue.method z f #[v]=(do match ←ReflectliteValue.parts v with|none=>z|some (t,a,fl)=>f t a fl (fl%32)):=rfl
theorem vG(a:Addr)(w:World):(ReflectliteValue.parts (.agg #[.pointer (some ⟨5,127,none⟩),.pointer (some a),.int .u64 150])).run Tryz.prog w = .ok (some (127,a,150)) w:=by kernel_rfl
theorem JF(a p:Addr)(W:World)(ha:W.cell? a=some (.pointer (some p))) :
  (ReflectliteValue.method (ReflectliteValue.valueError "reflectlite.Value.IsNil" 0) ReflectliteValue.isNil #[.agg #[.pointer (some ⟨5,127,none⟩),.pointer (some a),.int .u64 150]]).run Tryz.prog W = .ok (.bool false) W:=by
 rw[Mx];simp only[Sem.run_bind,vG,Result.andThen];simp[ReflectliteValue.isNil,loadVar,isAgg,underlying,Tryz.underlying127,ha,Result.andThen]
theorem uw(h:Value)(w:World):(Go.method 476 227 (.agg #[h]) "Elem").run Tryz.prog w = .ok (259,.agg #[h]) w:=by kernel_rfl
theorem ux(h:Value)(w:World):(Go.method 476 227 (.agg #[h]) "Implements").run Tryz.prog w = .ok (260,.agg #[h]) w:=by kernel_rfl
theorem vF(h:Value)(w:World):(Go.method 476 227 (.agg #[h]) "AssignableTo").run Tryz.prog w = .ok (257,.agg #[h]) w:=by kernel_rfl
theorem JC(w:World):(ReflectliteType.method ReflectliteType.elem #[.agg #[.pointer (some ⟨5,127,none⟩)]]).run Tryz.prog w = .ok (.iface 227 (.agg #[.pointer (some ⟨5,124,none⟩)])) w:=by kernel_rfl
theorem JE(w:World):(ReflectliteType.relation "Implements" ReflectliteType.implements_ #[.agg #[.pointer (some ⟨5,124,none⟩)],.iface 227 (.agg #[.pointer (some ⟨5,77,none⟩)])]).run Tryz.prog w = .ok (.bool true) w:=by kernel_rfl
theorem Ck(v:Value)(w:World):(ReflectliteType.typeOf #[.iface 124 v]).run Tryz.prog w = .ok (.iface 227 (.agg #[.pointer (some ⟨5,124,none⟩)])) w:=by kernel_rfl
theorem Lz(w:World):(ReflectliteType.relation "AssignableTo" ReflectliteType.assignableTo #[.agg #[.pointer (some ⟨5,124,none⟩)],.iface 227 (.agg #[.pointer (some ⟨5,124,none⟩)])]).run Tryz.prog w = .ok (.bool true) w:=by kernel_rfl
theorem Fo(w:World):(Rtype.elem? 127).run Tryz.prog w = .ok (some 124) w:=by kernel_rfl
theorem Mw(p:Addr)(w:World):(ReflectliteValue.mk 124 p ReflectliteValue.flagAddr).run Tryz.prog w = .ok (.agg #[.pointer (some ⟨5,124,none⟩),.pointer (some p),.int .u64 409]) w:=by kernel_rfl
theorem JD(a p:Addr)(W:World)(ha:W.cell? a=some (.pointer (some p))) :
  (ReflectliteValue.method (ReflectliteValue.valueError "reflectlite.Value.Elem" 0) ReflectliteValue.elem #[.agg #[.pointer (some ⟨5,127,none⟩),.pointer (some a),.int .u64 150]]).run Tryz.prog W
   = .ok (.agg #[.pointer (some ⟨5,124,none⟩),.pointer (some p),.int .u64 409]) W:=by
 rw[Mx];simp only[Sem.run_bind,vG,Result.andThen];simp[ReflectliteValue.elem,loadVar,isAgg,underlying,Tryz.underlying127,ha,Result.andThen,Fo,Mw]
theorem Cj(a:Addr)(w:World):(ReflectliteValue.parts (.agg #[.pointer (some ⟨5,124,none⟩),.pointer (some a),.int .u64 409])).run Tryz.prog w = .ok (some (124,a,409)) w:=by kernel_rfl
theorem Fp(a:Addr)(w:World):(ReflectliteValue.parts (.agg #[.pointer (some ⟨5,124,none⟩),.pointer (some a),.int .u64 153])).run Tryz.prog w = .ok (some (124,a,153)) w:=by kernel_rfl
theorem Fj(w:World):(Rtype.directlyAssignable 124 124).run Tryz.prog w = .ok true w:=by kernel_rfl
theorem My(tb b:Nat)(c:Int)(old:Value)(W:World)(hb:W.cell? ⟨b,0,none⟩=some (.int .i64 c))(ht:W.cell? ⟨tb,0,none⟩=some old)(hf:W.frozen? ⟨tb,0,none⟩=false) :
  (ReflectliteValue.set #[.agg #[.pointer (some ⟨5,124,none⟩),.pointer (some ⟨tb,0,none⟩),.int .u64 409],.agg #[.pointer (some ⟨5,124,none⟩),.pointer (some ⟨b,0,none⟩),.int .u64 153]]).run Tryz.prog W
   = .ok (.tuple #[]) (W.setCell ⟨tb,0,none⟩ (.int .i64 c)):=by
 show(Bind.bind (ReflectliteValue.parts _) _:Sem Value).run Tryz.prog W=_;simp only[Array.getLit,List.getElem_toArray,List.getElem_cons_zero,List.getElem_cons_succ,Sem.run_bind,Cj,Fp,Result.andThen];have hl:(loadCells ⟨b,0,none⟩ 1).run Tryz.prog W = .ok #[.int .i64 c] W:=by simp[loadCells,loadCellsFrom,go_sem,hb]
 simp[ReflectliteValue.flagAddr,loadVar,isAgg,underlying,Tryz.underlying124,Result.andThen,Fj,storeVar,Value.cells,hl];simp[storeCells,Addr.add];rw[run_store Tryz.prog W ⟨tb,0,none⟩ _ _ (by rfl)];simp[ht,hf]
theorem LA(c:Int)(tb:Nat)(old:Value)(w:World)(hg:w.cell? ⟨0,0,none⟩=some (.iface 227 (.agg #[.pointer (some ⟨5,77,none⟩)])))(ht0:w.cell? ⟨tb,0,none⟩=some old)(hf0:w.frozen? ⟨tb,0,none⟩=false) :
  Calls Tryz.prog 68 #[.iface 124 (.agg #[.int .i64 c]),.iface 127 (.pointer (some ⟨tb,0,none⟩))] w fun ev w'=>ev = .returned (.bool true)/\w'=((((w.alloc (.cells #[.pointer (some ⟨tb,0,none⟩)] 127)).alloc (.cells #[.pointer (some ⟨5,127,none⟩),.pointer (some ⟨w.heap.size,0,none⟩),.int .u64 150] 166)).alloc (.cells #[.pointer (some ⟨5,127,none⟩),.pointer (some ⟨w.heap.size,0,none⟩),.int .u64 150] 166)).alloc (.cells #[.int .i64 c] 124)).setCell ⟨tb,0,none⟩ (.int .i64 c):=by
 have h6:=@run_callFunc_extern Tryz.prog 114 _ (fun args=>ReflectliteValue.unpack (args.getD 0 (.tuple #[]))) Tryz.func114 (by kernel_rfl) (by kernel_rfl) (by kernel_rfl) (by kernel_rfl);have h7:=@run_callFunc_extern Tryz.prog 115 _ (ReflectliteValue.methodAny (ReflectliteValue.valueError "reflectlite.Value.Type" 0) (fun t _ _ _=>ReflectliteType.toType t)) Tryz.func115 (by kernel_rfl) (by kernel_rfl) (by kernel_rfl) (by kernel_rfl);have h8:=@run_callFunc_extern Tryz.prog 116 _ (ReflectliteValue.method (ReflectliteValue.valueError "reflectlite.Value.IsNil" 0) ReflectliteValue.isNil) Tryz.func116 (by kernel_rfl) (by kernel_rfl) (by kernel_rfl) (by kernel_rfl);have h27:=@run_callFunc_extern Tryz.prog 245 _ (ReflectliteType.abiMethod fun t=>do pure (.int .u8 (←Rtype.kind t))) Tryz.func245 (by kernel_rfl) (by kernel_rfl) (by kernel_rfl) (by kernel_rfl);have h37:=@run_callFunc_extern Tryz.prog 259 _ (ReflectliteType.method ReflectliteType.elem) Tryz.func259 (by kernel_rfl) (by kernel_rfl) (by kernel_rfl) (by kernel_rfl);have h38:=@run_callFunc_extern Tryz.prog 260 _ (ReflectliteType.relation "Implements" ReflectliteType.implements_) Tryz.func260 (by kernel_rfl) (by kernel_rfl) (by kernel_rfl) (by kernel_rfl);have h10:=@run_callFunc_extern Tryz.prog 154 _ ReflectliteType.typeOf Tryz.func154 (by kernel_rfl) (by kernel_rfl) (by kernel_rfl) (by kernel_rfl);have h35:=@run_callFunc_extern Tryz.prog 257 _ (ReflectliteType.relation "AssignableTo" ReflectliteType.assignableTo) Tryz.func257 (by kernel_rfl) (by kernel_rfl) (by kernel_rfl) (by kernel_rfl);have h11:=@run_callFunc_extern Tryz.prog 155 _ (ReflectliteValue.method (ReflectliteValue.valueError "reflectlite.Value.Elem" 0) ReflectliteValue.elem) Tryz.func155 (by kernel_rfl) (by kernel_rfl) (by kernel_rfl) (by kernel_rfl);have h12:=@run_callFunc_extern Tryz.prog 156 _ ReflectliteValue.set Tryz.func156 (by kernel_rfl) (by kernel_rfl) (by kernel_rfl) (by kernel_rfl);have tO:=Ck;have mA:=vF;have a25:=Lz;have v25:=Fq;have f6:=Fs;have f7:=JI;have mK:=uy;have mE:=uw;have mI:=ux;have k27:=JH;have k25:=JG;have e27:=JC;have i25:=JE;generalize htd:(⟨tb,0,none⟩:Addr)=t at *
 have n8:=JF ⟨w.heap.size,0,none⟩ t ((w.alloc (.cells #[.pointer (some t)] 127)).alloc (.cells #[.pointer (some ⟨5,127,none⟩),.pointer (some ⟨w.heap.size,0,none⟩),.int .u64 150] 166)) (by simp);have hlt:0<w.heap.size:=by
  rcases Nat.eq_zero_or_pos w.heap.size with h0|h
  · simp[World.cell?,h0]at hg
  · exact h
 have hg2:((w.alloc (.cells #[.pointer (some t)] 127)).alloc (.cells #[.pointer (some ⟨5,127,none⟩),.pointer (some ⟨w.heap.size,0,none⟩),.int .u64 150] 166)).cell? ⟨0,0,none⟩=some (.iface 227 (.agg #[.pointer (some ⟨5,77,none⟩)])):=by
  rw[World.cell?_alloc_lt _ _ ⟨0,0,none⟩ (by simp),World.cell?_alloc_lt _ _ ⟨0,0,none⟩ hlt];exact hg
 have htl:t.block<w.heap.size:=by
  rcases Nat.lt_or_ge t.block w.heap.size with h|h
  · exact h
  · simp[World.cell?,Array.getElem?_eq_none h]at ht0
 have el:=JD ⟨w.heap.size,0,none⟩ t (((w.alloc (.cells #[.pointer (some t)] 127)).alloc (.cells #[.pointer (some ⟨5,127,none⟩),.pointer (some ⟨w.heap.size,0,none⟩),.int .u64 150] 166)).alloc (.cells #[.pointer (some ⟨5,127,none⟩),.pointer (some ⟨w.heap.size,0,none⟩),.int .u64 150] 166)) (by rw[World.cell?_alloc_lt _ _ ⟨w.heap.size,0,none⟩ (by simp;omega)];simp);have st:=My tb (w.heap.size+1+1+1) c old ((((w.alloc (.cells #[.pointer (some t)] 127)).alloc (.cells #[.pointer (some ⟨5,127,none⟩),.pointer (some ⟨w.heap.size,0,none⟩),.int .u64 150] 166)).alloc (.cells #[.pointer (some ⟨5,127,none⟩),.pointer (some ⟨w.heap.size,0,none⟩),.int .u64 150] 166)).alloc (.cells #[.int .i64 c] 124))
  (by rw[World.cell?_alloc_at _ _ _ _ (by simp)];rfl)
  (by rw[htd,World.cell?_alloc_lt _ _ t (by simp;omega),World.cell?_alloc_lt _ _ t (by simp;omega),World.cell?_alloc_lt _ _ t (by simp;omega),World.cell?_alloc_lt _ _ t htl];exact ht0)
  (by rw[htd,World.frozen?_alloc_old _ _ t (by simp;omega),World.frozen?_alloc_old _ _ t (by simp;omega),World.frozen?_alloc_old _ _ t (by simp;omega),World.frozen?_alloc_old _ _ t (Nat.ne_of_lt htl)];exact hf0)
 rw[htd]at st;go_enter Tryz.func68,Tryz.ntmps68;go_wp2;refine wp_loop_rounds 1 ?_;rw[rounds_succ];go_wp2;go_ret;exact⟨rfl,rfl⟩
end Go.Proofs.YtkpfkgoiaicgbaaGreatDoor
namespace Go.Proofs.YtkpfkgoiaicgbaaGreatDoor
open Go.RowKit
def pG(w:World):Prop:=w.cell? ⟨0,0,none⟩=some (.iface 227 (.agg #[.pointer (some ⟨5,77,none⟩)]))
theorem pD(c:Int)(w:World)(hg:pG w) :
  Calls Tryz.prog 42 #[eo c] w fun e w'=>e = .returned (.int .i64 c)/\Below w.heap.size w w':=by
 by_cases h:c=0
 · subst h;have hv:eo 0 = .nilIface:=rfl;rw[hv];go_enter Tryz.func42,Tryz.ntmps42;go_wp2_with fail;refine(LB _ _).mono ?_;rintro e w1 ⟨rfl,hw⟩;rw[hw];clear hw;go_wp2;go_ret;exact⟨rfl,(Below.refl _ _).alloc (Nat.le_refl _) _⟩
 ·
  have hv:eo c = .iface 124 (.agg #[.int .i64 c]):=by unfold eo;rw[if_neg h]
  rw[hv];have hlt:0<w.heap.size:=World.block_lt_of_cell? _ _ hg;have hgA:(w.alloc (.cells #[.int .i64 0] 124)).cell? ⟨0,0,none⟩=some (.iface 227 (.agg #[.pointer (some ⟨5,77,none⟩)])):=by
   rw[World.cell?_alloc_past _ _ _ hlt];exact hg
  have HA:=af (LA c w.heap.size (.int .i64 0) (w.alloc (.cells #[.int .i64 0] 124)) hgA (by simp) (by simp));clear hv hgA hg h;go_enter Tryz.func42,Tryz.ntmps42;go_wp2_with fail;refine(ae HA).mono ?_;rintro e w1 ⟨rfl,hw⟩;have hc:w1.cell? ⟨w.heap.size,0,none⟩=some (.int .i64 c):=by
   rw[hw];refine World.cell?_setCell_same _ _ _ (u:=.int .i64 0) ?_;rw[World.cell?_alloc_past _ _ _ (by first|(simp;done)|(simp;omega)),World.cell?_alloc_past _ _ _ (by first|(simp;done)|(simp;omega)),World.cell?_alloc_past _ _ _ (by first|(simp;done)|(simp;omega)),World.cell?_alloc_past _ _ _ (by first|(simp;done)|(simp;omega))];simp
  have HB:Hid (Below w.heap.size w w1):=by
   rw[hw];refine ai ?_ (Nat.le_refl _) _;exact(((((Below.refl _ _).alloc (Nat.le_refl _) _).alloc (by simp) _).alloc (by simp;omega) _).alloc (by simp;omega) _).alloc (by simp;omega) _
  clear hw HA;go_wp2;go_ret;exact⟨rfl,ae HB⟩
theorem sL(a:Option Addr)(cap:Nat)(l:List En)(n:Nat)(hn:l.length=n)(m:Int)(w:World)(h:lZ w a l)(hl:(n:Int)<=1048576)(hcap:(n:Int)<=(cap:Int))
  (hs:∀i,i<n->(l.getD i default).n.size<=1048576/\((l.getD i default).t.size:Int)<=9223372036854775807) (hm:w.cell? ⟨2,0,none⟩=some (.int .i64 m)) (hg:pG w) :
  Calls Tryz.prog 23 #[.slice a n cap] w fun e w'=>e = .returned (.bool (fq l))/\Below w.heap.size w w':=by
 have HW:=af (vC a cap l n hn m w h hl hcap hs hm);have HG:=af hg;have HZ:Hid (∀c:Int,(c=0<->∀i,i<n->gp l i=0)->fq l=decide (c=0)):=by
  intro c hc;rw[←hn]at hc;rw[←oP]at hc;cases hz:fq l
  · rw[hz]at hc;simp at hc;simp[hc]
  · rw[hz]at hc;simp at hc;simp[hc]
 clear h hs hm hg hn;go_enter Tryz.func23,Tryz.ntmps23;go_wp2_with fail;refine(ae HW).mono ?_;rintro e w1 ⟨⟨c,rfl,hc,hin⟩,hb1⟩;have HC:=af (ae HZ c hc);have HB1:=af hb1;have HG1:Hid (pG w1):=(hb1.cell (p:=⟨0,0,none⟩) (World.block_lt_of_cell? _ _ (ae HG))).trans (ae HG);clear hc hin hb1 HW HZ;go_wp2_with fail;refine(pD c _ (ae HG1)).mono ?_;rintro e w2 ⟨rfl,hb2⟩;have HB2:=af (aj (ae HB1) hb2);clear hb2;go_wp2;go_ret;exact⟨ak (by rw[ae HC];rfl),ae HB2⟩
end Go.Proofs.YtkpfkgoiaicgbaaGreatDoor
