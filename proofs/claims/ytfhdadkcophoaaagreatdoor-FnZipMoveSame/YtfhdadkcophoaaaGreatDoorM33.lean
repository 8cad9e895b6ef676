/- Of what the proof is made: 5 texts, one behind the other. -/
import Derived.Test.YtfhdadkcophoaaaGreatDoorM31
import Derived.LaidEql
import Derived.Stop.Asserts
import Derived.RowKitTokens
set_option linter.unusedSimpArgs false
set_option linter.unusedVariables false
set_option maxHeartbeats 4000000
namespace Go.Proofs.YtfhdadkcophoaaaGreatDoor
open Go.RowKit Go.Extern.Stop Go.Stop Go.Extern
theorem Ll(t:Value)(w:World) :
  Calls Tryz.prog 60 #[.nilIface,t] w fun e w'=>e = .returned (.bool false)/\w'=w:=by
 go_enter Tryz.func60,Tryz.ntmps60;go_wp2;go_ret;exact⟨rfl,rfl⟩
theorem E3(t:Addr)(w:World):(ReflectliteValue.unpack (.iface 95 (.pointer (some t)))).run Tryz.prog w
  = .ok (.agg #[.pointer (some ⟨5,95,none⟩),.pointer (some ⟨w.heap.size,0,none⟩),.int .u64 150]) (w.alloc (.cells #[.pointer (some t)] 95)):=by kernel_rfl
theorem EZ(c:Int)(w:World):(ReflectliteValue.unpack (.iface 92 (.agg #[.int .i64 c]))).run Tryz.prog w
  = .ok (.agg #[.pointer (some ⟨5,92,none⟩),.pointer (some ⟨w.heap.size,0,none⟩),.int .u64 153]) (w.alloc (.cells #[.int .i64 c] 92)):=by kernel_rfl
theorem Jj(a:Addr)(w:World):(ReflectliteValue.methodAny (ReflectliteValue.valueError "reflectlite.Value.Type" 0) (fun t _ _ _=>ReflectliteType.toType t) #[.agg #[.pointer (some ⟨5,95,none⟩),.pointer (some a),.int .u64 150]]).run Tryz.prog w
  = .ok (.iface 185 (.agg #[.pointer (some ⟨5,95,none⟩)])) w:=by kernel_rfl
theorem ub(h:Value)(w:World):(Go.method 438 185 (.agg #[h]) "Kind").run Tryz.prog w = .ok (232,h) w:=by kernel_rfl
theorem Ji(w:World):((ReflectliteType.abiMethod fun t=>(fun a:Nat=>Value.int IntKind.u8 (a:Int)) <$> Rtype.kind t) #[.pointer (some ⟨5,95,none⟩)]).run Tryz.prog w = .ok (.int .u8 22) w:=by kernel_rfl
theorem Jh(w:World):((ReflectliteType.abiMethod fun t=>(fun a:Nat=>Value.int IntKind.u8 (a:Int)) <$> Rtype.kind t) #[.pointer (some ⟨5,92,none⟩)]).run Tryz.prog w = .ok (.int .u8 25) w:=by kernel_rfl
theorem Mi(z:Sem Value)(f:TypeId->Addr->Nat->Nat->Sem Value)(v:Value) :
  ReflectliteValue.method z f #[v]=(do match ←ReflectliteValue.parts v with|none=>z|some (t,a,fl)=>f t a fl (fl%32)):=rfl
theorem vv(a:Addr)(w:World):(ReflectliteValue.parts (.agg #[.pointer (some ⟨5,95,none⟩),.pointer (some a),.int .u64 150])).run Tryz.prog w = .ok (some (95,a,150)) w:=by kernel_rfl
theorem Jg(a p:Addr)(W:World)(ha:W.cell? a=some (.pointer (some p))) :
  (ReflectliteValue.method (ReflectliteValue.valueError "reflectlite.Value.IsNil" 0) ReflectliteValue.isNil #[.agg #[.pointer (some ⟨5,95,none⟩),.pointer (some a),.int .u64 150]]).run Tryz.prog W = .ok (.bool false) W:=by
 rw[Mi];simp only[a2q,vv,Result.andThen];simp[ReflectliteValue.isNil,loadVar,isAgg,underlying,Tryz.underlying95,ha,Result.andThen]
theorem tZ(h:Value)(w:World):(Go.method 438 185 (.agg #[h]) "Elem").run Tryz.prog w = .ok (246,.agg #[h]) w:=by kernel_rfl
theorem ua(h:Value)(w:World):(Go.method 438 185 (.agg #[h]) "Implements").run Tryz.prog w = .ok (247,.agg #[h]) w:=by kernel_rfl
theorem vu(h:Value)(w:World):(Go.method 438 185 (.agg #[h]) "AssignableTo").run Tryz.prog w = .ok (244,.agg #[h]) w:=by kernel_rfl
theorem Jd(w:World):(ReflectliteType.method ReflectliteType.elem #[.agg #[.pointer (some ⟨5,95,none⟩)]]).run Tryz.prog w = .ok (.iface 185 (.agg #[.pointer (some ⟨5,92,none⟩)])) w:=by kernel_rfl
theorem Jf(w:World):(ReflectliteType.relation "Implements" ReflectliteType.implements_ #[.agg #[.pointer (some ⟨5,92,none⟩)],.iface 185 (.agg #[.pointer (some ⟨5,56,none⟩)])]).run Tryz.prog w = .ok (.bool true) w:=by kernel_rfl
theorem BU(v:Value)(w:World):(ReflectliteType.typeOf #[.iface 92 v]).run Tryz.prog w = .ok (.iface 185 (.agg #[.pointer (some ⟨5,92,none⟩)])) w:=by kernel_rfl
theorem Lj(w:World):(ReflectliteType.relation "AssignableTo" ReflectliteType.assignableTo #[.agg #[.pointer (some ⟨5,92,none⟩)],.iface 185 (.agg #[.pointer (some ⟨5,92,none⟩)])]).run Tryz.prog w = .ok (.bool true) w:=by kernel_rfl
theorem EV(w:World):(Rtype.elem? 95).run Tryz.prog w = .ok (some 92) w:=by kernel_rfl
theorem Mh(p:Addr)(w:World):(ReflectliteValue.mk 92 p ReflectliteValue.flagAddr).run Tryz.prog w = .ok (.agg #[.pointer (some ⟨5,92,none⟩),.pointer (some p),.int .u64 409]) w:=by kernel_rfl
theorem Je(a p:Addr)(W:World)(ha:W.cell? a=some (.pointer (some p))) :
  (ReflectliteValue.method (ReflectliteValue.valueError "reflectlite.Value.Elem" 0) ReflectliteValue.elem #[.agg #[.pointer (some ⟨5,95,none⟩),.pointer (some a),.int .u64 150]]).run Tryz.prog W
   = .ok (.agg #[.pointer (some ⟨5,92,none⟩),.pointer (some p),.int .u64 409]) W:=by
 rw[Mi];simp only[a2q,vv,Result.andThen];simp[ReflectliteValue.elem,loadVar,isAgg,underlying,Tryz.underlying95,ha,Result.andThen,EV,Mh]
theorem BS(a:Addr)(w:World):(ReflectliteValue.parts (.agg #[.pointer (some ⟨5,92,none⟩),.pointer (some a),.int .u64 409])).run Tryz.prog w = .ok (some (92,a,409)) w:=by kernel_rfl
theorem EW(a:Addr)(w:World):(ReflectliteValue.parts (.agg #[.pointer (some ⟨5,92,none⟩),.pointer (some a),.int .u64 153])).run Tryz.prog w = .ok (some (92,a,153)) w:=by kernel_rfl
theorem EU(w:World):(Rtype.directlyAssignable 92 92).run Tryz.prog w = .ok true w:=by kernel_rfl
theorem Mj(tb b:Nat)(c:Int)(old:Value)(W:World)(hb:W.cell? ⟨b,0,none⟩=some (.int .i64 c))(ht:W.cell? ⟨tb,0,none⟩=some old)(hf:W.frozen? ⟨tb,0,none⟩=false) :
  (ReflectliteValue.set #[.agg #[.pointer (some ⟨5,92,none⟩),.pointer (some ⟨tb,0,none⟩),.int .u64 409],.agg #[.pointer (some ⟨5,92,none⟩),.pointer (some ⟨b,0,none⟩),.int .u64 153]]).run Tryz.prog W
   = .ok (.tuple #[]) (W.setCell ⟨tb,0,none⟩ (.int .i64 c)):=by
 show(Bind.bind (ReflectliteValue.parts _) _:Sem Value).run Tryz.prog W=_;simp only[Array.getLit,List.getElem_toArray,List.getElem_cons_zero,List.getElem_cons_succ,a2q,BS,EW,Result.andThen];have hl:(loadCells ⟨b,0,none⟩ 1).run Tryz.prog W = .ok #[.int .i64 c] W:=by simp[loadCells,loadCellsFrom,go_sem,hb]
 simp[ReflectliteValue.flagAddr,loadVar,isAgg,underlying,Tryz.underlying92,Result.andThen,EU,storeVar,Value.cells,hl];simp[storeCells,Addr.add];rw[run_store Tryz.prog W ⟨tb,0,none⟩ _ _ (by rfl)];simp[ht,hf]
theorem Lk(c:Int)(tb:Nat)(old:Value)(w:World)(hg:w.cell? ⟨0,0,none⟩=some (.iface 185 (.agg #[.pointer (some ⟨5,56,none⟩)])))(ht0:w.cell? ⟨tb,0,none⟩=some old)(hf0:w.frozen? ⟨tb,0,none⟩=false) :
  Calls Tryz.prog 60 #[.iface 92 (.agg #[.int .i64 c]),.iface 95 (.pointer (some ⟨tb,0,none⟩))] w fun ev w'=>ev = .returned (.bool true)/\w'=((((w.alloc (.cells #[.pointer (some ⟨tb,0,none⟩)] 95)).alloc (.cells #[.pointer (some ⟨5,95,none⟩),.pointer (some ⟨w.heap.size,0,none⟩),.int .u64 150] 125)).alloc (.cells #[.pointer (some ⟨5,95,none⟩),.pointer (some ⟨w.heap.size,0,none⟩),.int .u64 150] 125)).alloc (.cells #[.int .i64 c] 92)).setCell ⟨tb,0,none⟩ (.int .i64 c):=by
 have h6:=@a1B Tryz.prog 98 _ (fun args=>ReflectliteValue.unpack (args.getD 0 (.tuple #[]))) Tryz.func98 (by kernel_rfl) (by kernel_rfl) (by kernel_rfl) (by kernel_rfl);have h7:=@a1B Tryz.prog 99 _ (ReflectliteValue.methodAny (ReflectliteValue.valueError "reflectlite.Value.Type" 0) (fun t _ _ _=>ReflectliteType.toType t)) Tryz.func99 (by kernel_rfl) (by kernel_rfl) (by kernel_rfl) (by kernel_rfl);have h8:=@a1B Tryz.prog 100 _ (ReflectliteValue.method (ReflectliteValue.valueError "reflectlite.Value.IsNil" 0) ReflectliteValue.isNil) Tryz.func100 (by kernel_rfl) (by kernel_rfl) (by kernel_rfl) (by kernel_rfl);have h27:=@a1B Tryz.prog 232 _ (ReflectliteType.abiMethod fun t=>do pure (.int .u8 (←Rtype.kind t))) Tryz.func232 (by kernel_rfl) (by kernel_rfl) (by kernel_rfl) (by kernel_rfl);have h37:=@a1B Tryz.prog 246 _ (ReflectliteType.method ReflectliteType.elem) Tryz.func246 (by kernel_rfl) (by kernel_rfl) (by kernel_rfl) (by kernel_rfl);have h38:=@a1B Tryz.prog 247 _ (ReflectliteType.relation "Implements" ReflectliteType.implements_) Tryz.func247 (by kernel_rfl) (by kernel_rfl) (by kernel_rfl) (by kernel_rfl);have h10:=@a1B Tryz.prog 136 _ ReflectliteType.typeOf Tryz.func136 (by kernel_rfl) (by kernel_rfl) (by kernel_rfl) (by kernel_rfl);have h35:=@a1B Tryz.prog 244 _ (ReflectliteType.relation "AssignableTo" ReflectliteType.assignableTo) Tryz.func244 (by kernel_rfl) (by kernel_rfl) (by kernel_rfl) (by kernel_rfl);have h11:=@a1B Tryz.prog 137 _ (ReflectliteValue.method (ReflectliteValue.valueError "reflectlite.Value.Elem" 0) ReflectliteValue.elem) Tryz.func137 (by kernel_rfl) (by kernel_rfl) (by kernel_rfl) (by kernel_rfl);have h12:=@a1B Tryz.prog 138 _ ReflectliteValue.set Tryz.func138 (by kernel_rfl) (by kernel_rfl) (by kernel_rfl) (by kernel_rfl);have tO:=BU;have mA:=vu;have a25:=Lj;have v25:=EZ;have f6:=E3;have f7:=Jj;have mK:=ub;have mE:=tZ;have mI:=ua;have k27:=Ji;have k25:=Jh;have e27:=Jd;have i25:=Jf;generalize htd:(⟨tb,0,none⟩:Addr)=t at *
 have n8:=Jg ⟨w.heap.size,0,none⟩ t ((w.alloc (.cells #[.pointer (some t)] 95)).alloc (.cells #[.pointer (some ⟨5,95,none⟩),.pointer (some ⟨w.heap.size,0,none⟩),.int .u64 150] 125)) (by simp);have hlt:0<w.heap.size:=by
  rcases a3q w.heap.size with h0|h
  · simp[World.cell?,h0]at hg
  · exact h
 have hg2:((w.alloc (.cells #[.pointer (some t)] 95)).alloc (.cells #[.pointer (some ⟨5,95,none⟩),.pointer (some ⟨w.heap.size,0,none⟩),.int .u64 150] 125)).cell? ⟨0,0,none⟩=some (.iface 185 (.agg #[.pointer (some ⟨5,56,none⟩)])):=by
  rw[World.cell?_alloc_lt _ _ ⟨0,0,none⟩ (by simp),World.cell?_alloc_lt _ _ ⟨0,0,none⟩ hlt];exact hg
 have htl:t.block<w.heap.size:=by
  rcases a1e t.block w.heap.size with h|h
  · exact h
  · simp[World.cell?,Array.getElem?_eq_none h]at ht0
 have el:=Je ⟨w.heap.size,0,none⟩ t (((w.alloc (.cells #[.pointer (some t)] 95)).alloc (.cells #[.pointer (some ⟨5,95,none⟩),.pointer (some ⟨w.heap.size,0,none⟩),.int .u64 150] 125)).alloc (.cells #[.pointer (some ⟨5,95,none⟩),.pointer (some ⟨w.heap.size,0,none⟩),.int .u64 150] 125)) (by rw[World.cell?_alloc_lt _ _ ⟨w.heap.size,0,none⟩ (by simp;omega)];simp);have st:=Mj tb (w.heap.size+1+1+1) c old ((((w.alloc (.cells #[.pointer (some t)] 95)).alloc (.cells #[.pointer (some ⟨5,95,none⟩),.pointer (some ⟨w.heap.size,0,none⟩),.int .u64 150] 125)).alloc (.cells #[.pointer (some ⟨5,95,none⟩),.pointer (some ⟨w.heap.size,0,none⟩),.int .u64 150] 125)).alloc (.cells #[.int .i64 c] 92))
  (by rw[World.cell?_alloc_at _ _ _ _ (by simp)];rfl)
  (by rw[htd,World.cell?_alloc_lt _ _ t (by simp;omega),World.cell?_alloc_lt _ _ t (by simp;omega),World.cell?_alloc_lt _ _ t (by simp;omega),World.cell?_alloc_lt _ _ t htl];exact ht0)
  (by rw[htd,World.frozen?_alloc_old _ _ t (by simp;omega),World.frozen?_alloc_old _ _ t (by simp;omega),World.frozen?_alloc_old _ _ t (by simp;omega),World.frozen?_alloc_old _ _ t (a1L htl)];exact hf0)
 rw[htd]at st;go_enter Tryz.func60,Tryz.ntmps60;go_wp2;refine wp_loop_rounds 1 ?_;rw[rounds_succ];go_wp2;go_ret;exact⟨rfl,rfl⟩
end Go.Proofs.YtfhdadkcophoaaaGreatDoor
namespace Go.Proofs.YtfhdadkcophoaaaGreatDoor
open Go.RowKit
def iq(w:World):Prop:=w.cell? ⟨0,0,none⟩=some (.iface 185 (.agg #[.pointer (some ⟨5,56,none⟩)]))
theorem iG(c:Int)(w:World)(hg:iq w) :
  Calls Tryz.prog 30 #[cH c] w fun e w'=>e = .returned (.int .i64 c)/\Below w.heap.size w w':=by
 by_cases h:c=0
 · subst h;have hv:cH 0 = .nilIface:=rfl;rw[hv];go_enter Tryz.func30,Tryz.ntmps30;go_wp2_with fail;refine(Ll _ _).mono ?_;rintro e w1 ⟨rfl,hw⟩;rw[hw];clear hw;go_wp2;go_ret;exact⟨rfl,(a0b _ _).alloc (a0a _) _⟩
 ·
  have hv:cH c = .iface 92 (.agg #[.int .i64 c]):=by unfold cH;rw[a0e h]
  rw[hv];have hlt:0<w.heap.size:=World.block_lt_of_cell? _ _ hg;have hgA:(w.alloc (.cells #[.int .i64 0] 92)).cell? ⟨0,0,none⟩=some (.iface 185 (.agg #[.pointer (some ⟨5,56,none⟩)])):=by
   rw[World.cell?_alloc_past _ _ _ hlt];exact hg
  have HA:=af (Lk c w.heap.size (.int .i64 0) (w.alloc (.cells #[.int .i64 0] 92)) hgA (by simp) (by simp));clear hv hgA hg h;go_enter Tryz.func30,Tryz.ntmps30;go_wp2_with fail;refine(ae HA).mono ?_;rintro e w1 ⟨rfl,hw⟩;have hc:w1.cell? ⟨w.heap.size,0,none⟩=some (.int .i64 c):=by
   rw[hw];refine World.cell?_setCell_same _ _ _ (u:=.int .i64 0) ?_;rw[World.cell?_alloc_past _ _ _ (by first|(simp;done)|(simp;omega)),World.cell?_alloc_past _ _ _ (by first|(simp;done)|(simp;omega)),World.cell?_alloc_past _ _ _ (by first|(simp;done)|(simp;omega)),World.cell?_alloc_past _ _ _ (by first|(simp;done)|(simp;omega))];simp
  have HB:Hid (Below w.heap.size w w1):=by
   rw[hw];refine ah ?_ (a0a _) _;exact(((((a0b _ _).alloc (a0a _) _).alloc (by simp) _).alloc (by simp;omega) _).alloc (by simp;omega) _).alloc (by simp;omega) _
  clear hw HA;go_wp2;go_ret;exact⟨rfl,ae HB⟩
theorem dY(a:Option Addr)(cap:Nat)(l:List En)(n:Nat)(hn:l.length=n)(m:Int)(w:World)(h:gT w a l)(hl:(n:Int)<=1048576)(hcap:(n:Int)<=(cap:Int))
  (hs:∀i,i<n->(l.getD i default).n.size<=1048576/\((l.getD i default).t.size:Int)<=9223372036854775807) (hm:w.cell? ⟨2,0,none⟩=some (.int .i64 m)) (hg:iq w) :
  Calls Tryz.prog 17 #[.slice a n cap] w fun e w'=>e = .returned (.bool (aY l))/\Below w.heap.size w w':=by
 have HW:=af (vm a cap l n hn m w h hl hcap hs hm);have HG:=af hg;have HZ:Hid (∀c:Int,(c=0<->∀i,i<n->gu l i=0)->aY l=decide (c=0)):=by
  intro c hc;rw[←hn]at hc;rw[←lJ]at hc;cases hz:aY l
  · rw[hz]at hc;simp at hc;simp[hc]
  · rw[hz]at hc;simp at hc;simp[hc]
 clear h hs hm hg hn;go_enter Tryz.func17,Tryz.ntmps17;go_wp2_with fail;refine(ae HW).mono ?_;rintro e w1 ⟨⟨c,rfl,hc,hin⟩,hb1⟩;have HC:=af (ae HZ c hc);have HB1:=af hb1;have HG1:Hid (iq w1):=(hb1.cell (p:=⟨0,0,none⟩) (World.block_lt_of_cell? _ _ (ae HG))).trans (ae HG);clear hc hin hb1 HW HZ;go_wp2_with fail;refine(iG c _ (ae HG1)).mono ?_;rintro e w2 ⟨rfl,hb2⟩;have HB2:=af (ag (ae HB1) hb2);clear hb2;go_wp2;go_ret;exact⟨ak (by rw[ae HC];rfl),ae HB2⟩
end Go.Proofs.YtfhdadkcophoaaaGreatDoor
