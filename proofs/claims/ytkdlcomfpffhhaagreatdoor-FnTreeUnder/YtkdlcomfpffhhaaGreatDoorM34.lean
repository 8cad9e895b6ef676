/- Of what the proof is made: 6 texts, one behind the other. -/
import Derived.Test.YtkdlcomfpffhhaaGreatDoorFrm
import Derived.Test.YtkdlcomfpffhhaaGreatDoorM24
import Derived.ChangeVars
import Derived.OpenVars
import Derived.Test.YtkdlcomfpffhhaaGreatDoorM30
import Derived.LaidEql
import Derived.Stop.Asserts
import Derived.RowKitTokens
set_option linter.unusedSimpArgs false
set_option linter.unusedVariables false
set_option maxHeartbeats 4000000
namespace Go.Proofs.YtkdlcomfpffhhaaGreatDoor
open Go.ChangeShapes Go.WideShapes Go.ChangeAt Go.RowKit
def GY:DataW Unit:=.agg (bv.map fun n=>.lit (.int .i64 (n:Nat)))
theorem xu{W:World} : ∀(laid:List (String×DataW Unit)) (ps:List MemPlace),DataW.LaidVars Tryz.prog W laid ps->("loop.example/corbel/impl.lenOrder",GY)∈laid->∃ps',DataW.LaidVars Tryz.prog W [("loop.example/corbel/impl.lenOrder",GY)] ps'
 | [],_,_,h=>by cases h
 | (n,d) :: r,ps,hL,h=>by
  obtain⟨g,t,cs,fuel,p,q,hg,ht,hv,hd,hr,_⟩:=hL;rcases a1j.1 h with e|e
  · obtain⟨rfl,rfl⟩:=Prod.mk.inj e;exact⟨_,g,t,cs,fuel,p,[],hg,ht,hv,hd,rfl,rfl⟩
  · exact xu r q hr e
theorem ts{W:World}{ps:List MemPlace}(h:DataW.LaidVars Tryz.prog W [("loop.example/corbel/impl.lenOrder",GY)] ps)(r:Nat)(hr:r<19):W.cell? ⟨1,r,none⟩=some (.int .i64 (bv.getD r 0:Nat)):=by
 obtain⟨g,t,cs,fuel,p,q,hg,ht,hv,hd,_,_⟩:=h;obtain rfl:=a08 ((show Tryz.prog.globalNamed "loop.example/corbel/impl.lenOrder" = some 1 by kernel_rfl).symm.trans hg);obtain rfl:=a08 ((show(Tryz.prog.globals[1]?).map (·.type)=some 262 by kernel_rfl).symm.trans ht);obtain⟨xs,m,_,ex,_,hl,hel⟩:=DataW.trod_array Tryz.underlying262 hd;have c5:Tryz.prog.cellsOf 3=1:=by kernel_rfl
 have hE:=hel r hr;rw[c5,a2B,List.getElem?_eq_getElem (by omega)]at hE;obtain⟨z,e1,e2,_⟩:=DataW.trod_int a14 hE;have hlen:bv.length=19:=rfl;have e3:(xs.map (·.1))=bv.map fun n=>.lit (.int .i64 (n:Nat)):=(DataW.agg.inj (Prod.mk.inj ex).1).symm;have e4:(xs.map (·.1))[r]?=(bv.map fun n=>(DataW.lit (.int .i64 (n:Nat)):DataW Unit))[r]?:=by rw[e3]
 rw[List.getElem?_map,List.getElem?_map,List.getElem?_eq_getElem (by omega:r<xs.length),List.getElem?_eq_getElem (by omega:r<bv.length),e2]at e4;have hz:z=(bv.getD r 0:Nat):=by
  simp only[a3L,a0j,DataW.lit.injEq,Lit.int.injEq,a1v]at e4;rw[e4,List.getD,List.getElem?_eq_getElem (by omega:r<bv.length)];rfl
 rw[World.var?_cell hg hv r,←hz];have:cs.toList[r]?=some (.int .i64 z):=by
  have h0:((cs.toList.drop r).take 1)[0]?=some (.int .i64 z):=by rw[e1];rfl
  simpa using h0
 simpa using this
theorem G4{W:World}{ps:List MemPlace}(h:DataW.LaidVars Tryz.prog W [("loop.example/corbel/impl.lenOrder",GY)] ps):dk W:=by
 refine⟨fun j v hv=>?_,?_⟩
 ·
  have hj:j<19:=by
   have:=(List.getElem?_eq_some_iff.1 hv).1;have e:DI.toList.length=19:=rfl;omega
  rw[a0A,ts h j hj];have h1:=xt j hj;rw[Array.getElem?_toList,h1]at hv;exact hv
 ·
  have h0:=ts h 0 (by omega);rcases a1q 1 W.heap.size with h1|h1
  · exact h1
  · simp[World.cell?,h1]at h0
theorem sx{W:World}{laid:List (String×DataW Unit)}(h:laidMetH Tryz.prog laid W)(hp:(laid.filter fun x=>x.2.handleName?.isSome).isEmpty=false)(hm:("loop.example/corbel/impl.lenOrder",GY)∈laid.filter fun x=>x.2.handleName?.isNone):dk W:=by
 have h':laidMet Tryz.prog (laid.filter fun x=>x.2.handleName?.isNone) W:=by
  unfold laidMetH at h;generalize (laid.filter fun x=>x.2.handleName?.isSome)=fl at *
  cases fl with
  | nil=>cases hp
  | cons a r=>exact h.1
 obtain⟨ps,h1,_,_⟩:=h';obtain⟨ps',h2⟩:=xu _ _ h1 hm;exact G4 h2
end Go.Proofs.YtkdlcomfpffhhaaGreatDoor
namespace Go.Proofs.YtkdlcomfpffhhaaGreatDoor
open Go.RowKit Go.Extern.Stop Go.Stop Go.Extern
theorem Lo(t:Value)(w:World) :
  Calls Tryz.prog 81 #[.nilIface,t] w fun e w'=>e = .returned (.bool false)/\w'=w:=by
 go_enter Tryz.func81,Tryz.ntmps81;go_wp2;go_ret;exact⟨rfl,rfl⟩
theorem E7(t:Addr)(w:World):(ReflectliteValue.unpack (.iface 124 (.pointer (some t)))).run Tryz.prog w
  = .ok (.agg #[.pointer (some ⟨5,124,none⟩),.pointer (some ⟨w.heap.size,0,none⟩),.int .u64 150]) (w.alloc (.cells #[.pointer (some t)] 124)):=by kernel_rfl
theorem E6(c:Int)(w:World):(ReflectliteValue.unpack (.iface 121 (.agg #[.int .i64 c]))).run Tryz.prog w
  = .ok (.agg #[.pointer (some ⟨5,121,none⟩),.pointer (some ⟨w.heap.size,0,none⟩),.int .u64 153]) (w.alloc (.cells #[.int .i64 c] 121)):=by kernel_rfl
theorem Jt(a:Addr)(w:World):(ReflectliteValue.methodAny (ReflectliteValue.valueError "reflectlite.Value.Type" 0) (fun t _ _ _=>ReflectliteType.toType t) #[.agg #[.pointer (some ⟨5,124,none⟩),.pointer (some a),.int .u64 150]]).run Tryz.prog w
  = .ok (.iface 221 (.agg #[.pointer (some ⟨5,124,none⟩)])) w:=by kernel_rfl
theorem ug(h:Value)(w:World):(Go.method 500 221 (.agg #[h]) "Kind").run Tryz.prog w = .ok (307,h) w:=by kernel_rfl
theorem Js(w:World):((ReflectliteType.abiMethod fun t=>(fun a:Nat=>Value.int IntKind.u8 (a:Int)) <$> Rtype.kind t) #[.pointer (some ⟨5,124,none⟩)]).run Tryz.prog w = .ok (.int .u8 22) w:=by kernel_rfl
theorem Jr(w:World):((ReflectliteType.abiMethod fun t=>(fun a:Nat=>Value.int IntKind.u8 (a:Int)) <$> Rtype.kind t) #[.pointer (some ⟨5,121,none⟩)]).run Tryz.prog w = .ok (.int .u8 25) w:=by kernel_rfl
theorem Mk(z:Sem Value)(f:TypeId->Addr->Nat->Nat->Sem Value)(v:Value) :
  ReflectliteValue.method z f #[v]=(do match ←ReflectliteValue.parts v with|none=>z|some (t,a,fl)=>f t a fl (fl%32)):=rfl
theorem vt(a:Addr)(w:World):(ReflectliteValue.parts (.agg #[.pointer (some ⟨5,124,none⟩),.pointer (some a),.int .u64 150])).run Tryz.prog w = .ok (some (124,a,150)) w:=by kernel_rfl
theorem Jq(a p:Addr)(W:World)(ha:W.cell? a=some (.pointer (some p))) :
  (ReflectliteValue.method (ReflectliteValue.valueError "reflectlite.Value.IsNil" 0) ReflectliteValue.isNil #[.agg #[.pointer (some ⟨5,124,none⟩),.pointer (some a),.int .u64 150]]).run Tryz.prog W = .ok (.bool false) W:=by
 rw[Mk];simp only[a2f,vt,Result.andThen];simp[ReflectliteValue.isNil,loadVar,isAgg,underlying,Tryz.underlying124,ha,Result.andThen]
theorem ue(h:Value)(w:World):(Go.method 500 221 (.agg #[h]) "Elem").run Tryz.prog w = .ok (321,.agg #[h]) w:=by kernel_rfl
theorem uf(h:Value)(w:World):(Go.method 500 221 (.agg #[h]) "Implements").run Tryz.prog w = .ok (322,.agg #[h]) w:=by kernel_rfl
theorem vr(h:Value)(w:World):(Go.method 500 221 (.agg #[h]) "AssignableTo").run Tryz.prog w = .ok (319,.agg #[h]) w:=by kernel_rfl
theorem Jn(w:World):(ReflectliteType.method ReflectliteType.elem #[.agg #[.pointer (some ⟨5,124,none⟩)]]).run Tryz.prog w = .ok (.iface 221 (.agg #[.pointer (some ⟨5,121,none⟩)])) w:=by kernel_rfl
theorem Jp(w:World):(ReflectliteType.relation "Implements" ReflectliteType.implements_ #[.agg #[.pointer (some ⟨5,121,none⟩)],.iface 221 (.agg #[.pointer (some ⟨5,80,none⟩)])]).run Tryz.prog w = .ok (.bool true) w:=by kernel_rfl
theorem B8(v:Value)(w:World):(ReflectliteType.typeOf #[.iface 121 v]).run Tryz.prog w = .ok (.iface 221 (.agg #[.pointer (some ⟨5,121,none⟩)])) w:=by kernel_rfl
theorem Lm(w:World):(ReflectliteType.relation "AssignableTo" ReflectliteType.assignableTo #[.agg #[.pointer (some ⟨5,121,none⟩)],.iface 221 (.agg #[.pointer (some ⟨5,121,none⟩)])]).run Tryz.prog w = .ok (.bool true) w:=by kernel_rfl
theorem E4(w:World):(Rtype.elem? 124).run Tryz.prog w = .ok (some 121) w:=by kernel_rfl
theorem Mj(p:Addr)(w:World):(ReflectliteValue.mk 121 p ReflectliteValue.flagAddr).run Tryz.prog w = .ok (.agg #[.pointer (some ⟨5,121,none⟩),.pointer (some p),.int .u64 409]) w:=by kernel_rfl
theorem Jo(a p:Addr)(W:World)(ha:W.cell? a=some (.pointer (some p))) :
  (ReflectliteValue.method (ReflectliteValue.valueError "reflectlite.Value.Elem" 0) ReflectliteValue.elem #[.agg #[.pointer (some ⟨5,124,none⟩),.pointer (some a),.int .u64 150]]).run Tryz.prog W
   = .ok (.agg #[.pointer (some ⟨5,121,none⟩),.pointer (some p),.int .u64 409]) W:=by
 rw[Mk];simp only[a2f,vt,Result.andThen];simp[ReflectliteValue.elem,loadVar,isAgg,underlying,Tryz.underlying124,ha,Result.andThen,E4,Mj]
theorem B7(a:Addr)(w:World):(ReflectliteValue.parts (.agg #[.pointer (some ⟨5,121,none⟩),.pointer (some a),.int .u64 409])).run Tryz.prog w = .ok (some (121,a,409)) w:=by kernel_rfl
theorem E5(a:Addr)(w:World):(ReflectliteValue.parts (.agg #[.pointer (some ⟨5,121,none⟩),.pointer (some a),.int .u64 153])).run Tryz.prog w = .ok (some (121,a,153)) w:=by kernel_rfl
theorem E3(w:World):(Rtype.directlyAssignable 121 121).run Tryz.prog w = .ok true w:=by kernel_rfl
theorem Ml(tb b:Nat)(c:Int)(old:Value)(W:World)(hb:W.cell? ⟨b,0,none⟩=some (.int .i64 c))(ht:W.cell? ⟨tb,0,none⟩=some old)(hf:W.frozen? ⟨tb,0,none⟩=false) :
  (ReflectliteValue.set #[.agg #[.pointer (some ⟨5,121,none⟩),.pointer (some ⟨tb,0,none⟩),.int .u64 409],.agg #[.pointer (some ⟨5,121,none⟩),.pointer (some ⟨b,0,none⟩),.int .u64 153]]).run Tryz.prog W
   = .ok (.tuple #[]) (W.setCell ⟨tb,0,none⟩ (.int .i64 c)):=by
 show(Bind.bind (ReflectliteValue.parts _) _:Sem Value).run Tryz.prog W=_;simp only[Array.getLit,List.getElem_toArray,List.getElem_cons_zero,List.getElem_cons_succ,a2f,B7,E5,Result.andThen];have hl:(loadCells ⟨b,0,none⟩ 1).run Tryz.prog W = .ok #[.int .i64 c] W:=by simp[loadCells,loadCellsFrom,go_sem,hb]
 simp[ReflectliteValue.flagAddr,loadVar,isAgg,underlying,Tryz.underlying121,Result.andThen,E3,storeVar,Value.cells,hl];simp[storeCells,Addr.add];rw[run_store Tryz.prog W ⟨tb,0,none⟩ _ _ (by rfl)];simp[ht,hf]
theorem Ln(c:Int)(tb:Nat)(old:Value)(w:World)(hg:w.cell? ⟨0,0,none⟩=some (.iface 221 (.agg #[.pointer (some ⟨5,80,none⟩)])))(ht0:w.cell? ⟨tb,0,none⟩=some old)(hf0:w.frozen? ⟨tb,0,none⟩=false) :
  Calls Tryz.prog 81 #[.iface 121 (.agg #[.int .i64 c]),.iface 124 (.pointer (some ⟨tb,0,none⟩))] w fun ev w'=>ev = .returned (.bool true)/\w'=((((w.alloc (.cells #[.pointer (some ⟨tb,0,none⟩)] 124)).alloc (.cells #[.pointer (some ⟨5,124,none⟩),.pointer (some ⟨w.heap.size,0,none⟩),.int .u64 150] 157)).alloc (.cells #[.pointer (some ⟨5,124,none⟩),.pointer (some ⟨w.heap.size,0,none⟩),.int .u64 150] 157)).alloc (.cells #[.int .i64 c] 121)).setCell ⟨tb,0,none⟩ (.int .i64 c):=by
 have h6:=@a1N Tryz.prog 122 _ (fun args=>ReflectliteValue.unpack (args.getD 0 (.tuple #[]))) Tryz.func122 (by kernel_rfl) (by kernel_rfl) (by kernel_rfl) (by kernel_rfl);have h7:=@a1N Tryz.prog 123 _ (ReflectliteValue.methodAny (ReflectliteValue.valueError "reflectlite.Value.Type" 0) (fun t _ _ _=>ReflectliteType.toType t)) Tryz.func123 (by kernel_rfl) (by kernel_rfl) (by kernel_rfl) (by kernel_rfl);have h8:=@a1N Tryz.prog 124 _ (ReflectliteValue.method (ReflectliteValue.valueError "reflectlite.Value.IsNil" 0) ReflectliteValue.isNil) Tryz.func124 (by kernel_rfl) (by kernel_rfl) (by kernel_rfl) (by kernel_rfl);have h27:=@a1N Tryz.prog 307 _ (ReflectliteType.abiMethod fun t=>do pure (.int .u8 (←Rtype.kind t))) Tryz.func307 (by kernel_rfl) (by kernel_rfl) (by kernel_rfl) (by kernel_rfl);have h37:=@a1N Tryz.prog 321 _ (ReflectliteType.method ReflectliteType.elem) Tryz.func321 (by kernel_rfl) (by kernel_rfl) (by kernel_rfl) (by kernel_rfl);have h38:=@a1N Tryz.prog 322 _ (ReflectliteType.relation "Implements" ReflectliteType.implements_) Tryz.func322 (by kernel_rfl) (by kernel_rfl) (by kernel_rfl) (by kernel_rfl);have h10:=@a1N Tryz.prog 164 _ ReflectliteType.typeOf Tryz.func164 (by kernel_rfl) (by kernel_rfl) (by kernel_rfl) (by kernel_rfl);have h35:=@a1N Tryz.prog 319 _ (ReflectliteType.relation "AssignableTo" ReflectliteType.assignableTo) Tryz.func319 (by kernel_rfl) (by kernel_rfl) (by kernel_rfl) (by kernel_rfl);have h11:=@a1N Tryz.prog 165 _ (ReflectliteValue.method (ReflectliteValue.valueError "reflectlite.Value.Elem" 0) ReflectliteValue.elem) Tryz.func165 (by kernel_rfl) (by kernel_rfl) (by kernel_rfl) (by kernel_rfl);have h12:=@a1N Tryz.prog 166 _ ReflectliteValue.set Tryz.func166 (by kernel_rfl) (by kernel_rfl) (by kernel_rfl) (by kernel_rfl);have tO:=B8;have mA:=vr;have a25:=Lm;have v25:=E6;have f6:=E7;have f7:=Jt;have mK:=ug;have mE:=ue;have mI:=uf;have k27:=Js;have k25:=Jr;have e27:=Jn;have i25:=Jp;generalize htd:(⟨tb,0,none⟩:Addr)=t at *
 have n8:=Jq ⟨w.heap.size,0,none⟩ t ((w.alloc (.cells #[.pointer (some t)] 124)).alloc (.cells #[.pointer (some ⟨5,124,none⟩),.pointer (some ⟨w.heap.size,0,none⟩),.int .u64 150] 157)) (by simp);have hlt:0<w.heap.size:=by
  rcases a3J w.heap.size with h0|h
  · simp[World.cell?,h0]at hg
  · exact h
 have hg2:((w.alloc (.cells #[.pointer (some t)] 124)).alloc (.cells #[.pointer (some ⟨5,124,none⟩),.pointer (some ⟨w.heap.size,0,none⟩),.int .u64 150] 157)).cell? ⟨0,0,none⟩=some (.iface 221 (.agg #[.pointer (some ⟨5,80,none⟩)])):=by
  rw[World.cell?_alloc_lt _ _ ⟨0,0,none⟩ (by simp),World.cell?_alloc_lt _ _ ⟨0,0,none⟩ hlt];exact hg
 have htl:t.block<w.heap.size:=by
  rcases a1q t.block w.heap.size with h|h
  · exact h
  · simp[World.cell?,Array.getElem?_eq_none h]at ht0
 have el:=Jo ⟨w.heap.size,0,none⟩ t (((w.alloc (.cells #[.pointer (some t)] 124)).alloc (.cells #[.pointer (some ⟨5,124,none⟩),.pointer (some ⟨w.heap.size,0,none⟩),.int .u64 150] 157)).alloc (.cells #[.pointer (some ⟨5,124,none⟩),.pointer (some ⟨w.heap.size,0,none⟩),.int .u64 150] 157)) (by rw[World.cell?_alloc_lt _ _ ⟨w.heap.size,0,none⟩ (by simp;omega)];simp);have st:=Ml tb (w.heap.size+1+1+1) c old ((((w.alloc (.cells #[.pointer (some t)] 124)).alloc (.cells #[.pointer (some ⟨5,124,none⟩),.pointer (some ⟨w.heap.size,0,none⟩),.int .u64 150] 157)).alloc (.cells #[.pointer (some ⟨5,124,none⟩),.pointer (some ⟨w.heap.size,0,none⟩),.int .u64 150] 157)).alloc (.cells #[.int .i64 c] 121))
  (by rw[World.cell?_alloc_at _ _ _ _ (by simp)];rfl)
  (by rw[htd,World.cell?_alloc_lt _ _ t (by simp;omega),World.cell?_alloc_lt _ _ t (by simp;omega),World.cell?_alloc_lt _ _ t (by simp;omega),World.cell?_alloc_lt _ _ t htl];exact ht0)
  (by rw[htd,World.frozen?_alloc_old _ _ t (by simp;omega),World.frozen?_alloc_old _ _ t (by simp;omega),World.frozen?_alloc_old _ _ t (by simp;omega),World.frozen?_alloc_old _ _ t (a2b htl)];exact hf0)
 rw[htd]at st;go_enter Tryz.func81,Tryz.ntmps81;go_wp2;refine wp_loop_rounds 1 ?_;rw[rounds_succ];go_wp2;go_ret;exact⟨rfl,rfl⟩
end Go.Proofs.YtkdlcomfpffhhaaGreatDoor
namespace Go.Proofs.YtkdlcomfpffhhaaGreatDoor
open Go.RowKit
def pq(w:World):Prop:=w.cell? ⟨0,0,none⟩=some (.iface 221 (.agg #[.pointer (some ⟨5,80,none⟩)]))
theorem po(c:Int)(w:World)(hg:pq w) :
  Calls Tryz.prog 47 #[eq c] w fun e w'=>e = .returned (.int .i64 c)/\Below w.heap.size w w':=by
 by_cases h:c=0
 · subst h;have hv:eq 0 = .nilIface:=rfl;rw[hv];go_enter Tryz.func47,Tryz.ntmps47;go_wp2_with fail;refine(Lo _ _).mono ?_;rintro e w1 ⟨rfl,hw⟩;rw[hw];clear hw;go_wp2;go_ret;exact⟨rfl,(a0c _ _).alloc (a0a _) _⟩
 ·
  have hv:eq c = .iface 121 (.agg #[.int .i64 c]):=by unfold eq;rw[a0e h]
  rw[hv];have hlt:0<w.heap.size:=World.block_lt_of_cell? _ _ hg;have hgA:(w.alloc (.cells #[.int .i64 0] 121)).cell? ⟨0,0,none⟩=some (.iface 221 (.agg #[.pointer (some ⟨5,80,none⟩)])):=by
   rw[World.cell?_alloc_past _ _ _ hlt];exact hg
  have HA:=af (Ln c w.heap.size (.int .i64 0) (w.alloc (.cells #[.int .i64 0] 121)) hgA (by simp) (by simp));clear hv hgA hg h;go_enter Tryz.func47,Tryz.ntmps47;go_wp2_with fail;refine(ae HA).mono ?_;rintro e w1 ⟨rfl,hw⟩;have hc:w1.cell? ⟨w.heap.size,0,none⟩=some (.int .i64 c):=by
   rw[hw];refine World.cell?_setCell_same _ _ _ (u:=.int .i64 0) ?_;rw[World.cell?_alloc_past _ _ _ (by first|(simp;done)|(simp;omega)),World.cell?_alloc_past _ _ _ (by first|(simp;done)|(simp;omega)),World.cell?_alloc_past _ _ _ (by first|(simp;done)|(simp;omega)),World.cell?_alloc_past _ _ _ (by first|(simp;done)|(simp;omega))];simp
  have HB:Hid (Below w.heap.size w w1):=by
   rw[hw];refine ai ?_ (a0a _) _;exact(((((a0c _ _).alloc (a0a _) _).alloc (by simp) _).alloc (by simp;omega) _).alloc (by simp;omega) _).alloc (by simp;omega) _
  clear hw HA;go_wp2;go_ret;exact⟨rfl,ae HB⟩
theorem su(a:Option Addr)(cap:Nat)(l:List En)(n:Nat)(hn:l.length=n)(m:Int)(w:World)(h:lF w a l)(hl:(n:Int)<=1048576)(hcap:(n:Int)<=(cap:Int))
  (hs:∀i,i<n->(l.getD i default).n.size<=1048576/\((l.getD i default).t.size:Int)<=9223372036854775807) (hm:w.cell? ⟨2,0,none⟩=some (.int .i64 m)) (hg:pq w) :
  Calls Tryz.prog 29 #[.slice a n cap] w fun e w'=>e = .returned (.bool (eK l))/\Below w.heap.size w w':=by
 have HW:=af (vo a cap l n hn m w h hl hcap hs hm);have HG:=af hg;have HZ:Hid (∀c:Int,(c=0<->∀i,i<n->gi l i=0)->eK l=decide (c=0)):=by
  intro c hc;rw[←hn]at hc;rw[←oE]at hc;cases hz:eK l
  · rw[hz]at hc;simp at hc;simp[hc]
  · rw[hz]at hc;simp at hc;simp[hc]
 clear h hs hm hg hn;go_enter Tryz.func29,Tryz.ntmps29;go_wp2_with fail;refine(ae HW).mono ?_;rintro e w1 ⟨⟨c,rfl,hc,hin⟩,hb1⟩;have HC:=af (ae HZ c hc);have HB1:=af hb1;have HG1:Hid (pq w1):=(hb1.cell (p:=⟨0,0,none⟩) (World.block_lt_of_cell? _ _ (ae HG))).trans (ae HG);clear hc hin hb1 HW HZ;go_wp2_with fail;refine(po c _ (ae HG1)).mono ?_;rintro e w2 ⟨rfl,hb2⟩;have HB2:=af (aj (ae HB1) hb2);clear hb2;go_wp2;go_ret;exact⟨ak (by rw[ae HC];rfl),ae HB2⟩
end Go.Proofs.YtkdlcomfpffhhaaGreatDoor
