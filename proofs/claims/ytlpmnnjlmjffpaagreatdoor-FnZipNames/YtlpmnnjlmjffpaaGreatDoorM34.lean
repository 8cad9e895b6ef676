/- Of what the proof is made: 5 texts, one behind the other. -/
import Derived.Test.YtlpmnnjlmjffpaaGreatDoorM32
import Derived.LaidEql
import Derived.Stop.Asserts
import Derived.RowKitTokens
set_option linter.unusedSimpArgs false
set_option linter.unusedVariables false
set_option maxHeartbeats 4000000
namespace Go.Proofs.YtlpmnnjlmjffpaaGreatDoor
open Go.Proofs.Tryz
open Go.RowKit Go.Extern.Stop Go.Stop Go.Extern
theorem N0(t:Value)(w:World) :
  Calls prog 66 #[.nilIface,t] w fun e w'=>e = .returned (.bool false)/\w'=w:=by
 go_enter func66,ntmps66;go_wp2;go_ret;exact⟨rfl,rfl⟩
theorem Ij(t:Addr)(w:World):(ReflectliteValue.unpack (.iface 105 (.pointer (some t)))).run prog w
  = .ok (.agg #[.pointer (some ⟨8,105,none⟩),.pointer (some ⟨w.heap.size,0,none⟩),.int .u64 150]) (w.alloc (.cells #[.pointer (some t)] 105)):=by kernel_rfl
theorem Ii(c:Int)(w:World):(ReflectliteValue.unpack (.iface 98 (.agg #[.int .i64 c]))).run prog w
  = .ok (.agg #[.pointer (some ⟨8,98,none⟩),.pointer (some ⟨w.heap.size,0,none⟩),.int .u64 153]) (w.alloc (.cells #[.int .i64 c] 98)):=by kernel_rfl
theorem LH(a:Addr)(w:World):(ReflectliteValue.methodAny (ReflectliteValue.valueError "reflectlite.Value.Type" 0) (fun t _ _ _=>ReflectliteType.toType t) #[.agg #[.pointer (some ⟨8,105,none⟩),.pointer (some a),.int .u64 150]]).run prog w
  = .ok (.iface 170 (.agg #[.pointer (some ⟨8,105,none⟩)])) w:=by kernel_rfl
theorem wj(h:Value)(w:World):(Go.method 499 170 (.agg #[h]) "Kind").run prog w = .ok (315,h) w:=by kernel_rfl
theorem LF(w:World):((ReflectliteType.abiMethod fun t=>(fun a:Nat=>Value.int IntKind.u8 (a:Int)) <$> Rtype.kind t) #[.pointer (some ⟨8,105,none⟩)]).run prog w = .ok (.int .u8 22) w:=by kernel_rfl
theorem LE(w:World):((ReflectliteType.abiMethod fun t=>(fun a:Nat=>Value.int IntKind.u8 (a:Int)) <$> Rtype.kind t) #[.pointer (some ⟨8,98,none⟩)]).run prog w = .ok (.int .u8 25) w:=by kernel_rfl
theorem Pd(z:Sem Value)(f:TypeId->Addr->Nat->Nat->Sem Value)(v:Value) :
  ReflectliteValue.method z f #[v]=(do match ←ReflectliteValue.parts v with|none=>z|some (t,a,fl)=>f t a fl (fl%32)):=rfl
theorem xv(a:Addr)(w:World):(ReflectliteValue.parts (.agg #[.pointer (some ⟨8,105,none⟩),.pointer (some a),.int .u64 150])).run prog w = .ok (some (105,a,150)) w:=by kernel_rfl
theorem LD(a p:Addr)(W:World)(ha:W.cell? a=some (.pointer (some p))) :
  (ReflectliteValue.method (ReflectliteValue.valueError "reflectlite.Value.IsNil" 0) ReflectliteValue.isNil #[.agg #[.pointer (some ⟨8,105,none⟩),.pointer (some a),.int .u64 150]]).run prog W = .ok (.bool false) W:=by
 rw[Pd];simp only[a26,xv,Result.andThen];simp[ReflectliteValue.isNil,loadVar,isAgg,underlying,underlying105,ha,Result.andThen]
theorem wh(h:Value)(w:World):(Go.method 499 170 (.agg #[h]) "Elem").run prog w = .ok (325,.agg #[h]) w:=by kernel_rfl
theorem wi(h:Value)(w:World):(Go.method 499 170 (.agg #[h]) "Implements").run prog w = .ok (326,.agg #[h]) w:=by kernel_rfl
theorem xu(h:Value)(w:World):(Go.method 499 170 (.agg #[h]) "AssignableTo").run prog w = .ok (323,.agg #[h]) w:=by kernel_rfl
theorem LA(w:World):(ReflectliteType.method ReflectliteType.elem #[.agg #[.pointer (some ⟨8,105,none⟩)]]).run prog w = .ok (.iface 170 (.agg #[.pointer (some ⟨8,98,none⟩)])) w:=by kernel_rfl
theorem LC(w:World):(ReflectliteType.relation "Implements" ReflectliteType.implements_ #[.agg #[.pointer (some ⟨8,98,none⟩)],.iface 170 (.agg #[.pointer (some ⟨8,54,none⟩)])]).run prog w = .ok (.bool true) w:=by kernel_rfl
theorem ES(v:Value)(w:World):(ReflectliteType.typeOf #[.iface 98 v]).run prog w = .ok (.iface 170 (.agg #[.pointer (some ⟨8,98,none⟩)])) w:=by kernel_rfl
theorem NY(w:World):(ReflectliteType.relation "AssignableTo" ReflectliteType.assignableTo #[.agg #[.pointer (some ⟨8,98,none⟩)],.iface 170 (.agg #[.pointer (some ⟨8,98,none⟩)])]).run prog w = .ok (.bool true) w:=by kernel_rfl
theorem Ig(w:World):(Rtype.elem? 105).run prog w = .ok (some 98) w:=by kernel_rfl
theorem Pb(p:Addr)(w:World):(ReflectliteValue.mk 98 p ReflectliteValue.flagAddr).run prog w = .ok (.agg #[.pointer (some ⟨8,98,none⟩),.pointer (some p),.int .u64 409]) w:=by kernel_rfl
theorem LB(a p:Addr)(W:World)(ha:W.cell? a=some (.pointer (some p))) :
  (ReflectliteValue.method (ReflectliteValue.valueError "reflectlite.Value.Elem" 0) ReflectliteValue.elem #[.agg #[.pointer (some ⟨8,105,none⟩),.pointer (some a),.int .u64 150]]).run prog W
   = .ok (.agg #[.pointer (some ⟨8,98,none⟩),.pointer (some p),.int .u64 409]) W:=by
 rw[Pd];simp only[a26,xv,Result.andThen];simp[ReflectliteValue.elem,loadVar,isAgg,underlying,underlying105,ha,Result.andThen,Ig,Pb]
theorem ER(a:Addr)(w:World):(ReflectliteValue.parts (.agg #[.pointer (some ⟨8,98,none⟩),.pointer (some a),.int .u64 409])).run prog w = .ok (some (98,a,409)) w:=by kernel_rfl
theorem Ih(a:Addr)(w:World):(ReflectliteValue.parts (.agg #[.pointer (some ⟨8,98,none⟩),.pointer (some a),.int .u64 153])).run prog w = .ok (some (98,a,153)) w:=by kernel_rfl
theorem Ie(w:World):(Rtype.directlyAssignable 98 98).run prog w = .ok true w:=by kernel_rfl
theorem Pe(tb b:Nat)(c:Int)(old:Value)(W:World)(hb:W.cell? ⟨b,0,none⟩=some (.int .i64 c))(e:W.cell? ⟨tb,0,none⟩=some old)(a:W.frozen? ⟨tb,0,none⟩=false) :
  (ReflectliteValue.set #[.agg #[.pointer (some ⟨8,98,none⟩),.pointer (some ⟨tb,0,none⟩),.int .u64 409],.agg #[.pointer (some ⟨8,98,none⟩),.pointer (some ⟨b,0,none⟩),.int .u64 153]]).run prog W
   = .ok (.tuple #[]) (W.setCell ⟨tb,0,none⟩ (.int .i64 c)):=by
 show(Bind.bind (ReflectliteValue.parts _) _:Sem Value).run prog W=_;simp only[Array.getLit,List.getElem_toArray,List.getElem_cons_zero,List.getElem_cons_succ,a26,ER,Ih,Result.andThen];have d:(loadCells ⟨b,0,none⟩ 1).run prog W = .ok #[.int .i64 c] W:=by simp[loadCells,loadCellsFrom,go_sem,hb]
 simp[ReflectliteValue.flagAddr,loadVar,isAgg,underlying,underlying98,Result.andThen,Ie,storeVar,Value.cells,d];simp[storeCells,Addr.add];rw[run_store prog W ⟨tb,0,none⟩ _ _ (by rfl)];simp[e,a]
theorem NZ(c:Int)(tb:Nat)(old:Value)(w:World)(hg:w.cell? ⟨0,0,none⟩=some (.iface 170 (.agg #[.pointer (some ⟨8,54,none⟩)])))(ht0:w.cell? ⟨tb,0,none⟩=some old)(hf0:w.frozen? ⟨tb,0,none⟩=false) :
  Calls prog 66 #[.iface 98 (.agg #[.int .i64 c]),.iface 105 (.pointer (some ⟨tb,0,none⟩))] w fun ev w'=>ev = .returned (.bool true)/\w'=((((w.alloc (.cells #[.pointer (some ⟨tb,0,none⟩)] 105)).alloc (.cells #[.pointer (some ⟨8,105,none⟩),.pointer (some ⟨w.heap.size,0,none⟩),.int .u64 150] 133)).alloc (.cells #[.pointer (some ⟨8,105,none⟩),.pointer (some ⟨w.heap.size,0,none⟩),.int .u64 150] 133)).alloc (.cells #[.int .i64 c] 98)).setCell ⟨tb,0,none⟩ (.int .i64 c):=by
 have h6:=@a1Z prog 98 _ (fun args=>ReflectliteValue.unpack (args.getD 0 (.tuple #[]))) func98 (by kernel_rfl) (by kernel_rfl) (by kernel_rfl) (by kernel_rfl);have h7:=@a1Z prog 99 _ (ReflectliteValue.methodAny (ReflectliteValue.valueError "reflectlite.Value.Type" 0) (fun t _ _ _=>ReflectliteType.toType t)) func99 (by kernel_rfl) (by kernel_rfl) (by kernel_rfl) (by kernel_rfl);have h8:=@a1Z prog 100 _ (ReflectliteValue.method (ReflectliteValue.valueError "reflectlite.Value.IsNil" 0) ReflectliteValue.isNil) func100 (by kernel_rfl) (by kernel_rfl) (by kernel_rfl) (by kernel_rfl);have h27:=@a1Z prog 315 _ (ReflectliteType.abiMethod fun t=>do pure (.int .u8 (←Rtype.kind t))) func315 (by kernel_rfl) (by kernel_rfl) (by kernel_rfl) (by kernel_rfl);have h37:=@a1Z prog 325 _ (ReflectliteType.method ReflectliteType.elem) func325 (by kernel_rfl) (by kernel_rfl) (by kernel_rfl) (by kernel_rfl);have h38:=@a1Z prog 326 _ (ReflectliteType.relation "Implements" ReflectliteType.implements_) func326 (by kernel_rfl) (by kernel_rfl) (by kernel_rfl) (by kernel_rfl);have h10:=@a1Z prog 130 _ ReflectliteType.typeOf func130 (by kernel_rfl) (by kernel_rfl) (by kernel_rfl) (by kernel_rfl);have h35:=@a1Z prog 323 _ (ReflectliteType.relation "AssignableTo" ReflectliteType.assignableTo) func323 (by kernel_rfl) (by kernel_rfl) (by kernel_rfl) (by kernel_rfl);have h11:=@a1Z prog 131 _ (ReflectliteValue.method (ReflectliteValue.valueError "reflectlite.Value.Elem" 0) ReflectliteValue.elem) func131 (by kernel_rfl) (by kernel_rfl) (by kernel_rfl) (by kernel_rfl);have h12:=@a1Z prog 132 _ ReflectliteValue.set func132 (by kernel_rfl) (by kernel_rfl) (by kernel_rfl) (by kernel_rfl);have tO:=ES;have mA:=xu;have a25:=NY;have v25:=Ii;have f6:=Ij;have f7:=LH;have mK:=wj;have mE:=wh;have mI:=wi;have k27:=LF;have k25:=LE;have e27:=LA;have i25:=LC;generalize htd:(⟨tb,0,none⟩:Addr)=t at *
 have n8:=LD ⟨w.heap.size,0,none⟩ t ((w.alloc (.cells #[.pointer (some t)] 105)).alloc (.cells #[.pointer (some ⟨8,105,none⟩),.pointer (some ⟨w.heap.size,0,none⟩),.int .u64 150] 133)) (by simp);have hlt:0<w.heap.size:=by
  rcases a2x w.heap.size with h0|h
  . simp[World.cell?,h0]at hg
  . exact h
 have hg2:((w.alloc (.cells #[.pointer (some t)] 105)).alloc (.cells #[.pointer (some ⟨8,105,none⟩),.pointer (some ⟨w.heap.size,0,none⟩),.int .u64 150] 133)).cell? ⟨0,0,none⟩=some (.iface 170 (.agg #[.pointer (some ⟨8,54,none⟩)])):=by
  rw[World.cell?_alloc_lt _ _ ⟨0,0,none⟩ (by simp),World.cell?_alloc_lt _ _ ⟨0,0,none⟩ hlt];exact hg
 have htl:t.block<w.heap.size:=by
  rcases a08 t.block w.heap.size with h|h
  . exact h
  . simp[World.cell?,Array.getElem?_eq_none h]at ht0
 have el:=LB ⟨w.heap.size,0,none⟩ t (((w.alloc (.cells #[.pointer (some t)] 105)).alloc (.cells #[.pointer (some ⟨8,105,none⟩),.pointer (some ⟨w.heap.size,0,none⟩),.int .u64 150] 133)).alloc (.cells #[.pointer (some ⟨8,105,none⟩),.pointer (some ⟨w.heap.size,0,none⟩),.int .u64 150] 133)) (by rw[World.cell?_alloc_lt _ _ ⟨w.heap.size,0,none⟩ (by simp;omega)];simp);have st:=Pe tb (w.heap.size+1+1+1) c old ((((w.alloc (.cells #[.pointer (some t)] 105)).alloc (.cells #[.pointer (some ⟨8,105,none⟩),.pointer (some ⟨w.heap.size,0,none⟩),.int .u64 150] 133)).alloc (.cells #[.pointer (some ⟨8,105,none⟩),.pointer (some ⟨w.heap.size,0,none⟩),.int .u64 150] 133)).alloc (.cells #[.int .i64 c] 98))
  (by rw[World.cell?_alloc_at _ _ _ _ (by simp)];rfl)
  (by rw[htd,World.cell?_alloc_lt _ _ t (by simp;omega),World.cell?_alloc_lt _ _ t (by simp;omega),World.cell?_alloc_lt _ _ t (by simp;omega),World.cell?_alloc_lt _ _ t htl];exact ht0)
  (by rw[htd,World.frozen?_alloc_old _ _ t (by simp;omega),World.frozen?_alloc_old _ _ t (by simp;omega),World.frozen?_alloc_old _ _ t (by simp;omega),World.frozen?_alloc_old _ _ t (a1x htl)];exact hf0)
 rw[htd]at st;go_enter func66,ntmps66;go_wp2;refine wp_loop_rounds 1 ?_;rw[rounds_succ];go_wp2;go_ret;exact⟨rfl,rfl⟩
end Go.Proofs.YtlpmnnjlmjffpaaGreatDoor
namespace Go.Proofs.YtlpmnnjlmjffpaaGreatDoor
open Go.Proofs.Tryz
open Go.RowKit
def io(w:World):Prop:=w.cell? ⟨0,0,none⟩=some (.iface 170 (.agg #[.pointer (some ⟨8,54,none⟩)]))
theorem qW(c:Int)(w:World)(f:io w) :
  CD 33 #[fG c] w (.int .i64 c):=by
 by_cases h:c=0
 . subst h;have d:fG 0 = .nilIface:=rfl;rw[d];go_enter func33,ntmps33;go_wp2_with fail;refine(N0 _ _).mono ?_;rintro e w1 ⟨rfl,a⟩;rw[a];clear a;go_wp2;go_ret;exact⟨rfl,(a0c _ _).alloc (a0a _) _⟩
 .
  have d:fG c = .iface 98 (.agg #[.int .i64 c]):=by unfold fG;rw[a0d h]
  rw[d];have g:0<w.heap.size:=World.block_lt_of_cell? _ _ f;have b:(w.alloc (.cells #[.int .i64 0] 98)).cell? ⟨0,0,none⟩=some (.iface 170 (.agg #[.pointer (some ⟨8,54,none⟩)])):=by
   rw[World.cell?_alloc_past _ _ _ g];exact f
  have i:=af (NZ c w.heap.size (.int .i64 0) (w.alloc (.cells #[.int .i64 0] 98)) b (by simp) (by simp));clear d b f h;go_enter func33,ntmps33;go_wp2_with fail;refine(ae i).mono ?_;rintro e w1 ⟨rfl,a⟩;have k:w1.cell? ⟨w.heap.size,0,none⟩=some (.int .i64 c):=by
   rw[a];refine World.cell?_setCell_same _ _ _ (u:=.int .i64 0) ?_;rw[World.cell?_alloc_past _ _ _ (by first|(simp;done)|(simp;omega)),World.cell?_alloc_past _ _ _ (by first|(simp;done)|(simp;omega)),World.cell?_alloc_past _ _ _ (by first|(simp;done)|(simp;omega)),World.cell?_alloc_past _ _ _ (by first|(simp;done)|(simp;omega))];simp
  have j:Hid (Below w.heap.size w w1):=by
   rw[a];refine aj ?_ (a0a _) _;exact(((((a0c _ _).alloc (a0a _) _).alloc (by simp) _).alloc (by simp;omega) _).alloc (by simp;omega) _).alloc (by simp;omega) _
  clear a i;go_wp2;go_ret;exact⟨rfl,ae j⟩
theorem ui(a:Option Addr)(cap:Nat)(l:List En)(n:Nat)(r:l.length=n)(m:Int)(w:World)(h:jK w a l)(C:(n:Int)<=1048576)(g:(n:Int)<=(cap:Int))
  (z:∀i,i<n->(l.getD i default).n.size<=1048576/\((l.getD i default).t.size:Int)<=9223372036854775807) (y:w.cell? ⟨1,0,none⟩=some (.int .i64 m)) (x:io w) :
  CD 51 #[.slice a n cap] w (.bool (bC l)):=by
 have u:=af (xr a cap l n r m w h C g z y);have s:=af x;have v:Hid (∀c:Int,(c=0<->∀i,i<n->ig l i=0)->bC l=decide (c=0)):=by
  intro c b;rw[←r]at b;rw[←qh]at b;cases A:bC l
  . rw[A]at b;simp at b;simp[b]
  . rw[A]at b;simp at b;simp[b]
 clear h z y x r;go_enter func51,ntmps51;go_wp2_with fail;refine(ae u).mono ?_;rintro e w1 ⟨⟨c,rfl,b,q⟩,d⟩;have B:=af (ae v c b);have j:=af d;have o:Hid (io w1):=(d.cell (p:=⟨0,0,none⟩) (World.block_lt_of_cell? _ _ (ae s))).trans (ae s);clear b q d u v;go_wp2_with fail;refine(qW c _ (ae o)).mono ?_;rintro e w2 ⟨rfl,f⟩;have k:=af (ak (ae j) f);clear f;go_wp2;go_ret;exact⟨am (by rw[ae B];rfl),ae k⟩
end Go.Proofs.YtlpmnnjlmjffpaaGreatDoor
