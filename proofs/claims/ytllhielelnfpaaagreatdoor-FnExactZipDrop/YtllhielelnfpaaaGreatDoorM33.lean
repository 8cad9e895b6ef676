/- Of what the proof is made: 5 texts, one behind the other. -/
import Derived.Test.YtllhielelnfpaaaGreatDoorM30
import Derived.Stop.Asserts
set_option linter.unusedSimpArgs false
set_option linter.unusedVariables false
set_option maxHeartbeats 4000000
namespace Go.Proofs.YtllhielelnfpaaaGreatDoor
open Go.Proofs.Tryz
open Go.RowKit Go.Extern.Stop Go.Stop Go.Extern
theorem Nf(t:Value)(w:World) :
  Calls prog 68 #[.nilIface,t] w fun e w'=>e = .returned (.bool false)/\w'=w:=by
 go_enter func68,ntmps68;go_wp2;go_ret;exact⟨rfl,rfl⟩
theorem Im(t:Addr)(w:World):(ReflectliteValue.unpack (.iface 94 (.pointer (some t)))).run prog w
  = .ok (.agg #[.pointer (some ⟨5,94,none⟩),.pointer (some ⟨w.heap.size,0,none⟩),.int .u64 150]) (w.alloc (.cells #[.pointer (some t)] 94)):=by kernel_rfl
theorem Il(c:Int)(w:World):(ReflectliteValue.unpack (.iface 81 (.agg #[.int .i64 c]))).run prog w
  = .ok (.agg #[.pointer (some ⟨5,81,none⟩),.pointer (some ⟨w.heap.size,0,none⟩),.int .u64 153]) (w.alloc (.cells #[.int .i64 c] 81)):=by kernel_rfl
theorem Lr(a:Addr)(w:World):(ReflectliteValue.methodAny (ReflectliteValue.valueError "reflectlite.Value.Type" 0) (fun t _ _ _=>ReflectliteType.toType t) #[.agg #[.pointer (some ⟨5,94,none⟩),.pointer (some a),.int .u64 150]]).run prog w
  = .ok (.iface 153 (.agg #[.pointer (some ⟨5,94,none⟩)])) w:=by kernel_rfl
theorem wD(h:Value)(w:World):(Go.method 475 153 (.agg #[h]) "Kind").run prog w = .ok (285,h) w:=by kernel_rfl
theorem Lq(w:World):((ReflectliteType.abiMethod fun t=>(fun a:Nat=>Value.int IntKind.u8 (a:Int)) <$> Rtype.kind t) #[.pointer (some ⟨5,94,none⟩)]).run prog w = .ok (.int .u8 22) w:=by kernel_rfl
theorem Lp(w:World):((ReflectliteType.abiMethod fun t=>(fun a:Nat=>Value.int IntKind.u8 (a:Int)) <$> Rtype.kind t) #[.pointer (some ⟨5,81,none⟩)]).run prog w = .ok (.int .u8 25) w:=by kernel_rfl
theorem NW(z:Sem Value)(f:TypeId->Addr->Nat->Nat->Sem Value)(v:Value) :
  ReflectliteValue.method z f #[v]=(do match <-ReflectliteValue.parts v with|none=>z|some (t,a,fl)=>f t a fl (fl%32)):=rfl
theorem ym(a:Addr)(w:World):(ReflectliteValue.parts (.agg #[.pointer (some ⟨5,94,none⟩),.pointer (some a),.int .u64 150])).run prog w = .ok (some (94,a,150)) w:=by kernel_rfl
theorem Lo(a p:Addr)(W:World)(ha:W.cell? a=some (.pointer (some p))) :
  (ReflectliteValue.method (ReflectliteValue.valueError "reflectlite.Value.IsNil" 0) ReflectliteValue.isNil #[.agg #[.pointer (some ⟨5,94,none⟩),.pointer (some a),.int .u64 150]]).run prog W = .ok (.bool false) W:=by
 rw[NW];simp only[a2C,ym,Result.andThen];simp[ReflectliteValue.isNil,loadVar,isAgg,underlying,underlying94,ha,Result.andThen]
theorem wB(h:Value)(w:World):(Go.method 475 153 (.agg #[h]) "Elem").run prog w = .ok (295,.agg #[h]) w:=by kernel_rfl
theorem wC(h:Value)(w:World):(Go.method 475 153 (.agg #[h]) "Implements").run prog w = .ok (296,.agg #[h]) w:=by kernel_rfl
theorem yl(h:Value)(w:World):(Go.method 475 153 (.agg #[h]) "AssignableTo").run prog w = .ok (293,.agg #[h]) w:=by kernel_rfl
theorem Ll(w:World):(ReflectliteType.method ReflectliteType.elem #[.agg #[.pointer (some ⟨5,94,none⟩)]]).run prog w = .ok (.iface 153 (.agg #[.pointer (some ⟨5,81,none⟩)])) w:=by kernel_rfl
theorem Ln(w:World):(ReflectliteType.relation "Implements" ReflectliteType.implements_ #[.agg #[.pointer (some ⟨5,81,none⟩)],.iface 153 (.agg #[.pointer (some ⟨5,71,none⟩)])]).run prog w = .ok (.bool true) w:=by kernel_rfl
theorem E6(v:Value)(w:World):(ReflectliteType.typeOf #[.iface 81 v]).run prog w = .ok (.iface 153 (.agg #[.pointer (some ⟨5,81,none⟩)])) w:=by kernel_rfl
theorem Nb(w:World):(ReflectliteType.relation "AssignableTo" ReflectliteType.assignableTo #[.agg #[.pointer (some ⟨5,81,none⟩)],.iface 153 (.agg #[.pointer (some ⟨5,81,none⟩)])]).run prog w = .ok (.bool true) w:=by kernel_rfl
theorem Ij(w:World):(Rtype.elem? 94).run prog w = .ok (some 81) w:=by kernel_rfl
theorem NV(p:Addr)(w:World):(ReflectliteValue.mk 81 p ReflectliteValue.flagAddr).run prog w = .ok (.agg #[.pointer (some ⟨5,81,none⟩),.pointer (some p),.int .u64 409]) w:=by kernel_rfl
theorem Lm(a p:Addr)(W:World)(ha:W.cell? a=some (.pointer (some p))) :
  (ReflectliteValue.method (ReflectliteValue.valueError "reflectlite.Value.Elem" 0) ReflectliteValue.elem #[.agg #[.pointer (some ⟨5,94,none⟩),.pointer (some a),.int .u64 150]]).run prog W
   = .ok (.agg #[.pointer (some ⟨5,81,none⟩),.pointer (some p),.int .u64 409]) W:=by
 rw[NW];simp only[a2C,ym,Result.andThen];simp[ReflectliteValue.elem,loadVar,isAgg,underlying,underlying94,ha,Result.andThen,Ij,NV]
theorem E5(a:Addr)(w:World):(ReflectliteValue.parts (.agg #[.pointer (some ⟨5,81,none⟩),.pointer (some a),.int .u64 409])).run prog w = .ok (some (81,a,409)) w:=by kernel_rfl
theorem Ik(a:Addr)(w:World):(ReflectliteValue.parts (.agg #[.pointer (some ⟨5,81,none⟩),.pointer (some a),.int .u64 153])).run prog w = .ok (some (81,a,153)) w:=by kernel_rfl
theorem Ii(w:World):(Rtype.directlyAssignable 81 81).run prog w = .ok true w:=by kernel_rfl
theorem NX(tb b:Nat)(c:Int)(old:Value)(W:World)(hb:W.cell? ⟨b,0,none⟩=some (.int .i64 c))(e:W.cell? ⟨tb,0,none⟩=some old)(a:W.frozen? ⟨tb,0,none⟩=false) :
  (ReflectliteValue.set #[.agg #[.pointer (some ⟨5,81,none⟩),.pointer (some ⟨tb,0,none⟩),.int .u64 409],.agg #[.pointer (some ⟨5,81,none⟩),.pointer (some ⟨b,0,none⟩),.int .u64 153]]).run prog W
   = .ok (.tuple #[]) (W.setCell ⟨tb,0,none⟩ (.int .i64 c)):=by
 show(Bind.bind (ReflectliteValue.parts _) _:Sem Value).run prog W=_;simp only[Array.getLit,List.getElem_toArray,List.getElem_cons_zero,List.getElem_cons_succ,a2C,E5,Ik,Result.andThen];have d:(loadCells ⟨b,0,none⟩ 1).run prog W = .ok #[.int .i64 c] W:=by simp[loadCells,loadCellsFrom,go_sem,hb]
 simp[ReflectliteValue.flagAddr,loadVar,isAgg,underlying,underlying81,Result.andThen,Ii,storeVar,Value.cells,d];simp[storeCells,Addr.add];rw[run_store prog W ⟨tb,0,none⟩ _ _ (by rfl)];simp[e,a]
theorem Nc(c:Int)(tb:Nat)(old:Value)(w:World)(hg:w.cell? ⟨0,0,none⟩=some (.iface 153 (.agg #[.pointer (some ⟨5,71,none⟩)])))(ht0:w.cell? ⟨tb,0,none⟩=some old)(hf0:w.frozen? ⟨tb,0,none⟩=false) :
  Calls prog 68 #[.iface 81 (.agg #[.int .i64 c]),.iface 94 (.pointer (some ⟨tb,0,none⟩))] w fun ev w'=>ev = .returned (.bool true)/\w'=((((w.alloc (.cells #[.pointer (some ⟨tb,0,none⟩)] 94)).alloc (.cells #[.pointer (some ⟨5,94,none⟩),.pointer (some ⟨w.heap.size,0,none⟩),.int .u64 150] 126)).alloc (.cells #[.pointer (some ⟨5,94,none⟩),.pointer (some ⟨w.heap.size,0,none⟩),.int .u64 150] 126)).alloc (.cells #[.int .i64 c] 81)).setCell ⟨tb,0,none⟩ (.int .i64 c):=by
 have h6:=@a1T prog 93 _ (fun args=>ReflectliteValue.unpack (args.getD 0 (.tuple #[]))) func93 (by kernel_rfl) (by kernel_rfl) (by kernel_rfl) (by kernel_rfl);have h7:=@a1T prog 94 _ (ReflectliteValue.methodAny (ReflectliteValue.valueError "reflectlite.Value.Type" 0) (fun t _ _ _=>ReflectliteType.toType t)) func94 (by kernel_rfl) (by kernel_rfl) (by kernel_rfl) (by kernel_rfl);have h8:=@a1T prog 95 _ (ReflectliteValue.method (ReflectliteValue.valueError "reflectlite.Value.IsNil" 0) ReflectliteValue.isNil) func95 (by kernel_rfl) (by kernel_rfl) (by kernel_rfl) (by kernel_rfl);have h27:=@a1T prog 285 _ (ReflectliteType.abiMethod fun t=>do pure (.int .u8 (<-Rtype.kind t))) func285 (by kernel_rfl) (by kernel_rfl) (by kernel_rfl) (by kernel_rfl);have h37:=@a1T prog 295 _ (ReflectliteType.method ReflectliteType.elem) func295 (by kernel_rfl) (by kernel_rfl) (by kernel_rfl) (by kernel_rfl);have h38:=@a1T prog 296 _ (ReflectliteType.relation "Implements" ReflectliteType.implements_) func296 (by kernel_rfl) (by kernel_rfl) (by kernel_rfl) (by kernel_rfl);have h10:=@a1T prog 120 _ ReflectliteType.typeOf func120 (by kernel_rfl) (by kernel_rfl) (by kernel_rfl) (by kernel_rfl);have h35:=@a1T prog 293 _ (ReflectliteType.relation "AssignableTo" ReflectliteType.assignableTo) func293 (by kernel_rfl) (by kernel_rfl) (by kernel_rfl) (by kernel_rfl);have h11:=@a1T prog 121 _ (ReflectliteValue.method (ReflectliteValue.valueError "reflectlite.Value.Elem" 0) ReflectliteValue.elem) func121 (by kernel_rfl) (by kernel_rfl) (by kernel_rfl) (by kernel_rfl);have h12:=@a1T prog 122 _ ReflectliteValue.set func122 (by kernel_rfl) (by kernel_rfl) (by kernel_rfl) (by kernel_rfl);have tO:=E6;have mA:=yl;have a25:=Nb;have v25:=Il;have f6:=Im;have f7:=Lr;have mK:=wD;have mE:=wB;have mI:=wC;have k27:=Lq;have k25:=Lp;have e27:=Ll;have i25:=Ln;generalize htd:(⟨tb,0,none⟩:Addr)=t at *
 have n8:=Lo ⟨w.heap.size,0,none⟩ t ((w.alloc (.cells #[.pointer (some t)] 94)).alloc (.cells #[.pointer (some ⟨5,94,none⟩),.pointer (some ⟨w.heap.size,0,none⟩),.int .u64 150] 126)) (by simp);have hlt:0<w.heap.size:=by
  rcases a2m w.heap.size with h0|h
  . simp[World.cell?,h0]at hg
  . exact h
 have hg2:((w.alloc (.cells #[.pointer (some t)] 94)).alloc (.cells #[.pointer (some ⟨5,94,none⟩),.pointer (some ⟨w.heap.size,0,none⟩),.int .u64 150] 126)).cell? ⟨0,0,none⟩=some (.iface 153 (.agg #[.pointer (some ⟨5,71,none⟩)])):=by
  rw[World.cell?_alloc_lt _ _ ⟨0,0,none⟩ (by simp),World.cell?_alloc_lt _ _ ⟨0,0,none⟩ hlt];exact hg
 have htl:t.block<w.heap.size:=by
  rcases a1k t.block w.heap.size with h|h
  . exact h
  . simp[World.cell?,Array.getElem?_eq_none h]at ht0
 have el:=Lm ⟨w.heap.size,0,none⟩ t (((w.alloc (.cells #[.pointer (some t)] 94)).alloc (.cells #[.pointer (some ⟨5,94,none⟩),.pointer (some ⟨w.heap.size,0,none⟩),.int .u64 150] 126)).alloc (.cells #[.pointer (some ⟨5,94,none⟩),.pointer (some ⟨w.heap.size,0,none⟩),.int .u64 150] 126)) (by rw[World.cell?_alloc_lt _ _ ⟨w.heap.size,0,none⟩ (by simp;omega)];simp);have st:=NX tb (w.heap.size+1+1+1) c old ((((w.alloc (.cells #[.pointer (some t)] 94)).alloc (.cells #[.pointer (some ⟨5,94,none⟩),.pointer (some ⟨w.heap.size,0,none⟩),.int .u64 150] 126)).alloc (.cells #[.pointer (some ⟨5,94,none⟩),.pointer (some ⟨w.heap.size,0,none⟩),.int .u64 150] 126)).alloc (.cells #[.int .i64 c] 81))
  (by rw[World.cell?_alloc_at _ _ _ _ (by simp)];rfl)
  (by rw[htd,World.cell?_alloc_lt _ _ t (by simp;omega),World.cell?_alloc_lt _ _ t (by simp;omega),World.cell?_alloc_lt _ _ t (by simp;omega),World.cell?_alloc_lt _ _ t htl];exact ht0)
  (by rw[htd,World.frozen?_alloc_old _ _ t (by simp;omega),World.frozen?_alloc_old _ _ t (by simp;omega),World.frozen?_alloc_old _ _ t (by simp;omega),World.frozen?_alloc_old _ _ t (a1G htl)];exact hf0)
 rw[htd]at st;go_enter func68,ntmps68;go_wp2;refine wp_loop_rounds 1 ?_;rw[rounds_succ];go_wp2;go_ret;exact⟨rfl,rfl⟩
end Go.Proofs.YtllhielelnfpaaaGreatDoor
namespace Go.Proofs.YtllhielelnfpaaaGreatDoor
open Go.Proofs.Tryz
open Go.RowKit
def pE(w:World):Prop:=w.cell? ⟨0,0,none⟩=some (.iface 153 (.agg #[.pointer (some ⟨5,71,none⟩)]))
theorem my(c:Int)(w:World)(f:pE w) :
  Ds 45 #[eq c] w (.int .i64 c):=by
 by_cases h:c=0
 . subst h;have d:eq 0 = .nilIface:=rfl;rw[d];go_enter func45,ntmps45;go_wp2_with fail;refine(Nf _ _).mono ?_;rintro e w1 ⟨rfl,a⟩;rw[a];clear a;go_wp2;go_ret;exact⟨rfl,(a0c _ _).alloc (a0a _) _⟩
 .
  have d:eq c = .iface 81 (.agg #[.int .i64 c]):=by unfold eq;rw[a0d h]
  rw[d];have g:0<w.heap.size:=World.block_lt_of_cell? _ _ f;have b:(w.alloc (.cells #[.int .i64 0] 81)).cell? ⟨0,0,none⟩=some (.iface 153 (.agg #[.pointer (some ⟨5,71,none⟩)])):=by
   rw[World.cell?_alloc_past _ _ _ g];exact f
  have i:=ae (Nc c w.heap.size (.int .i64 0) (w.alloc (.cells #[.int .i64 0] 81)) b (by simp) (by simp));clear d b f h;go_enter func45,ntmps45;go_wp2_with fail;refine(ab i).mono ?_;rintro e w1 ⟨rfl,a⟩;have k:w1.cell? ⟨w.heap.size,0,none⟩=some (.int .i64 c):=by
   rw[a];refine World.cell?_setCell_same _ _ _ (u:=.int .i64 0) ?_;rw[World.cell?_alloc_past _ _ _ (by first|(simp;done)|(simp;omega)),World.cell?_alloc_past _ _ _ (by first|(simp;done)|(simp;omega)),World.cell?_alloc_past _ _ _ (by first|(simp;done)|(simp;omega)),World.cell?_alloc_past _ _ _ (by first|(simp;done)|(simp;omega))];simp
  have j:Hid (Below w.heap.size w w1):=by
   rw[a];refine ah ?_ (a0a _) _;exact(((((a0c _ _).alloc (a0a _) _).alloc (by simp) _).alloc (by simp;omega) _).alloc (by simp;omega) _).alloc (by simp;omega) _
  clear a i;go_wp2;go_ret;exact⟨rfl,ab j⟩
theorem uS(a:Option Addr)(cap:Nat)(l:List En)(n:Nat)(r:l.length=n)(m:Int)(w:World)(h:kI w a l)(C:(n:Int)<=1048576)(g:(n:Int)<=cap)
  (z:∀i,i<n->(l.getD i default).n.size<=1048576/\((l.getD i default).t.size:Int)<=9223372036854775807) (y:w.cell? ⟨2,0,none⟩=some (.int .i64 m)) (x:pE w) :
  Ds 70 #[.slice a n cap] w (.bool (dm l)):=by
 have u:=ae (yi a cap l n r m w h C g z y);have s:=ae x;have v:Hid (∀c:Int,(c=0<->∀i,i<n->iL l i=0)->dm l=decide (c=0)):=by
  intro c b;rw[<-r]at b;rw[<-nh]at b;cases A:dm l
  . rw[A]at b;simp at b;simp[b]
  . rw[A]at b;simp at b;simp[b]
 clear h z y x r;go_enter func70,ntmps70;go_wp2_with fail;refine(ab u).mono ?_;rintro e w1 ⟨⟨c,rfl,b,q⟩,d⟩;have B:=ae (ab v c b);have j:=ae d;have o:Hid (pE w1):=(d.cell (p:=⟨0,0,none⟩) (World.block_lt_of_cell? _ _ (ab s))).trans (ab s);clear b q d u v;go_wp2_with fail;refine(my c _ (ab o)).mono ?_;rintro e w2 ⟨rfl,f⟩;have k:=ae (aj (ab j) f);clear f;go_wp2;go_ret;exact⟨ak (by rw[ab B];rfl),ab k⟩
end Go.Proofs.YtllhielelnfpaaaGreatDoor
