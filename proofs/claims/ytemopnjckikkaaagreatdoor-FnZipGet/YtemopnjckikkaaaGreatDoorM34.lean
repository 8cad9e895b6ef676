/- Texts. -/
import Derived.Test.YtemopnjckikkaaaGreatDoorM31
import Derived.Stop.Asserts
set_option linter.all false
set_option maxHeartbeats 4000000
namespace Go.Proofs.YtemopnjckikkaaaGreatDoor
open Go.Proofs.Tryz
open Go.RowKit Go.Extern.Stop Go.Stop Go.Extern
def Qf(t:Value)(w:World) :
  Calls prog 36 #[.nilIface,t] w fun e w'=>e = .returned (.bool false)/\w'=w:=by
 go_enter func36,ntmps36;go_wp2;go_ret;exact⟨rfl,rfl⟩
def Ka(t:Addr)(w:World):(ReflectliteValue.unpack (.iface 82 (.pointer (some t)))).run prog w
  = .ok (.agg #[.pointer (some ⟨5,82,none⟩),.pointer w.heap.size,.int .u64 150]) (w.alloc (.cells #[.pointer (some t)] 82)):=by kernel_rfl
def J9(c:Int)(w:World):(ReflectliteValue.unpack (.iface 75 (.agg #[c]))).run prog w
  = .ok (.agg #[.pointer (some ⟨5,75,none⟩),.pointer w.heap.size,.int .u64 153]) (w.alloc (.cells #[c] 75)):=by kernel_rfl
def NW(a:Addr)(w:World):(ReflectliteValue.methodAny (ReflectliteValue.valueError "reflectlite.Value.Type" 0) (fun t _ _ _=>ReflectliteType.toType t) #[.agg #[.pointer (some ⟨5,82,none⟩),.pointer (some a),.int .u64 150]]).run prog w
  = .ok (.iface 149 (.agg #[.pointer (some ⟨5,82,none⟩)])) w:=by kernel_rfl
def yg(h:Value)(w:World):(Go.method 463 149 (.agg #[h]) "Kind").run prog w = .ok (267,h) w:=by kernel_rfl
def NV(w:World):((ReflectliteType.abiMethod fun t=>(fun a:Nat=>Value.int IntKind.u8 (a:Int)) <$> Rtype.kind t) #[.pointer (some ⟨5,82,none⟩)]).run prog w = .ok (.int .u8 22) w:=by kernel_rfl
def NU(w:World):((ReflectliteType.abiMethod fun t=>(fun a:Nat=>Value.int IntKind.u8 (a:Int)) <$> Rtype.kind t) #[.pointer (some ⟨5,75,none⟩)]).run prog w = .ok (.int .u8 25) w:=by kernel_rfl
def Q7(z:Sem Value)(f:TypeId->Addr->Nat->Nat->Sem Value)(v:Value) :
  ReflectliteValue.method z f #[v]=(do match ←ReflectliteValue.parts v with|none=>z|some (t,a,fl)=>f t a fl (fl%32)):=rfl
def zB(a:Addr)(w:World):(ReflectliteValue.parts (.agg #[.pointer (some ⟨5,82,none⟩),.pointer (some a),.int .u64 150])).run prog w = .ok (some (82,a,150)) w:=by kernel_rfl
def NT(a p:Addr)(W:World)(ha:W.cell? a=some (.pointer (some p))) :
  (ReflectliteValue.method (ReflectliteValue.valueError "reflectlite.Value.IsNil" 0) ReflectliteValue.isNil #[.agg #[.pointer (some ⟨5,82,none⟩),.pointer (some a),.int .u64 150]]).run prog W = .ok (.bool false) W:=by
 rw[Q7];simp only[a2s,zB,Result.andThen];simp[ReflectliteValue.isNil,loadVar,isAgg,underlying,underlying82,ha,Result.andThen]
def yd(h:Value)(w:World):(Go.method 463 149 (.agg #[h]) "Elem").run prog w = .ok (277,.agg #[h]) w:=by kernel_rfl
def ye(h:Value)(w:World):(Go.method 463 149 (.agg #[h]) "Implements").run prog w = .ok (278,.agg #[h]) w:=by kernel_rfl
def zy(h:Value)(w:World):(Go.method 463 149 (.agg #[h]) "AssignableTo").run prog w = .ok (275,.agg #[h]) w:=by kernel_rfl
def NP(w:World):(ReflectliteType.method ReflectliteType.elem #[.agg #[.pointer (some ⟨5,82,none⟩)]]).run prog w = .ok (.iface 149 (.agg #[.pointer (some ⟨5,75,none⟩)])) w:=by kernel_rfl
def NR(w:World):(ReflectliteType.relation "Implements" ReflectliteType.implements_ #[.agg #[.pointer (some ⟨5,75,none⟩)],.iface 149 (.agg #[.pointer (some ⟨5,36,none⟩)])]).run prog w = .ok (.bool true) w:=by kernel_rfl
def GH(v:Value)(w:World):(ReflectliteType.typeOf #[.iface 75 v]).run prog w = .ok (.iface 149 (.agg #[.pointer (some ⟨5,75,none⟩)])) w:=by kernel_rfl
def Qd(w:World):(ReflectliteType.relation "AssignableTo" ReflectliteType.assignableTo #[.agg #[.pointer (some ⟨5,75,none⟩)],.iface 149 (.agg #[.pointer (some ⟨5,75,none⟩)])]).run prog w = .ok (.bool true) w:=by kernel_rfl
def J6(w:World):(Rtype.elem? 82).run prog w = .ok (some 75) w:=by kernel_rfl
def Q6(p:Addr)(w:World):(ReflectliteValue.mk 75 p ReflectliteValue.flagAddr).run prog w = .ok (.agg #[.pointer (some ⟨5,75,none⟩),.pointer (some p),.int .u64 409]) w:=by kernel_rfl
def NQ(a p:Addr)(W:World)(ha:W.cell? a=some (.pointer (some p))) :
  (ReflectliteValue.method (ReflectliteValue.valueError "reflectlite.Value.Elem" 0) ReflectliteValue.elem #[.agg #[.pointer (some ⟨5,82,none⟩),.pointer (some a),.int .u64 150]]).run prog W
   = .ok (.agg #[.pointer (some ⟨5,75,none⟩),.pointer (some p),.int .u64 409]) W:=by
 rw[Q7];simp only[a2s,zB,Result.andThen];simp[ReflectliteValue.elem,loadVar,isAgg,underlying,underlying82,ha,Result.andThen,J6,Q6]
def GG(a:Addr)(w:World):(ReflectliteValue.parts (.agg #[.pointer (some ⟨5,75,none⟩),.pointer (some a),.int .u64 409])).run prog w = .ok (some (75,a,409)) w:=by kernel_rfl
def J8(a:Addr)(w:World):(ReflectliteValue.parts (.agg #[.pointer (some ⟨5,75,none⟩),.pointer (some a),.int .u64 153])).run prog w = .ok (some (75,a,153)) w:=by kernel_rfl
def J4(w:World):(Rtype.directlyAssignable 75 75).run prog w = .ok true w:=by kernel_rfl
def Q8(tb b:Nat)(c:Int)(old:Value)(W:World)(hb:W.cell? ⟨b,0,none⟩=some (.int .i64 c))(e:W.cell? ⟨tb,0,none⟩=some old)(a:W.frozen? ⟨tb,0,none⟩=false) :
  (ReflectliteValue.set #[.agg #[.pointer (some ⟨5,75,none⟩),.pointer tb,.int .u64 409],.agg #[.pointer (some ⟨5,75,none⟩),.pointer b,.int .u64 153]]).run prog W
   = .ok (.tuple #[]) (W.setCell ⟨tb,0,none⟩ (.int .i64 c)):=by
 show(Bind.bind (ReflectliteValue.parts _) _:Sem Value).run prog W=_;simp only[Array.getLit,List.getElem_toArray,List.getElem_cons_zero,List.getElem_cons_succ,a2s,GG,J8,Result.andThen];have d:(loadCells ⟨b,0,none⟩ 1).run prog W = .ok #[c] W:=by simp[loadCells,loadCellsFrom,go_sem,hb]
 simp[ReflectliteValue.flagAddr,loadVar,isAgg,underlying,underlying75,Result.andThen,J4,storeVar,Value.cells,d];simp[storeCells,Addr.add];rw[run_store prog W ⟨tb,0,none⟩ _ _ (by rfl)];simp[e,a]
def Qe(c:Int)(tb:Nat)(old:Value)(w:World)(hg:w.cell? ⟨0,0,none⟩=some (.iface 149 (.agg #[.pointer (some ⟨5,36,none⟩)])))(ht0:w.cell? ⟨tb,0,none⟩=some old)(hf0:w.frozen? ⟨tb,0,none⟩=false) :
  Calls prog 36 #[.iface 75 (.agg #[c]),.iface 82 (.pointer tb)] w fun ev w'=>ev = .returned (.bool true)/\w'=((((w.alloc (.cells #[.pointer tb] 82)).alloc (.cells #[.pointer (some ⟨5,82,none⟩),.pointer w.heap.size,.int .u64 150] 112)).alloc (.cells #[.pointer (some ⟨5,82,none⟩),.pointer w.heap.size,.int .u64 150] 112)).alloc (.cells #[c] 75)).setCell ⟨tb,0,none⟩ (.int .i64 c):=by
 have h6:=@a1H prog 68 _ (fun args=>ReflectliteValue.unpack (args.getD 0 (.tuple #[]))) func68 (by kernel_rfl) (by kernel_rfl) (by kernel_rfl) (by kernel_rfl);have h7:=@a1H prog 69 _ (ReflectliteValue.methodAny (ReflectliteValue.valueError "reflectlite.Value.Type" 0) (fun t _ _ _=>ReflectliteType.toType t)) func69 (by kernel_rfl) (by kernel_rfl) (by kernel_rfl) (by kernel_rfl);have h8:=@a1H prog 70 _ (ReflectliteValue.method (ReflectliteValue.valueError "reflectlite.Value.IsNil" 0) ReflectliteValue.isNil) func70 (by kernel_rfl) (by kernel_rfl) (by kernel_rfl) (by kernel_rfl);have h27:=@a1H prog 267 _ (ReflectliteType.abiMethod fun t=>do pure (.int .u8 (←Rtype.kind t))) func267 (by kernel_rfl) (by kernel_rfl) (by kernel_rfl) (by kernel_rfl);have h37:=@a1H prog 277 _ (ReflectliteType.method ReflectliteType.elem) func277 (by kernel_rfl) (by kernel_rfl) (by kernel_rfl) (by kernel_rfl);have h38:=@a1H prog 278 _ (ReflectliteType.relation "Implements" ReflectliteType.implements_) func278 (by kernel_rfl) (by kernel_rfl) (by kernel_rfl) (by kernel_rfl);have h10:=@a1H prog 101 _ ReflectliteType.typeOf func101 (by kernel_rfl) (by kernel_rfl) (by kernel_rfl) (by kernel_rfl);have h35:=@a1H prog 275 _ (ReflectliteType.relation "AssignableTo" ReflectliteType.assignableTo) func275 (by kernel_rfl) (by kernel_rfl) (by kernel_rfl) (by kernel_rfl);have h11:=@a1H prog 102 _ (ReflectliteValue.method (ReflectliteValue.valueError "reflectlite.Value.Elem" 0) ReflectliteValue.elem) func102 (by kernel_rfl) (by kernel_rfl) (by kernel_rfl) (by kernel_rfl);have h12:=@a1H prog 103 _ ReflectliteValue.set func103 (by kernel_rfl) (by kernel_rfl) (by kernel_rfl) (by kernel_rfl);have tO:=GH;have mA:=zy;have a25:=Qd;have v25:=J9;have f6:=Ka;have f7:=NW;have mK:=yg;have mE:=yd;have mI:=ye;have k27:=NV;have k25:=NU;have e27:=NP;have i25:=NR;generalize htd:(⟨tb,0,none⟩:Addr)=t at *
 have n8:=NT ⟨w.heap.size,0,none⟩ t ((w.alloc (.cells #[.pointer (some t)] 82)).alloc (.cells #[.pointer (some ⟨5,82,none⟩),.pointer w.heap.size,.int .u64 150] 112)) (by simp);have hlt:0<w.heap.size:=by
  rcases a12 w.heap.size with h0|h
  . simp[World.cell?,h0]at hg
  . exact h
 have hg2:((w.alloc (.cells #[.pointer (some t)] 82)).alloc (.cells #[.pointer (some ⟨5,82,none⟩),.pointer w.heap.size,.int .u64 150] 112)).cell? ⟨0,0,none⟩=some (.iface 149 (.agg #[.pointer (some ⟨5,36,none⟩)])):=by
  rw[World.cell?_alloc_lt _ _ ⟨0,0,none⟩ (by simp),World.cell?_alloc_lt _ _ ⟨0,0,none⟩ hlt];exact hg
 have htl:t.block<w.heap.size:=by
  rcases a1i t.block w.heap.size with h|h
  . exact h
  . simp[World.cell?,Array.getElem?_eq_none h]at ht0
 have el:=NQ ⟨w.heap.size,0,none⟩ t (((w.alloc (.cells #[.pointer (some t)] 82)).alloc (.cells #[.pointer (some ⟨5,82,none⟩),.pointer w.heap.size,.int .u64 150] 112)).alloc (.cells #[.pointer (some ⟨5,82,none⟩),.pointer w.heap.size,.int .u64 150] 112)) (by rw[World.cell?_alloc_lt _ _ ⟨w.heap.size,0,none⟩ (by simp;omega)];simp);have st:=Q8 tb (w.heap.size+1+1+1) c old ((((w.alloc (.cells #[.pointer (some t)] 82)).alloc (.cells #[.pointer (some ⟨5,82,none⟩),.pointer w.heap.size,.int .u64 150] 112)).alloc (.cells #[.pointer (some ⟨5,82,none⟩),.pointer w.heap.size,.int .u64 150] 112)).alloc (.cells #[c] 75))
  (by rw[World.cell?_alloc_at _ _ _ _ (by simp)];rfl)
  (by rw[htd,World.cell?_alloc_lt _ _ t (by simp;omega),World.cell?_alloc_lt _ _ t (by simp;omega),World.cell?_alloc_lt _ _ t (by simp;omega),World.cell?_alloc_lt _ _ t htl];exact ht0)
  (by rw[htd,World.frozen?_alloc_old _ _ t (by simp;omega),World.frozen?_alloc_old _ _ t (by simp;omega),World.frozen?_alloc_old _ _ t (by simp;omega),World.frozen?_alloc_old _ _ t (a1v htl)];exact hf0)
 rw[htd]at st;go_enter func36,ntmps36;go_wp2;refine wp_loop_rounds 1 ?_;rw[rounds_succ];go_wp2;go_ret;exact⟨rfl,rfl⟩
end Go.Proofs.YtemopnjckikkaaaGreatDoor
namespace Go.Proofs.YtemopnjckikkaaaGreatDoor
open Go.Proofs.Tryz
open Go.RowKit
def tu(w:World):Prop:=w.cell? ⟨0,0,none⟩=some (.iface 149 (.agg #[.pointer (some ⟨5,36,none⟩)]))
def sM(c:Int)(w:World)(f:tu w) :
  CD 14 #[gq c] w (.int .i64 c):=by
 by_cases h:c=0
 . subst h;have d:gq 0 = .nilIface:=rfl;rw[d];go_enter func14,ntmps14;go_wp2_with fail;refine(Qf _ _).mono ?_;rintro e w1⟨rfl,a⟩;rw[a];clear a;go_wp2;go_ret;exact⟨rfl,bx⟩
 .
  have d:gq c = .iface 75 (.agg #[c]):=by unfold gq;rw[a0d h]
  rw[d];have g:0<w.heap.size:=World.block_lt_of_cell? _ _ f;have b:(w.alloc (.cells #[.int .i64 0] 75)).cell? ⟨0,0,none⟩=some (.iface 149 (.agg #[.pointer (some ⟨5,36,none⟩)])):=by
   rw[World.cell?_alloc_past _ _ _ g];exact f
  have i:=af (Qe c w.heap.size (.int .i64 0) (w.alloc (.cells #[.int .i64 0] 75)) b (by simp) (by simp));clear d b f h;go_enter func14,ntmps14;go_wp2_with fail;refine i.mono ?_;rintro e w1⟨rfl,a⟩;have k:w1.cell? ⟨w.heap.size,0,none⟩=some (.int .i64 c):=by
   rw[a];refine World.cell?_setCell_same _ _ _ (u:=.int .i64 0) ?_;rw[World.cell?_alloc_past _ _ _ (by first|(simp;done)|(simp;omega)),World.cell?_alloc_past _ _ _ (by first|(simp;done)|(simp;omega)),World.cell?_alloc_past _ _ _ (by first|(simp;done)|(simp;omega)),World.cell?_alloc_past _ _ _ (by first|(simp;done)|(simp;omega))];simp
  have j:Hid (Below w.heap.size w w1):=by
   rw[a];refine ai ?_ (a0a _) _;exact(((bx.alloc (by simp) _).alloc (by simp;omega) _).alloc (by simp;omega) _).alloc (by simp;omega) _
  clear a i;go_wp2;go_ret;exact⟨rfl,j⟩
def oh(a:Option Addr)(cap:Nat)(l:List En)(n:Nat)(r:l.length=n)(m:Int)(w:World)(h:kR w a l)(C:(n:Int)<=1048576)(g:(n:Int)<=(cap:Int))
  (z:∀i,i<n->(l.getD i default).n.size<=1048576/\((l.getD i default).t.size:Int)<=9223372036854775807) (y:w.cell? ⟨2,0,none⟩=some (.int .i64 m)) (x:tu w) :
  CD 9 #[.slice a n cap] w (.bool (dO l)):=by
 have u:=af (zx a cap l n r m w h C g z y);have s:=af x;have v:Hid (∀c:Int,(c=0<->∀i,i<n->jk l i=0)->dO l=decide (c=0)):=by
  intro c b;rw[←r]at b;rw[←rK]at b;cases A:dO l
  . rw[A]at b;simp at b;simp[b]
  . rw[A]at b;simp at b;simp[b]
 clear h z y x r;go_enter func9,ntmps9;go_wp2_with fail;refine u.mono ?_;rintro e w1⟨⟨c,rfl,b,q⟩,d⟩;have B:=af (ae v c b);have j:=af d;have o:Hid (tu w1):=(d.cell (p:=⟨0,0,none⟩) (World.block_lt_of_cell? _ _ s)).trans s;clear b q d u v;go_wp2_with fail;refine(sM c _ o).mono ?_;rintro e w2⟨rfl,f⟩;have k:=af (aj j f);clear f;go_wp2;go_ret;exact⟨am (by rw[ae B];rfl),k⟩
