/- Texts. -/
import Derived.Test.YtfannoajibacnaaGreatDoorM31
import Derived.Stop.Asserts
set_option linter.all false
set_option maxHeartbeats 4000000
namespace Go.Proofs.YtfannoajibacnaaGreatDoor
open Go.Proofs.Tryz
open Go.RowKit Go.Extern.Stop Go.Stop Go.Extern
def TH(t:Value)(w:World) :
  Calls prog 69 #[.nilIface,t] w fun e w'=>e = .returned (.bool false)/\w'=w:=by
 go_enter func69,ntmps69;go_wp2;go_ret;exact⟨rfl,rfl⟩
def M4(t:Addr)(w:World):(ReflectliteValue.unpack (.iface 109 (.pointer (some t)))).run prog w
  = .ok (.agg #[.pointer (some ⟨5,109,none⟩),.pointer w.heap.size,.int .u64 150]) (w.alloc (.cells #[.pointer (some t)] 109)):=by kernel_rfl
def M0(c:Int)(w:World):(ReflectliteValue.unpack (.iface 83 (.agg #[c]))).run prog w
  = .ok (.agg #[.pointer (some ⟨5,83,none⟩),.pointer w.heap.size,.int .u64 153]) (w.alloc (.cells #[c] 83)):=by kernel_rfl
def Rb(a:Addr)(w:World):(ReflectliteValue.methodAny (ReflectliteValue.valueError "reflectlite.Value.Type" 0) (fun t _ _ _=>ReflectliteType.toType t) #[.agg #[.pointer (some ⟨5,109,none⟩),.pointer (some a),.int .u64 150]]).run prog w
  = .ok (.iface 178 (.agg #[.pointer (some ⟨5,109,none⟩)])) w:=by kernel_rfl
def Ao(h:Value)(w:World):(Go.method 487 178 (.agg #[h]) "Kind").run prog w = .ok (302,h) w:=by kernel_rfl
def Ra(w:World):((ReflectliteType.abiMethod fun t=>(fun a:Nat=>Value.int IntKind.u8 (a:Int)) <$> Rtype.kind t) #[.pointer (some ⟨5,109,none⟩)]).run prog w = .ok (.int .u8 22) w:=by kernel_rfl
def Q9(w:World):((ReflectliteType.abiMethod fun t=>(fun a:Nat=>Value.int IntKind.u8 (a:Int)) <$> Rtype.kind t) #[.pointer (some ⟨5,83,none⟩)]).run prog w = .ok (.int .u8 25) w:=by kernel_rfl
def UG(z:Sem Value)(f:TypeId->Addr->Nat->Nat->Sem Value)(v:Value) :
  ReflectliteValue.method z f #[v]=(do match ←ReflectliteValue.parts v with|none=>z|some (t,a,fl)=>f t a fl (fl%32)):=rfl
def Cl(a:Addr)(w:World):(ReflectliteValue.parts (.agg #[.pointer (some ⟨5,109,none⟩),.pointer (some a),.int .u64 150])).run prog w = .ok (some (109,a,150)) w:=by kernel_rfl
def Q3(a p:Addr)(W:World)(ha:W.cell? a=some (.pointer (some p))) :
  (ReflectliteValue.method (ReflectliteValue.valueError "reflectlite.Value.IsNil" 0) ReflectliteValue.isNil #[.agg #[.pointer (some ⟨5,109,none⟩),.pointer (some a),.int .u64 150]]).run prog W = .ok (.bool false) W:=by
 rw[UG];simp only[a2N,Cl,Result.andThen];simp[ReflectliteValue.isNil,loadVar,isAgg,underlying,underlying109,ha,Result.andThen]
def Al(h:Value)(w:World):(Go.method 487 178 (.agg #[h]) "Elem").run prog w = .ok (312,.agg #[h]) w:=by kernel_rfl
def Am(h:Value)(w:World):(Go.method 487 178 (.agg #[h]) "Implements").run prog w = .ok (313,.agg #[h]) w:=by kernel_rfl
def Ck(h:Value)(w:World):(Go.method 487 178 (.agg #[h]) "AssignableTo").run prog w = .ok (310,.agg #[h]) w:=by kernel_rfl
def QZ(w:World):(ReflectliteType.method ReflectliteType.elem #[.agg #[.pointer (some ⟨5,109,none⟩)]]).run prog w = .ok (.iface 178 (.agg #[.pointer (some ⟨5,83,none⟩)])) w:=by kernel_rfl
def Q2(w:World):(ReflectliteType.relation "Implements" ReflectliteType.implements_ #[.agg #[.pointer (some ⟨5,83,none⟩)],.iface 178 (.agg #[.pointer (some ⟨5,53,none⟩)])]).run prog w = .ok (.bool true) w:=by kernel_rfl
def JY(v:Value)(w:World):(ReflectliteType.typeOf #[.iface 83 v]).run prog w = .ok (.iface 178 (.agg #[.pointer (some ⟨5,83,none⟩)])) w:=by kernel_rfl
def TF(w:World):(ReflectliteType.relation "AssignableTo" ReflectliteType.assignableTo #[.agg #[.pointer (some ⟨5,83,none⟩)],.iface 178 (.agg #[.pointer (some ⟨5,83,none⟩)])]).run prog w = .ok (.bool true) w:=by kernel_rfl
def MY(w:World):(Rtype.elem? 109).run prog w = .ok (some 83) w:=by kernel_rfl
def UF(p:Addr)(w:World):(ReflectliteValue.mk 83 p ReflectliteValue.flagAddr).run prog w = .ok (.agg #[.pointer (some ⟨5,83,none⟩),.pointer (some p),.int .u64 409]) w:=by kernel_rfl
def Q0(a p:Addr)(W:World)(ha:W.cell? a=some (.pointer (some p))) :
  (ReflectliteValue.method (ReflectliteValue.valueError "reflectlite.Value.Elem" 0) ReflectliteValue.elem #[.agg #[.pointer (some ⟨5,109,none⟩),.pointer (some a),.int .u64 150]]).run prog W
   = .ok (.agg #[.pointer (some ⟨5,83,none⟩),.pointer (some p),.int .u64 409]) W:=by
 rw[UG];simp only[a2N,Cl,Result.andThen];simp[ReflectliteValue.elem,loadVar,isAgg,underlying,underlying109,ha,Result.andThen,MY,UF]
def JX(a:Addr)(w:World):(ReflectliteValue.parts (.agg #[.pointer (some ⟨5,83,none⟩),.pointer (some a),.int .u64 409])).run prog w = .ok (some (83,a,409)) w:=by kernel_rfl
def MZ(a:Addr)(w:World):(ReflectliteValue.parts (.agg #[.pointer (some ⟨5,83,none⟩),.pointer (some a),.int .u64 153])).run prog w = .ok (some (83,a,153)) w:=by kernel_rfl
def MX(w:World):(Rtype.directlyAssignable 83 83).run prog w = .ok true w:=by kernel_rfl
def UH(tb b:Nat)(c:Int)(old:Value)(W:World)(hb:W.cell? ⟨b,0,none⟩=some (.int .i64 c))(e:W.cell? ⟨tb,0,none⟩=some old)(a:W.frozen? ⟨tb,0,none⟩=false) :
  (ReflectliteValue.set #[.agg #[.pointer (some ⟨5,83,none⟩),.pointer tb,.int .u64 409],.agg #[.pointer (some ⟨5,83,none⟩),.pointer b,.int .u64 153]]).run prog W
   = .ok (.tuple #[]) (W.setCell ⟨tb,0,none⟩ (.int .i64 c)):=by
 show(Bind.bind (ReflectliteValue.parts _) _:Sem Value).run prog W=_;simp only[Array.getLit,List.getElem_toArray,List.getElem_cons_zero,List.getElem_cons_succ,a2N,JX,MZ,Result.andThen];have d:(loadCells ⟨b,0,none⟩ 1).run prog W = .ok #[c] W:=by simp[loadCells,loadCellsFrom,go_sem,hb]
 simp[ReflectliteValue.flagAddr,loadVar,isAgg,underlying,underlying83,Result.andThen,MX,storeVar,Value.cells,d];simp[storeCells,Addr.add];rw[run_store prog W ⟨tb,0,none⟩ _ _ (by rfl)];simp[e,a]
def TG(c:Int)(tb:Nat)(old:Value)(w:World)(hg:w.cell? ⟨0,0,none⟩=some (.iface 178 (.agg #[.pointer (some ⟨5,53,none⟩)])))(ht0:w.cell? ⟨tb,0,none⟩=some old)(hf0:w.frozen? ⟨tb,0,none⟩=false) :
  Calls prog 69 #[.iface 83 (.agg #[c]),.iface 109 (.pointer tb)] w fun ev w'=>ev = .returned (.bool true)/\w'=((((w.alloc (.cells #[.pointer tb] 109)).alloc (.cells #[.pointer (some ⟨5,109,none⟩),.pointer w.heap.size,.int .u64 150] 143)).alloc (.cells #[.pointer (some ⟨5,109,none⟩),.pointer w.heap.size,.int .u64 150] 143)).alloc (.cells #[c] 83)).setCell ⟨tb,0,none⟩ (.int .i64 c):=by
 have h6:=@a1X prog 112 _ (fun args=>ReflectliteValue.unpack (args.getD 0 (.tuple #[]))) func112 (by kernel_rfl) (by kernel_rfl) (by kernel_rfl) (by kernel_rfl);have h7:=@a1X prog 113 _ (ReflectliteValue.methodAny (ReflectliteValue.valueError "reflectlite.Value.Type" 0) (fun t _ _ _=>ReflectliteType.toType t)) func113 (by kernel_rfl) (by kernel_rfl) (by kernel_rfl) (by kernel_rfl);have h8:=@a1X prog 114 _ (ReflectliteValue.method (ReflectliteValue.valueError "reflectlite.Value.IsNil" 0) ReflectliteValue.isNil) func114 (by kernel_rfl) (by kernel_rfl) (by kernel_rfl) (by kernel_rfl);have h27:=@a1X prog 302 _ (ReflectliteType.abiMethod fun t=>do pure (.int .u8 (←Rtype.kind t))) func302 (by kernel_rfl) (by kernel_rfl) (by kernel_rfl) (by kernel_rfl);have h37:=@a1X prog 312 _ (ReflectliteType.method ReflectliteType.elem) func312 (by kernel_rfl) (by kernel_rfl) (by kernel_rfl) (by kernel_rfl);have h38:=@a1X prog 313 _ (ReflectliteType.relation "Implements" ReflectliteType.implements_) func313 (by kernel_rfl) (by kernel_rfl) (by kernel_rfl) (by kernel_rfl);have h10:=@a1X prog 144 _ ReflectliteType.typeOf func144 (by kernel_rfl) (by kernel_rfl) (by kernel_rfl) (by kernel_rfl);have h35:=@a1X prog 310 _ (ReflectliteType.relation "AssignableTo" ReflectliteType.assignableTo) func310 (by kernel_rfl) (by kernel_rfl) (by kernel_rfl) (by kernel_rfl);have h11:=@a1X prog 145 _ (ReflectliteValue.method (ReflectliteValue.valueError "reflectlite.Value.Elem" 0) ReflectliteValue.elem) func145 (by kernel_rfl) (by kernel_rfl) (by kernel_rfl) (by kernel_rfl);have h12:=@a1X prog 146 _ ReflectliteValue.set func146 (by kernel_rfl) (by kernel_rfl) (by kernel_rfl) (by kernel_rfl);have tO:=JY;have mA:=Ck;have a25:=TF;have v25:=M0;have f6:=M4;have f7:=Rb;have mK:=Ao;have mE:=Al;have mI:=Am;have k27:=Ra;have k25:=Q9;have e27:=QZ;have i25:=Q2;generalize htd:(⟨tb,0,none⟩:Addr)=t at *;have n8:=Q3 ⟨w.heap.size,0,none⟩ t ((w.alloc (.cells #[.pointer (some t)] 109)).alloc (.cells #[.pointer (some ⟨5,109,none⟩),.pointer w.heap.size,.int .u64 150] 143)) (by simp);have hlt:0<w.heap.size:=by
  rcases a2n w.heap.size with h0|h
  . simp[World.cell?,h0]at hg
  . exact h
 have hg2:((w.alloc (.cells #[.pointer (some t)] 109)).alloc (.cells #[.pointer (some ⟨5,109,none⟩),.pointer w.heap.size,.int .u64 150] 143)).cell? ⟨0,0,none⟩=some (.iface 178 (.agg #[.pointer (some ⟨5,53,none⟩)])):=by
  rw[World.cell?_alloc_lt _ _ ⟨0,0,none⟩ (by simp),World.cell?_alloc_lt _ _ ⟨0,0,none⟩ hlt];exact hg
 have htl:t.block<w.heap.size:=by
  rcases a1o t.block w.heap.size with h|h
  . exact h
  . simp[World.cell?,Array.getElem?_eq_none h]at ht0
 have el:=Q0 ⟨w.heap.size,0,none⟩ t (((w.alloc (.cells #[.pointer (some t)] 109)).alloc (.cells #[.pointer (some ⟨5,109,none⟩),.pointer w.heap.size,.int .u64 150] 143)).alloc (.cells #[.pointer (some ⟨5,109,none⟩),.pointer w.heap.size,.int .u64 150] 143)) (by rw[World.cell?_alloc_lt _ _ ⟨w.heap.size,0,none⟩ (by simp;omega)];simp);have st:=UH tb (w.heap.size+1+1+1) c old ((((w.alloc (.cells #[.pointer (some t)] 109)).alloc (.cells #[.pointer (some ⟨5,109,none⟩),.pointer w.heap.size,.int .u64 150] 143)).alloc (.cells #[.pointer (some ⟨5,109,none⟩),.pointer w.heap.size,.int .u64 150] 143)).alloc (.cells #[c] 83))
  (by rw[World.cell?_alloc_at _ _ _ _ (by simp)];rfl)
  (by rw[htd,World.cell?_alloc_lt _ _ t (by simp;omega),World.cell?_alloc_lt _ _ t (by simp;omega),World.cell?_alloc_lt _ _ t (by simp;omega),World.cell?_alloc_lt _ _ t htl];exact ht0)
  (by rw[htd,World.frozen?_alloc_old _ _ t (by simp;omega),World.frozen?_alloc_old _ _ t (by simp;omega),World.frozen?_alloc_old _ _ t (by simp;omega),World.frozen?_alloc_old _ _ t (a1P htl)];exact hf0)
 rw[htd]at st;go_enter func69,ntmps69;go_wp2;refine wp_loop_rounds 1 ?_;rw[rounds_succ];go_wp2;go_ret;exact⟨rfl,rfl⟩
end Go.Proofs.YtfannoajibacnaaGreatDoor
namespace Go.Proofs.YtfannoajibacnaaGreatDoor
open Go.Proofs.Tryz
open Go.RowKit
def j9(w:World):Prop:=w.cell? ⟨0,0,none⟩=some (.iface 178 (.agg #[.pointer (some ⟨5,53,none⟩)]))
def iy(c:Int)(w:World)(f:j9 w) :
  Ds 29 #[cX c] w (.int .i64 c):=by
 by_cases h:c=0
 . subst h;have d:cX 0 = .nilIface:=rfl;rw[d];go_enter func29,ntmps29;go_wp2_with fail;apply(TH _ _).mono;rintro e w1⟨rfl,a⟩;rw[a];clear a;go_wp2;go_ret;exact⟨rfl,cC⟩
 .
  have d:cX c = .iface 83 (.agg #[c]):=by unfold cX;rw[a0e h]
  rw[d];have g:0<w.heap.size:=World.block_lt_of_cell? _ _ f;have b:(w.alloc (.cells #[.int .i64 0] 83)).cell? ⟨0,0,none⟩=some (.iface 178 (.agg #[.pointer (some ⟨5,53,none⟩)])):=by
   rw[World.cell?_alloc_past _ _ _ g];exact f
  have i:=af (TG c w.heap.size (.int .i64 0) (w.alloc (.cells #[.int .i64 0] 83)) b (by simp) (by simp));clear d b f h;go_enter func29,ntmps29;go_wp2_with fail;apply i.mono;rintro e w1⟨rfl,a⟩;have k:w1.cell? ⟨w.heap.size,0,none⟩=some (.int .i64 c):=by
   rw[a];refine World.cell?_setCell_same _ _ _ (u:=.int .i64 0) ?_;rw[World.cell?_alloc_past _ _ _ (by first|(simp;done)|(simp;omega)),World.cell?_alloc_past _ _ _ (by first|(simp;done)|(simp;omega)),World.cell?_alloc_past _ _ _ (by first|(simp;done)|(simp;omega)),World.cell?_alloc_past _ _ _ (by first|(simp;done)|(simp;omega))];simp
  have j:Hid (Below w.heap.size w w1):=by
   rw[a];refine ai ?_ (a0a _) _;exact(((cC.alloc (by simp) _).alloc (by simp;omega) _).alloc (by simp;omega) _).alloc (by simp;omega) _
  clear a i;go_wp2;go_ret;exact⟨rfl,j⟩
def yz(a:Option Addr)(cap:Nat)(l:List En)(n:Nat)(r:l.length=n)(m:Int)(w:World)(h:iA w a l)(C:(n:Int)<=1048576)(g:(n:Int)<=(cap:Int))
  (z:∀i,i<n->(l.getD i default).n.size<=1048576/\((l.getD i default).t.size:Int)<=9223372036854775807) (y:w.cell? ⟨2,0,none⟩=some (.int .i64 m)) (x:j9 w) :
  Ds 30 #[.slice a n cap] w (.bool (bi l)):=by
 have u:=af (Cg a cap l n r m w h C g z y);have s:=af x;have v:Hid (∀c:Int,(c=0<->∀i,i<n->jW l i=0)->bi l=decide (c=0)):=by
  intro c b;rw[←r]at b;rw[←pu]at b;cases A:bi l
  . rw[A]at b;simp at b;simp[b]
  . rw[A]at b;simp at b;simp[b]
 clear h z y x r;go_enter func30,ntmps30;go_wp2_with fail;apply u.mono;rintro e w1⟨⟨c,rfl,b,q⟩,d⟩;have B:=af (ae v c b);have j:=af d;have o:Hid (j9 w1):=(d.cell (p:=⟨0,0,none⟩) (World.block_lt_of_cell? _ _ s)).trans s;clear b q d u v;go_wp2_with fail;apply(iy c _ o).mono;rintro e w2⟨rfl,f⟩;have k:=af (aj j f);clear f;go_wp2;go_ret;exact⟨am (by rw[ae B];rfl),k⟩
