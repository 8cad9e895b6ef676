/- Of what the proof is made. -/
import Derived.Test.YtkdlcomfpffhhaaGreatDoorM27
import Derived.Lib.QuietBelow
import Derived.Test.YtkdlcomfpffhhaaGreatDoorFrm
import Derived.Test.YtkdlcomfpffhhaaGreatDoorM26
import Derived.ChangeVars
import Derived.OpenVars
import Derived.LaidEql
import Derived.Stop.Asserts
import Derived.RowKitTokens
set_option linter.unusedSimpArgs false
set_option linter.unusedVariables false
namespace Go.Proofs.YtkdlcomfpffhhaaGreatDoor
open Go.RowKit
theorem lT.take{w:World}{a:Option Addr}{l:List En}(h:lT w a l)(k:Nat):lT w a (l.take k):=by
 intro b;have c:0<l.length:=by rw[a0t]at b;omega
 obtain⟨g,o,e,f,d⟩:=h c;refine⟨g,o,e,f,fun i j=>?_⟩;rw[a0t]at j;have e1:(l.take k).getD i default=l.getD i default:=by
  simp only[List.getD];rw[List.getElem?_take_of_lt (by omega)]
 rw[e1];exact d i (by omega)
theorem py(l:List En)(k i:Nat)(a:i<k):(l.take k).getD i default=l.getD i default:=by
 simp only[List.getD];rw[List.getElem?_take_of_lt a]
def ny(l:List En)(i:Nat):Int:=cj (l.take i) (l.getD i default)
theorem Gx(l:List En)(x:ByteArray):jF l x=false<->∀j,j<l.length->aZ (l.getD j default).n.data.toList x.data.toList=false:=by
 refine⟨fun h j a=>?_,ox⟩;cases e:aZ (l.getD j default).n.data.toList x.data.toList
 . rfl
 . rw[qZ a e]at h;cases h
theorem FK(l:List En)(e:En):cj l e=0<->jk e=true/\jF l e.n=false/\l.length<6:=by
 unfold cj;cases b:jk e
 . simp
 .
  cases h2:jF l e.n
  .
   by_cases a:6<=l.length
   . simp[a]
   . simp[a];omega
  . simp
theorem fk{l:List En}{i:Nat}(e:i<l.length):ny l i=0<->jk (l.getD i default)=true/\(∀j,j<i->aZ (l.getD j default).n.data.toList (l.getD i default).n.data.toList=false)/\i<6:=by
 have d:(l.take i).length=i:=by rw[a0t];omega
 unfold ny;rw[FK,Gx,d];constructor
 . rintro⟨b,h2,c⟩;exact⟨b,fun j a=>by have:=h2 j a;rwa[py l i j a]at this,c⟩
 . rintro⟨b,h2,c⟩;exact⟨b,fun j a=>by rw[py l i j a];exact h2 j a,c⟩
theorem Ka(a:List UInt8):ce a a=false:=by
 cases e:ce a a
 . rfl
 . have:=(List.isPrefixOf_iff_prefix.1 e).length_le;rw[a0o]at this;simp only[a0J,a04]at this;omega
theorem rm{a b:List UInt8}(h:aZ a b=false):¬ a=b/\ce b a=false/\ce a b=false:=by
 simp only[aZ,Bool.or_eq_false_iff,a03,ne_eq]at h;exact⟨h.1,h.2.1,h.2.2⟩
theorem lJ(l:List En)(i:Nat):sw l i=true<->jk (l.getD i default)=true/\atN l (l.getD i default).n=(i:Int)/\pO l i=true:=by
 simp[sw]
theorem DU{l:List En}{i j:Nat}(g:i<l.length)(f:j<i)(e:(l.getD j default).n.data.toList=(l.getD i default).n.data.toList):¬ atN l (l.getD i default).n=(i:Int):=by
 intro h;unfold atN at h
 split at h
 .
  rename_i q hq;have b:q=i:=by omega
  subst b;rw[List.findIdx?_eq_some_iff_getElem]at hq;obtain⟨_,_,d⟩:=hq;have c:=d j f;have a:j<l.length:=by omega
  simp only[List.getD,List.getElem?_eq_getElem a,a1q]at e;simp only[a2U]at c;exact c (by simpa[List.getD]using e)
 . omega
theorem pE(l:List En):dS l=true<->∀i,i<l.length->ny l i=0:=by
 constructor
 . intro h i b;simp only[dS,a0n,a0E,a06]at h;obtain⟨f,g⟩:=h;obtain⟨e1,e2,e3⟩:=(lJ l i).1 (f i (List.mem_range.2 b));refine(fk b).2 ⟨e1,fun j d=>?_,by omega⟩;obtain⟨_,_,f3⟩:=(lJ l j).1 (f j (List.mem_range.2 (by omega)));simp only[pO,a06,Bool.not_eq_true']at e3 f3;have u1:=e3 j (List.mem_range.2 (by omega));have u2:=f3 i (List.mem_range.2 b);simp only[aZ,Bool.or_eq_false_iff,a03,ne_eq];exact⟨fun e=>DU b d e e2,u1,u2⟩
 .
  intro h;have g:l.length<=6:=by
   rcases a1z 6 l.length with c|c
   . have:=((fk c).1 (h 6 c)).2.2;omega
   . exact c
  rw[DG (fun i b=>?_)]
  . simpa using g
  .
   obtain⟨c1,c2,_⟩:=(fk b).1 (h i b);refine(lJ l i).2 ⟨c1,Co b (fun j d e=>(rm (c2 j d)).1 (bY.1 e)) rfl,xE (fun k m=>?_)⟩;rcases Nat.lt_trichotomy k i with a|a|a
   . exact(rm (c2 k a)).2.1
   . rw[a];exact Ka _
   . exact(rm (((fk m).1 (h k m)).2.1 i a)).2.2
end Go.Proofs.YtkdlcomfpffhhaaGreatDoor
set_option linter.unusedSimpArgs false
set_option linter.unusedVariables false
set_option maxHeartbeats 4000000
namespace Go.Proofs.YtkdlcomfpffhhaaGreatDoor
open Go.Proofs.Tryz
open Go.ChangeShapes Go.WideShapes Go.ChangeAt Go.RowKit
variable {W:World}
def I9:DataW Unit:=.agg (bS.map fun n=>.lit (.int .i64 (n:Nat)))
theorem yN{W:World} : ∀(laid:List (String×DataW Unit)) (ps:List MemPlace),DataW.LaidVars prog W laid ps->("loop.example/corbel/impl.lenOrder",I9)∈laid->∃ps',DataW.LaidVars prog W [("loop.example/corbel/impl.lenOrder",I9)] ps'
 | [],_,_,h=>by cases h
 | (n,d) :: r,ps,hL,h=>by
  obtain⟨g,t,cs,fuel,p,q,hg,ht,hv,hd,hr,_⟩:=hL;rcases a1h.1 h with e|e
  . obtain⟨rfl,rfl⟩:=Prod.mk.inj e;exact⟨_,g,t,cs,fuel,p,[],hg,ht,hv,hd,rfl,rfl⟩
  . exact yN r q hr e
theorem uK{ps:List MemPlace}(h:DataW.LaidVars prog W [("loop.example/corbel/impl.lenOrder",I9)] ps)(r:Nat)(hr:r<19):W.cell? ⟨1,r,none⟩=some (.int .i64 (bS.getD r 0:Nat)):=by
 obtain⟨g,t,cs,fuel,p,q,hg,ht,hv,hd,_,_⟩:=h;obtain rfl:=a0Z ((show prog.globalNamed "loop.example/corbel/impl.lenOrder" = some 1 by kernel_rfl).symm.trans hg);obtain rfl:=a0Z ((show(prog.globals[1]?).map (·.type)=some 262 by kernel_rfl).symm.trans ht);obtain⟨xs,m,_,ex,_,hl,hel⟩:=DataW.trod_array underlying262 hd;have c5:prog.cellsOf 3=1:=by kernel_rfl
 have hE:=hel r hr;rw[c5,a2l,List.getElem?_eq_getElem (by omega)]at hE;obtain⟨z,e1,e2,_⟩:=DataW.trod_int a2N hE;have hlen:bS.length=19:=rfl;have e3:(xs.map (·.1))=bS.map fun n=>.lit (.int .i64 (n:Nat)):=(DataW.agg.inj (Prod.mk.inj ex).1).symm;have e4:(xs.map (·.1))[r]?=(bS.map fun n=>(DataW.lit (.int .i64 (n:Nat)):DataW Unit))[r]?:=by rw[e3]
 rw[List.getElem?_map,List.getElem?_map,List.getElem?_eq_getElem (by omega:r<xs.length),List.getElem?_eq_getElem (by omega:r<bS.length),e2]at e4;have hz:z=(bS.getD r 0:Nat):=by
  simp only[a3U,a0m,DataW.lit.injEq,Lit.int.injEq,a2A]at e4;rw[e4,List.getD,List.getElem?_eq_getElem (by omega:r<bS.length)];rfl
 rw[World.var?_cell hg hv r,←hz];have:cs.toList[r]?=some (.int .i64 z):=by
  have h0:((cs.toList.drop r).take 1)[0]?=some (.int .i64 z):=by rw[e1];rfl
  simpa using h0
 simpa using this
theorem Ja{ps:List MemPlace}(h:DataW.LaidVars prog W [("loop.example/corbel/impl.lenOrder",I9)] ps):fP W:=by
 refine⟨fun j v hv=>?_,?_⟩
 .
  have hj:j<19:=by
   have:=(List.getElem?_eq_some_iff.1 hv).1;have e:LJ.toList.length=19:=rfl;omega
  rw[a0B,uK h j hj];have h1:=yH j hj;rw[Array.getElem?_toList,h1]at hv;exact hv
 .
  have h0:=uK h 0 (by omega);rcases a1z 1 W.heap.size with h1|h1
  . exact h1
  . simp[World.cell?,h1]at h0
theorem tK{laid:List (String×DataW Unit)}(h:laidMetH prog laid W)(hp:(laid.filter fun x=>x.2.handleName?.isSome).isEmpty=false)(hm:("loop.example/corbel/impl.lenOrder",I9)∈laid.filter fun x=>x.2.handleName?.isNone):fP W:=by
 have h':laidMet prog (laid.filter fun x=>x.2.handleName?.isNone) W:=by
  unfold laidMetH at h;generalize (laid.filter fun x=>x.2.handleName?.isSome)=fl at *
  cases fl with
  | nil=>cases hp
  | cons a r=>exact h.1
 obtain⟨ps,h1,_,_⟩:=h';obtain⟨ps',h2⟩:=yN _ _ h1 hm;exact Ja h2
end Go.Proofs.YtkdlcomfpffhhaaGreatDoor
namespace Go.Proofs.YtkdlcomfpffhhaaGreatDoor
open Go.Proofs.Tryz
open Go.RowKit Go.Extern.Stop Go.Stop Go.Extern
theorem MU(t:Value)(w:World) :
  Calls prog 81 #[.nilIface,t] w fun e w'=>e = .returned (.bool false)/\w'=w:=by
 go_enter func81,ntmps81;go_wp2;go_ret;exact⟨rfl,rfl⟩
theorem GC(t:Addr)(w:World):(ReflectliteValue.unpack (.iface 124 (.pointer (some t)))).run prog w
  = .ok (.agg #[.pointer (some ⟨5,124,none⟩),.pointer (some ⟨w.heap.size,0,none⟩),.int .u64 150]) (w.alloc (.cells #[.pointer (some t)] 124)):=by kernel_rfl
theorem GB(c:Int)(w:World):(ReflectliteValue.unpack (.iface 121 (.agg #[.int .i64 c]))).run prog w
  = .ok (.agg #[.pointer (some ⟨5,121,none⟩),.pointer (some ⟨w.heap.size,0,none⟩),.int .u64 153]) (w.alloc (.cells #[.int .i64 c] 121)):=by kernel_rfl
theorem Kz(a:Addr)(w:World):(ReflectliteValue.methodAny (ReflectliteValue.valueError "reflectlite.Value.Type" 0) (fun t _ _ _=>ReflectliteType.toType t) #[.agg #[.pointer (some ⟨5,124,none⟩),.pointer (some a),.int .u64 150]]).run prog w
  = .ok (.iface 221 (.agg #[.pointer (some ⟨5,124,none⟩)])) w:=by kernel_rfl
theorem vz(h:Value)(w:World):(Go.method 500 221 (.agg #[h]) "Kind").run prog w = .ok (307,h) w:=by kernel_rfl
theorem Ky(w:World):((ReflectliteType.abiMethod fun t=>(fun a:Nat=>Value.int IntKind.u8 (a:Int)) <$> Rtype.kind t) #[.pointer (some ⟨5,124,none⟩)]).run prog w = .ok (.int .u8 22) w:=by kernel_rfl
theorem Kx(w:World):((ReflectliteType.abiMethod fun t=>(fun a:Nat=>Value.int IntKind.u8 (a:Int)) <$> Rtype.kind t) #[.pointer (some ⟨5,121,none⟩)]).run prog w = .ok (.int .u8 25) w:=by kernel_rfl
theorem NH(z:Sem Value)(f:TypeId->Addr->Nat->Nat->Sem Value)(v:Value) :
  ReflectliteValue.method z f #[v]=(do match ←ReflectliteValue.parts v with|none=>z|some (t,a,fl)=>f t a fl (fl%32)):=rfl
theorem wK(a:Addr)(w:World):(ReflectliteValue.parts (.agg #[.pointer (some ⟨5,124,none⟩),.pointer (some a),.int .u64 150])).run prog w = .ok (some (124,a,150)) w:=by kernel_rfl
theorem Kw(a p:Addr)(W:World)(ha:W.cell? a=some (.pointer (some p))) :
  (ReflectliteValue.method (ReflectliteValue.valueError "reflectlite.Value.IsNil" 0) ReflectliteValue.isNil #[.agg #[.pointer (some ⟨5,124,none⟩),.pointer (some a),.int .u64 150]]).run prog W = .ok (.bool false) W:=by
 rw[NH];simp only[a2M,wK,Result.andThen];simp[ReflectliteValue.isNil,loadVar,isAgg,underlying,underlying124,ha,Result.andThen]
theorem vw(h:Value)(w:World):(Go.method 500 221 (.agg #[h]) "Elem").run prog w = .ok (321,.agg #[h]) w:=by kernel_rfl
theorem vy(h:Value)(w:World):(Go.method 500 221 (.agg #[h]) "Implements").run prog w = .ok (322,.agg #[h]) w:=by kernel_rfl
theorem wJ(h:Value)(w:World):(Go.method 500 221 (.agg #[h]) "AssignableTo").run prog w = .ok (319,.agg #[h]) w:=by kernel_rfl
theorem Kt(w:World):(ReflectliteType.method ReflectliteType.elem #[.agg #[.pointer (some ⟨5,124,none⟩)]]).run prog w = .ok (.iface 221 (.agg #[.pointer (some ⟨5,121,none⟩)])) w:=by kernel_rfl
theorem Kv(w:World):(ReflectliteType.relation "Implements" ReflectliteType.implements_ #[.agg #[.pointer (some ⟨5,121,none⟩)],.iface 221 (.agg #[.pointer (some ⟨5,80,none⟩)])]).run prog w = .ok (.bool true) w:=by kernel_rfl
theorem DT(v:Value)(w:World):(ReflectliteType.typeOf #[.iface 121 v]).run prog w = .ok (.iface 221 (.agg #[.pointer (some ⟨5,121,none⟩)])) w:=by kernel_rfl
theorem MO(w:World):(ReflectliteType.relation "AssignableTo" ReflectliteType.assignableTo #[.agg #[.pointer (some ⟨5,121,none⟩)],.iface 221 (.agg #[.pointer (some ⟨5,121,none⟩)])]).run prog w = .ok (.bool true) w:=by kernel_rfl
theorem Gz(w:World):(Rtype.elem? 124).run prog w = .ok (some 121) w:=by kernel_rfl
theorem NG(p:Addr)(w:World):(ReflectliteValue.mk 121 p ReflectliteValue.flagAddr).run prog w = .ok (.agg #[.pointer (some ⟨5,121,none⟩),.pointer (some p),.int .u64 409]) w:=by kernel_rfl
theorem Ku(a p:Addr)(W:World)(ha:W.cell? a=some (.pointer (some p))) :
  (ReflectliteValue.method (ReflectliteValue.valueError "reflectlite.Value.Elem" 0) ReflectliteValue.elem #[.agg #[.pointer (some ⟨5,124,none⟩),.pointer (some a),.int .u64 150]]).run prog W
   = .ok (.agg #[.pointer (some ⟨5,121,none⟩),.pointer (some p),.int .u64 409]) W:=by
 rw[NH];simp only[a2M,wK,Result.andThen];simp[ReflectliteValue.elem,loadVar,isAgg,underlying,underlying124,ha,Result.andThen,Gz,NG]
theorem DR(a:Addr)(w:World):(ReflectliteValue.parts (.agg #[.pointer (some ⟨5,121,none⟩),.pointer (some a),.int .u64 409])).run prog w = .ok (some (121,a,409)) w:=by kernel_rfl
theorem GA(a:Addr)(w:World):(ReflectliteValue.parts (.agg #[.pointer (some ⟨5,121,none⟩),.pointer (some a),.int .u64 153])).run prog w = .ok (some (121,a,153)) w:=by kernel_rfl
theorem Gy(w:World):(Rtype.directlyAssignable 121 121).run prog w = .ok true w:=by kernel_rfl
theorem NI(tb b:Nat)(c:Int)(old:Value)(W:World)(hb:W.cell? ⟨b,0,none⟩=some (.int .i64 c))(e:W.cell? ⟨tb,0,none⟩=some old)(a:W.frozen? ⟨tb,0,none⟩=false) :
  (ReflectliteValue.set #[.agg #[.pointer (some ⟨5,121,none⟩),.pointer (some ⟨tb,0,none⟩),.int .u64 409],.agg #[.pointer (some ⟨5,121,none⟩),.pointer (some ⟨b,0,none⟩),.int .u64 153]]).run prog W
   = .ok (.tuple #[]) (W.setCell ⟨tb,0,none⟩ (.int .i64 c)):=by
 show(Bind.bind (ReflectliteValue.parts _) _:Sem Value).run prog W=_;simp only[Array.getLit,List.getElem_toArray,List.getElem_cons_zero,List.getElem_cons_succ,a2M,DR,GA,Result.andThen];have d:(loadCells ⟨b,0,none⟩ 1).run prog W = .ok #[.int .i64 c] W:=by simp[loadCells,loadCellsFrom,go_sem,hb]
 simp[ReflectliteValue.flagAddr,loadVar,isAgg,underlying,underlying121,Result.andThen,Gy,storeVar,Value.cells,d];simp[storeCells,Addr.add];rw[run_store prog W ⟨tb,0,none⟩ _ _ (by rfl)];simp[e,a]
theorem MQ(c:Int)(tb:Nat)(old:Value)(w:World)(hg:w.cell? ⟨0,0,none⟩=some (.iface 221 (.agg #[.pointer (some ⟨5,80,none⟩)])))(ht0:w.cell? ⟨tb,0,none⟩=some old)(hf0:w.frozen? ⟨tb,0,none⟩=false) :
  Calls prog 81 #[.iface 121 (.agg #[.int .i64 c]),.iface 124 (.pointer (some ⟨tb,0,none⟩))] w fun ev w'=>ev = .returned (.bool true)/\w'=((((w.alloc (.cells #[.pointer (some ⟨tb,0,none⟩)] 124)).alloc (.cells #[.pointer (some ⟨5,124,none⟩),.pointer (some ⟨w.heap.size,0,none⟩),.int .u64 150] 157)).alloc (.cells #[.pointer (some ⟨5,124,none⟩),.pointer (some ⟨w.heap.size,0,none⟩),.int .u64 150] 157)).alloc (.cells #[.int .i64 c] 121)).setCell ⟨tb,0,none⟩ (.int .i64 c):=by
 have h6:=@a11 prog 122 _ (fun args=>ReflectliteValue.unpack (args.getD 0 (.tuple #[]))) func122 (by kernel_rfl) (by kernel_rfl) (by kernel_rfl) (by kernel_rfl);have h7:=@a11 prog 123 _ (ReflectliteValue.methodAny (ReflectliteValue.valueError "reflectlite.Value.Type" 0) (fun t _ _ _=>ReflectliteType.toType t)) func123 (by kernel_rfl) (by kernel_rfl) (by kernel_rfl) (by kernel_rfl);have h8:=@a11 prog 124 _ (ReflectliteValue.method (ReflectliteValue.valueError "reflectlite.Value.IsNil" 0) ReflectliteValue.isNil) func124 (by kernel_rfl) (by kernel_rfl) (by kernel_rfl) (by kernel_rfl);have h27:=@a11 prog 307 _ (ReflectliteType.abiMethod fun t=>do pure (.int .u8 (←Rtype.kind t))) func307 (by kernel_rfl) (by kernel_rfl) (by kernel_rfl) (by kernel_rfl);have h37:=@a11 prog 321 _ (ReflectliteType.method ReflectliteType.elem) func321 (by kernel_rfl) (by kernel_rfl) (by kernel_rfl) (by kernel_rfl);have h38:=@a11 prog 322 _ (ReflectliteType.relation "Implements" ReflectliteType.implements_) func322 (by kernel_rfl) (by kernel_rfl) (by kernel_rfl) (by kernel_rfl);have h10:=@a11 prog 164 _ ReflectliteType.typeOf func164 (by kernel_rfl) (by kernel_rfl) (by kernel_rfl) (by kernel_rfl);have h35:=@a11 prog 319 _ (ReflectliteType.relation "AssignableTo" ReflectliteType.assignableTo) func319 (by kernel_rfl) (by kernel_rfl) (by kernel_rfl) (by kernel_rfl);have h11:=@a11 prog 165 _ (ReflectliteValue.method (ReflectliteValue.valueError "reflectlite.Value.Elem" 0) ReflectliteValue.elem) func165 (by kernel_rfl) (by kernel_rfl) (by kernel_rfl) (by kernel_rfl);have h12:=@a11 prog 166 _ ReflectliteValue.set func166 (by kernel_rfl) (by kernel_rfl) (by kernel_rfl) (by kernel_rfl);have tO:=DT;have mA:=wJ;have a25:=MO;have v25:=GB;have f6:=GC;have f7:=Kz;have mK:=vz;have mE:=vw;have mI:=vy;have k27:=Ky;have k25:=Kx;have e27:=Kt;have i25:=Kv;generalize htd:(⟨tb,0,none⟩:Addr)=t at *
 have n8:=Kw ⟨w.heap.size,0,none⟩ t ((w.alloc (.cells #[.pointer (some t)] 124)).alloc (.cells #[.pointer (some ⟨5,124,none⟩),.pointer (some ⟨w.heap.size,0,none⟩),.int .u64 150] 157)) (by simp);have hlt:0<w.heap.size:=by
  rcases a2E w.heap.size with h0|h
  . simp[World.cell?,h0]at hg
  . exact h
 have hg2:((w.alloc (.cells #[.pointer (some t)] 124)).alloc (.cells #[.pointer (some ⟨5,124,none⟩),.pointer (some ⟨w.heap.size,0,none⟩),.int .u64 150] 157)).cell? ⟨0,0,none⟩=some (.iface 221 (.agg #[.pointer (some ⟨5,80,none⟩)])):=by
  rw[World.cell?_alloc_lt _ _ ⟨0,0,none⟩ (by simp),World.cell?_alloc_lt _ _ ⟨0,0,none⟩ hlt];exact hg
 have htl:t.block<w.heap.size:=by
  rcases a1z t.block w.heap.size with h|h
  . exact h
  . simp[World.cell?,Array.getElem?_eq_none h]at ht0
 have el:=Ku ⟨w.heap.size,0,none⟩ t (((w.alloc (.cells #[.pointer (some t)] 124)).alloc (.cells #[.pointer (some ⟨5,124,none⟩),.pointer (some ⟨w.heap.size,0,none⟩),.int .u64 150] 157)).alloc (.cells #[.pointer (some ⟨5,124,none⟩),.pointer (some ⟨w.heap.size,0,none⟩),.int .u64 150] 157)) (by rw[World.cell?_alloc_lt _ _ ⟨w.heap.size,0,none⟩ (by simp;omega)];simp);have st:=NI tb (w.heap.size+1+1+1) c old ((((w.alloc (.cells #[.pointer (some t)] 124)).alloc (.cells #[.pointer (some ⟨5,124,none⟩),.pointer (some ⟨w.heap.size,0,none⟩),.int .u64 150] 157)).alloc (.cells #[.pointer (some ⟨5,124,none⟩),.pointer (some ⟨w.heap.size,0,none⟩),.int .u64 150] 157)).alloc (.cells #[.int .i64 c] 121))
  (by rw[World.cell?_alloc_at _ _ _ _ (by simp)];rfl)
  (by rw[htd,World.cell?_alloc_lt _ _ t (by simp;omega),World.cell?_alloc_lt _ _ t (by simp;omega),World.cell?_alloc_lt _ _ t (by simp;omega),World.cell?_alloc_lt _ _ t htl];exact ht0)
  (by rw[htd,World.frozen?_alloc_old _ _ t (by simp;omega),World.frozen?_alloc_old _ _ t (by simp;omega),World.frozen?_alloc_old _ _ t (by simp;omega),World.frozen?_alloc_old _ _ t (a1N htl)];exact hf0)
 rw[htd]at st;go_enter func81,ntmps81;go_wp2;refine wp_loop_rounds 1 ?_;rw[rounds_succ];go_wp2;go_ret;exact⟨rfl,rfl⟩
end Go.Proofs.YtkdlcomfpffhhaaGreatDoor
namespace Go.Proofs.YtkdlcomfpffhhaaGreatDoor
open Go.Proofs.Tryz
open Go.RowKit
def tr(w:World):Prop:=w.cell? ⟨0,0,none⟩=some (.iface 221 (.agg #[.pointer (some ⟨5,80,none⟩)]))
theorem zW(c:Int)(w:World)(f:tr w) :
  CD 47 #[io c] w (.int .i64 c):=by
 by_cases h:c=0
 . subst h;have d:io 0 = .nilIface:=rfl;rw[d];go_enter func47,ntmps47;go_wp2_with fail;refine(MU _ _).mono ?_;rintro e w1 ⟨rfl,a⟩;rw[a];clear a;go_wp2;go_ret;exact⟨rfl,(a0c _ _).alloc (a0a _) _⟩
 .
  have d:io c = .iface 121 (.agg #[.int .i64 c]):=by unfold io;rw[a0d h]
  rw[d];have g:0<w.heap.size:=World.block_lt_of_cell? _ _ f;have b:(w.alloc (.cells #[.int .i64 0] 121)).cell? ⟨0,0,none⟩=some (.iface 221 (.agg #[.pointer (some ⟨5,80,none⟩)])):=by
   rw[World.cell?_alloc_past _ _ _ g];exact f
  have i:=af (MQ c w.heap.size (.int .i64 0) (w.alloc (.cells #[.int .i64 0] 121)) b (by simp) (by simp));clear d b f h;go_enter func47,ntmps47;go_wp2_with fail;refine(ae i).mono ?_;rintro e w1 ⟨rfl,a⟩;have k:w1.cell? ⟨w.heap.size,0,none⟩=some (.int .i64 c):=by
   rw[a];refine World.cell?_setCell_same _ _ _ (u:=.int .i64 0) ?_;rw[World.cell?_alloc_past _ _ _ (by first|(simp;done)|(simp;omega)),World.cell?_alloc_past _ _ _ (by first|(simp;done)|(simp;omega)),World.cell?_alloc_past _ _ _ (by first|(simp;done)|(simp;omega)),World.cell?_alloc_past _ _ _ (by first|(simp;done)|(simp;omega))];simp
  have j:Hid (Below w.heap.size w w1):=by
   rw[a];refine ap ?_ (a0a _) _;exact(((((a0c _ _).alloc (a0a _) _).alloc (by simp) _).alloc (by simp;omega) _).alloc (by simp;omega) _).alloc (by simp;omega) _
  clear a i;go_wp2;go_ret;exact⟨rfl,ae j⟩
end Go.Proofs.YtkdlcomfpffhhaaGreatDoor
