/- Of what the proof is made: 6 texts, one behind the other. -/
import Derived.Test.YtgmfehnnebkaoaaGreatDoorM17
import Derived.Test.YtgmfehnnebkaoaaGreatDoorM21
import Derived.Test.YtgmfehnnebkaoaaGreatDoorM12
import Derived.Test.YtgmfehnnebkaoaaGreatDoorM32
import Derived.Test.YtgmfehnnebkaoaaGreatDoorM23
import Derived.Test.YtgmfehnnebkaoaaGreatDoorM33
import Derived.LaidEql
import Derived.Stop.Asserts
import Derived.RowKitTokens
set_option linter.unusedSimpArgs false
set_option linter.unusedVariables false
set_option maxHeartbeats 4000000
namespace Go.Proofs.YtgmfehnnebkaoaaGreatDoor
open Go.Proofs.Tryz
open Go.RowKit Corb
variable {V p sz y:Nat}{l:List (Int×Int)}
def Std(V:Nat):Nat->List (Int×Int)->Prop
 | _,[]=>True
 | p,x :: l=>V/2 ^ p%2 ^ x.2.toNat=x.1.toNat/\Std V (p+x.2.toNat) l
def bN(l:List (Int×Int)):Nat:=fH (bitsOf l)
theorem jK:bN []=0:=rfl
theorem eQ(x:Int×Int)(l:List (Int×Int)):bN (x :: l)=x.2.toNat+bN l:=by unfold bN bitsOf;rw[a0C,kM]
theorem dw(a b:List (Int×Int)):bN (a++b)=bN a+bN b:=by unfold bN bitsOf;rw[a0I,rE]
theorem oy{a b:List (Int×Int)} : ∀{p:Nat},Std V p (a++b)<->Std V p a/\Std V (p+bN a) b:=by
 induction a with
 | nil=>intro p;simp[Std,jK]
 | cons x a ih=>
  intro p;rw[a1g];simp only[Std];rw[ih,eQ,and_assoc,a14]
theorem LU: ∀(l:List (Int×Int)) (p:Nat),dN V p (bitsOf l)=numsOf l->Std V p l:=by
 intro l;induction l with
 | nil=>intro p _;trivial
 | cons x l ih=>
  intro p h;unfold bitsOf numsOf at h;rw[a0C,a0C]at h;simp only[dN,List.cons.injEq]at h;refine⟨?_,ih _ h.2⟩;rw[←h.1,a0l]
theorem N8(W:Nat)(h:aW l=true):Std ((aV l).1+W*2 ^ (aV l).2) 0 l:=LU l 0 (H9 l W h)
theorem qF{x:Int×Int}(h:Std V p (x :: l))(a:p+x.2.toNat<=sz):rdN V sz p x.2.toNat=some (x.1.toNat,p+x.2.toNat):=by
 rw[nr a,h.1]
theorem oN{B:List Int}(a:av B=true){k:Nat}(e:0<B.getD k 0)(h:Std V p (pcM B k :: l))(f:p+(B.getD k 0).toNat<=sz):dec B V sz p=some ((k:Int),p+(B.getD k 0).toNat):=by
 have d:k<B.length:=by
  rcases a1l k B.length with c|c
  . exact c
  . simp[List.getD,c]at e
 have hb:=ml (fV a) d;obtain⟨n,hn⟩:∃n:Nat,B.getD k 0=(n:Int)+1:=⟨(B.getD k 0).toNat-1,by omega⟩;have b:=h.1;unfold pcM at b;simp only at b;rw[AU B 15 k d,a0d (by omega),a0l,a0l,hn,show((n:Int)+1).toNat=n+1 by omega]at b;rw[hn,show((n:Int)+1).toNat=n+1 by omega]at f ⊢;have:=Jq a d hn b (by omega);rw[this]
 congr 1
theorem Nv:(List.range 61).all (fun y=>decide (y<3) || (decide (fnd 3 4 y 27<28)&&decide ((stF 3 4 (fnd 3 4 y 27)).1<=y)))=true:=by decide +kernel
theorem MJ:(List.range 251).all (fun y=>decide (y<1) || (decide (fnd 1 2 y 29<30)&&decide ((stF 1 2 (fnd 1 2 y 29)).1<=y)))=true:=by decide +kernel
theorem Kz(a:3<=y)(b:y<=60):fnd 3 4 y 27<28/\(stF 3 4 (fnd 3 4 y 27)).1<=y:=by
 have:=a03.1 Nv y (List.mem_range.2 (by omega));simp only[a1f,a0j,a0p]at this;omega
theorem Jd(a:1<=y)(b:y<=250):fnd 1 2 y 29<30/\(stF 1 2 (fnd 1 2 y 29)).1<=y:=by
 have:=a03.1 MJ y (List.mem_range.2 (by omega));simp only[a1f,a0j,a0p]at this;omega
theorem LD{least group many k:Nat}(b:k<many)(d:(stF least group k).1<=y)(h:Std V p (((y:Int)-((stF least group k).1:Int),((stF least group k).2:Nat)) :: l))(c:p+(stF least group k).2<=sz):scG V sz least group many k p=some (y,p+(stF least group k).2):=by
 unfold scG;rw[a0d b];have a:=qF (sz:=sz) h (by simpa using c);simp only[a0l]at a;rw[a];simp only[a0f]
 congr 2
 omega
def Dm(L D:List Int)(t:Tk):Prop:=if isB t then 0<L.getD t.1.toNat 0 else 0<L.getD (257+fnd 3 4 t.2.1.toNat 27) 0/\0<D.getD (fnd 1 2 t.2.2.toNat 29) 0
theorem lR(B:List Int)(k:Nat):(pcM B k).2.toNat=(B.getD k 0).toNat:=rfl
theorem NF{L D:List Int}(okL:av L=true)(okD:av D=true){t:Tk}(f:okT t=true)(a:Dm L D t)(h:Std V p (cw L D t++l))(b:p+bN (cw L D t)<=sz) :
  ∃i q,dec L V sz p=some (i,q)/\i≠256/\oneG V sz D i q=some (t,p+bN (cw L D t)):=by
 obtain⟨y,lo,c⟩:=t;unfold Dm at a;unfold cw at h b ⊢;by_cases d:isB (y,lo,c)=true
 .
  rw[a0d d]at h b a ⊢;have hb:0<=y/\y<=255/\lo=0/\c=0:=by unfold isB inB at d;simp only[a0j,a0p]at d;omega
  rw[eQ,jK,a05,lR]at b ⊢;refine⟨_,_,oN okL a h b,?_,?_⟩
  . simp only;omega
  . unfold oneG;rw[a0d (by simp only;omega)];simp only[a0k,a0W,a0P];omega
 .
  rw[a0e d]at h b a ⊢;have e:isK (y,lo,c)=true:=by unfold okT at f;simpa[d]using f
  have hb:y=0/\3<=lo/\lo<=60/\1<=c/\c<=250:=by unfold isK inB at e;simp only[a0j,a0p]at e;omega
  obtain⟨rfl,g,m,n,o⟩:=hb;obtain⟨x,rfl⟩:=a0n (show 0<=lo by omega);obtain⟨z,rfl⟩:=a0n (show 0<=c by omega);simp only[a0l]at h b a ⊢;obtain⟨f1,f2⟩:=Kz (y:=x) (by omega) (by omega);obtain⟨g1,g2⟩:=Jd (y:=z) (by omega) (by omega);generalize fnd 3 4 x 27=k at *
  generalize fnd 1 2 z 29=j at *
  simp only[eQ,jK,a05,lR,a0l]at b ⊢;have s1:=h;have s2:=h.2;have s3:=s2.2;have s4:=s3.2;simp only[lR,a0l]at s2 s3 s4;refine⟨_,_,oN okL a.1 s1 (by omega),by omega,?_⟩;unfold oneG;rw[a0e (by omega),show((257+k:Nat):Int).toNat-257=k by omega];unfold lS;rw[LD f1 f2 s2 (by omega)];simp only[a0f];rw[oN okD a.2 s3 (by omega)];simp only[a0f,a0l];rw[LD g1 g2 s4 (by omega)];simp only[a0f,a0k,a0W,a1W];omega
def oT(R:List UInt8):List Tk->Option (List UInt8)
 | []=>some R
 | t :: T=>(eu R t).bind fun x=>oT x T
theorem Fw{L D:List Int}(okL:av L=true)(okD:av D=true)(n:0<L.getD 256 0) : ∀(T:List Tk) (p:Nat) (R b:List UInt8),(∀t∈T,okT t=true/\Dm L D t)->Std V p (T.flatMap (cw L D)++(pcM L 256 :: l))->p+bN (T.flatMap (cw L D))+(L.getD 256 0).toNat<=sz->oT R T=some b->lx V sz L D p R=some (b,p+bN (T.flatMap (cw L D))+(L.getD 256 0).toNat):=by
 intro T;induction T with
 | nil=>
  intro p R b _ h c a;simp only[oT,a0k]at a;subst a;simp only[a2f,a0X,jK,a05]at h c ⊢;exact BG (oN okL n h c)
 | cons t T ih=>
  intro p R b e h c a;simp only[a0S,a0O,dw]at h c ⊢;obtain⟨m,h2⟩:=e t (by simp);obtain⟨i,q,g,j,k⟩:=NF (sz:=sz) okL okD m h2 h (by omega);rw[wU g j,k];simp only[a0f];simp only[oT]at a;rcases f:eu R t with _|x
  . rw[f]at a;cases a
  . rw[f]at a;simp only[a0f]at a ⊢;rw[ih (p+bN (cw L D t)) x b (fun t' d=>e t' (by simp[d])) (oy.1 h).2 (by omega) a,a14 p]
theorem Iw{L:List UInt8}(d:L.length<=300):∀(n p:Nat),L.length-p<=n->p<=L.length->oT (L.take p) (bh L p)=some L:=by
 intro n;induction n with
 | zero=>
  intro p b h2;have e:p=L.length:=by omega
  subst e;rw[ef (a2M _)];simp only[oT,a1Q]
 | succ n ih=>
  intro p b h2;by_cases a:p<L.length
  . rw[gX a];simp only[oT];rw[FC a d];have f:=gu L p;have c:=pC a;exact ih _ (by omega) c
  .
   have e:p=L.length:=by omega
   subst e;rw[ef (a2M _)];simp only[oT,a1Q]
theorem vd{L:List UInt8}(a:L.length<=300):oT [] (bh L 0)=some L:=Iw a L.length 0 (by omega) (a0g _)
end Go.Proofs.YtgmfehnnebkaoaaGreatDoor
namespace Go.Proofs.YtgmfehnnebkaoaaGreatDoor
open Go.Proofs.Tryz
open Go.RowKit Go.Extern.Stop Go.Stop Go.Extern
theorem OE(t:Value)(w:World) :
  Calls prog 53 #[.nilIface,t] w fun e w'=>e = .returned (.bool false)/\w'=w:=by
 go_enter func53,ntmps53;go_wp2;go_ret;exact⟨rfl,rfl⟩
theorem I3(t:Addr)(w:World):(ReflectliteValue.unpack (.iface 92 (.pointer (some t)))).run prog w
  = .ok (.agg #[.pointer (some ⟨8,92,none⟩),.pointer (some ⟨w.heap.size,0,none⟩),.int .u64 150]) (w.alloc (.cells #[.pointer (some t)] 92)):=by kernel_rfl
theorem I2(c:Int)(w:World):(ReflectliteValue.unpack (.iface 90 (.agg #[.int .i64 c]))).run prog w
  = .ok (.agg #[.pointer (some ⟨8,90,none⟩),.pointer (some ⟨w.heap.size,0,none⟩),.int .u64 153]) (w.alloc (.cells #[.int .i64 c] 90)):=by kernel_rfl
theorem MI(a:Addr)(w:World):(ReflectliteValue.methodAny (ReflectliteValue.valueError "reflectlite.Value.Type" 0) (fun t _ _ _=>ReflectliteType.toType t) #[.agg #[.pointer (some ⟨8,92,none⟩),.pointer (some a),.int .u64 150]]).run prog w
  = .ok (.iface 184 (.agg #[.pointer (some ⟨8,92,none⟩)])) w:=by kernel_rfl
theorem xu(h:Value)(w:World):(Go.method 472 184 (.agg #[h]) "Kind").run prog w = .ok (282,h) w:=by kernel_rfl
theorem MH(w:World):((ReflectliteType.abiMethod fun t=>(fun a:Nat=>Value.int IntKind.u8 (a:Int)) <$> Rtype.kind t) #[.pointer (some ⟨8,92,none⟩)]).run prog w = .ok (.int .u8 22) w:=by kernel_rfl
theorem MG(w:World):((ReflectliteType.abiMethod fun t=>(fun a:Nat=>Value.int IntKind.u8 (a:Int)) <$> Rtype.kind t) #[.pointer (some ⟨8,90,none⟩)]).run prog w = .ok (.int .u8 25) w:=by kernel_rfl
theorem PD(z:Sem Value)(f:TypeId->Addr->Nat->Nat->Sem Value)(v:Value) :
  ReflectliteValue.method z f #[v]=(do match ←ReflectliteValue.parts v with|none=>z|some (t,a,fl)=>f t a fl (fl%32)):=rfl
theorem yP(a:Addr)(w:World):(ReflectliteValue.parts (.agg #[.pointer (some ⟨8,92,none⟩),.pointer (some a),.int .u64 150])).run prog w = .ok (some (92,a,150)) w:=by kernel_rfl
theorem MF(a p:Addr)(W:World)(ha:W.cell? a=some (.pointer (some p))) :
  (ReflectliteValue.method (ReflectliteValue.valueError "reflectlite.Value.IsNil" 0) ReflectliteValue.isNil #[.agg #[.pointer (some ⟨8,92,none⟩),.pointer (some a),.int .u64 150]]).run prog W = .ok (.bool false) W:=by
 rw[PD];simp only[a2G,yP,Result.andThen];simp[ReflectliteValue.isNil,loadVar,isAgg,underlying,underlying92,ha,Result.andThen]
theorem xr(h:Value)(w:World):(Go.method 472 184 (.agg #[h]) "Elem").run prog w = .ok (296,.agg #[h]) w:=by kernel_rfl
theorem xt(h:Value)(w:World):(Go.method 472 184 (.agg #[h]) "Implements").run prog w = .ok (297,.agg #[h]) w:=by kernel_rfl
theorem yO(h:Value)(w:World):(Go.method 472 184 (.agg #[h]) "AssignableTo").run prog w = .ok (294,.agg #[h]) w:=by kernel_rfl
theorem MC(w:World):(ReflectliteType.method ReflectliteType.elem #[.agg #[.pointer (some ⟨8,92,none⟩)]]).run prog w = .ok (.iface 184 (.agg #[.pointer (some ⟨8,90,none⟩)])) w:=by kernel_rfl
theorem ME(w:World):(ReflectliteType.relation "Implements" ReflectliteType.implements_ #[.agg #[.pointer (some ⟨8,90,none⟩)],.iface 184 (.agg #[.pointer (some ⟨8,59,none⟩)])]).run prog w = .ok (.bool true) w:=by kernel_rfl
theorem FF(v:Value)(w:World):(ReflectliteType.typeOf #[.iface 90 v]).run prog w = .ok (.iface 184 (.agg #[.pointer (some ⟨8,90,none⟩)])) w:=by kernel_rfl
theorem OC(w:World):(ReflectliteType.relation "AssignableTo" ReflectliteType.assignableTo #[.agg #[.pointer (some ⟨8,90,none⟩)],.iface 184 (.agg #[.pointer (some ⟨8,90,none⟩)])]).run prog w = .ok (.bool true) w:=by kernel_rfl
theorem I0(w:World):(Rtype.elem? 92).run prog w = .ok (some 90) w:=by kernel_rfl
theorem Pz(p:Addr)(w:World):(ReflectliteValue.mk 90 p ReflectliteValue.flagAddr).run prog w = .ok (.agg #[.pointer (some ⟨8,90,none⟩),.pointer (some p),.int .u64 409]) w:=by kernel_rfl
theorem MD(a p:Addr)(W:World)(ha:W.cell? a=some (.pointer (some p))) :
  (ReflectliteValue.method (ReflectliteValue.valueError "reflectlite.Value.Elem" 0) ReflectliteValue.elem #[.agg #[.pointer (some ⟨8,92,none⟩),.pointer (some a),.int .u64 150]]).run prog W
   = .ok (.agg #[.pointer (some ⟨8,90,none⟩),.pointer (some p),.int .u64 409]) W:=by
 rw[PD];simp only[a2G,yP,Result.andThen];simp[ReflectliteValue.elem,loadVar,isAgg,underlying,underlying92,ha,Result.andThen,I0,Pz]
theorem FE(a:Addr)(w:World):(ReflectliteValue.parts (.agg #[.pointer (some ⟨8,90,none⟩),.pointer (some a),.int .u64 409])).run prog w = .ok (some (90,a,409)) w:=by kernel_rfl
theorem I1(a:Addr)(w:World):(ReflectliteValue.parts (.agg #[.pointer (some ⟨8,90,none⟩),.pointer (some a),.int .u64 153])).run prog w = .ok (some (90,a,153)) w:=by kernel_rfl
theorem IZ(w:World):(Rtype.directlyAssignable 90 90).run prog w = .ok true w:=by kernel_rfl
theorem PE(tb b:Nat)(c:Int)(old:Value)(W:World)(hb:W.cell? ⟨b,0,none⟩=some (.int .i64 c))(e:W.cell? ⟨tb,0,none⟩=some old)(a:W.frozen? ⟨tb,0,none⟩=false) :
  (ReflectliteValue.set #[.agg #[.pointer (some ⟨8,90,none⟩),.pointer (some ⟨tb,0,none⟩),.int .u64 409],.agg #[.pointer (some ⟨8,90,none⟩),.pointer (some ⟨b,0,none⟩),.int .u64 153]]).run prog W
   = .ok (.tuple #[]) (W.setCell ⟨tb,0,none⟩ (.int .i64 c)):=by
 show(Bind.bind (ReflectliteValue.parts _) _:Sem Value).run prog W=_;simp only[Array.getLit,List.getElem_toArray,List.getElem_cons_zero,List.getElem_cons_succ,a2G,FE,I1,Result.andThen];have d:(loadCells ⟨b,0,none⟩ 1).run prog W = .ok #[.int .i64 c] W:=by simp[loadCells,loadCellsFrom,go_sem,hb]
 simp[ReflectliteValue.flagAddr,loadVar,isAgg,underlying,underlying90,Result.andThen,IZ,storeVar,Value.cells,d];simp[storeCells,Addr.add];rw[run_store prog W ⟨tb,0,none⟩ _ _ (by rfl)];simp[e,a]
theorem OD(c:Int)(tb:Nat)(old:Value)(w:World)(hg:w.cell? ⟨0,0,none⟩=some (.iface 184 (.agg #[.pointer (some ⟨8,59,none⟩)])))(ht0:w.cell? ⟨tb,0,none⟩=some old)(hf0:w.frozen? ⟨tb,0,none⟩=false) :
  Calls prog 53 #[.iface 90 (.agg #[.int .i64 c]),.iface 92 (.pointer (some ⟨tb,0,none⟩))] w fun ev w'=>ev = .returned (.bool true)/\w'=((((w.alloc (.cells #[.pointer (some ⟨tb,0,none⟩)] 92)).alloc (.cells #[.pointer (some ⟨8,92,none⟩),.pointer (some ⟨w.heap.size,0,none⟩),.int .u64 150] 120)).alloc (.cells #[.pointer (some ⟨8,92,none⟩),.pointer (some ⟨w.heap.size,0,none⟩),.int .u64 150] 120)).alloc (.cells #[.int .i64 c] 90)).setCell ⟨tb,0,none⟩ (.int .i64 c):=by
 have h6:=@a1R prog 86 _ (fun args=>ReflectliteValue.unpack (args.getD 0 (.tuple #[]))) func86 (by kernel_rfl) (by kernel_rfl) (by kernel_rfl) (by kernel_rfl);have h7:=@a1R prog 87 _ (ReflectliteValue.methodAny (ReflectliteValue.valueError "reflectlite.Value.Type" 0) (fun t _ _ _=>ReflectliteType.toType t)) func87 (by kernel_rfl) (by kernel_rfl) (by kernel_rfl) (by kernel_rfl);have h8:=@a1R prog 88 _ (ReflectliteValue.method (ReflectliteValue.valueError "reflectlite.Value.IsNil" 0) ReflectliteValue.isNil) func88 (by kernel_rfl) (by kernel_rfl) (by kernel_rfl) (by kernel_rfl);have h27:=@a1R prog 282 _ (ReflectliteType.abiMethod fun t=>do pure (.int .u8 (←Rtype.kind t))) func282 (by kernel_rfl) (by kernel_rfl) (by kernel_rfl) (by kernel_rfl);have h37:=@a1R prog 296 _ (ReflectliteType.method ReflectliteType.elem) func296 (by kernel_rfl) (by kernel_rfl) (by kernel_rfl) (by kernel_rfl);have h38:=@a1R prog 297 _ (ReflectliteType.relation "Implements" ReflectliteType.implements_) func297 (by kernel_rfl) (by kernel_rfl) (by kernel_rfl) (by kernel_rfl);have h10:=@a1R prog 134 _ ReflectliteType.typeOf func134 (by kernel_rfl) (by kernel_rfl) (by kernel_rfl) (by kernel_rfl);have h35:=@a1R prog 294 _ (ReflectliteType.relation "AssignableTo" ReflectliteType.assignableTo) func294 (by kernel_rfl) (by kernel_rfl) (by kernel_rfl) (by kernel_rfl);have h11:=@a1R prog 135 _ (ReflectliteValue.method (ReflectliteValue.valueError "reflectlite.Value.Elem" 0) ReflectliteValue.elem) func135 (by kernel_rfl) (by kernel_rfl) (by kernel_rfl) (by kernel_rfl);have h12:=@a1R prog 136 _ ReflectliteValue.set func136 (by kernel_rfl) (by kernel_rfl) (by kernel_rfl) (by kernel_rfl);have tO:=FF;have mA:=yO;have a25:=OC;have v25:=I2;have f6:=I3;have f7:=MI;have mK:=xu;have mE:=xr;have mI:=xt;have k27:=MH;have k25:=MG;have e27:=MC;have i25:=ME;generalize htd:(⟨tb,0,none⟩:Addr)=t at *
 have n8:=MF ⟨w.heap.size,0,none⟩ t ((w.alloc (.cells #[.pointer (some t)] 92)).alloc (.cells #[.pointer (some ⟨8,92,none⟩),.pointer (some ⟨w.heap.size,0,none⟩),.int .u64 150] 120)) (by simp);have hlt:0<w.heap.size:=by
  rcases a3C w.heap.size with h0|h
  . simp[World.cell?,h0]at hg
  . exact h
 have hg2:((w.alloc (.cells #[.pointer (some t)] 92)).alloc (.cells #[.pointer (some ⟨8,92,none⟩),.pointer (some ⟨w.heap.size,0,none⟩),.int .u64 150] 120)).cell? ⟨0,0,none⟩=some (.iface 184 (.agg #[.pointer (some ⟨8,59,none⟩)])):=by
  rw[World.cell?_alloc_lt _ _ ⟨0,0,none⟩ (by simp),World.cell?_alloc_lt _ _ ⟨0,0,none⟩ hlt];exact hg
 have htl:t.block<w.heap.size:=by
  rcases a1l t.block w.heap.size with h|h
  . exact h
  . simp[World.cell?,Array.getElem?_eq_none h]at ht0
 have el:=MD ⟨w.heap.size,0,none⟩ t (((w.alloc (.cells #[.pointer (some t)] 92)).alloc (.cells #[.pointer (some ⟨8,92,none⟩),.pointer (some ⟨w.heap.size,0,none⟩),.int .u64 150] 120)).alloc (.cells #[.pointer (some ⟨8,92,none⟩),.pointer (some ⟨w.heap.size,0,none⟩),.int .u64 150] 120)) (by rw[World.cell?_alloc_lt _ _ ⟨w.heap.size,0,none⟩ (by simp;omega)];simp);have st:=PE tb (w.heap.size+1+1+1) c old ((((w.alloc (.cells #[.pointer (some t)] 92)).alloc (.cells #[.pointer (some ⟨8,92,none⟩),.pointer (some ⟨w.heap.size,0,none⟩),.int .u64 150] 120)).alloc (.cells #[.pointer (some ⟨8,92,none⟩),.pointer (some ⟨w.heap.size,0,none⟩),.int .u64 150] 120)).alloc (.cells #[.int .i64 c] 90))
  (by rw[World.cell?_alloc_at _ _ _ _ (by simp)];rfl)
  (by rw[htd,World.cell?_alloc_lt _ _ t (by simp;omega),World.cell?_alloc_lt _ _ t (by simp;omega),World.cell?_alloc_lt _ _ t (by simp;omega),World.cell?_alloc_lt _ _ t htl];exact ht0)
  (by rw[htd,World.frozen?_alloc_old _ _ t (by simp;omega),World.frozen?_alloc_old _ _ t (by simp;omega),World.frozen?_alloc_old _ _ t (by simp;omega),World.frozen?_alloc_old _ _ t (a2g htl)];exact hf0)
 rw[htd]at st;go_enter func53,ntmps53;go_wp2;refine wp_loop_rounds 1 ?_;rw[rounds_succ];go_wp2;go_ret;exact⟨rfl,rfl⟩
end Go.Proofs.YtgmfehnnebkaoaaGreatDoor
namespace Go.Proofs.YtgmfehnnebkaoaaGreatDoor
open Go.Proofs.Tryz
open Go.RowKit
def jH(w:World):Prop:=w.cell? ⟨0,0,none⟩=some (.iface 184 (.agg #[.pointer (some ⟨8,59,none⟩)]))
theorem rM(c:Int)(w:World)(f:jH w) :
  CD 29 #[fO c] w (.int .i64 c):=by
 by_cases h:c=0
 . subst h;have d:fO 0 = .nilIface:=rfl;rw[d];go_enter func29,ntmps29;go_wp2_with fail;refine(OE _ _).mono ?_;rintro e w1 ⟨rfl,a⟩;rw[a];clear a;go_wp2;go_ret;exact⟨rfl,(a0c _ _).alloc (a0a _) _⟩
 .
  have d:fO c = .iface 90 (.agg #[.int .i64 c]):=by unfold fO;rw[a0e h]
  rw[d];have g:0<w.heap.size:=World.block_lt_of_cell? _ _ f;have b:(w.alloc (.cells #[.int .i64 0] 90)).cell? ⟨0,0,none⟩=some (.iface 184 (.agg #[.pointer (some ⟨8,59,none⟩)])):=by
   rw[World.cell?_alloc_past _ _ _ g];exact f
  have i:=af (OD c w.heap.size (.int .i64 0) (w.alloc (.cells #[.int .i64 0] 90)) b (by simp) (by simp));clear d b f h;go_enter func29,ntmps29;go_wp2_with fail;refine(ae i).mono ?_;rintro e w1 ⟨rfl,a⟩;have k:w1.cell? ⟨w.heap.size,0,none⟩=some (.int .i64 c):=by
   rw[a];refine World.cell?_setCell_same _ _ _ (u:=.int .i64 0) ?_;rw[World.cell?_alloc_past _ _ _ (by first|(simp;done)|(simp;omega)),World.cell?_alloc_past _ _ _ (by first|(simp;done)|(simp;omega)),World.cell?_alloc_past _ _ _ (by first|(simp;done)|(simp;omega)),World.cell?_alloc_past _ _ _ (by first|(simp;done)|(simp;omega))];simp
  have j:Hid (Below w.heap.size w w1):=by
   rw[a];refine ai ?_ (a0a _) _;exact(((((a0c _ _).alloc (a0a _) _).alloc (by simp) _).alloc (by simp;omega) _).alloc (by simp;omega) _).alloc (by simp;omega) _
  clear a i;go_wp2;go_ret;exact⟨rfl,ae j⟩
theorem jQ(a:Option Addr)(cap:Nat)(l:List En)(n:Nat)(r:l.length=n)(m:Int)(w:World)(h:iV w a l)(C:(n:Int)<=1048576)(g:(n:Int)<=(cap:Int))
  (z:∀i,i<n->(l.getD i default).n.size<=1048576/\((l.getD i default).t.size:Int)<=9223372036854775807) (y:w.cell? ⟨2,0,none⟩=some (.int .i64 m)) (x:jH w) :
  CD 11 #[.slice a n cap] w (.bool (ci l)):=by
 have u:=af (yL a cap l n r m w h C g z y);have s:=af x;have v:Hid (∀c:Int,(c=0<->∀i,i<n->iH l i=0)->ci l=decide (c=0)):=by
  intro c b;rw[←r]at b;rw[←qR]at b;cases A:ci l
  . rw[A]at b;simp at b;simp[b]
  . rw[A]at b;simp at b;simp[b]
 clear h z y x r;go_enter func11,ntmps11;go_wp2_with fail;refine(ae u).mono ?_;rintro e w1 ⟨⟨c,rfl,b,q⟩,d⟩;have B:=af (ae v c b);have j:=af d;have o:Hid (jH w1):=(d.cell (p:=⟨0,0,none⟩) (World.block_lt_of_cell? _ _ (ae s))).trans (ae s);clear b q d u v;go_wp2_with fail;refine(rM c _ (ae o)).mono ?_;rintro e w2 ⟨rfl,f⟩;have k:=af (ah (ae j) f);clear f;go_wp2;go_ret;exact⟨ak (by rw[ae B];rfl),ae k⟩
end Go.Proofs.YtgmfehnnebkaoaaGreatDoor
