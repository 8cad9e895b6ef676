/- Texts. -/
import Derived.Test.YtckocaibjciplaaGreatDoorM27
import Derived.Test.YtckocaibjciplaaGreatDoorM5
import Derived.Test.YtckocaibjciplaaGreatDoorM31
import Derived.Stop.Asserts
set_option linter.all false
set_option maxRecDepth 100000
set_option maxHeartbeats 4000000
namespace Go.Proofs.YtckocaibjciplaaGreatDoor
open Go.Proofs.Tryz
open Go.RowKit Corb
variable {T T':List UInt8}{V p q sz:Nat}
def kU.ku{w w':World}{b g:Nat}{es:List (Int×Value)}(h:kU w g es)(f:KU b w w')(c:g≠b):kU w' g es:=by
 unfold kU at h ⊢;have a:g<w.heap.size:=(Array.getElem?_eq_some_iff.1 h).1;rw[f.2 g a c (by intro e fr d;rw[h]at d;cases d)];exact h
def sg:List (Int×Value):=[(0,.func (.func 229) #[] #[]),(1,.func (.func 230) #[] #[]),(2,.func (.func 231) #[] #[])]
def GN(h:dK V sz p T=some (T',q)):q<=sz/\p<=q/\(T.length<=300->T'.length<=300):=yT h
def MW(h:FN V sz p T=some (T',q)):q<=sz/\p<=q/\(T.length<=300->T'.length<=300):=by
 have:=AV h;exact⟨this.1,by omega,this.2.2⟩
def Og(h:wB V sz p T=some (T',q)):q<=sz/\p<=q/\(T.length<=300->T'.length<=300):=ID h
def PF:Value:=.nilFunc
def LC(W:World):(zeroValue 303).run prog W = .ok PF W:=by kernel_rfl
def PtI(b:Nat)(s:ByteArray)(d:Option (List UInt8×Nat))(w:World)(v:Value)(wr:World):Prop:=
 ∃(l:Bool) (p:Nat) (T:List UInt8),v = .bool l/\KU b w wr/\Sou wr b s p T/\T.length<=300/\p<=8*s.size/\kU wr w.heap.size sg/\(if l=true then some (T,p)else gi (ak s) (8*s.size) p T)=d
def kX{B:Nat}{a w:World}{b:Nat}(h:Below B a w)(hb:B<=b)(o:Obj):Below B a (w.putObj b o):=by
 refine h.trans ⟨rfl,rfl,rfl,by simp[World.putObj],fun k c=>?_⟩;have:k≠b:=by omega
 simp[World.putObj,Ne.symm this]
def KO(b p:Nat)(s:ByteArray)(T:List UInt8)(w:World)(h:Sou w b s p T)(V:T.length<=300)(P:p<=8*s.size)(hs:s.size<=2000000)(hO:dG w)(hb:1<b) :
  Calls prog 195 #[.pointer b] w (dk w b s (fF (ak s) (8*s.size) p T)):=by
 have ad:=@run_makeMap prog;have Q:=underlying304;have o:=a2f;obtain⟨d,hd⟩:∃d,gi (ak s) (8*s.size) p T=d:=⟨_,rfl⟩;unfold fF;rw[hd];have Y:=h.lt;have G:w.heap.size≠b:=by omega
 have m0:=Ix w;obtain⟨w1,O,m1,e1⟩:=oB Q o _ _ _ 0 (.func (.func 229) #[] #[]) m0 (by simp);obtain⟨w2,Z,m2,e2⟩:=oB Q o _ _ _ 1 (.func (.func 230) #[] #[]) m1 (by simp);obtain⟨w3,r3,m3,e3⟩:=oB Q o _ _ _ 2 (.func (.func 231) #[] #[]) m2 (by simp);have S:Below w.heap.size w w1:=by rw[e1];exact kX ((a0c _ w).alloc (a0a _) _) (a0a _) _
 have U:Below w.heap.size w w2:=by rw[e2];exact kX S (a0a _) _
 have N:Below w.heap.size w w3:=by rw[e3];exact kX U (a0a _) _
 simp only[a1a,a1o]at m3;have J:Hid (PtI b s d w (.bool false) w3):=⟨false,p,T,rfl,(KU.refl b w).later N Y,h.later N,V,P,m3,by simpa using hd⟩;have HG:=af (fun W k v (h:kU W w.heap.size sg) hm=>Iw Q o W w.heap.size _ k v true h hm (by decide));have aa:=af (fun W (h:kU W w.heap.size sg)=>map_none Q o W w.heap.size _ 3 _ h (by decide) (LC W));have I:=af (a0b hs (a0b hO (a0b hb Y)));clear e1 e2 e3 S U N m0 m1 m2 m3 Q o hs hO hb V P h hd;go_enter func195,ntmps195;go_wp2_with fail;clear O Z r3 ad
 go_loopw [3,4,5] (fun v _ _ wr=>PtI b s d w v wr) (fun _ _ _ wr=>8*s.size-mu b wr)
 case atStart=>exact J
 case round=>
  obtain⟨l,p,T,rfl,X,H,V,P,hM,hd⟩:=hrel;clear J;have n:=af (a0b X (a0b H (a0b V (a0b P hM))));have L:=af (H.place P);have f:=af hd;clear X H V P hM hd;cases l
  .
   simp only[a06,a07]at f;rw[nJ]at f;have y:=af (ct b p 1 s wr n.2.1.1 I.1 (by omega));unfold j7 at y;rcases A:rdN (ak s) (8*s.size) p 1 with _|⟨a,q1⟩
   .
    rw[A]at y f;have F:Hid (d=none):=by show d=none;rw[←ae f];rfl
    clear A f;go_wp2_with fail;refine y.mono ?_;rintro e x1⟨B,rfl⟩;refine⟨rfl,?_⟩;unfold dk;rw[ae F];exact⟨n.1.trans B.ku,rfl⟩
   rw[A]at y f;simp only[a0f]at f;have M:=af (bK A);have HA:Hid (((a:Int) == 1)=decide (a=1)):=by show _=_;rw[a2g];simp;omega
   clear A;go_wp2_with fail;refine y.mono ?_;rintro e x1⟨B,rfl,O⟩;have z:=af (a0b (n.1.trans B.ku) (a0b (n.2.1.keep1 B O) (n.2.2.2.2.ku B.ku G)));clear B O y;obtain⟨l,hl⟩:∃l,((a:Int) == 1)=l:=⟨_,rfl⟩;have Hl:Hid (l=decide (a=1)):=by show _=_;rw[←hl];exact HA
   have y:=af (ct b q1 2 s x1 z.2.1.1 I.1 (by omega));unfold j7 at y;rcases h2:rdN (ak s) (8*s.size) q1 2 with _|⟨k,x⟩
   .
    rw[h2]at y f;have F:Hid (d=none):=by show d=none;rw[←ae f];rfl
    clear h2 f;go_wp2_with fail;refine y.mono ?_;rintro e x2⟨R,rfl⟩;refine⟨rfl,?_⟩;unfold dk;rw[ae F];exact⟨z.1.trans R.ku,rfl⟩
   rw[h2]at y f;simp only[a0f]at f;have D:=af (bK h2);have ac:k<4:=by have:=(bK h2).2.2.2;omega
   clear h2;go_wp2_with fail;refine y.mono ?_;rintro e x2⟨R,rfl,Z⟩;have c:=af (a0b (z.1.trans R.ku) (a0b (z.2.1.keep1 R Z) (z.2.2.ku R.ku G)));have ab:Hid (dG x2):=I.2.1.below c.1.1 I.2.2.1;clear R Z y z hl HA;have e4:k=0∨k=1∨k=2∨k=3:=by omega
   clear ac;rcases e4 with o|o|o|o
   .
    have j:(k:Int)=0:=by omega
    have g1:(Instr.lookup 304 (.map (some w.heap.size)) (.int .i64 (k:Int)) true).run prog x2 = .ok (.tuple #[.func (.func 229) #[] #[],.bool true]) x2:=by rw[j];exact HG x2 0 (.func (.func 229) #[] #[]) (ae c).2.2 (by unfold sg;simp)
    have K:Hid (fZ (ak s) (8*s.size) k x T=dK (ak s) (8*s.size) x T):=by show _=_;rw[o];unfold fZ;simp
    rw[ae K]at f;have i:=af (xP b x s T x2 c.2.1 n.2.2.1 D.1 I.1);unfold dk at i;clear j K o;go_wp2_with fail;refine(dx _).mono ?_;rintro e x3⟨rfl,m⟩;rw[m];clear m x3 g1;rcases r:dK (ak s) (8*s.size) x T with _|⟨T',u⟩
    .
     rw[r]at i f;have F:Hid (d=none):=by show d=none;rw[←ae f];rfl
     clear r f;go_wp2_with fail;refine i.mono ?_;rintro e x4⟨t,rfl⟩;refine⟨rfl,?_⟩;unfold dk;rw[ae F];exact⟨c.1.trans t,rfl⟩
    rw[r]at i f;simp only[a0f]at f;have g:Hid (u<=8*s.size/\x<=u/\(T.length<=300->T'.length<=300)):=GN r;clear r;go_wp2_with fail;refine i.mono ?_;rintro e x4⟨t,rfl,s4⟩;have J:Hid (PtI b s d w (.bool l) x4):=⟨l,u,T',rfl,c.1.trans t,s4,g.2.2 n.2.2.1,g.1,c.2.2.ku t G,by rw[ae Hl];simpa using ae f⟩;have C:=af (s4.place g.1);have E:Hid (p<u/\u<=8*s.size):=⟨by have:=ae M;have:=ae D;have:=ae g;omega,g.1⟩;clear t s4 i c n;go_wp2_with fail;go_roundw
    case rel=>exact J
    case measure=>rw[ae C,ae L];have:=ae E;omega
   .
    have j:(k:Int)=1:=by omega
    have g1:(Instr.lookup 304 (.map (some w.heap.size)) (.int .i64 (k:Int)) true).run prog x2 = .ok (.tuple #[.func (.func 230) #[] #[],.bool true]) x2:=by rw[j];exact HG x2 1 (.func (.func 230) #[] #[]) (ae c).2.2 (by unfold sg;simp)
    have K:Hid (fZ (ak s) (8*s.size) k x T=FN (ak s) (8*s.size) x T):=by show _=_;rw[o];unfold fZ;simp
    rw[ae K]at f;have i:=af (xu b x s T x2 c.2.1 n.2.2.1 D.1 I.1);unfold dk at i;clear j K o;go_wp2_with fail;refine(dx _).mono ?_;rintro e x3⟨rfl,m⟩;rw[m];clear m x3 g1;rcases r:FN (ak s) (8*s.size) x T with _|⟨T',u⟩
    .
     rw[r]at i f;have F:Hid (d=none):=by show d=none;rw[←ae f];rfl
     clear r f;go_wp2_with fail;refine i.mono ?_;rintro e x4⟨t,rfl⟩;refine⟨rfl,?_⟩;unfold dk;rw[ae F];exact⟨c.1.trans t,rfl⟩
    rw[r]at i f;simp only[a0f]at f;have g:Hid (u<=8*s.size/\x<=u/\(T.length<=300->T'.length<=300)):=MW r;clear r;go_wp2_with fail;refine i.mono ?_;rintro e x4⟨t,rfl,s4⟩;have J:Hid (PtI b s d w (.bool l) x4):=⟨l,u,T',rfl,c.1.trans t,s4,g.2.2 n.2.2.1,g.1,c.2.2.ku t G,by rw[ae Hl];simpa using ae f⟩;have C:=af (s4.place g.1);have E:Hid (p<u/\u<=8*s.size):=⟨by have:=ae M;have:=ae D;have:=ae g;omega,g.1⟩;clear t s4 i c n;go_wp2_with fail;go_roundw
    case rel=>exact J
    case measure=>rw[ae C,ae L];have:=ae E;omega
   .
    have j:(k:Int)=2:=by omega
    have g1:(Instr.lookup 304 (.map (some w.heap.size)) (.int .i64 (k:Int)) true).run prog x2 = .ok (.tuple #[.func (.func 231) #[] #[],.bool true]) x2:=by rw[j];exact HG x2 2 (.func (.func 231) #[] #[]) (ae c).2.2 (by unfold sg;simp)
    have K:Hid (fZ (ak s) (8*s.size) k x T=wB (ak s) (8*s.size) x T):=by show _=_;rw[o];unfold fZ;simp
    rw[ae K]at f;have i:=af (D4 b x s T x2 c.2.1 n.2.2.1 I.1 ab I.2.2.1);unfold dk at i;clear j K o;go_wp2_with fail;refine(dx _).mono ?_;rintro e x3⟨rfl,m⟩;rw[m];clear m x3 g1;rcases r:wB (ak s) (8*s.size) x T with _|⟨T',u⟩
    .
     rw[r]at i f;have F:Hid (d=none):=by show d=none;rw[←ae f];rfl
     clear r f;go_wp2_with fail;refine i.mono ?_;rintro e x4⟨t,rfl⟩;refine⟨rfl,?_⟩;unfold dk;rw[ae F];exact⟨c.1.trans t,rfl⟩
    rw[r]at i f;simp only[a0f]at f;have g:Hid (u<=8*s.size/\x<=u/\(T.length<=300->T'.length<=300)):=Og r;clear r;go_wp2_with fail;refine i.mono ?_;rintro e x4⟨t,rfl,s4⟩;have J:Hid (PtI b s d w (.bool l) x4):=⟨l,u,T',rfl,c.1.trans t,s4,g.2.2 n.2.2.1,g.1,c.2.2.ku t G,by rw[ae Hl];simpa using ae f⟩;have C:=af (s4.place g.1);have E:Hid (p<u/\u<=8*s.size):=⟨by have:=ae M;have:=ae D;have:=ae g;omega,g.1⟩;clear t s4 i c n;go_wp2_with fail;go_roundw
    case rel=>exact J
    case measure=>rw[ae C,ae L];have:=ae E;omega
   .
    have j:(k:Int)=3:=by omega
    have g1:(Instr.lookup 304 (.map (some w.heap.size)) (.int .i64 (k:Int)) true).run prog x2 = .ok (.tuple #[PF,.bool false]) x2:=by rw[j];exact aa x2 (ae c).2.2
    have F:Hid (d=none):=by show d=none;rw[←ae f,o];unfold fZ;simp
    clear j o f;unfold PF at g1;go_wp2_with fail;refine(fT _).mono ?_;rintro e x3⟨rfl,m⟩;rw[m];clear m x3;refine⟨rfl,?_⟩;unfold dk;rw[ae F];exact⟨c.1,rfl⟩
  .
   simp only[a0V]at f;have i:=af (pf b p s wr n.2.1.1 I.1 n.2.2.2.1);rcases A:ge (ak s) p with _|q
   . rw[A]at i;have H1:=af A;clear A;go_wp2_with fail;refine i.mono ?_;rintro e x1⟨B,rfl⟩;refine⟨rfl,?_⟩;unfold dk;rw[←ae f];simp only[a0f];rw[ae H1];exact⟨n.1.trans B.ku,rfl⟩
   .
    rw[A]at i;have H1:=af A;clear A;go_wp2_with fail;refine i.mono ?_;rintro e x1⟨B,rfl,O⟩;have HY:=af (a0b (n.1.trans B.ku) (n.2.1.keep1 B O));clear B O i n;go_wp2
    go_end0
    unfold dk;rw[←ae f];simp only[a0f];rw[ae H1];exact⟨HY.1,trivial,HY.2⟩
def Fz(w:World) :
  CallsD prog 194 #[] .returning w fun e u' w'=>e = .returned (.tuple #[])/\u' = .returning/\w'=w:=by
 refine callsD_of_wpS func194 rfl fun a c b=>?_;apply wpS_seq;apply wpS_region;simp[wpOpsS,go_sem,recoverD,b,ntmps194,Exit.thenS];refine wpS_of_wp ?_;go_wp2_with fail;cases a
 simp_all [bodyPostS,results,results194]
def BE(w:World) :
  CallsD prog 194 #[] (.panicking [{ v:=.iface 277 (.agg #[]),recovered:=false }]) w fun e u' w'=>e = .returned (.tuple #[])/\u' = .panicking [{ v:=.iface 277 (.agg #[]),recovered:=true }]/\Below w.heap.size w w':=by
 refine callsD_of_wpS func194 rfl fun d c b=>?_;apply wpS_seq;apply wpS_region;simp[wpOpsS,go_sem,recoverD,b,ntmps194,Exit.thenS];have a:(Instr.typeAssert (.iface 277 (.agg #[])) 20 277 true).run prog w = .ok (.tuple #[.agg #[],.bool true]) w:=by kernel_rfl
 refine wpS_of_wp ?_;go_wp2_with fail;simp[bodyPostS,results,results194];exact cC
def UnP(w:World)(b:Nat)(s:ByteArray)(d:Option (List UInt8×Nat))(e:Ending)(w':World):Prop:=
 KU b w w'/\match d with
  | none=>e = .returned (.bool false)
  | some (T,q)=>e = .returned (.bool true)/\Sou w' b s q T
def AY(b p:Nat)(s:ByteArray)(T:List UInt8)(w:World)(h:Sou w b s p T)(j:T.length<=300)(k:p<=8*s.size)(l:s.size<=2000000)(i:dG w)(hb:1<b) :
  Calls prog 161 #[.pointer b] w (UnP w b s (fF (ak s) (8*s.size) p T)):=by
 have HP:=af (KO b p s T w h j k l i hb);have g:=h.lt;clear h j k l i hb;generalize fF (ak s) (8*s.size) p T=d at *
 unfold dk at HP;unfold UnP;rcases d with _|⟨T',q⟩
 .
  go_enter_defers func161,ntmps161
  go_wp2_with fail;refine HP.mono ?_;rintro e x1⟨a,rfl⟩;have c:=af (a0b a (show b<x1.heap.size from a0h g a.1.size));clear a HP;unfold lc;refine leaves_cons (f:=194) (args:=#[]) (by simp) (by simp[go_sem]) ?_;refine(BE x1).mono ?_;rintro e u' w''⟨rfl,rfl,m⟩;have n:=c.1.later m c.2;simp[Leaves,settle,results,results161,go_sem];exact n
 .
  go_enter_defers func161,ntmps161
  go_wp2_with fail;refine HP.mono ?_;rintro e x1⟨a,rfl,s1⟩;have c:=af (a0b a s1);clear a s1 HP;go_wp2_with fail;refine leaves_cons (f:=194) (args:=#[]) (by simp) (by simp[go_sem]) ?_;refine(Fz x1).mono ?_;rintro e u' w''⟨rfl,rfl,rfl⟩;simp[Leaves,settle,results,results161,go_sem];exact c
end Go.Proofs.YtckocaibjciplaaGreatDoor
namespace Go.Proofs.YtckocaibjciplaaGreatDoor
open Go.Proofs.Tryz
open Go.RowKit Go.Extern.Stop Go.Stop Go.Extern
def Sg(t:Value)(w:World) :
  Calls prog 61 #[.nilIface,t] w fun e w'=>e = .returned (.bool false)/\w'=w:=by
 go_enter func61,ntmps61;go_wp2;go_ret;exact⟨rfl,rfl⟩
def LX(t:Addr)(w:World):(ReflectliteValue.unpack (.iface 105 (.pointer (some t)))).run prog w
  = .ok (.agg #[.pointer (some ⟨5,105,none⟩),.pointer w.heap.size,.int .u64 150]) (w.alloc (.cells #[.pointer (some t)] 105)):=by kernel_rfl
def LW(c:Int)(w:World):(ReflectliteValue.unpack (.iface 99 (.agg #[c]))).run prog w
  = .ok (.agg #[.pointer (some ⟨5,99,none⟩),.pointer w.heap.size,.int .u64 153]) (w.alloc (.cells #[c] 99)):=by kernel_rfl
def PY(a:Addr)(w:World):(ReflectliteValue.methodAny (ReflectliteValue.valueError "reflectlite.Value.Type" 0) (fun t _ _ _=>ReflectliteType.toType t) #[.agg #[.pointer (some ⟨5,105,none⟩),.pointer (some a),.int .u64 150]]).run prog w
  = .ok (.iface 170 (.agg #[.pointer (some ⟨5,105,none⟩)])) w:=by kernel_rfl
def zu(h:Value)(w:World):(Go.method 480 170 (.agg #[h]) "Kind").run prog w = .ok (293,h) w:=by kernel_rfl
def PX(w:World):((ReflectliteType.abiMethod fun t=>(fun a:Nat=>Value.int IntKind.u8 (a:Int)) <$> Rtype.kind t) #[.pointer (some ⟨5,105,none⟩)]).run prog w = .ok (.int .u8 22) w:=by kernel_rfl
def PV(w:World):((ReflectliteType.abiMethod fun t=>(fun a:Nat=>Value.int IntKind.u8 (a:Int)) <$> Rtype.kind t) #[.pointer (some ⟨5,99,none⟩)]).run prog w = .ok (.int .u8 25) w:=by kernel_rfl
def Te(z:Sem Value)(f:TypeId->Addr->Nat->Nat->Sem Value)(v:Value) :
  ReflectliteValue.method z f #[v]=(do match ←ReflectliteValue.parts v with|none=>z|some (t,a,fl)=>f t a fl (fl%32)):=rfl
def Bi(a:Addr)(w:World):(ReflectliteValue.parts (.agg #[.pointer (some ⟨5,105,none⟩),.pointer (some a),.int .u64 150])).run prog w = .ok (some (105,a,150)) w:=by kernel_rfl
def PU(a p:Addr)(W:World)(ha:W.cell? a=some (.pointer (some p))) :
  (ReflectliteValue.method (ReflectliteValue.valueError "reflectlite.Value.IsNil" 0) ReflectliteValue.isNil #[.agg #[.pointer (some ⟨5,105,none⟩),.pointer (some a),.int .u64 150]]).run prog W = .ok (.bool false) W:=by
 rw[Te];simp only[a2M,Bi,Result.andThen];simp[ReflectliteValue.isNil,loadVar,isAgg,underlying,underlying105,ha,Result.andThen]
def zr(h:Value)(w:World):(Go.method 480 170 (.agg #[h]) "Elem").run prog w = .ok (303,.agg #[h]) w:=by kernel_rfl
def zt(h:Value)(w:World):(Go.method 480 170 (.agg #[h]) "Implements").run prog w = .ok (304,.agg #[h]) w:=by kernel_rfl
def Bh(h:Value)(w:World):(Go.method 480 170 (.agg #[h]) "AssignableTo").run prog w = .ok (301,.agg #[h]) w:=by kernel_rfl
def PR(w:World):(ReflectliteType.method ReflectliteType.elem #[.agg #[.pointer (some ⟨5,105,none⟩)]]).run prog w = .ok (.iface 170 (.agg #[.pointer (some ⟨5,99,none⟩)])) w:=by kernel_rfl
def PT(w:World):(ReflectliteType.relation "Implements" ReflectliteType.implements_ #[.agg #[.pointer (some ⟨5,99,none⟩)],.iface 170 (.agg #[.pointer (some ⟨5,54,none⟩)])]).run prog w = .ok (.bool true) w:=by kernel_rfl
def I7(v:Value)(w:World):(ReflectliteType.typeOf #[.iface 99 v]).run prog w = .ok (.iface 170 (.agg #[.pointer (some ⟨5,99,none⟩)])) w:=by kernel_rfl
def Se(w:World):(ReflectliteType.relation "AssignableTo" ReflectliteType.assignableTo #[.agg #[.pointer (some ⟨5,99,none⟩)],.iface 170 (.agg #[.pointer (some ⟨5,99,none⟩)])]).run prog w = .ok (.bool true) w:=by kernel_rfl
def LU(w:World):(Rtype.elem? 105).run prog w = .ok (some 99) w:=by kernel_rfl
def Td(p:Addr)(w:World):(ReflectliteValue.mk 99 p ReflectliteValue.flagAddr).run prog w = .ok (.agg #[.pointer (some ⟨5,99,none⟩),.pointer (some p),.int .u64 409]) w:=by kernel_rfl
def PS(a p:Addr)(W:World)(ha:W.cell? a=some (.pointer (some p))) :
  (ReflectliteValue.method (ReflectliteValue.valueError "reflectlite.Value.Elem" 0) ReflectliteValue.elem #[.agg #[.pointer (some ⟨5,105,none⟩),.pointer (some a),.int .u64 150]]).run prog W
   = .ok (.agg #[.pointer (some ⟨5,99,none⟩),.pointer (some p),.int .u64 409]) W:=by
 rw[Te];simp only[a2M,Bi,Result.andThen];simp[ReflectliteValue.elem,loadVar,isAgg,underlying,underlying105,ha,Result.andThen,LU,Td]
def I6(a:Addr)(w:World):(ReflectliteValue.parts (.agg #[.pointer (some ⟨5,99,none⟩),.pointer (some a),.int .u64 409])).run prog w = .ok (some (99,a,409)) w:=by kernel_rfl
def LV(a:Addr)(w:World):(ReflectliteValue.parts (.agg #[.pointer (some ⟨5,99,none⟩),.pointer (some a),.int .u64 153])).run prog w = .ok (some (99,a,153)) w:=by kernel_rfl
def LS(w:World):(Rtype.directlyAssignable 99 99).run prog w = .ok true w:=by kernel_rfl
def Tf(tb b:Nat)(c:Int)(old:Value)(W:World)(hb:W.cell? ⟨b,0,none⟩=some (.int .i64 c))(e:W.cell? ⟨tb,0,none⟩=some old)(a:W.frozen? ⟨tb,0,none⟩=false) :
  (ReflectliteValue.set #[.agg #[.pointer (some ⟨5,99,none⟩),.pointer tb,.int .u64 409],.agg #[.pointer (some ⟨5,99,none⟩),.pointer b,.int .u64 153]]).run prog W
   = .ok (.tuple #[]) (W.setCell ⟨tb,0,none⟩ (.int .i64 c)):=by
 show(Bind.bind (ReflectliteValue.parts _) _:Sem Value).run prog W=_;simp only[Array.getLit,List.getElem_toArray,List.getElem_cons_zero,List.getElem_cons_succ,a2M,I6,LV,Result.andThen];have d:(loadCells ⟨b,0,none⟩ 1).run prog W = .ok #[c] W:=by simp[loadCells,loadCellsFrom,go_sem,hb]
 simp[ReflectliteValue.flagAddr,loadVar,isAgg,underlying,underlying99,Result.andThen,LS,storeVar,Value.cells,d];simp[storeCells,Addr.add];rw[run_store prog W ⟨tb,0,none⟩ _ _ (by rfl)];simp[e,a]
def Sf(c:Int)(tb:Nat)(old:Value)(w:World)(hg:w.cell? ⟨0,0,none⟩=some (.iface 170 (.agg #[.pointer (some ⟨5,54,none⟩)])))(ht0:w.cell? ⟨tb,0,none⟩=some old)(hf0:w.frozen? ⟨tb,0,none⟩=false) :
  Calls prog 61 #[.iface 99 (.agg #[c]),.iface 105 (.pointer tb)] w fun ev w'=>ev = .returned (.bool true)/\w'=((((w.alloc (.cells #[.pointer tb] 105)).alloc (.cells #[.pointer (some ⟨5,105,none⟩),.pointer w.heap.size,.int .u64 150] 134)).alloc (.cells #[.pointer (some ⟨5,105,none⟩),.pointer w.heap.size,.int .u64 150] 134)).alloc (.cells #[c] 99)).setCell ⟨tb,0,none⟩ (.int .i64 c):=by
 have h6:=@a1X prog 100 _ (fun args=>ReflectliteValue.unpack (args.getD 0 (.tuple #[]))) func100 (by kernel_rfl) (by kernel_rfl) (by kernel_rfl) (by kernel_rfl);have h7:=@a1X prog 101 _ (ReflectliteValue.methodAny (ReflectliteValue.valueError "reflectlite.Value.Type" 0) (fun t _ _ _=>ReflectliteType.toType t)) func101 (by kernel_rfl) (by kernel_rfl) (by kernel_rfl) (by kernel_rfl);have h8:=@a1X prog 102 _ (ReflectliteValue.method (ReflectliteValue.valueError "reflectlite.Value.IsNil" 0) ReflectliteValue.isNil) func102 (by kernel_rfl) (by kernel_rfl) (by kernel_rfl) (by kernel_rfl);have h27:=@a1X prog 293 _ (ReflectliteType.abiMethod fun t=>do pure (.int .u8 (←Rtype.kind t))) func293 (by kernel_rfl) (by kernel_rfl) (by kernel_rfl) (by kernel_rfl);have h37:=@a1X prog 303 _ (ReflectliteType.method ReflectliteType.elem) func303 (by kernel_rfl) (by kernel_rfl) (by kernel_rfl) (by kernel_rfl);have h38:=@a1X prog 304 _ (ReflectliteType.relation "Implements" ReflectliteType.implements_) func304 (by kernel_rfl) (by kernel_rfl) (by kernel_rfl) (by kernel_rfl);have h10:=@a1X prog 132 _ ReflectliteType.typeOf func132 (by kernel_rfl) (by kernel_rfl) (by kernel_rfl) (by kernel_rfl);have h35:=@a1X prog 301 _ (ReflectliteType.relation "AssignableTo" ReflectliteType.assignableTo) func301 (by kernel_rfl) (by kernel_rfl) (by kernel_rfl) (by kernel_rfl);have h11:=@a1X prog 133 _ (ReflectliteValue.method (ReflectliteValue.valueError "reflectlite.Value.Elem" 0) ReflectliteValue.elem) func133 (by kernel_rfl) (by kernel_rfl) (by kernel_rfl) (by kernel_rfl);have h12:=@a1X prog 134 _ ReflectliteValue.set func134 (by kernel_rfl) (by kernel_rfl) (by kernel_rfl) (by kernel_rfl);have tO:=I7;have mA:=Bh;have a25:=Se;have v25:=LW;have f6:=LX;have f7:=PY;have mK:=zu;have mE:=zr;have mI:=zt;have k27:=PX;have k25:=PV;have e27:=PR;have i25:=PT;generalize htd:(⟨tb,0,none⟩:Addr)=t at *
 have n8:=PU ⟨w.heap.size,0,none⟩ t ((w.alloc (.cells #[.pointer (some t)] 105)).alloc (.cells #[.pointer (some ⟨5,105,none⟩),.pointer w.heap.size,.int .u64 150] 134)) (by simp);have hlt:0<w.heap.size:=by
  rcases a2l w.heap.size with h0|h
  . simp[World.cell?,h0]at hg
  . exact h
 have hg2:((w.alloc (.cells #[.pointer (some t)] 105)).alloc (.cells #[.pointer (some ⟨5,105,none⟩),.pointer w.heap.size,.int .u64 150] 134)).cell? ⟨0,0,none⟩=some (.iface 170 (.agg #[.pointer (some ⟨5,54,none⟩)])):=by
  rw[World.cell?_alloc_lt _ _ ⟨0,0,none⟩ (by simp),World.cell?_alloc_lt _ _ ⟨0,0,none⟩ hlt];exact hg
 have htl:t.block<w.heap.size:=by
  rcases a1l t.block w.heap.size with h|h
  . exact h
  . simp[World.cell?,Array.getElem?_eq_none h]at ht0
 have el:=PS ⟨w.heap.size,0,none⟩ t (((w.alloc (.cells #[.pointer (some t)] 105)).alloc (.cells #[.pointer (some ⟨5,105,none⟩),.pointer w.heap.size,.int .u64 150] 134)).alloc (.cells #[.pointer (some ⟨5,105,none⟩),.pointer w.heap.size,.int .u64 150] 134)) (by rw[World.cell?_alloc_lt _ _ ⟨w.heap.size,0,none⟩ (by simp;omega)];simp);have st:=Tf tb (w.heap.size+1+1+1) c old ((((w.alloc (.cells #[.pointer (some t)] 105)).alloc (.cells #[.pointer (some ⟨5,105,none⟩),.pointer w.heap.size,.int .u64 150] 134)).alloc (.cells #[.pointer (some ⟨5,105,none⟩),.pointer w.heap.size,.int .u64 150] 134)).alloc (.cells #[c] 99))
  (by rw[World.cell?_alloc_at _ _ _ _ (by simp)];rfl)
  (by rw[htd,World.cell?_alloc_lt _ _ t (by simp;omega),World.cell?_alloc_lt _ _ t (by simp;omega),World.cell?_alloc_lt _ _ t (by simp;omega),World.cell?_alloc_lt _ _ t htl];exact ht0)
  (by rw[htd,World.frozen?_alloc_old _ _ t (by simp;omega),World.frozen?_alloc_old _ _ t (by simp;omega),World.frozen?_alloc_old _ _ t (by simp;omega),World.frozen?_alloc_old _ _ t (a1M htl)];exact hf0)
 rw[htd]at st;go_enter func61,ntmps61;go_wp2;refine wp_loop_rounds 1 ?_;rw[rounds_succ];go_wp2;go_ret;exact⟨rfl,rfl⟩
end Go.Proofs.YtckocaibjciplaaGreatDoor
namespace Go.Proofs.YtckocaibjciplaaGreatDoor
open Go.Proofs.Tryz
open Go.RowKit
def mO(w:World):Prop:=w.cell? ⟨0,0,none⟩=some (.iface 170 (.agg #[.pointer (some ⟨5,54,none⟩)]))
def kT(c:Int)(w:World)(f:mO w) :
  Ds 29 #[dJ c] w (.int .i64 c):=by
 by_cases h:c=0
 . subst h;have d:dJ 0 = .nilIface:=rfl;rw[d];go_enter func29,ntmps29;go_wp2_with fail;refine(Sg _ _).mono ?_;rintro e w1⟨rfl,a⟩;rw[a];clear a;go_wp2;go_ret;exact⟨rfl,cC⟩
 .
  have d:dJ c = .iface 99 (.agg #[c]):=by unfold dJ;rw[a0e h]
  rw[d];have g:0<w.heap.size:=World.block_lt_of_cell? _ _ f;have b:(w.alloc (.cells #[.int .i64 0] 99)).cell? ⟨0,0,none⟩=some (.iface 170 (.agg #[.pointer (some ⟨5,54,none⟩)])):=by
   rw[World.cell?_alloc_past _ _ _ g];exact f
  have i:=af (Sf c w.heap.size (.int .i64 0) (w.alloc (.cells #[.int .i64 0] 99)) b (by simp) (by simp));clear d b f h;go_enter func29,ntmps29;go_wp2_with fail;refine i.mono ?_;rintro e w1⟨rfl,a⟩;have k:w1.cell? ⟨w.heap.size,0,none⟩=some (.int .i64 c):=by
   rw[a];refine World.cell?_setCell_same _ _ _ (u:=.int .i64 0) ?_;rw[World.cell?_alloc_past _ _ _ (by first|(simp;done)|(simp;omega)),World.cell?_alloc_past _ _ _ (by first|(simp;done)|(simp;omega)),World.cell?_alloc_past _ _ _ (by first|(simp;done)|(simp;omega)),World.cell?_alloc_past _ _ _ (by first|(simp;done)|(simp;omega))];simp
  have j:Hid (Below w.heap.size w w1):=by
   rw[a];refine ai ?_ (a0a _) _;exact(((cC.alloc (by simp) _).alloc (by simp;omega) _).alloc (by simp;omega) _).alloc (by simp;omega) _
  clear a i;go_wp2;go_ret;exact⟨rfl,j⟩
def xB(a:Option Addr)(cap:Nat)(l:List En)(n:Nat)(r:l.length=n)(m:Int)(w:World)(h:jI w a l)(C:(n:Int)<=1048576)(g:(n:Int)<=(cap:Int))
  (z:∀i,i<n->(l.getD i default).n.size<=1048576/\((l.getD i default).t.size:Int)<=9223372036854775807) (y:w.cell? ⟨2,0,none⟩=some (.int .i64 m)) (x:mO w) :
  Ds 30 #[.slice a n cap] w (.bool (bF l)):=by
 have u:=af (Bb a cap l n r m w h C g z y);have s:=af x;have v:Hid (∀c:Int,(c=0<->∀i,i<n->jC l i=0)->bF l=decide (c=0)):=by
  intro c b;rw[←r]at b;rw[←oL]at b;cases A:bF l
  . rw[A]at b;simp at b;simp[b]
  . rw[A]at b;simp at b;simp[b]
 clear h z y x r;go_enter func30,ntmps30;go_wp2_with fail;refine u.mono ?_;rintro e w1⟨⟨c,rfl,b,q⟩,d⟩;have B:=af (ae v c b);have j:=af d;have o:Hid (mO w1):=(d.cell (p:=⟨0,0,none⟩) (World.block_lt_of_cell? _ _ s)).trans s;clear b q d u v;go_wp2_with fail;refine(kT c _ o).mono ?_;rintro e w2⟨rfl,f⟩;have k:=af (aj j f);clear f;go_wp2;go_ret;exact⟨am (by rw[ae B];rfl),k⟩
