/- Of what the proof is made: 6 texts, one behind the other. -/
import Derived.Test.YtchidddpplangaaGreatDoorM27
import Derived.Test.YtchidddpplangaaGreatDoorM23
import Derived.Test.YtchidddpplangaaGreatDoorM5
import Derived.Test.YtchidddpplangaaGreatDoorM31
import Derived.LaidEql
import Derived.Stop.Asserts
import Derived.RowKitTokens
set_option maxRecDepth 100000
set_option linter.unusedSimpArgs false
set_option linter.unusedVariables false
set_option maxHeartbeats 4000000
namespace Go.Proofs.YtchidddpplangaaGreatDoor
open Go.Proofs.Tryz
open Go.RowKit Corb
variable {T T':List UInt8}{V p q sz:Nat}
theorem jZ.ku{w w':World}{b g:Nat}{es:List (Int×Value)}(h:jZ w g es)(f:KU b w w')(c:g≠b):jZ w' g es:=by
 unfold jZ at h ⊢;have a:g<w.heap.size:=(Array.getElem?_eq_some_iff.1 h).1;rw[f.2 g a c (by intro e fr d;rw[h]at d;cases d)];exact h
def qy:List (Int×Value):=[(0,.func (.func 226) #[] #[]),(1,.func (.func 227) #[] #[]),(2,.func (.func 228) #[] #[])]
theorem D8(h:dS V sz p T=some (T',q)):q<=sz/\p<=q/\(T.length<=300->T'.length<=300):=wC h
theorem Js(h:F8 V sz p T=some (T',q)):q<=sz/\p<=q/\(T.length<=300->T'.length<=300):=by
 have:=yB h;exact⟨this.1,by omega,this.2.2⟩
theorem Kz(h:ux V sz p T=some (T',q)):q<=sz/\p<=q/\(T.length<=300->T'.length<=300):=Fb h
def LH:Value:=.nilFunc
theorem IC(W:World):(zeroValue 311).run prog W = .ok LH W:=by kernel_rfl
def PtI(b:Nat)(s:ByteArray)(d:Option (List UInt8×Nat))(w:World)(v:Value)(wr:World):Prop:=
 ∃(l:Bool) (p:Nat) (T:List UInt8),v = .bool l/\KU b w wr/\Sou wr b s p T/\T.length<=300/\p<=8*s.size/\jZ wr w.heap.size qy/\(if l=true then some (T,p)else ib (aj s) (8*s.size) p T)=d
theorem j3{B:Nat}{a w:World}{b:Nat}(h:Below B a w)(hb:B<=b)(o:Obj):Below B a (w.putObj b o):=by
 refine h.trans ⟨rfl,rfl,rfl,by simp[World.putObj],fun k c=>?_⟩;have:k≠b:=by omega
 simp[World.putObj,Ne.symm this]
theorem G8(b p:Nat)(s:ByteArray)(T:List UInt8)(w:World)(h:Sou w b s p T)(V:T.length<=300)(P:p<=8*s.size)(hs:s.size<=2000000)(hO:dT w)(hb:1<b) :
  Calls prog 210 #[.pointer (some ⟨b,0,none⟩)] w (cW w b s (fH (aj s) (8*s.size) p T)):=by
 have al:=@run_makeMap prog;have Q:=underlying312;have o:=a1U;obtain⟨d,hd⟩:∃d,ib (aj s) (8*s.size) p T=d:=⟨_,rfl⟩;unfold fH;rw[hd];have Y:=h.lt;have G:w.heap.size≠b:=by omega
 have m0:=EW w;obtain⟨w1,O,m1,e1⟩:=ni Q o _ _ _ 0 (.func (.func 226) #[] #[]) m0 (by simp);obtain⟨w2,Z,m2,e2⟩:=ni Q o _ _ _ 1 (.func (.func 227) #[] #[]) m1 (by simp);obtain⟨w3,r3,m3,e3⟩:=ni Q o _ _ _ 2 (.func (.func 228) #[] #[]) m2 (by simp);have S:Below w.heap.size w w1:=by rw[e1];exact j3 ((a0c _ w).alloc (a0a _) _) (a0a _) _
 have U:Below w.heap.size w w2:=by rw[e2];exact j3 S (a0a _) _
 have N:Below w.heap.size w w3:=by rw[e3];exact j3 U (a0a _) _
 simp only[a1G,a18]at m3;have J:Hid (PtI b s d w (.bool false) w3):=⟨false,p,T,rfl,(KU.refl b w).later N Y,h.later N,V,P,m3,by simpa using hd⟩;have HG:=ae (fun W k v (h:jZ W w.heap.size qy) hm=>EV Q o W w.heap.size _ k v true h hm (by decide));have aa:=ae (fun W (h:jZ W w.heap.size qy)=>map_none Q o W w.heap.size _ 3 _ h (by decide) (IC W));have I:=ae (a0b hs (a0b hO (a0b hb Y)));clear e1 e2 e3 S U N m0 m1 m2 m3 Q o hs hO hb V P h hd;go_enter func210,ntmps210;go_wp2_with fail;clear O Z r3 al
 go_loopw [3,4,5] (fun v _ _ wr=>PtI b s d w v wr) (fun _ _ _ wr=>8*s.size-lw b wr)
 case atStart=>exact ab J
 case round=>
  obtain⟨l,p,T,rfl,X,H,V,P,hM,hd⟩:=hrel;clear J;have n:=ae (a0b X (a0b H (a0b V (a0b P hM))));have L:=ae (H.place P);have f:=ae hd;clear X H V P hM hd;cases l
  .
   simp only[a01,a02]at f;rw[rD]at f;have y:=ae (cf b p 1 s wr (ab n).2.1.1 (ab I).1 (by omega));unfold jm at y;rcases A:rdN (aj s) (8*s.size) p 1 with _|⟨a,q1⟩
   .
    rw[A]at y f;have F:Hid (d=none):=by show d=none;rw[←ab f];rfl
    clear A f;go_wp2_with fail;refine(ab y).mono ?_;rintro e x1 ⟨B,rfl⟩;refine⟨rfl,?_⟩;unfold cW;rw[ab F];exact⟨(ab n).1.trans B.ku,rfl⟩
   rw[A]at y f;simp only[a0f]at f;have M:=ae (bF A);have HA:Hid (((a:Int) == 1)=decide (a=1)):=by show _=_;rw[a2a];simp;omega
   clear A;go_wp2_with fail;refine(ab y).mono ?_;rintro e x1 ⟨B,rfl,O⟩;have z:=ae (a0b ((ab n).1.trans B.ku) (a0b ((ab n).2.1.keep1 B O) ((ab n).2.2.2.2.ku B.ku G)));clear B O y;obtain⟨l,hl⟩:∃l,((a:Int) == 1)=l:=⟨_,rfl⟩;have Hl:Hid (l=decide (a=1)):=by show _=_;rw[←hl];exact ab HA
   have y:=ae (cf b q1 2 s x1 (ab z).2.1.1 (ab I).1 (by omega));unfold jm at y;rcases h2:rdN (aj s) (8*s.size) q1 2 with _|⟨k,x⟩
   .
    rw[h2]at y f;have F:Hid (d=none):=by show d=none;rw[←ab f];rfl
    clear h2 f;go_wp2_with fail;refine(ab y).mono ?_;rintro e x2 ⟨R,rfl⟩;refine⟨rfl,?_⟩;unfold cW;rw[ab F];exact⟨(ab z).1.trans R.ku,rfl⟩
   rw[h2]at y f;simp only[a0f]at f;have D:=ae (bF h2);have ad:k<4:=by have:=(bF h2).2.2.2;omega
   clear h2;go_wp2_with fail;refine(ab y).mono ?_;rintro e x2 ⟨R,rfl,Z⟩;have c:=ae (a0b ((ab z).1.trans R.ku) (a0b ((ab z).2.1.keep1 R Z) ((ab z).2.2.ku R.ku G)));have ac:Hid (dT x2):=(ab I).2.1.below (ab c).1.1 (ab I).2.2.1;clear R Z y z hl HA;have e4:k=0∨k=1∨k=2∨k=3:=by omega
   clear ad;rcases e4 with o|o|o|o
   .
    have j:(k:Int)=0:=by omega
    have g1:(Instr.lookup 312 (.map (some w.heap.size)) (.int .i64 (k:Int)) true).run prog x2 = .ok (.tuple #[.func (.func 226) #[] #[],.bool true]) x2:=by rw[j];exact ab HG x2 0 (.func (.func 226) #[] #[]) (ab c).2.2 (by unfold qy;simp)
    have K:Hid (gO (aj s) (8*s.size) k x T=dS (aj s) (8*s.size) x T):=by show _=_;rw[o];unfold gO;simp
    rw[ab K]at f;have i:=ae (vA b x s T x2 (ab c).2.1 (ab n).2.2.1 (ab D).1 (ab I).1);unfold cW at i;clear j K o;go_wp2_with fail;refine(dh _).mono ?_;rintro e x3 ⟨rfl,m⟩;rw[m];clear m x3 g1;rcases r:dS (aj s) (8*s.size) x T with _|⟨T',u⟩
    .
     rw[r]at i f;have F:Hid (d=none):=by show d=none;rw[←ab f];rfl
     clear r f;go_wp2_with fail;refine(ab i).mono ?_;rintro e x4 ⟨t,rfl⟩;refine⟨rfl,?_⟩;unfold cW;rw[ab F];exact⟨(ab c).1.trans t,rfl⟩
    rw[r]at i f;simp only[a0f]at f;have g:Hid (u<=8*s.size/\x<=u/\(T.length<=300->T'.length<=300)):=D8 r;clear r;go_wp2_with fail;refine(ab i).mono ?_;rintro e x4 ⟨t,rfl,s4⟩;have J:Hid (PtI b s d w (.bool l) x4):=⟨l,u,T',rfl,(ab c).1.trans t,s4,(ab g).2.2 (ab n).2.2.1,(ab g).1,(ab c).2.2.ku t G,by rw[ab Hl];simpa using ab f⟩;have C:=ae (s4.place (ab g).1);have E:Hid (p<u/\u<=8*s.size):=⟨by have:=ab M;have:=ab D;have:=ab g;omega,(ab g).1⟩;clear t s4 i c n;go_wp2_with fail;go_roundw
    case rel=>exact ab J
    case measure=>rw[ab C,ab L];have:=ab E;omega
   .
    have j:(k:Int)=1:=by omega
    have g1:(Instr.lookup 312 (.map (some w.heap.size)) (.int .i64 (k:Int)) true).run prog x2 = .ok (.tuple #[.func (.func 227) #[] #[],.bool true]) x2:=by rw[j];exact ab HG x2 1 (.func (.func 227) #[] #[]) (ab c).2.2 (by unfold qy;simp)
    have K:Hid (gO (aj s) (8*s.size) k x T=F8 (aj s) (8*s.size) x T):=by show _=_;rw[o];unfold gO;simp
    rw[ab K]at f;have i:=ae (vf b x s T x2 (ab c).2.1 (ab n).2.2.1 (ab D).1 (ab I).1);unfold cW at i;clear j K o;go_wp2_with fail;refine(dh _).mono ?_;rintro e x3 ⟨rfl,m⟩;rw[m];clear m x3 g1;rcases r:F8 (aj s) (8*s.size) x T with _|⟨T',u⟩
    .
     rw[r]at i f;have F:Hid (d=none):=by show d=none;rw[←ab f];rfl
     clear r f;go_wp2_with fail;refine(ab i).mono ?_;rintro e x4 ⟨t,rfl⟩;refine⟨rfl,?_⟩;unfold cW;rw[ab F];exact⟨(ab c).1.trans t,rfl⟩
    rw[r]at i f;simp only[a0f]at f;have g:Hid (u<=8*s.size/\x<=u/\(T.length<=300->T'.length<=300)):=Js r;clear r;go_wp2_with fail;refine(ab i).mono ?_;rintro e x4 ⟨t,rfl,s4⟩;have J:Hid (PtI b s d w (.bool l) x4):=⟨l,u,T',rfl,(ab c).1.trans t,s4,(ab g).2.2 (ab n).2.2.1,(ab g).1,(ab c).2.2.ku t G,by rw[ab Hl];simpa using ab f⟩;have C:=ae (s4.place (ab g).1);have E:Hid (p<u/\u<=8*s.size):=⟨by have:=ab M;have:=ab D;have:=ab g;omega,(ab g).1⟩;clear t s4 i c n;go_wp2_with fail;go_roundw
    case rel=>exact ab J
    case measure=>rw[ab C,ab L];have:=ab E;omega
   .
    have j:(k:Int)=2:=by omega
    have g1:(Instr.lookup 312 (.map (some w.heap.size)) (.int .i64 (k:Int)) true).run prog x2 = .ok (.tuple #[.func (.func 228) #[] #[],.bool true]) x2:=by rw[j];exact ab HG x2 2 (.func (.func 228) #[] #[]) (ab c).2.2 (by unfold qy;simp)
    have K:Hid (gO (aj s) (8*s.size) k x T=ux (aj s) (8*s.size) x T):=by show _=_;rw[o];unfold gO;simp
    rw[ab K]at f;have i:=ae (AU b x s T x2 (ab c).2.1 (ab n).2.2.1 (ab I).1 (ab ac) (ab I).2.2.1);unfold cW at i;clear j K o;go_wp2_with fail;refine(dh _).mono ?_;rintro e x3 ⟨rfl,m⟩;rw[m];clear m x3 g1;rcases r:ux (aj s) (8*s.size) x T with _|⟨T',u⟩
    .
     rw[r]at i f;have F:Hid (d=none):=by show d=none;rw[←ab f];rfl
     clear r f;go_wp2_with fail;refine(ab i).mono ?_;rintro e x4 ⟨t,rfl⟩;refine⟨rfl,?_⟩;unfold cW;rw[ab F];exact⟨(ab c).1.trans t,rfl⟩
    rw[r]at i f;simp only[a0f]at f;have g:Hid (u<=8*s.size/\x<=u/\(T.length<=300->T'.length<=300)):=Kz r;clear r;go_wp2_with fail;refine(ab i).mono ?_;rintro e x4 ⟨t,rfl,s4⟩;have J:Hid (PtI b s d w (.bool l) x4):=⟨l,u,T',rfl,(ab c).1.trans t,s4,(ab g).2.2 (ab n).2.2.1,(ab g).1,(ab c).2.2.ku t G,by rw[ab Hl];simpa using ab f⟩;have C:=ae (s4.place (ab g).1);have E:Hid (p<u/\u<=8*s.size):=⟨by have:=ab M;have:=ab D;have:=ab g;omega,(ab g).1⟩;clear t s4 i c n;go_wp2_with fail;go_roundw
    case rel=>exact ab J
    case measure=>rw[ab C,ab L];have:=ab E;omega
   .
    have j:(k:Int)=3:=by omega
    have g1:(Instr.lookup 312 (.map (some w.heap.size)) (.int .i64 (k:Int)) true).run prog x2 = .ok (.tuple #[LH,.bool false]) x2:=by rw[j];exact ab aa x2 (ab c).2.2
    have F:Hid (d=none):=by show d=none;rw[←ab f,o];unfold gO;simp
    clear j o f;unfold LH at g1;go_wp2_with fail;refine(fx _).mono ?_;rintro e x3 ⟨rfl,m⟩;rw[m];clear m x3;refine⟨rfl,?_⟩;unfold cW;rw[ab F];exact⟨(ab c).1,rfl⟩
  .
   simp only[a0X]at f;have i:=ae (nQ b p s wr (ab n).2.1.1 (ab I).1 (ab n).2.2.2.1);rcases A:gz (aj s) p with _|q
   . rw[A]at i;have H1:=ae A;clear A;go_wp2_with fail;refine(ab i).mono ?_;rintro e x1 ⟨B,rfl⟩;refine⟨rfl,?_⟩;unfold cW;rw[←ab f];simp only[a0f];rw[ab H1];exact⟨(ab n).1.trans B.ku,rfl⟩
   .
    rw[A]at i;have H1:=ae A;clear A;go_wp2_with fail;refine(ab i).mono ?_;rintro e x1 ⟨B,rfl,O⟩;have HY:=ae (a0b ((ab n).1.trans B.ku) ((ab n).2.1.keep1 B O));clear B O i n;go_wp2
    go_end0
    unfold cW;rw[←ab f];simp only[a0f];rw[ab H1];exact⟨(ab HY).1,trivial,(ab HY).2⟩
end Go.Proofs.YtchidddpplangaaGreatDoor
namespace Go.Proofs.YtchidddpplangaaGreatDoor
open Go.Proofs.Tryz
open Go.RowKit Go.Extern.Stop Go.Stop Go.Extern
theorem NJ(t:Value)(w:World) :
  Calls prog 53 #[.nilIface,t] w fun e w'=>e = .returned (.bool false)/\w'=w:=by
 go_enter func53,ntmps53;go_wp2;go_ret;exact⟨rfl,rfl⟩
theorem IU(t:Addr)(w:World):(ReflectliteValue.unpack (.iface 90 (.pointer (some t)))).run prog w
  = .ok (.agg #[.pointer (some ⟨5,90,none⟩),.pointer (some ⟨w.heap.size,0,none⟩),.int .u64 150]) (w.alloc (.cells #[.pointer (some t)] 90)):=by kernel_rfl
theorem IR(c:Int)(w:World):(ReflectliteValue.unpack (.iface 76 (.agg #[.int .i64 c]))).run prog w
  = .ok (.agg #[.pointer (some ⟨5,76,none⟩),.pointer (some ⟨w.heap.size,0,none⟩),.int .u64 153]) (w.alloc (.cells #[.int .i64 c] 76)):=by kernel_rfl
theorem L2(a:Addr)(w:World):(ReflectliteValue.methodAny (ReflectliteValue.valueError "reflectlite.Value.Type" 0) (fun t _ _ _=>ReflectliteType.toType t) #[.agg #[.pointer (some ⟨5,90,none⟩),.pointer (some a),.int .u64 150]]).run prog w
  = .ok (.iface 149 (.agg #[.pointer (some ⟨5,90,none⟩)])) w:=by kernel_rfl
theorem wX(h:Value)(w:World):(Go.method 471 149 (.agg #[h]) "Kind").run prog w = .ok (271,h) w:=by kernel_rfl
theorem LY(w:World):((ReflectliteType.abiMethod fun t=>(fun a:Nat=>Value.int IntKind.u8 (a:Int)) <$> Rtype.kind t) #[.pointer (some ⟨5,90,none⟩)]).run prog w = .ok (.int .u8 22) w:=by kernel_rfl
theorem LX(w:World):((ReflectliteType.abiMethod fun t=>(fun a:Nat=>Value.int IntKind.u8 (a:Int)) <$> Rtype.kind t) #[.pointer (some ⟨5,76,none⟩)]).run prog w = .ok (.int .u8 25) w:=by kernel_rfl
theorem OA(z:Sem Value)(f:TypeId->Addr->Nat->Nat->Sem Value)(v:Value) :
  ReflectliteValue.method z f #[v]=(do match ←ReflectliteValue.parts v with|none=>z|some (t,a,fl)=>f t a fl (fl%32)):=rfl
theorem yK(a:Addr)(w:World):(ReflectliteValue.parts (.agg #[.pointer (some ⟨5,90,none⟩),.pointer (some a),.int .u64 150])).run prog w = .ok (some (90,a,150)) w:=by kernel_rfl
theorem LW(a p:Addr)(W:World)(ha:W.cell? a=some (.pointer (some p))) :
  (ReflectliteValue.method (ReflectliteValue.valueError "reflectlite.Value.IsNil" 0) ReflectliteValue.isNil #[.agg #[.pointer (some ⟨5,90,none⟩),.pointer (some a),.int .u64 150]]).run prog W = .ok (.bool false) W:=by
 rw[OA];simp only[a2C,yK,Result.andThen];simp[ReflectliteValue.isNil,loadVar,isAgg,underlying,underlying90,ha,Result.andThen]
theorem wV(h:Value)(w:World):(Go.method 471 149 (.agg #[h]) "Elem").run prog w = .ok (281,.agg #[h]) w:=by kernel_rfl
theorem wW(h:Value)(w:World):(Go.method 471 149 (.agg #[h]) "Implements").run prog w = .ok (282,.agg #[h]) w:=by kernel_rfl
theorem yJ(h:Value)(w:World):(Go.method 471 149 (.agg #[h]) "AssignableTo").run prog w = .ok (279,.agg #[h]) w:=by kernel_rfl
theorem LS(w:World):(ReflectliteType.method ReflectliteType.elem #[.agg #[.pointer (some ⟨5,90,none⟩)]]).run prog w = .ok (.iface 149 (.agg #[.pointer (some ⟨5,76,none⟩)])) w:=by kernel_rfl
theorem LV(w:World):(ReflectliteType.relation "Implements" ReflectliteType.implements_ #[.agg #[.pointer (some ⟨5,76,none⟩)],.iface 149 (.agg #[.pointer (some ⟨5,67,none⟩)])]).run prog w = .ok (.bool true) w:=by kernel_rfl
theorem FD(v:Value)(w:World):(ReflectliteType.typeOf #[.iface 76 v]).run prog w = .ok (.iface 149 (.agg #[.pointer (some ⟨5,76,none⟩)])) w:=by kernel_rfl
theorem NH(w:World):(ReflectliteType.relation "AssignableTo" ReflectliteType.assignableTo #[.agg #[.pointer (some ⟨5,76,none⟩)],.iface 149 (.agg #[.pointer (some ⟨5,76,none⟩)])]).run prog w = .ok (.bool true) w:=by kernel_rfl
theorem IP(w:World):(Rtype.elem? 90).run prog w = .ok (some 76) w:=by kernel_rfl
theorem Oz(p:Addr)(w:World):(ReflectliteValue.mk 76 p ReflectliteValue.flagAddr).run prog w = .ok (.agg #[.pointer (some ⟨5,76,none⟩),.pointer (some p),.int .u64 409]) w:=by kernel_rfl
theorem LU(a p:Addr)(W:World)(ha:W.cell? a=some (.pointer (some p))) :
  (ReflectliteValue.method (ReflectliteValue.valueError "reflectlite.Value.Elem" 0) ReflectliteValue.elem #[.agg #[.pointer (some ⟨5,90,none⟩),.pointer (some a),.int .u64 150]]).run prog W
   = .ok (.agg #[.pointer (some ⟨5,76,none⟩),.pointer (some p),.int .u64 409]) W:=by
 rw[OA];simp only[a2C,yK,Result.andThen];simp[ReflectliteValue.elem,loadVar,isAgg,underlying,underlying90,ha,Result.andThen,IP,Oz]
theorem FC(a:Addr)(w:World):(ReflectliteValue.parts (.agg #[.pointer (some ⟨5,76,none⟩),.pointer (some a),.int .u64 409])).run prog w = .ok (some (76,a,409)) w:=by kernel_rfl
theorem IQ(a:Addr)(w:World):(ReflectliteValue.parts (.agg #[.pointer (some ⟨5,76,none⟩),.pointer (some a),.int .u64 153])).run prog w = .ok (some (76,a,153)) w:=by kernel_rfl
theorem IM(w:World):(Rtype.directlyAssignable 76 76).run prog w = .ok true w:=by kernel_rfl
theorem OC(tb b:Nat)(c:Int)(old:Value)(W:World)(hb:W.cell? ⟨b,0,none⟩=some (.int .i64 c))(e:W.cell? ⟨tb,0,none⟩=some old)(a:W.frozen? ⟨tb,0,none⟩=false) :
  (ReflectliteValue.set #[.agg #[.pointer (some ⟨5,76,none⟩),.pointer (some ⟨tb,0,none⟩),.int .u64 409],.agg #[.pointer (some ⟨5,76,none⟩),.pointer (some ⟨b,0,none⟩),.int .u64 153]]).run prog W
   = .ok (.tuple #[]) (W.setCell ⟨tb,0,none⟩ (.int .i64 c)):=by
 show(Bind.bind (ReflectliteValue.parts _) _:Sem Value).run prog W=_;simp only[Array.getLit,List.getElem_toArray,List.getElem_cons_zero,List.getElem_cons_succ,a2C,FC,IQ,Result.andThen];have d:(loadCells ⟨b,0,none⟩ 1).run prog W = .ok #[.int .i64 c] W:=by simp[loadCells,loadCellsFrom,go_sem,hb]
 simp[ReflectliteValue.flagAddr,loadVar,isAgg,underlying,underlying76,Result.andThen,IM,storeVar,Value.cells,d];simp[storeCells,Addr.add];rw[run_store prog W ⟨tb,0,none⟩ _ _ (by rfl)];simp[e,a]
theorem NI(c:Int)(tb:Nat)(old:Value)(w:World)(hg:w.cell? ⟨0,0,none⟩=some (.iface 149 (.agg #[.pointer (some ⟨5,67,none⟩)])))(ht0:w.cell? ⟨tb,0,none⟩=some old)(hf0:w.frozen? ⟨tb,0,none⟩=false) :
  Calls prog 53 #[.iface 76 (.agg #[.int .i64 c]),.iface 90 (.pointer (some ⟨tb,0,none⟩))] w fun ev w'=>ev = .returned (.bool true)/\w'=((((w.alloc (.cells #[.pointer (some ⟨tb,0,none⟩)] 90)).alloc (.cells #[.pointer (some ⟨5,90,none⟩),.pointer (some ⟨w.heap.size,0,none⟩),.int .u64 150] 122)).alloc (.cells #[.pointer (some ⟨5,90,none⟩),.pointer (some ⟨w.heap.size,0,none⟩),.int .u64 150] 122)).alloc (.cells #[.int .i64 c] 76)).setCell ⟨tb,0,none⟩ (.int .i64 c):=by
 have h6:=@a1S prog 78 _ (fun args=>ReflectliteValue.unpack (args.getD 0 (.tuple #[]))) func78 (by kernel_rfl) (by kernel_rfl) (by kernel_rfl) (by kernel_rfl);have h7:=@a1S prog 79 _ (ReflectliteValue.methodAny (ReflectliteValue.valueError "reflectlite.Value.Type" 0) (fun t _ _ _=>ReflectliteType.toType t)) func79 (by kernel_rfl) (by kernel_rfl) (by kernel_rfl) (by kernel_rfl);have h8:=@a1S prog 80 _ (ReflectliteValue.method (ReflectliteValue.valueError "reflectlite.Value.IsNil" 0) ReflectliteValue.isNil) func80 (by kernel_rfl) (by kernel_rfl) (by kernel_rfl) (by kernel_rfl);have h27:=@a1S prog 271 _ (ReflectliteType.abiMethod fun t=>do pure (.int .u8 (←Rtype.kind t))) func271 (by kernel_rfl) (by kernel_rfl) (by kernel_rfl) (by kernel_rfl);have h37:=@a1S prog 281 _ (ReflectliteType.method ReflectliteType.elem) func281 (by kernel_rfl) (by kernel_rfl) (by kernel_rfl) (by kernel_rfl);have h38:=@a1S prog 282 _ (ReflectliteType.relation "Implements" ReflectliteType.implements_) func282 (by kernel_rfl) (by kernel_rfl) (by kernel_rfl) (by kernel_rfl);have h10:=@a1S prog 105 _ ReflectliteType.typeOf func105 (by kernel_rfl) (by kernel_rfl) (by kernel_rfl) (by kernel_rfl);have h35:=@a1S prog 279 _ (ReflectliteType.relation "AssignableTo" ReflectliteType.assignableTo) func279 (by kernel_rfl) (by kernel_rfl) (by kernel_rfl) (by kernel_rfl);have h11:=@a1S prog 106 _ (ReflectliteValue.method (ReflectliteValue.valueError "reflectlite.Value.Elem" 0) ReflectliteValue.elem) func106 (by kernel_rfl) (by kernel_rfl) (by kernel_rfl) (by kernel_rfl);have h12:=@a1S prog 107 _ ReflectliteValue.set func107 (by kernel_rfl) (by kernel_rfl) (by kernel_rfl) (by kernel_rfl);have tO:=FD;have mA:=yJ;have a25:=NH;have v25:=IR;have f6:=IU;have f7:=L2;have mK:=wX;have mE:=wV;have mI:=wW;have k27:=LY;have k25:=LX;have e27:=LS;have i25:=LV;generalize htd:(⟨tb,0,none⟩:Addr)=t at *
 have n8:=LW ⟨w.heap.size,0,none⟩ t ((w.alloc (.cells #[.pointer (some t)] 90)).alloc (.cells #[.pointer (some ⟨5,90,none⟩),.pointer (some ⟨w.heap.size,0,none⟩),.int .u64 150] 122)) (by simp);have hlt:0<w.heap.size:=by
  rcases a2m w.heap.size with h0|h
  . simp[World.cell?,h0]at hg
  . exact h
 have hg2:((w.alloc (.cells #[.pointer (some t)] 90)).alloc (.cells #[.pointer (some ⟨5,90,none⟩),.pointer (some ⟨w.heap.size,0,none⟩),.int .u64 150] 122)).cell? ⟨0,0,none⟩=some (.iface 149 (.agg #[.pointer (some ⟨5,67,none⟩)])):=by
  rw[World.cell?_alloc_lt _ _ ⟨0,0,none⟩ (by simp),World.cell?_alloc_lt _ _ ⟨0,0,none⟩ hlt];exact hg
 have htl:t.block<w.heap.size:=by
  rcases a1k t.block w.heap.size with h|h
  . exact h
  . simp[World.cell?,Array.getElem?_eq_none h]at ht0
 have el:=LU ⟨w.heap.size,0,none⟩ t (((w.alloc (.cells #[.pointer (some t)] 90)).alloc (.cells #[.pointer (some ⟨5,90,none⟩),.pointer (some ⟨w.heap.size,0,none⟩),.int .u64 150] 122)).alloc (.cells #[.pointer (some ⟨5,90,none⟩),.pointer (some ⟨w.heap.size,0,none⟩),.int .u64 150] 122)) (by rw[World.cell?_alloc_lt _ _ ⟨w.heap.size,0,none⟩ (by simp;omega)];simp);have st:=OC tb (w.heap.size+1+1+1) c old ((((w.alloc (.cells #[.pointer (some t)] 90)).alloc (.cells #[.pointer (some ⟨5,90,none⟩),.pointer (some ⟨w.heap.size,0,none⟩),.int .u64 150] 122)).alloc (.cells #[.pointer (some ⟨5,90,none⟩),.pointer (some ⟨w.heap.size,0,none⟩),.int .u64 150] 122)).alloc (.cells #[.int .i64 c] 76))
  (by rw[World.cell?_alloc_at _ _ _ _ (by simp)];rfl)
  (by rw[htd,World.cell?_alloc_lt _ _ t (by simp;omega),World.cell?_alloc_lt _ _ t (by simp;omega),World.cell?_alloc_lt _ _ t (by simp;omega),World.cell?_alloc_lt _ _ t htl];exact ht0)
  (by rw[htd,World.frozen?_alloc_old _ _ t (by simp;omega),World.frozen?_alloc_old _ _ t (by simp;omega),World.frozen?_alloc_old _ _ t (by simp;omega),World.frozen?_alloc_old _ _ t (a1E htl)];exact hf0)
 rw[htd]at st;go_enter func53,ntmps53;go_wp2;refine wp_loop_rounds 1 ?_;rw[rounds_succ];go_wp2;go_ret;exact⟨rfl,rfl⟩
end Go.Proofs.YtchidddpplangaaGreatDoor
namespace Go.Proofs.YtchidddpplangaaGreatDoor
open Go.Proofs.Tryz
open Go.RowKit
def pR(w:World):Prop:=w.cell? ⟨0,0,none⟩=some (.iface 149 (.agg #[.pointer (some ⟨5,67,none⟩)]))
theorem mO(c:Int)(w:World)(f:pR w) :
  Ds 34 #[dG c] w (.int .i64 c):=by
 by_cases h:c=0
 . subst h;have d:dG 0 = .nilIface:=rfl;rw[d];go_enter func34,ntmps34;go_wp2_with fail;refine(NJ _ _).mono ?_;rintro e w1 ⟨rfl,a⟩;rw[a];clear a;go_wp2;go_ret;exact⟨rfl,(a0c _ _).alloc (a0a _) _⟩
 .
  have d:dG c = .iface 76 (.agg #[.int .i64 c]):=by unfold dG;rw[a0d h]
  rw[d];have g:0<w.heap.size:=World.block_lt_of_cell? _ _ f;have b:(w.alloc (.cells #[.int .i64 0] 76)).cell? ⟨0,0,none⟩=some (.iface 149 (.agg #[.pointer (some ⟨5,67,none⟩)])):=by
   rw[World.cell?_alloc_past _ _ _ g];exact f
  have i:=ae (NI c w.heap.size (.int .i64 0) (w.alloc (.cells #[.int .i64 0] 76)) b (by simp) (by simp));clear d b f h;go_enter func34,ntmps34;go_wp2_with fail;refine(ab i).mono ?_;rintro e w1 ⟨rfl,a⟩;have k:w1.cell? ⟨w.heap.size,0,none⟩=some (.int .i64 c):=by
   rw[a];refine World.cell?_setCell_same _ _ _ (u:=.int .i64 0) ?_;rw[World.cell?_alloc_past _ _ _ (by first|(simp;done)|(simp;omega)),World.cell?_alloc_past _ _ _ (by first|(simp;done)|(simp;omega)),World.cell?_alloc_past _ _ _ (by first|(simp;done)|(simp;omega)),World.cell?_alloc_past _ _ _ (by first|(simp;done)|(simp;omega))];simp
  have j:Hid (Below w.heap.size w w1):=by
   rw[a];refine ah ?_ (a0a _) _;exact(((((a0c _ _).alloc (a0a _) _).alloc (by simp) _).alloc (by simp;omega) _).alloc (by simp;omega) _).alloc (by simp;omega) _
  clear a i;go_wp2;go_ret;exact⟨rfl,ab j⟩
theorem vm(a:Option Addr)(cap:Nat)(l:List En)(n:Nat)(r:l.length=n)(m:Int)(w:World)(h:kj w a l)(C:(n:Int)<=1048576)(g:(n:Int)<=(cap:Int))
  (z:∀i,i<n->(l.getD i default).n.size<=1048576/\((l.getD i default).t.size:Int)<=9223372036854775807) (y:w.cell? ⟨2,0,none⟩=some (.int .i64 m)) (x:pR w) :
  Ds 55 #[.slice a n cap] w (.bool (dm l)):=by
 have u:=ae (yH a cap l n r m w h C g z y);have s:=ae x;have v:Hid (∀c:Int,(c=0<->∀i,i<n->iV l i=0)->dm l=decide (c=0)):=by
  intro c b;rw[←r]at b;rw[←nz]at b;cases A:dm l
  . rw[A]at b;simp at b;simp[b]
  . rw[A]at b;simp at b;simp[b]
 clear h z y x r;go_enter func55,ntmps55;go_wp2_with fail;refine(ab u).mono ?_;rintro e w1 ⟨⟨c,rfl,b,q⟩,d⟩;have B:=ae (ab v c b);have j:=ae d;have o:Hid (pR w1):=(d.cell (p:=⟨0,0,none⟩) (World.block_lt_of_cell? _ _ (ab s))).trans (ab s);clear b q d u v;go_wp2_with fail;refine(mO c _ (ab o)).mono ?_;rintro e w2 ⟨rfl,f⟩;have k:=ae (ai (ab j) f);clear f;go_wp2;go_ret;exact⟨ak (by rw[ab B];rfl),ab k⟩
end Go.Proofs.YtchidddpplangaaGreatDoor
