/- Of what the proof is made: 3 texts, one behind the other. -/
import Derived.Test.YtgmfehnnebkaoaaGreatDoorM27
import Derived.Test.YtgmfehnnebkaoaaGreatDoorM23
import Derived.Test.YtgmfehnnebkaoaaGreatDoorM5
import Derived.Defers
import Derived.Recover
import Derived.OwnWalk
set_option maxRecDepth 100000
set_option linter.unusedSimpArgs false
set_option linter.unusedVariables false
set_option maxHeartbeats 3200000
namespace Go.Proofs.YtgmfehnnebkaoaaGreatDoor
open Go.Proofs.Tryz
open Go.RowKit Corb
variable {T T':List UInt8}{V p q sz:Nat}
theorem jI.ku{w w':World}{b g:Nat}{es:List (Int×Value)}(h:jI w g es)(f:KU b w w')(c:g≠b):jI w' g es:=by
 unfold jI at h ⊢;have a:g<w.heap.size:=(Array.getElem?_eq_some_iff.1 h).1;rw[f.2 g a c (by intro e fr d;rw[h]at d;cases d)];exact h
def qv:List (Int×Value):=[(0,.func (.func 213) #[] #[]),(1,.func (.func 214) #[] #[]),(2,.func (.func 215) #[] #[])]
theorem Ec(h:jg V sz p T=some (T',q)):q<=sz/\p<=q/\(T.length<=300->T'.length<=300):=wK h
theorem JH(h:Dc V sz p T=some (T',q)):q<=sz/\p<=q/\(T.length<=300->T'.length<=300):=by
 have:=yD h;exact⟨this.1,by omega,this.2.2⟩
theorem Le(h:uC V sz p T=some (T',q)):q<=sz/\p<=q/\(T.length<=300->T'.length<=300):=Fe h
def Mu:Value:=.nilFunc
theorem IJ(W:World):(zeroValue 288).run prog W = .ok Mu W:=by kernel_rfl
def PtI(b:Nat)(s:ByteArray)(d:Option (List UInt8×Nat))(w:World)(v:Value)(wr:World):Prop:=
 ∃(l:Bool) (p:Nat) (T:List UInt8),v = .bool l/\KU b w wr/\Sou wr b s p T/\T.length<=300/\p<=8*s.size/\jI wr w.heap.size qv/\(if l=true then some (T,p)else iE (aE s) (8*s.size) p T)=d
theorem jL{B:Nat}{a w:World}{b:Nat}(h:Below B a w)(hb:B<=b)(o:Obj):Below B a (w.putObj b o):=by
 refine h.trans ⟨rfl,rfl,rfl,by simp[World.putObj],fun k c=>?_⟩;have:k≠b:=by omega
 simp[World.putObj,Ne.symm this]
theorem Ho(b p:Nat)(s:ByteArray)(T:List UInt8)(w:World)(h:Sou w b s p T)(V:T.length<=300)(P:p<=8*s.size)(hs:s.size<=2000000)(hO:cJ w)(hb:1<b) :
  Calls prog 180 #[.pointer (some ⟨b,0,none⟩)] w (cW w b s (lA (aE s) (8*s.size) p T)):=by
 have ad:=@run_makeMap prog;have Q:=underlying289;have o:=a19;obtain⟨d,hd⟩:∃d,iE (aE s) (8*s.size) p T=d:=⟨_,rfl⟩;unfold lA;rw[hd];have Y:=h.lt;have G:w.heap.size≠b:=by omega
 have m0:=E6 w;obtain⟨w1,O,m1,e1⟩:=ni Q o _ _ _ 0 (.func (.func 213) #[] #[]) m0 (by simp);obtain⟨w2,Z,m2,e2⟩:=ni Q o _ _ _ 1 (.func (.func 214) #[] #[]) m1 (by simp);obtain⟨w3,r3,m3,e3⟩:=ni Q o _ _ _ 2 (.func (.func 215) #[] #[]) m2 (by simp);have S:Below w.heap.size w w1:=by rw[e1];exact jL ((a0c _ w).alloc (a0a _) _) (a0a _) _
 have U:Below w.heap.size w w2:=by rw[e2];exact jL S (a0a _) _
 have N:Below w.heap.size w w3:=by rw[e3];exact jL U (a0a _) _
 simp only[a0X,a1g]at m3;have J:Hid (PtI b s d w (.bool false) w3):=⟨false,p,T,rfl,(KU.refl b w).later N Y,h.later N,V,P,m3,by simpa using hd⟩;have HG:=af (fun W k v (h:jI W w.heap.size qv) hm=>E5 Q o W w.heap.size _ k v true h hm (by decide));have aa:=af (fun W (h:jI W w.heap.size qv)=>map_none Q o W w.heap.size _ 3 _ h (by decide) (IJ W));have I:=af (a0b hs (a0b hO (a0b hb Y)));clear e1 e2 e3 S U N m0 m1 m2 m3 Q o hs hO hb V P h hd;go_enter func180,ntmps180;go_wp2_with fail;clear O Z r3 ad
 go_loopw [3,4,5] (fun v _ _ wr=>PtI b s d w v wr) (fun _ _ _ wr=>8*s.size-ot b wr)
 case atStart=>exact ae J
 case round=>
  obtain⟨l,p,T,rfl,X,H,V,P,hM,hd⟩:=hrel;clear J;have n:=af (a0b X (a0b H (a0b V (a0b P hM))));have L:=af (H.place P);have f:=af hd;clear X H V P hM hd;cases l
  .
   simp only[a1y,a1z]at f;rw[ry]at f;have y:=af (bX b p 1 s wr (ae n).2.1.1 (ae I).1 (by omega));unfold iW at y;rcases A:rdN (aE s) (8*s.size) p 1 with _|⟨a,q1⟩
   .
    rw[A]at y f;have F:Hid (d=none):=by show d=none;rw[←ae f];rfl
    clear A f;go_wp2_with fail;refine(ae y).mono ?_;rintro e x1 ⟨B,rfl⟩;refine⟨rfl,?_⟩;unfold cW;rw[ae F];exact⟨(ae n).1.trans B.ku,rfl⟩
   rw[A]at y f;simp only[a0f]at f;have M:=af (bS A);have HA:Hid (((a:Int) == 1)=decide (a=1)):=by show _=_;rw[a2j];simp;omega
   clear A;go_wp2_with fail;refine(ae y).mono ?_;rintro e x1 ⟨B,rfl,O⟩;have z:=af (a0b ((ae n).1.trans B.ku) (a0b ((ae n).2.1.keep1 B O) ((ae n).2.2.2.2.ku B.ku G)));clear B O y;obtain⟨l,hl⟩:∃l,((a:Int) == 1)=l:=⟨_,rfl⟩;have Hl:Hid (l=decide (a=1)):=by show _=_;rw[←hl];exact ae HA
   have y:=af (bX b q1 2 s x1 (ae z).2.1.1 (ae I).1 (by omega));unfold iW at y;rcases h2:rdN (aE s) (8*s.size) q1 2 with _|⟨k,x⟩
   .
    rw[h2]at y f;have F:Hid (d=none):=by show d=none;rw[←ae f];rfl
    clear h2 f;go_wp2_with fail;refine(ae y).mono ?_;rintro e x2 ⟨R,rfl⟩;refine⟨rfl,?_⟩;unfold cW;rw[ae F];exact⟨(ae z).1.trans R.ku,rfl⟩
   rw[h2]at y f;simp only[a0f]at f;have D:=af (bS h2);have ac:k<4:=by have:=(bS h2).2.2.2;omega
   clear h2;go_wp2_with fail;refine(ae y).mono ?_;rintro e x2 ⟨R,rfl,Z⟩;have c:=af (a0b ((ae z).1.trans R.ku) (a0b ((ae z).2.1.keep1 R Z) ((ae z).2.2.ku R.ku G)));have ab:Hid (cJ x2):=(ae I).2.1.below (ae c).1.1 (ae I).2.2.1;clear R Z y z hl HA;have e4:k=0∨k=1∨k=2∨k=3:=by omega
   clear ac;rcases e4 with o|o|o|o
   .
    have j:(k:Int)=0:=by omega
    have g1:(Instr.lookup 289 (.map (some w.heap.size)) (.int .i64 (k:Int)) true).run prog x2 = .ok (.tuple #[.func (.func 213) #[] #[],.bool true]) x2:=by rw[j];exact ae HG x2 0 (.func (.func 213) #[] #[]) (ae c).2.2 (by unfold qv;simp)
    have K:Hid (gB (aE s) (8*s.size) k x T=jg (aE s) (8*s.size) x T):=by show _=_;rw[o];unfold gB;simp
    rw[ae K]at f;have i:=af (vD b x s T x2 (ae c).2.1 (ae n).2.2.1 (ae D).1 (ae I).1);unfold cW at i;clear j K o;go_wp2_with fail;refine(df _).mono ?_;rintro e x3 ⟨rfl,m⟩;rw[m];clear m x3 g1;rcases r:jg (aE s) (8*s.size) x T with _|⟨T',u⟩
    .
     rw[r]at i f;have F:Hid (d=none):=by show d=none;rw[←ae f];rfl
     clear r f;go_wp2_with fail;refine(ae i).mono ?_;rintro e x4 ⟨t,rfl⟩;refine⟨rfl,?_⟩;unfold cW;rw[ae F];exact⟨(ae c).1.trans t,rfl⟩
    rw[r]at i f;simp only[a0f]at f;have g:Hid (u<=8*s.size/\x<=u/\(T.length<=300->T'.length<=300)):=Ec r;clear r;go_wp2_with fail;refine(ae i).mono ?_;rintro e x4 ⟨t,rfl,s4⟩;have J:Hid (PtI b s d w (.bool l) x4):=⟨l,u,T',rfl,(ae c).1.trans t,s4,(ae g).2.2 (ae n).2.2.1,(ae g).1,(ae c).2.2.ku t G,by rw[ae Hl];simpa using ae f⟩;have C:=af (s4.place (ae g).1);have E:Hid (p<u/\u<=8*s.size):=⟨by have:=ae M;have:=ae D;have:=ae g;omega,(ae g).1⟩;clear t s4 i c n;go_wp2_with fail;go_roundw
    case rel=>exact ae J
    case measure=>rw[ae C,ae L];have:=ae E;omega
   .
    have j:(k:Int)=1:=by omega
    have g1:(Instr.lookup 289 (.map (some w.heap.size)) (.int .i64 (k:Int)) true).run prog x2 = .ok (.tuple #[.func (.func 214) #[] #[],.bool true]) x2:=by rw[j];exact ae HG x2 1 (.func (.func 214) #[] #[]) (ae c).2.2 (by unfold qv;simp)
    have K:Hid (gB (aE s) (8*s.size) k x T=Dc (aE s) (8*s.size) x T):=by show _=_;rw[o];unfold gB;simp
    rw[ae K]at f;have i:=af (vp b x s T x2 (ae c).2.1 (ae n).2.2.1 (ae D).1 (ae I).1);unfold cW at i;clear j K o;go_wp2_with fail;refine(df _).mono ?_;rintro e x3 ⟨rfl,m⟩;rw[m];clear m x3 g1;rcases r:Dc (aE s) (8*s.size) x T with _|⟨T',u⟩
    .
     rw[r]at i f;have F:Hid (d=none):=by show d=none;rw[←ae f];rfl
     clear r f;go_wp2_with fail;refine(ae i).mono ?_;rintro e x4 ⟨t,rfl⟩;refine⟨rfl,?_⟩;unfold cW;rw[ae F];exact⟨(ae c).1.trans t,rfl⟩
    rw[r]at i f;simp only[a0f]at f;have g:Hid (u<=8*s.size/\x<=u/\(T.length<=300->T'.length<=300)):=JH r;clear r;go_wp2_with fail;refine(ae i).mono ?_;rintro e x4 ⟨t,rfl,s4⟩;have J:Hid (PtI b s d w (.bool l) x4):=⟨l,u,T',rfl,(ae c).1.trans t,s4,(ae g).2.2 (ae n).2.2.1,(ae g).1,(ae c).2.2.ku t G,by rw[ae Hl];simpa using ae f⟩;have C:=af (s4.place (ae g).1);have E:Hid (p<u/\u<=8*s.size):=⟨by have:=ae M;have:=ae D;have:=ae g;omega,(ae g).1⟩;clear t s4 i c n;go_wp2_with fail;go_roundw
    case rel=>exact ae J
    case measure=>rw[ae C,ae L];have:=ae E;omega
   .
    have j:(k:Int)=2:=by omega
    have g1:(Instr.lookup 289 (.map (some w.heap.size)) (.int .i64 (k:Int)) true).run prog x2 = .ok (.tuple #[.func (.func 215) #[] #[],.bool true]) x2:=by rw[j];exact ae HG x2 2 (.func (.func 215) #[] #[]) (ae c).2.2 (by unfold qv;simp)
    have K:Hid (gB (aE s) (8*s.size) k x T=uC (aE s) (8*s.size) x T):=by show _=_;rw[o];unfold gB;simp
    rw[ae K]at f;have i:=af (AY b x s T x2 (ae c).2.1 (ae n).2.2.1 (ae I).1 (ae ab) (ae I).2.2.1);unfold cW at i;clear j K o;go_wp2_with fail;refine(df _).mono ?_;rintro e x3 ⟨rfl,m⟩;rw[m];clear m x3 g1;rcases r:uC (aE s) (8*s.size) x T with _|⟨T',u⟩
    .
     rw[r]at i f;have F:Hid (d=none):=by show d=none;rw[←ae f];rfl
     clear r f;go_wp2_with fail;refine(ae i).mono ?_;rintro e x4 ⟨t,rfl⟩;refine⟨rfl,?_⟩;unfold cW;rw[ae F];exact⟨(ae c).1.trans t,rfl⟩
    rw[r]at i f;simp only[a0f]at f;have g:Hid (u<=8*s.size/\x<=u/\(T.length<=300->T'.length<=300)):=Le r;clear r;go_wp2_with fail;refine(ae i).mono ?_;rintro e x4 ⟨t,rfl,s4⟩;have J:Hid (PtI b s d w (.bool l) x4):=⟨l,u,T',rfl,(ae c).1.trans t,s4,(ae g).2.2 (ae n).2.2.1,(ae g).1,(ae c).2.2.ku t G,by rw[ae Hl];simpa using ae f⟩;have C:=af (s4.place (ae g).1);have E:Hid (p<u/\u<=8*s.size):=⟨by have:=ae M;have:=ae D;have:=ae g;omega,(ae g).1⟩;clear t s4 i c n;go_wp2_with fail;go_roundw
    case rel=>exact ae J
    case measure=>rw[ae C,ae L];have:=ae E;omega
   .
    have j:(k:Int)=3:=by omega
    have g1:(Instr.lookup 289 (.map (some w.heap.size)) (.int .i64 (k:Int)) true).run prog x2 = .ok (.tuple #[Mu,.bool false]) x2:=by rw[j];exact ae aa x2 (ae c).2.2
    have F:Hid (d=none):=by show d=none;rw[←ae f,o];unfold gB;simp
    clear j o f;unfold Mu at g1;go_wp2_with fail;refine(eZ _).mono ?_;rintro e x3 ⟨rfl,m⟩;rw[m];clear m x3;refine⟨rfl,?_⟩;unfold cW;rw[ae F];exact⟨(ae c).1,rfl⟩
  .
   simp only[a0Z]at f;have i:=af (nR b p s wr (ae n).2.1.1 (ae I).1 (ae n).2.2.2.1);rcases A:kH (aE s) p with _|q
   . rw[A]at i;have H1:=af A;clear A;go_wp2_with fail;refine(ae i).mono ?_;rintro e x1 ⟨B,rfl⟩;refine⟨rfl,?_⟩;unfold cW;rw[←ae f];simp only[a0f];rw[ae H1];exact⟨(ae n).1.trans B.ku,rfl⟩
   .
    rw[A]at i;have H1:=af A;clear A;go_wp2_with fail;refine(ae i).mono ?_;rintro e x1 ⟨B,rfl,O⟩;have HY:=af (a0b ((ae n).1.trans B.ku) ((ae n).2.1.keep1 B O));clear B O i n;go_wp2
    go_end0
    unfold cW;rw[←ae f];simp only[a0f];rw[ae H1];exact⟨(ae HY).1,trivial,(ae HY).2⟩
theorem Cx(w:World) :
  CallsD prog 179 #[] .returning w fun e u' w'=>e = .returned (.tuple #[])/\u' = .returning/\w'=w:=by
 refine callsD_of_wpS func179 rfl fun a c b=>?_;apply wpS_seq;apply wpS_region;simp[wpOpsS,go_sem,recoverD,b,ntmps179,Exit.thenS];refine wpS_of_wp ?_;go_wp2_with fail;cases a
 simp_all [bodyPostS,results,results179]
theorem y8(w:World) :
  CallsD prog 179 #[] (.panicking [{ v:=.iface 252 (.agg #[]),recovered:=false }]) w fun e u' w'=>e = .returned (.tuple #[])/\u' = .panicking [{ v:=.iface 252 (.agg #[]),recovered:=true }]/\Below w.heap.size w w':=by
 refine callsD_of_wpS func179 rfl fun d c b=>?_;apply wpS_seq;apply wpS_region;simp[wpOpsS,go_sem,recoverD,b,ntmps179,Exit.thenS];have a:(Instr.typeAssert (.iface 252 (.agg #[])) 20 252 true).run prog w = .ok (.tuple #[.agg #[],.bool true]) w:=by kernel_rfl
 refine wpS_of_wp ?_;go_wp2_with fail;simp[bodyPostS,results,results179];exact(a0c _ _).alloc (a0a _) _
def UnP(w:World)(b:Nat)(s:ByteArray)(d:Option (List UInt8×Nat))(e:Ending)(w':World):Prop:=
 KU b w w'/\match d with
  | none=>e = .returned (.bool false)
  | some (T,q)=>e = .returned (.bool true)/\Sou w' b s q T
theorem yH(b p:Nat)(s:ByteArray)(T:List UInt8)(w:World)(h:Sou w b s p T)(j:T.length<=300)(k:p<=8*s.size)(l:s.size<=2000000)(i:cJ w)(hb:1<b) :
  Calls prog 149 #[.pointer (some ⟨b,0,none⟩)] w (UnP w b s (lA (aE s) (8*s.size) p T)):=by
 have HP:=af (Ho b p s T w h j k l i hb);have g:=h.lt;clear h j k l i hb;generalize lA (aE s) (8*s.size) p T=d at *
 unfold cW at HP;unfold UnP;rcases d with _|⟨T',q⟩
 .
  go_enter_defers func149,ntmps149
  go_wp2_with fail;refine(ae HP).mono ?_;rintro e x1 ⟨a,rfl⟩;have c:=af (a0b a (show b<x1.heap.size from a0h g a.1.size));clear a HP;unfold jO;refine leaves_cons (f:=179) (args:=#[]) (by simp) (by simp[go_sem]) ?_;refine(y8 x1).mono ?_;rintro e u' w'' ⟨rfl,rfl,m⟩;have n:=(ae c).1.later m (ae c).2;simp[Leaves,settle,results,results149,go_sem];exact n
 .
  go_enter_defers func149,ntmps149
  go_wp2_with fail;refine(ae HP).mono ?_;rintro e x1 ⟨a,rfl,s1⟩;have c:=af (a0b a s1);clear a s1 HP;go_wp2_with fail;refine leaves_cons (f:=179) (args:=#[]) (by simp) (by simp[go_sem]) ?_;refine(Cx x1).mono ?_;rintro e u' w'' ⟨rfl,rfl,rfl⟩;simp[Leaves,settle,results,results149,go_sem];exact ae c
def du(s:ByteArray):Option (List UInt8×Nat):=if s.size<=700 then lA (aE s) (8*s.size) 0 []else none
def Gm(d:Option (List UInt8×Nat)):Value:=match d with
 | none=>.tuple #[.string ⟨#[]⟩,.int .i64 0,.bool false]
 | some (T,q)=>.tuple #[.string ⟨T.toArray⟩,.int .i64 ((q/8:Nat):Int),.bool true]
theorem xd(h:lA V sz p T=some (T',q))(e:sz%8=0):q<=sz/\p<q/\q%8=0/\(T.length<=300->T'.length<=300):=by
 unfold lA at h;rcases a:iE V sz p T with _|⟨T1,c⟩
 . rw[a]at h;cases h
 rw[a]at h;simp only[a0f]at h;rcases h2:kH V c with _|f
 . rw[h2]at h;cases h
 rw[h2]at h;simp only[a0f,a0k,a0W]at h;obtain⟨rfl,rfl⟩:=h;have b:=Hi a;have d:=Bj h2;exact⟨by omega,by omega,by omega,b.2.2⟩
theorem NZ(w:World)(s:ByteArray)(t:TypeId):Sou (w.alloc (.cells #[.string s,.int .i64 0,.bool false,.slice none 0 0] t)) w.heap.size s 0 []:=by
 refine⟨?_,.slice none 0 0,by simp,by simp,a00 _ _ _ _⟩;unfold Rdr;simp only[Nat.zero_min,Nat.not_lt_zero,decide_false];exact⟨by simp,by simp,by simp,by simp,by simp,by simp,by simp⟩
theorem ql(s:ByteArray)(w:World)(u:s.size<=9223372036854775807)(m:cJ w) :
  CD 109 #[.string s] w (Gm (du s)):=by
 have g:Below w.heap.size w (w.alloc (.cells #[.string s,.int .i64 0,.bool false,.slice none 0 0] 214)):=(a0c _ _).alloc (a0a _) _;by_cases n:s.size<=700
 .
  have p:=yH w.heap.size 0 s [] _ (NZ w s 214) (by simp) (a0g _) (by omega) (m.later g) m.2;have e:du s=lA (aE s) (8*s.size) 0 []:=a0d n;rw[←e]at p;have hq:∀T q,du s=some (T,q)->q<=8*s.size/\q<=5600:=fun T q h=>by
   rw[e]at h;have:=xd h (by omega);omega
  clear e;generalize du s=d at *
  have f:=af p;have l:=af g;have r:(s.size:Int)<=700:=by omega
  clear p g m u n;unfold UnP at f;rcases d with _|⟨T,q⟩
  .
   unfold Gm;simp only;clear hq;go_enter func109,ntmps109;go_wp2_with fail;refine(ae f).mono ?_;rintro e x1 ⟨k,rfl⟩;have o:=af k.1;clear k f;go_wp2
   go_ret3
   exact⟨rfl,(ae l).trans (ae o)⟩
  .
   unfold Gm;simp only;obtain⟨j,t⟩:=hq T q rfl;have B:(q:Int)<=5600:=by omega
   have Hq:=af j;clear hq j t;go_enter func109,ntmps109;go_wp2_with fail;refine(ae f).mono ?_;rintro e x1 ⟨k,rfl,x,v,c3,f3,o3⟩;have o:=af k.1;have c1:=(x.at (ae Hq)).2.1;have A:(convert 22 9 v).run prog x1.drew = .ok (.string ⟨T.toArray⟩) x1.drew:=bU.text (w:=x1.drew) o3;clear k f x f3 o3 Hq;go_wp2_with fail;have i:prog.follows .mixedOrders=true:=by kernel_rfl
   have y:x1.drew.cell? ⟨w.heap.size,1,none⟩=some (.int .i64 (q:Int)):=c1;have z:x1.drew.cell? ⟨w.heap.size,3,none⟩=some v:=c3;refine wp_region_held_drew (S:=fun W=>W=x1.drew) i rfl (fun b=>?_);refine ag 0 (.pointer (some ⟨w.heap.size,0,none⟩)) rfl (by kernel_rfl) (fun _ _ _ h=>h) rfl (fun W a=>by subst a;go_simp) b ?_;refine ag 1 (.pointer (some ⟨w.heap.size,0,none⟩)) rfl (by kernel_rfl) (fun _ _ _ h=>h) rfl (fun W a=>by subst a;go_simp) b ?_;refine ag 2 (.pointer (some ⟨w.heap.size,3,none⟩)) rfl (by kernel_rfl) (fun _ _ _ h=>h) rfl (fun W a=>by subst a;go_simp) b ?_;refine ag 3 (v) rfl (by kernel_rfl) (fun _ _ _ h=>h) rfl (fun W a=>by subst a;go_simp) b ?_;refine ag 4 (.string ⟨T.toArray⟩) rfl (by kernel_rfl) (fun _ _ _ h=>h) rfl (fun W a=>by subst a;go_simp) b ?_;refine ag 5 (.pointer (some ⟨w.heap.size,0,none⟩)) rfl (by kernel_rfl) (fun _ _ _ h=>h) rfl (fun W a=>by subst a;go_simp) b ?_;refine ag 6 (.pointer (some ⟨w.heap.size,0,none⟩)) rfl (by kernel_rfl) (fun _ _ _ h=>h) rfl (fun W a=>by subst a;go_simp) b ?_;refine ag 7 (.pointer (some ⟨w.heap.size,0,none⟩)) rfl (by kernel_rfl) (fun _ _ _ h=>h) rfl (fun W a=>by subst a;go_simp) b ?_;refine ag 8 (.pointer (some ⟨w.heap.size,1,none⟩)) rfl (by kernel_rfl) (fun _ _ _ h=>h) rfl (fun W a=>by subst a;go_simp) b ?_;refine ag 9 (.int .i64 (q:Int)) rfl (by kernel_rfl) (fun _ _ _ h=>h) rfl (fun W a=>by subst a;go_simp) b ?_;refine ag 10 (.int .i64 ((q/8:Nat):Int)) rfl (by kernel_rfl) (fun _ _ _ h=>h) rfl (fun W a=>by subst a;go_simp;rw[a1e];omega) b ?_;refine aj 11 (by kernel_rfl) rfl fun K c=>?_;go_simp;refine Shut.out c _ _ rfl (fun b=>?_);clear c K;refine aj 12 (by kernel_rfl) rfl fun K c=>?_;go_simp;refine Shut.out c _ _ rfl (fun b=>?_);clear c K;refine aj 13 (by kernel_rfl) rfl fun K c=>?_;go_simp;refine Shut.out c _ _ rfl (fun b=>?_);clear c K;refine wpAnyH_done (by kernel_rfl) ?_ _;go_wp2
   go_ret3
   exact⟨rfl,(ae l).trans (ae o).drew⟩
 .
  have e:du s=none:=a0e n;rw[e];have r:(700:Int)<(s.size:Int):=by omega
  have l:=af g;clear g m u n e;unfold Gm;simp only;go_enter func109,ntmps109;go_wp2
  go_ret3
  exact⟨rfl,ae l⟩
end Go.Proofs.YtgmfehnnebkaoaaGreatDoor
