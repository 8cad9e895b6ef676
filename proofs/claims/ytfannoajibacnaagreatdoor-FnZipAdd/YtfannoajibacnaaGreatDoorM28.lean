/- Texts. -/
import Derived.Test.YtfannoajibacnaaGreatDoorM23
import Derived.Test.YtfannoajibacnaaGreatDoorM26
import Derived.Test.YtfannoajibacnaaGreatDoorM5
set_option linter.all false
set_option maxRecDepth 100000
set_option maxHeartbeats 3200000
namespace Go.Proofs.YtfannoajibacnaaGreatDoor
open Go.Proofs.Tryz
open Go.RowKit
variable {T T':List UInt8}{V g n p q sz:Nat}{w:World}
def bu(e:En):List Value:=[.string e.n,.int .i64 e.y,.int .i64 e.mo,.int .i64 e.d,.int .i64 e.h,.int .i64 e.mi,.int .i64 e.s,.string e.t]
def bf(e:En):(bu e).length=8:=rfl
def gP(e:En):∀u∈bu e,u.oneCell'=true:=by
 intro u a;simp only[bu,a02,a1D,a1v]at a;rcases a with rfl|rfl|rfl|rfl|rfl|rfl|rfl|rfl<;>rfl
abbrev cO(w:World)(base:Nat)(v:Value)(l:List En):Prop:=bj 26 8 bu w base v l
def Tm{o:Nat}{e:En}(h:∀j,j<8->w.cell? ⟨g,o+j,none⟩=(bu e)[j]?):Tt w g o e:=
 ⟨h 0 (by omega),h 1 (by omega),h 2 (by omega),h 3 (by omega),h 4 (by omega),h 5 (by omega),h 6 (by omega),h 7 (by omega)⟩
def kj{base cap:Nat}{l:List En}(c:l.length=n)(h:cO w base (.slice g n cap) l)(i:Nat)(a:i<n):Tt w g (i*8) (l.getD i default):=
 Tm fun j b=>(bj.at bf default c h i j a b).1
def bv{base cap:Nat}{a:Option Addr}{l:List En}(c:l.length=n)(h:cO w base (.slice a n cap) l):iA w a l:=by
 intro b;obtain⟨g,rfl⟩:=h.somes b;refine⟨g,0,rfl,h.below.2,fun i d=>?_⟩;rw[a0G];exact kj c h i (by omega)
def Tryz.infoEnt:(prog.info? 26).map (fun i=>(i.zero,i.size,i.bytes))=some (some (.agg ()),8,80):=by kernel_rfl
open Corb
def lB.ku{w':World}{b:Nat}{es:List (Int×Value)}(h:lB w g es)(f:KU b w w')(c:g≠b):lB w' g es:=by
 unfold lB at h ⊢;have a:g<w.heap.size:=(Array.getElem?_eq_some_iff.1 h).1;rw[f.2 g a c (by intro e fr d;rw[h]at d;cases d)];exact h
def s9:List (Int×Value):=[(0,.func (.func 243) #[] #[]),(1,.func (.func 244) #[] #[]),(2,.func (.func 245) #[] #[])]
def Ix(h:dX V sz p T=some (T',q)):q<=sz/\p<=q/\(T.length<=300->T'.length<=300):=zM h
def NY(h:GD V sz p T=some (T',q)):q<=sz/\p<=q/\(T.length<=300->T'.length<=300):=by
 have:=Ca h;exact⟨this.1,by omega,this.2.2⟩
def Pv(h:xC V sz p T=some (T',q)):q<=sz/\p<=q/\(T.length<=300->T'.length<=300):=Js h
def QP:Value:=.nilFunc
def MF(W:World):(zeroValue 312).run prog W = .ok QP W:=by kernel_rfl
def PtI(b:Nat)(s:ByteArray)(d:Option (List UInt8×Nat))(w:World)(v:Value)(wr:World):Prop:=
 ∃(l:Bool) (p:Nat) (T:List UInt8),v = .bool l/\KU b w wr/\Sou wr b s p T/\T.length<=300/\p<=8*s.size/\lB wr w.heap.size s9/\(if l=true then some (T,p)else gF (ak s) (8*s.size) p T)=d
def lF{B:Nat}{a:World}{b:Nat}(h:Below B a w)(hb:B<=b)(o:Obj):Below B a (w.putObj b o):=by
 refine h.trans ⟨rfl,rfl,rfl,by simp[World.putObj],fun k c=>?_⟩;have:k≠b:=by omega
 simp[World.putObj,Ne.symm this]
def LV(b p:Nat)(s:ByteArray)(T:List UInt8)(w:World)(h:Sou w b s p T)(V:T.length<=300)(P:p<=8*s.size)(hs:s.size<=2000000)(hO:dp w)(hb:1<b) :
  Calls prog 208 #[.pointer b] w (dH w b s (fW (ak s) (8*s.size) p T)):=by
 have ad:=@run_makeMap prog;have Q:=underlying313;have o:=a10;obtain⟨d,hd⟩:∃d,gF (ak s) (8*s.size) p T=d:=⟨_,rfl⟩;unfold fW;rw[hd];have Y:=h.lt;have G:w.heap.size≠b:=by omega
 have m0:=Jl w;obtain⟨w1,O,m1,e1⟩:=pf Q o _ _ _ 0 (.func (.func 243) #[] #[]) m0 (by simp);obtain⟨w2,Z,m2,e2⟩:=pf Q o _ _ _ 1 (.func (.func 244) #[] #[]) m1 (by simp);obtain⟨w3,r3,m3,e3⟩:=pf Q o _ _ _ 2 (.func (.func 245) #[] #[]) m2 (by simp);have S:Below w.heap.size w w1:=by rw[e1];exact lF ((a0c _ w).alloc (a0a _) _) (a0a _) _
 have U:Below w.heap.size w w2:=by rw[e2];exact lF S (a0a _) _
 have N:Below w.heap.size w w3:=by rw[e3];exact lF U (a0a _) _
 simp only[a1a,a1q]at m3;have J:Hid (PtI b s d w (.bool false) w3):=⟨false,p,T,rfl,(KU.refl b w).later N Y,h.later N,V,P,m3,by simpa using hd⟩;have HG:=af (fun W k v (h:lB W w.heap.size s9) hm=>Jk Q o W w.heap.size _ k v true h hm (by decide));have aa:=af (fun W (h:lB W w.heap.size s9)=>map_none Q o W w.heap.size _ 3 _ h (by decide) (MF W));have I:=af (a0b hs (a0b hO (a0b hb Y)));clear e1 e2 e3 S U N m0 m1 m2 m3 Q o hs hO hb V P h hd;go_enter func208,ntmps208;go_wp2_with fail;clear O Z r3 ad
 go_loopw [3,4,5] (fun v _ _ wr=>PtI b s d w v wr) (fun _ _ _ wr=>8*s.size-mZ b wr)
 case atStart=>exact J
 case round=>
  obtain⟨l,p,T,rfl,X,H,V,P,hM,hd⟩:=hrel;clear J;have n:=af (a0b X (a0b H (a0b V (a0b P hM))));have L:=af (H.place P);have f:=af hd;clear X H V P hM hd;cases l
  .
   simp only[a07,a08]at f;rw[oq]at f;have y:=af (cJ b p 1 s wr n.2.1.1 I.1 (by omega));unfold kG at y;rcases A:rdN (ak s) (8*s.size) p 1 with _|⟨a,q1⟩
   .
    rw[A]at y f;have F:Hid (d=none):=by show d=none;rw[←ae f];rfl
    clear A f;go_wp2_with fail;apply y.mono;rintro e x1⟨B,rfl⟩;refine⟨rfl,?_⟩;unfold dH;rw[ae F];exact⟨n.1.trans B.ku,rfl⟩
   rw[A]at y f;simp only[a0f]at f;have M:=af (bV A);have HA:Hid (((a:Int) == 1)=decide (a=1)):=by show _=_;rw[a2h];simp;omega
   clear A;go_wp2_with fail;apply y.mono;rintro e x1⟨B,rfl,O⟩;have z:=af (a0b (n.1.trans B.ku) (a0b (n.2.1.keep1 B O) (n.2.2.2.2.ku B.ku G)));clear B O y;obtain⟨l,hl⟩:∃l,((a:Int) == 1)=l:=⟨_,rfl⟩;have Hl:Hid (l=decide (a=1)):=by show _=_;rw[←hl];exact HA
   have y:=af (cJ b q1 2 s x1 z.2.1.1 I.1 (by omega));unfold kG at y;rcases h2:rdN (ak s) (8*s.size) q1 2 with _|⟨k,x⟩
   .
    rw[h2]at y f;have F:Hid (d=none):=by show d=none;rw[←ae f];rfl
    clear h2 f;go_wp2_with fail;apply y.mono;rintro e x2⟨R,rfl⟩;refine⟨rfl,?_⟩;unfold dH;rw[ae F];exact⟨z.1.trans R.ku,rfl⟩
   rw[h2]at y f;simp only[a0f]at f;have D:=af (bV h2);have ac:k<4:=by have:=(bV h2).2.2.2;omega
   clear h2;go_wp2_with fail;apply y.mono;rintro e x2⟨R,rfl,Z⟩;have c:=af (a0b (z.1.trans R.ku) (a0b (z.2.1.keep1 R Z) (z.2.2.ku R.ku G)));have ab:Hid (dp x2):=I.2.1.below c.1.1 I.2.2.1;clear R Z y z hl HA;have e4:k=0∨k=1∨k=2∨k=3:=(by omega);clear ac;rcases e4 with o|o|o|o
   .
    have j:(k:Int)=0:=(by omega);have g1:(Instr.lookup 313 (.map (some w.heap.size)) (.int .i64 (k:Int)) true).run prog x2 = .ok (.tuple #[.func (.func 243) #[] #[],.bool true]) x2:=by rw[j];exact HG x2 0 (.func (.func 243) #[] #[]) (ae c).2.2 (by unfold s9;simp)
    have K:Hid (gw (ak s) (8*s.size) k x T=dX (ak s) (8*s.size) x T):=by show _=_;rw[o];unfold gw;simp
    rw[ae K]at f;have i:=af (yN b x s T x2 c.2.1 n.2.2.1 D.1 I.1);unfold dH at i;clear j K o;go_wp2_with fail;apply(dO _).mono;rintro e x3⟨rfl,m⟩;rw[m];clear m x3 g1;rcases r:dX (ak s) (8*s.size) x T with _|⟨T',u⟩
    .
     rw[r]at i f;have F:Hid (d=none):=by show d=none;rw[←ae f];rfl
     clear r f;go_wp2_with fail;apply i.mono;rintro e x4⟨t,rfl⟩;refine⟨rfl,?_⟩;unfold dH;rw[ae F];exact⟨c.1.trans t,rfl⟩
    rw[r]at i f;simp only[a0f]at f;have g:Hid (u<=8*s.size/\x<=u/\(T.length<=300->T'.length<=300)):=Ix r;clear r;go_wp2_with fail;apply i.mono;rintro e x4⟨t,rfl,s4⟩;have J:Hid (PtI b s d w (.bool l) x4):=⟨l,u,T',rfl,c.1.trans t,s4,g.2.2 n.2.2.1,g.1,c.2.2.ku t G,by rw[ae Hl];simpa using ae f⟩;have C:=af (s4.place g.1);have E:Hid (p<u/\u<=8*s.size):=⟨by have:=ae M;have:=ae D;have:=ae g;omega,g.1⟩;clear t s4 i c n;go_wp2_with fail;go_roundw
    case rel=>exact J
    case measure=>rw[ae C,ae L];have:=ae E;omega
   .
    have j:(k:Int)=1:=(by omega);have g1:(Instr.lookup 313 (.map (some w.heap.size)) (.int .i64 (k:Int)) true).run prog x2 = .ok (.tuple #[.func (.func 244) #[] #[],.bool true]) x2:=by rw[j];exact HG x2 1 (.func (.func 244) #[] #[]) (ae c).2.2 (by unfold s9;simp)
    have K:Hid (gw (ak s) (8*s.size) k x T=GD (ak s) (8*s.size) x T):=by show _=_;rw[o];unfold gw;simp
    rw[ae K]at f;have i:=af (yo b x s T x2 c.2.1 n.2.2.1 D.1 I.1);unfold dH at i;clear j K o;go_wp2_with fail;apply(dO _).mono;rintro e x3⟨rfl,m⟩;rw[m];clear m x3 g1;rcases r:GD (ak s) (8*s.size) x T with _|⟨T',u⟩
    .
     rw[r]at i f;have F:Hid (d=none):=by show d=none;rw[←ae f];rfl
     clear r f;go_wp2_with fail;apply i.mono;rintro e x4⟨t,rfl⟩;refine⟨rfl,?_⟩;unfold dH;rw[ae F];exact⟨c.1.trans t,rfl⟩
    rw[r]at i f;simp only[a0f]at f;have g:Hid (u<=8*s.size/\x<=u/\(T.length<=300->T'.length<=300)):=NY r;clear r;go_wp2_with fail;apply i.mono;rintro e x4⟨t,rfl,s4⟩;have J:Hid (PtI b s d w (.bool l) x4):=⟨l,u,T',rfl,c.1.trans t,s4,g.2.2 n.2.2.1,g.1,c.2.2.ku t G,by rw[ae Hl];simpa using ae f⟩;have C:=af (s4.place g.1);have E:Hid (p<u/\u<=8*s.size):=⟨by have:=ae M;have:=ae D;have:=ae g;omega,g.1⟩;clear t s4 i c n;go_wp2_with fail;go_roundw
    case rel=>exact J
    case measure=>rw[ae C,ae L];have:=ae E;omega
   .
    have j:(k:Int)=2:=(by omega);have g1:(Instr.lookup 313 (.map (some w.heap.size)) (.int .i64 (k:Int)) true).run prog x2 = .ok (.tuple #[.func (.func 245) #[] #[],.bool true]) x2:=by rw[j];exact HG x2 2 (.func (.func 245) #[] #[]) (ae c).2.2 (by unfold s9;simp)
    have K:Hid (gw (ak s) (8*s.size) k x T=xC (ak s) (8*s.size) x T):=by show _=_;rw[o];unfold gw;simp
    rw[ae K]at f;have i:=af (EQ b x s T x2 c.2.1 n.2.2.1 I.1 ab I.2.2.1);unfold dH at i;clear j K o;go_wp2_with fail;apply(dO _).mono;rintro e x3⟨rfl,m⟩;rw[m];clear m x3 g1;rcases r:xC (ak s) (8*s.size) x T with _|⟨T',u⟩
    .
     rw[r]at i f;have F:Hid (d=none):=by show d=none;rw[←ae f];rfl
     clear r f;go_wp2_with fail;apply i.mono;rintro e x4⟨t,rfl⟩;refine⟨rfl,?_⟩;unfold dH;rw[ae F];exact⟨c.1.trans t,rfl⟩
    rw[r]at i f;simp only[a0f]at f;have g:Hid (u<=8*s.size/\x<=u/\(T.length<=300->T'.length<=300)):=Pv r;clear r;go_wp2_with fail;apply i.mono;rintro e x4⟨t,rfl,s4⟩;have J:Hid (PtI b s d w (.bool l) x4):=⟨l,u,T',rfl,c.1.trans t,s4,g.2.2 n.2.2.1,g.1,c.2.2.ku t G,by rw[ae Hl];simpa using ae f⟩;have C:=af (s4.place g.1);have E:Hid (p<u/\u<=8*s.size):=⟨by have:=ae M;have:=ae D;have:=ae g;omega,g.1⟩;clear t s4 i c n;go_wp2_with fail;go_roundw
    case rel=>exact J
    case measure=>rw[ae C,ae L];have:=ae E;omega
   .
    have j:(k:Int)=3:=(by omega);have g1:(Instr.lookup 313 (.map (some w.heap.size)) (.int .i64 (k:Int)) true).run prog x2 = .ok (.tuple #[QP,.bool false]) x2:=by rw[j];exact aa x2 (ae c).2.2
    have F:Hid (d=none):=by show d=none;rw[←ae f,o];unfold gw;simp
    clear j o f;unfold QP at g1;go_wp2_with fail;apply(gm _).mono;rintro e x3⟨rfl,m⟩;rw[m];clear m x3;refine⟨rfl,?_⟩;unfold dH;rw[ae F];exact⟨c.1,rfl⟩
  .
   simp only[a0Y]at f;have i:=af (pO b p s wr n.2.1.1 I.1 n.2.2.2.1);rcases A:gz (ak s) p with _|q
   . rw[A]at i;have H1:=af A;clear A;go_wp2_with fail;apply i.mono;rintro e x1⟨B,rfl⟩;refine⟨rfl,?_⟩;unfold dH;rw[←ae f];simp only[a0f];rw[ae H1];exact⟨n.1.trans B.ku,rfl⟩
   .
    rw[A]at i;have H1:=af A;clear A;go_wp2_with fail;apply i.mono;rintro e x1⟨B,rfl,O⟩;have HY:=af (a0b (n.1.trans B.ku) (n.2.1.keep1 B O));clear B O i n;go_wp2
    go_end0
    unfold dH;rw[←ae f];simp only[a0f];rw[ae H1];exact⟨HY.1,trivial,HY.2⟩
