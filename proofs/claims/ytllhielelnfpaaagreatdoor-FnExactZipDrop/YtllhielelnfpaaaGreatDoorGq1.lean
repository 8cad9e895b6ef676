/- Unpacking, the program's: all parts. -/
import Derived.Test.YtllhielelnfpaaaGreatDoorM26
import Derived.Test.YtllhielelnfpaaaGreatDoorM5
set_option maxRecDepth 100000
set_option linter.unusedSimpArgs false
set_option linter.unusedVariables false
set_option maxHeartbeats 3200000
namespace Go.Proofs.YtllhielelnfpaaaGreatDoor
open Go.Proofs.Tryz
open Go.RowKit Corb
variable {T T':List UInt8}{V p q sz:Nat}
theorem jP.ku{w w':World}{b g:Nat}{es:List (Int×Value)}(h:jP w g es)(f:KU b w w')(c:g≠b):jP w' g es:=by
 unfold jP at h ⊢;have a:g<w.heap.size:=(Array.getElem?_eq_some_iff.1 h).1;rw[f.2 g a c (by intro e fr d;rw[h]at d;cases d)];exact h
def qj:List (Int×Value):=[(0,.func (.func 238) #[] #[]),(1,.func (.func 239) #[] #[]),(2,.func (.func 240) #[] #[])]
theorem DC(h:dN V sz p T=some (T',q)):q<=sz/\p<=q/\(T.length<=300->T'.length<=300):=vY h
theorem I1(h:FB V sz p T=some (T',q)):q<=sz/\p<=q/\(T.length<=300->T'.length<=300):=by
 have:=xY h;exact⟨this.1,by omega,this.2.2⟩
theorem J0(h:uf V sz p T=some (T',q)):q<=sz/\p<=q/\(T.length<=300->T'.length<=300):=EC h
def Ld:Value:=.nilFunc
theorem Hu(W:World):(zeroValue 314).run prog W = .ok Ld W:=by kernel_rfl
def PtI(b:Nat)(s:ByteArray)(d:Option (List UInt8×Nat))(w:World)(v:Value)(wr:World):Prop:=
 ∃(l:Bool) (p:Nat) (T:List UInt8),v = .bool l/\KU b w wr/\Sou wr b s p T/\T.length<=300/\p<=8*s.size/\jP wr w.heap.size qj/\(if l=true then some (T,p)else gU (ai s) (8*s.size) p T)=d
theorem jQ{B:Nat}{a w:World}{b:Nat}(h:Below B a w)(hb:B<=b)(o:Obj):Below B a (w.putObj b o):=by
 refine h.trans ⟨rfl,rfl,rfl,by simp[World.putObj],fun k c=>?_⟩;have:k≠b:=by omega
 simp[World.putObj,Ne.symm this]
theorem Gz(b p:Nat)(s:ByteArray)(T:List UInt8)(w:World)(h:Sou w b s p T)(V:T.length<=300)(P:p<=8*s.size)(hs:s.size<=2000000)(hO:dO w)(hb:1<b) :
  Calls prog 217 #[.pointer (some ⟨b,0,none⟩)] w (cO w b s (fx (ai s) (8*s.size) p T)):=by
 have al:=@run_makeMap prog;have Q:=underlying315;have o:=a18;obtain⟨d,hd⟩:∃d,gU (ai s) (8*s.size) p T=d:=⟨_,rfl⟩;unfold fx;rw[hd];have Y:=h.lt;have G:w.heap.size≠b:=by omega
 have m0:=Ev w;obtain⟨w1,O,m1,e1⟩:=mW Q o _ _ _ 0 (.func (.func 238) #[] #[]) m0 (by simp);obtain⟨w2,Z,m2,e2⟩:=mW Q o _ _ _ 1 (.func (.func 239) #[] #[]) m1 (by simp);obtain⟨w3,r3,m3,e3⟩:=mW Q o _ _ _ 2 (.func (.func 240) #[] #[]) m2 (by simp);have S:Below w.heap.size w w1:=by rw[e1];exact jQ ((a0c _ w).alloc (a0a _) _) (a0a _) _
 have U:Below w.heap.size w w2:=by rw[e2];exact jQ S (a0a _) _
 have N:Below w.heap.size w w3:=by rw[e3];exact jQ U (a0a _) _
 simp only[a1I,a16]at m3;have J:Hid (PtI b s d w (.bool false) w3):=⟨false,p,T,rfl,(KU.refl b w).later N Y,h.later N,V,P,m3,by simpa using hd⟩;have HG:=ae (fun W k v (h:jP W w.heap.size qj) hm=>Eu Q o W w.heap.size _ k v true h hm (by decide));have aa:=ae (fun W (h:jP W w.heap.size qj)=>map_none Q o W w.heap.size _ 3 _ h (by decide) (Hu W));have I:=ae (a0b hs (a0b hO (a0b hb Y)));clear e1 e2 e3 S U N m0 m1 m2 m3 Q o hs hO hb V P h hd;go_enter func217,ntmps217;go_wp2_with fail;clear O Z r3 al
 go_loopw [3,4,5] (fun v _ _ wr=>PtI b s d w v wr) (fun _ _ _ wr=>8*s.size-lk b wr)
 case atStart=>exact ab J
 case round=>
  obtain⟨l,p,T,rfl,X,H,V,P,hM,hd⟩:=hrel;clear J;have n:=ae (a0b X (a0b H (a0b V (a0b P hM))));have L:=ae (H.place P);have f:=ae hd;clear X H V P hM hd;cases l
  .
   simp only[a00,a01]at f;rw[rl]at f;have y:=ae (bW b p 1 s wr (ab n).2.1.1 (ab I).1 (by omega));unfold i7 at y;rcases A:rdN (ai s) (8*s.size) p 1 with _|⟨a,q1⟩
   .
    rw[A]at y f;have F:Hid (d=none):=by show d=none;rw[<-ab f];rfl
    clear A f;go_wp2_with fail;refine(ab y).mono ?_;rintro e x1 ⟨B,rfl⟩;refine⟨rfl,?_⟩;unfold cO;rw[ab F];exact⟨(ab n).1.trans B.ku,rfl⟩
   rw[A]at y f;simp only[a0f]at f;have M:=ae (bD A);have HA:Hid (((a:Int) == 1)=decide (a=1)):=by show _=_;rw[a2h];simp;omega
   clear A;go_wp2_with fail;refine(ab y).mono ?_;rintro e x1 ⟨B,rfl,O⟩;have z:=ae (a0b ((ab n).1.trans B.ku) (a0b ((ab n).2.1.keep1 B O) ((ab n).2.2.2.2.ku B.ku G)));clear B O y;obtain⟨l,hl⟩:∃l,((a:Int) == 1)=l:=⟨_,rfl⟩;have Hl:Hid (l=decide (a=1)):=by show _=_;rw[<-hl];exact ab HA
   have y:=ae (bW b q1 2 s x1 (ab z).2.1.1 (ab I).1 (by omega));unfold i7 at y;rcases h2:rdN (ai s) (8*s.size) q1 2 with _|⟨k,x⟩
   .
    rw[h2]at y f;have F:Hid (d=none):=by show d=none;rw[<-ab f];rfl
    clear h2 f;go_wp2_with fail;refine(ab y).mono ?_;rintro e x2 ⟨R,rfl⟩;refine⟨rfl,?_⟩;unfold cO;rw[ab F];exact⟨(ab z).1.trans R.ku,rfl⟩
   rw[h2]at y f;simp only[a0f]at f;have D:=ae (bD h2);have ad:k<4:=by have:=(bD h2).2.2.2;omega
   clear h2;go_wp2_with fail;refine(ab y).mono ?_;rintro e x2 ⟨R,rfl,Z⟩;have c:=ae (a0b ((ab z).1.trans R.ku) (a0b ((ab z).2.1.keep1 R Z) ((ab z).2.2.ku R.ku G)));have ac:Hid (dO x2):=(ab I).2.1.below (ab c).1.1 (ab I).2.2.1;clear R Z y z hl HA;have e4:k=0∨k=1∨k=2∨k=3:=by omega
   clear ad;rcases e4 with o|o|o|o
   .
    have j:(k:Int)=0:=by omega
    have g1:(Instr.lookup 315 (.map (some w.heap.size)) (.int .i64 (k:Int)) true).run prog x2 = .ok (.tuple #[.func (.func 238) #[] #[],.bool true]) x2:=by rw[j];exact ab HG x2 0 (.func (.func 238) #[] #[]) (ab c).2.2 (by unfold qj;simp)
    have K:Hid (gF (ai s) (8*s.size) k x T=dN (ai s) (8*s.size) x T):=by show _=_;rw[o];unfold gF;simp
    rw[ab K]at f;have i:=ae (vg b x s T x2 (ab c).2.1 (ab n).2.2.1 (ab D).1 (ab I).1);unfold cO at i;clear j K o;go_wp2_with fail;refine(da _).mono ?_;rintro e x3 ⟨rfl,m⟩;rw[m];clear m x3 g1;rcases r:dN (ai s) (8*s.size) x T with _|⟨T',u⟩
    .
     rw[r]at i f;have F:Hid (d=none):=by show d=none;rw[<-ab f];rfl
     clear r f;go_wp2_with fail;refine(ab i).mono ?_;rintro e x4 ⟨t,rfl⟩;refine⟨rfl,?_⟩;unfold cO;rw[ab F];exact⟨(ab c).1.trans t,rfl⟩
    rw[r]at i f;simp only[a0f]at f;have g:Hid (u<=8*s.size/\x<=u/\(T.length<=300->T'.length<=300)):=DC r;clear r;go_wp2_with fail;refine(ab i).mono ?_;rintro e x4 ⟨t,rfl,s4⟩;have J:Hid (PtI b s d w (.bool l) x4):=⟨l,u,T',rfl,(ab c).1.trans t,s4,(ab g).2.2 (ab n).2.2.1,(ab g).1,(ab c).2.2.ku t G,by rw[ab Hl];simpa using ab f⟩;have C:=ae (s4.place (ab g).1);have E:Hid (p<u/\u<=8*s.size):=⟨by have:=ab M;have:=ab D;have:=ab g;omega,(ab g).1⟩;clear t s4 i c n;go_wp2_with fail;go_roundw
    case rel=>exact ab J
    case measure=>rw[ab C,ab L];have:=ab E;omega
   .
    have j:(k:Int)=1:=by omega
    have g1:(Instr.lookup 315 (.map (some w.heap.size)) (.int .i64 (k:Int)) true).run prog x2 = .ok (.tuple #[.func (.func 239) #[] #[],.bool true]) x2:=by rw[j];exact ab HG x2 1 (.func (.func 239) #[] #[]) (ab c).2.2 (by unfold qj;simp)
    have K:Hid (gF (ai s) (8*s.size) k x T=FB (ai s) (8*s.size) x T):=by show _=_;rw[o];unfold gF;simp
    rw[ab K]at f;have i:=ae (uN b x s T x2 (ab c).2.1 (ab n).2.2.1 (ab D).1 (ab I).1);unfold cO at i;clear j K o;go_wp2_with fail;refine(da _).mono ?_;rintro e x3 ⟨rfl,m⟩;rw[m];clear m x3 g1;rcases r:FB (ai s) (8*s.size) x T with _|⟨T',u⟩
    .
     rw[r]at i f;have F:Hid (d=none):=by show d=none;rw[<-ab f];rfl
     clear r f;go_wp2_with fail;refine(ab i).mono ?_;rintro e x4 ⟨t,rfl⟩;refine⟨rfl,?_⟩;unfold cO;rw[ab F];exact⟨(ab c).1.trans t,rfl⟩
    rw[r]at i f;simp only[a0f]at f;have g:Hid (u<=8*s.size/\x<=u/\(T.length<=300->T'.length<=300)):=I1 r;clear r;go_wp2_with fail;refine(ab i).mono ?_;rintro e x4 ⟨t,rfl,s4⟩;have J:Hid (PtI b s d w (.bool l) x4):=⟨l,u,T',rfl,(ab c).1.trans t,s4,(ab g).2.2 (ab n).2.2.1,(ab g).1,(ab c).2.2.ku t G,by rw[ab Hl];simpa using ab f⟩;have C:=ae (s4.place (ab g).1);have E:Hid (p<u/\u<=8*s.size):=⟨by have:=ab M;have:=ab D;have:=ab g;omega,(ab g).1⟩;clear t s4 i c n;go_wp2_with fail;go_roundw
    case rel=>exact ab J
    case measure=>rw[ab C,ab L];have:=ab E;omega
   .
    have j:(k:Int)=2:=by omega
    have g1:(Instr.lookup 315 (.map (some w.heap.size)) (.int .i64 (k:Int)) true).run prog x2 = .ok (.tuple #[.func (.func 240) #[] #[],.bool true]) x2:=by rw[j];exact ab HG x2 2 (.func (.func 240) #[] #[]) (ab c).2.2 (by unfold qj;simp)
    have K:Hid (gF (ai s) (8*s.size) k x T=uf (ai s) (8*s.size) x T):=by show _=_;rw[o];unfold gF;simp
    rw[ab K]at f;have i:=ae (Aq b x s T x2 (ab c).2.1 (ab n).2.2.1 (ab I).1 (ab ac) (ab I).2.2.1);unfold cO at i;clear j K o;go_wp2_with fail;refine(da _).mono ?_;rintro e x3 ⟨rfl,m⟩;rw[m];clear m x3 g1;rcases r:uf (ai s) (8*s.size) x T with _|⟨T',u⟩
    .
     rw[r]at i f;have F:Hid (d=none):=by show d=none;rw[<-ab f];rfl
     clear r f;go_wp2_with fail;refine(ab i).mono ?_;rintro e x4 ⟨t,rfl⟩;refine⟨rfl,?_⟩;unfold cO;rw[ab F];exact⟨(ab c).1.trans t,rfl⟩
    rw[r]at i f;simp only[a0f]at f;have g:Hid (u<=8*s.size/\x<=u/\(T.length<=300->T'.length<=300)):=J0 r;clear r;go_wp2_with fail;refine(ab i).mono ?_;rintro e x4 ⟨t,rfl,s4⟩;have J:Hid (PtI b s d w (.bool l) x4):=⟨l,u,T',rfl,(ab c).1.trans t,s4,(ab g).2.2 (ab n).2.2.1,(ab g).1,(ab c).2.2.ku t G,by rw[ab Hl];simpa using ab f⟩;have C:=ae (s4.place (ab g).1);have E:Hid (p<u/\u<=8*s.size):=⟨by have:=ab M;have:=ab D;have:=ab g;omega,(ab g).1⟩;clear t s4 i c n;go_wp2_with fail;go_roundw
    case rel=>exact ab J
    case measure=>rw[ab C,ab L];have:=ab E;omega
   .
    have j:(k:Int)=3:=by omega
    have g1:(Instr.lookup 315 (.map (some w.heap.size)) (.int .i64 (k:Int)) true).run prog x2 = .ok (.tuple #[Ld,.bool false]) x2:=by rw[j];exact ab aa x2 (ab c).2.2
    have F:Hid (d=none):=by show d=none;rw[<-ab f,o];unfold gF;simp
    clear j o f;unfold Ld at g1;go_wp2_with fail;refine(fo _).mono ?_;rintro e x3 ⟨rfl,m⟩;rw[m];clear m x3;refine⟨rfl,?_⟩;unfold cO;rw[ab F];exact⟨(ab c).1,rfl⟩
  .
   simp only[a0W]at f;have i:=ae (nz b p s wr (ab n).2.1.1 (ab I).1 (ab n).2.2.2.1);rcases A:gq (ai s) p with _|q
   . rw[A]at i;have H1:=ae A;clear A;go_wp2_with fail;refine(ab i).mono ?_;rintro e x1 ⟨B,rfl⟩;refine⟨rfl,?_⟩;unfold cO;rw[<-ab f];simp only[a0f];rw[ab H1];exact⟨(ab n).1.trans B.ku,rfl⟩
   .
    rw[A]at i;have H1:=ae A;clear A;go_wp2_with fail;refine(ab i).mono ?_;rintro e x1 ⟨B,rfl,O⟩;have HY:=ae (a0b ((ab n).1.trans B.ku) ((ab n).2.1.keep1 B O));clear B O i n;go_wp2
    go_end0
    unfold cO;rw[<-ab f];simp only[a0f];rw[ab H1];exact⟨(ab HY).1,trivial,(ab HY).2⟩
end Go.Proofs.YtllhielelnfpaaaGreatDoor
