/- Texts. -/
import Derived.Test.YtemopnjckikkaaaGreatDoorM27
import Derived.Test.YtemopnjckikkaaaGreatDoorM5
import Derived.Test.YtemopnjckikkaaaGreatDoorM29
set_option linter.all false
set_option maxRecDepth 100000
set_option maxHeartbeats 4000000
namespace Go.Proofs.YtemopnjckikkaaaGreatDoor
open Go.Proofs.Tryz
open Go.RowKit Corb
variable {T T':List UInt8}{V p q sz:Nat}
def kA.ku{w w':World}{b g:Nat}{es:List (Int×Value)}(h:kA w g es)(f:KU b w w')(c:g≠b):kA w' g es:=by
 unfold kA at h ⊢;have a:g<w.heap.size:=(Array.getElem?_eq_some_iff.1 h).1;rw[f.2 g a c (by intro e fr d;rw[h]at d;cases d)];exact h
def qZ:List (Int×Value):=[(0,.func (.func 187) #[] #[]),(1,.func (.func 188) #[] #[]),(2,.func (.func 189) #[] #[])]
def Fl(h:dD V sz p T=some (T',q)):q<=sz/\p<=q/\(T.length<=300->T'.length<=300):=xC h
def Lc(h:Ed V sz p T=some (T',q)):q<=sz/\p<=q/\(T.length<=300->T'.length<=300):=by
 have:=zo h;exact⟨this.1,by omega,this.2.2⟩
def Mr(h:vn V sz p T=some (T',q)):q<=sz/\p<=q/\(T.length<=300->T'.length<=300):=Gi h
def NE:Value:=.nilFunc
def JP(W:World):(zeroValue 280).run prog W = .ok NE W:=by kernel_rfl
def PtI(b:Nat)(s:ByteArray)(d:Option (List UInt8×Nat))(w:World)(v:Value)(wr:World):Prop:=
 ∃(l:Bool) (p:Nat) (T:List UInt8),v = .bool l/\KU b w wr/\Sou wr b s p T/\T.length<=300/\p<=8*s.size/\kA wr w.heap.size qZ/\(if l=true then some (T,p)else fQ (ak s) (8*s.size) p T)=d
def kE{B:Nat}{a w:World}{b:Nat}(h:Below B a w)(hb:B<=b)(o:Obj):Below B a (w.putObj b o):=by
 refine h.trans ⟨rfl,rfl,rfl,by simp[World.putObj],fun k c=>?_⟩;have:k≠b:=by omega
 simp[World.putObj,Ne.symm this]
def I9(b p:Nat)(s:ByteArray)(T:List UInt8)(w:World)(h:Sou w b s p T)(V:T.length<=300)(P:p<=8*s.size)(hs:s.size<=2000000)(hO:ef w)(hb:1<b) :
  Calls prog 157 #[.pointer b] w (dj w b s (fq (ak s) (8*s.size) p T)):=by
 have ad:=@run_makeMap prog;have Q:=underlying281;have o:=underlying3;obtain⟨d,hd⟩:∃d,fQ (ak s) (8*s.size) p T=d:=⟨_,rfl⟩;unfold fq;rw[hd];have Y:=h.lt;have G:w.heap.size≠b:=by omega
 have m0:=Gb w;obtain⟨w1,O,m1,e1⟩:=nM Q o _ _ _ 0 (.func (.func 187) #[] #[]) m0 (by simp);obtain⟨w2,Z,m2,e2⟩:=nM Q o _ _ _ 1 (.func (.func 188) #[] #[]) m1 (by simp);obtain⟨w3,r3,m3,e3⟩:=nM Q o _ _ _ 2 (.func (.func 189) #[] #[]) m2 (by simp);have S:Below w.heap.size w w1:=by rw[e1];exact kE ((Below.refl _ w).alloc (a0a _) _) (a0a _) _
 have U:Below w.heap.size w w2:=by rw[e2];exact kE S (a0a _) _
 have N:Below w.heap.size w w3:=by rw[e3];exact kE U (a0a _) _
 simp only[a04,a1g]at m3;have J:Hid (PtI b s d w (.bool false) w3):=⟨false,p,T,rfl,(KU.refl b w).later N Y,h.later N,V,P,m3,by simpa using hd⟩;have HG:=af (fun W k v (h:kA W w.heap.size qZ) hm=>Ga Q o W w.heap.size _ k v true h hm (by decide));have aa:=af (fun W (h:kA W w.heap.size qZ)=>map_none Q o W w.heap.size _ 3 _ h (by decide) (JP W));have I:=af (a0b hs (a0b hO (a0b hb Y)));clear e1 e2 e3 S U N m0 m1 m2 m3 Q o hs hO hb V P h hd;go_enter func157,ntmps157;go_wp2_with fail;clear O Z r3 ad
 go_loopw [3,4,5] (fun v _ _ wr=>PtI b s d w v wr) (fun _ _ _ wr=>8*s.size-lT b wr)
 case atStart=>exact J
 case round=>
  obtain⟨l,p,T,rfl,X,H,V,P,hM,hd⟩:=hrel;clear J;have n:=af (a0b X (a0b H (a0b V (a0b P hM))));have L:=af (H.place P);have f:=af hd;clear X H V P hM hd;cases l
  .
   simp only[a0Z,a00]at f;rw[mW]at f;have y:=af (cj b p 1 s wr n.2.1.1 I.1 (by omega));unfold jH at y;rcases A:rdN (ak s) (8*s.size) p 1 with _|⟨a,q1⟩
   .
    rw[A]at y f;have F:Hid (d=none):=by show d=none;rw[←ae f];rfl
    clear A f;go_wp2_with fail;refine y.mono ?_;rintro e x1⟨B,rfl⟩;refine⟨rfl,?_⟩;unfold dj;rw[ae F];exact⟨n.1.trans B.ku,rfl⟩
   rw[A]at y f;simp only[a0e]at f;have M:=af (bJ A);have HA:Hid (((a:Int) == 1)=decide (a=1)):=by show _=_;rw[a19];simp;omega
   clear A;go_wp2_with fail;refine y.mono ?_;rintro e x1⟨B,rfl,O⟩;have z:=af (a0b (n.1.trans B.ku) (a0b (n.2.1.keep1 B O) (n.2.2.2.2.ku B.ku G)));clear B O y;obtain⟨l,hl⟩:∃l,((a:Int) == 1)=l:=⟨_,rfl⟩;have Hl:Hid (l=decide (a=1)):=by show _=_;rw[←hl];exact HA
   have y:=af (cj b q1 2 s x1 z.2.1.1 I.1 (by omega));unfold jH at y;rcases h2:rdN (ak s) (8*s.size) q1 2 with _|⟨k,x⟩
   .
    rw[h2]at y f;have F:Hid (d=none):=by show d=none;rw[←ae f];rfl
    clear h2 f;go_wp2_with fail;refine y.mono ?_;rintro e x2⟨R,rfl⟩;refine⟨rfl,?_⟩;unfold dj;rw[ae F];exact⟨z.1.trans R.ku,rfl⟩
   rw[h2]at y f;simp only[a0e]at f;have D:=af (bJ h2);have ac:k<4:=by have:=(bJ h2).2.2.2;omega
   clear h2;go_wp2_with fail;refine y.mono ?_;rintro e x2⟨R,rfl,Z⟩;have c:=af (a0b (z.1.trans R.ku) (a0b (z.2.1.keep1 R Z) (z.2.2.ku R.ku G)));have ab:Hid (ef x2):=I.2.1.below c.1.1 I.2.2.1;clear R Z y z hl HA;have e4:k=0∨k=1∨k=2∨k=3:=by omega
   clear ac;rcases e4 with o|o|o|o
   .
    have j:(k:Int)=0:=by omega
    have g1:(Instr.lookup 281 (.map (some w.heap.size)) (.int .i64 (k:Int)) true).run prog x2 = .ok (.tuple #[.func (.func 187) #[] #[],.bool true]) x2:=by rw[j];exact HG x2 0 (.func (.func 187) #[] #[]) (ae c).2.2 (by unfold qZ;simp)
    have K:Hid (fJ (ak s) (8*s.size) k x T=dD (ak s) (8*s.size) x T):=by show _=_;rw[o];unfold fJ;simp
    rw[ae K]at f;have i:=af (wv b x s T x2 c.2.1 n.2.2.1 D.1 I.1);unfold dj at i;clear j K o;go_wp2_with fail;refine(dt _).mono ?_;rintro e x3⟨rfl,m⟩;rw[m];clear m x3 g1;rcases r:dD (ak s) (8*s.size) x T with _|⟨T',u⟩
    .
     rw[r]at i f;have F:Hid (d=none):=by show d=none;rw[←ae f];rfl
     clear r f;go_wp2_with fail;refine i.mono ?_;rintro e x4⟨t,rfl⟩;refine⟨rfl,?_⟩;unfold dj;rw[ae F];exact⟨c.1.trans t,rfl⟩
    rw[r]at i f;simp only[a0e]at f;have g:Hid (u<=8*s.size/\x<=u/\(T.length<=300->T'.length<=300)):=Fl r;clear r;go_wp2_with fail;refine i.mono ?_;rintro e x4⟨t,rfl,s4⟩;have J:Hid (PtI b s d w (.bool l) x4):=⟨l,u,T',rfl,c.1.trans t,s4,g.2.2 n.2.2.1,g.1,c.2.2.ku t G,by rw[ae Hl];simpa using ae f⟩;have C:=af (s4.place g.1);have E:Hid (p<u/\u<=8*s.size):=⟨by have:=ae M;have:=ae D;have:=ae g;omega,g.1⟩;clear t s4 i c n;go_wp2_with fail;go_roundw
    case rel=>exact J
    case measure=>rw[ae C,ae L];have:=ae E;omega
   .
    have j:(k:Int)=1:=by omega
    have g1:(Instr.lookup 281 (.map (some w.heap.size)) (.int .i64 (k:Int)) true).run prog x2 = .ok (.tuple #[.func (.func 188) #[] #[],.bool true]) x2:=by rw[j];exact HG x2 1 (.func (.func 188) #[] #[]) (ae c).2.2 (by unfold qZ;simp)
    have K:Hid (fJ (ak s) (8*s.size) k x T=Ed (ak s) (8*s.size) x T):=by show _=_;rw[o];unfold fJ;simp
    rw[ae K]at f;have i:=af (vX b x s T x2 c.2.1 n.2.2.1 D.1 I.1);unfold dj at i;clear j K o;go_wp2_with fail;refine(dt _).mono ?_;rintro e x3⟨rfl,m⟩;rw[m];clear m x3 g1;rcases r:Ed (ak s) (8*s.size) x T with _|⟨T',u⟩
    .
     rw[r]at i f;have F:Hid (d=none):=by show d=none;rw[←ae f];rfl
     clear r f;go_wp2_with fail;refine i.mono ?_;rintro e x4⟨t,rfl⟩;refine⟨rfl,?_⟩;unfold dj;rw[ae F];exact⟨c.1.trans t,rfl⟩
    rw[r]at i f;simp only[a0e]at f;have g:Hid (u<=8*s.size/\x<=u/\(T.length<=300->T'.length<=300)):=Lc r;clear r;go_wp2_with fail;refine i.mono ?_;rintro e x4⟨t,rfl,s4⟩;have J:Hid (PtI b s d w (.bool l) x4):=⟨l,u,T',rfl,c.1.trans t,s4,g.2.2 n.2.2.1,g.1,c.2.2.ku t G,by rw[ae Hl];simpa using ae f⟩;have C:=af (s4.place g.1);have E:Hid (p<u/\u<=8*s.size):=⟨by have:=ae M;have:=ae D;have:=ae g;omega,g.1⟩;clear t s4 i c n;go_wp2_with fail;go_roundw
    case rel=>exact J
    case measure=>rw[ae C,ae L];have:=ae E;omega
   .
    have j:(k:Int)=2:=by omega
    have g1:(Instr.lookup 281 (.map (some w.heap.size)) (.int .i64 (k:Int)) true).run prog x2 = .ok (.tuple #[.func (.func 189) #[] #[],.bool true]) x2:=by rw[j];exact HG x2 2 (.func (.func 189) #[] #[]) (ae c).2.2 (by unfold qZ;simp)
    have K:Hid (fJ (ak s) (8*s.size) k x T=vn (ak s) (8*s.size) x T):=by show _=_;rw[o];unfold fJ;simp
    rw[ae K]at f;have i:=af (BX b x s T x2 c.2.1 n.2.2.1 I.1 ab I.2.2.1);unfold dj at i;clear j K o;go_wp2_with fail;refine(dt _).mono ?_;rintro e x3⟨rfl,m⟩;rw[m];clear m x3 g1;rcases r:vn (ak s) (8*s.size) x T with _|⟨T',u⟩
    .
     rw[r]at i f;have F:Hid (d=none):=by show d=none;rw[←ae f];rfl
     clear r f;go_wp2_with fail;refine i.mono ?_;rintro e x4⟨t,rfl⟩;refine⟨rfl,?_⟩;unfold dj;rw[ae F];exact⟨c.1.trans t,rfl⟩
    rw[r]at i f;simp only[a0e]at f;have g:Hid (u<=8*s.size/\x<=u/\(T.length<=300->T'.length<=300)):=Mr r;clear r;go_wp2_with fail;refine i.mono ?_;rintro e x4⟨t,rfl,s4⟩;have J:Hid (PtI b s d w (.bool l) x4):=⟨l,u,T',rfl,c.1.trans t,s4,g.2.2 n.2.2.1,g.1,c.2.2.ku t G,by rw[ae Hl];simpa using ae f⟩;have C:=af (s4.place g.1);have E:Hid (p<u/\u<=8*s.size):=⟨by have:=ae M;have:=ae D;have:=ae g;omega,g.1⟩;clear t s4 i c n;go_wp2_with fail;go_roundw
    case rel=>exact J
    case measure=>rw[ae C,ae L];have:=ae E;omega
   .
    have j:(k:Int)=3:=by omega
    have g1:(Instr.lookup 281 (.map (some w.heap.size)) (.int .i64 (k:Int)) true).run prog x2 = .ok (.tuple #[NE,.bool false]) x2:=by rw[j];exact aa x2 (ae c).2.2
    have F:Hid (d=none):=by show d=none;rw[←ae f,o];unfold fJ;simp
    clear j o f;unfold NE at g1;go_wp2_with fail;refine(fE _).mono ?_;rintro e x3⟨rfl,m⟩;rw[m];clear m x3;refine⟨rfl,?_⟩;unfold dj;rw[ae F];exact⟨c.1,rfl⟩
  .
   simp only[a0S]at f;have i:=af (ov b p s wr n.2.1.1 I.1 n.2.2.2.1);rcases A:fL (ak s) p with _|q
   . rw[A]at i;have H1:=af A;clear A;go_wp2_with fail;refine i.mono ?_;rintro e x1⟨B,rfl⟩;refine⟨rfl,?_⟩;unfold dj;rw[←ae f];simp only[a0e];rw[ae H1];exact⟨n.1.trans B.ku,rfl⟩
   .
    rw[A]at i;have H1:=af A;clear A;go_wp2_with fail;refine i.mono ?_;rintro e x1⟨B,rfl,O⟩;have HY:=af (a0b (n.1.trans B.ku) (n.2.1.keep1 B O));clear B O i n;go_wp2
    go_end0
    unfold dj;rw[←ae f];simp only[a0e];rw[ae H1];exact⟨HY.1,trivial,HY.2⟩
def jb(e:En):Bool:=g9 e.n e.y e.mo e.d e.h e.mi e.s e.t
def rR(l:List En)(i:Nat):Bool:=(List.range l.length).all fun k=>!fT (l.getD i default).n.data.toList (l.getD k default).n.data.toList
def vi(l:List En)(i:Nat):Bool:=jb (l.getD i default)&&(decide (atN l (l.getD i default).n=(i:Int))&&rR l i)
def dO(l:List En):Bool:=(List.range l.length).all (vi l)&&decide (l.length<=6)
def QX{l:List En}{i:Nat}(a:i<l.length)(h:vi l i=false):dO l=false:=by
 have:(List.range l.length).all (vi l)=false:=by
  rw[a3d];exact⟨i,List.mem_range.2 a,by simp[h]⟩
 simp[dO,this]
def GB{l:List En}(h:∀i,i<l.length->vi l i=true):dO l=decide (l.length<=6):=by
 have:(List.range l.length).all (vi l)=true:=by
  rw[a08];exact fun i a=>h i (List.mem_range.1 a)
 simp[dO,this]
def Ov{l:List En}{i k:Nat}(a:k<l.length)(h:fT (l.getD i default).n.data.toList (l.getD k default).n.data.toList=true):rR l i=false:=by
 unfold rR;rw[a3d];exact⟨k,List.mem_range.2 a,by rw[h];decide⟩
def Ax{l:List En}{i:Nat}(h:∀k,k<l.length->fT (l.getD i default).n.data.toList (l.getD k default).n.data.toList=false):rR l i=true:=by
 unfold rR;rw[a08];exact fun k a=>by rw[h k (List.mem_range.1 a)];rfl
def wu(a:Option Addr)(cap:Nat)(l:List En)(n:Nat)(hn:l.length=n)(w:World)(h:kR w a l)(hl:(n:Int)<=1048576)
  (hs:∀i,i<n->(l.getD i default).n.size<=1048576/\((l.getD i default).t.size:Int)<=9223372036854775807) :
  CD 18 #[.slice a n cap] w (.bool (dO l)):=by
 have HS:=af hs;have HR:=af h;have R:=af (fun i (hi:i<l.length)=>@QX l i hi);have S:=af (@GB l);have K:=af (fun i k (hk:k<l.length)=>@Ov l i k hk);have M:=af (fun i=>@Ax l i);rw[hn]at R S K M;have P:=af hn;clear h hs hn;go_enter func18,ntmps18;go_wp2_with fail
 go_loopw [3,4] (fun i _ wr=>∃k:Nat,k<=n/\i = .int .i64 k/\(∀j,j<k->vi l j=true)/\Below w.heap.size w wr) (fun i _ _=>n-(intOf i).toNat)
 case atStart=>exact⟨0,a0f _,rfl,fun j E=>absurd E (by omega),Below.refl _ _⟩
 case round=>
  obtain⟨k,hk,rfl,D,b⟩:=hrel;have r:=af D;have c:=af b;clear D b;by_cases z:k<n
  .
   have a2:(k:Int)<(n:Int):=by omega
   have RW:=af (HR.later c);obtain⟨g,o,rfl,hg,hc⟩:=ae RW (by have:=ae P;omega);obtain⟨c0,c1,c2,c3,c4,c5,c6,c7⟩:=hc k (by have:=ae P;omega);have x:=af z;have H:=af (ae HS k z);have I:=af (ae R k z);have f:Hid (vi l k=(jb (l.getD k default)&&(decide (atN l (l.getD k default).n=(k:Int))&&rR l k))):=rfl;have aa:Hid (vi l k=true->∀j,j<k+1->vi l j=true):=by
    intro e j E;by_cases an:j=k
    . rw[an];exact e
    . exact r j (by omega)
   have L:=af (ae K k);have N:=af (ae M k);have a0:((l.getD k default).n.size:Int)<=1048576:=by have:=H.1;omega
   have C:=af (fun W=>jf (l.getD k default).n (l.getD k default).y (l.getD k default).mo (l.getD k default).d (l.getD k default).h (l.getD k default).mi (l.getD k default).s (l.getD k default).t W H.1 H.2);have X:=af (fun W hW=>LJ (some ⟨g,o,none⟩) cap l n P (l.getD k default).n W hW hl);have ab:=af (fun j (E:j<n) W=>mQ (l.getD k default).n (l.getD j default).n W a0 (by have:=(HS j E).1;omega));have G:Hid (∀W,Below w.heap.size w W->∀j,j<n->W.cell? ⟨g,o+j*8,none⟩=some (.string (l.getD j default).n)):=by
    intro W hW j E;obtain⟨g',o',e',_,ad⟩:=HR.later hW (by have:=ae P;omega);simp only[a0j,a0z,a0N]at e';obtain⟨rfl,rfl⟩:=e';exact(ad j (by have:=ae P;omega)).1
   have J:Hid (jb (l.getD k default)=g9 (l.getD k default).n (l.getD k default).y (l.getD k default).mo (l.getD k default).d (l.getD k default).h (l.getD k default).mi (l.getD k default).s (l.getD k default).t):=rfl;clear hc hk r z;generalize jb (l.getD k default)=be at *
   go_wp2_with fail;refine(C _).mono ?_;rintro e z1⟨rfl,U⟩;rw[←ae J];have p:=af (aj c U);have al:=ae G _ (ae p) k (ae x);clear U c0 c1 c2 c3 c4 c5 c6 c7 J C;cases be
   . have HP:=af (ae I (by rw[ae f];rfl));go_wp2;go_ret;exact⟨am HP.symm,p⟩
   .
    go_wp2_with fail;refine(X _ (HR.later p)).mono ?_;rintro e z2⟨rfl,V⟩;rw[V];clear V;generalize atN l (l.getD k default).n=A at *
    by_cases hA:A=(k:Int)
    .
     subst hA;go_wp2_with fail
     go_loopw [4] (fun q wr=>∃m:Nat,m<=n/\q = .int .i64 m/\(∀j,j<m->fT (l.getD k default).n.data.toList (l.getD j default).n.data.toList=false)/\Below w.heap.size w wr) (fun q _=>n-(intOf q).toNat)
     case atStart=>exact⟨0,a0f _,rfl,fun j E=>absurd E (by omega),p⟩
     case round=>
      obtain⟨m,hm,rfl,T,b⟩:=hrel;have F:=af T;have v:=af b;clear T b al;by_cases B:m<n
      .
       have a3:(m:Int)<(n:Int):=by omega
       have d0:=ae G _ (ae v) k (ae x);have d1:=ae G _ (ae v) m B;have Q:=af (ae ab m B);have Z:=af (ae L m B);have O:=af B;have Y:Hid (fT (l.getD k default).n.data.toList (l.getD m default).n.data.toList=false->∀j,j<m+1->fT (l.getD k default).n.data.toList (l.getD j default).n.data.toList=false):=by
        intro e j E;by_cases ao:j=m
        . rw[ao];exact e
        . exact F j (by omega)
       clear hm F;generalize fT (l.getD k default).n.data.toList (l.getD m default).n.data.toList=u at *
       cases u
       .
        have HX:=af (ae Y rfl);go_wp2_with fail
        go_quiet ((go_at_call 39;exact Calls.quiet_of_same (Q _)))
        go_wp2;go_roundw
        case rel=>exact⟨m+1,by have:=ae O;omega,by go_num,HX,below_drewN v _⟩
        case measure=>have:=ae O;simp[intOf];omega
       .
        have HP:=af (ae I (by rw[ae f,ae Z rfl];simp));go_wp2_with fail
        go_quiet ((go_at_call 39;exact Calls.quiet_of_same (Q _)))
        go_wp2;go_ret;exact⟨am HP.symm,below_drewN v _⟩
      .
       obtain rfl:m=n:=by omega
       have HX:=af (ae aa (by rw[ae f,ae N (ae F)];simp));go_wp2;go_roundw
       case rel=>exact⟨k+1,by have:=ae x;omega,by go_num,HX,v⟩
       case measure=>have:=ae x;simp[intOf];omega
    .
     have HP:=af (ae I (by rw[ae f];simp[hA]));have a1:(A == (k:Int))=false:=by simp[hA]
     go_wp2;go_ret;exact⟨am HP.symm,p⟩
  .
   obtain rfl:k=n:=by omega
   have HY:=af (ae S (ae r));by_cases h6:k<=6
   .
    have ac:(k:Int)<=6:=by omega
    go_wp2;go_ret;exact⟨am (by rw[ae HY];simp[h6]),c⟩
   .
    have ac:¬ (k:Int)<=6:=by omega
    go_wp2;go_ret;exact⟨am (by rw[ae HY];simp[h6]),c⟩
def Cj(n:ByteArray)(y mo d h mi s:Int)(t:ByteArray)(b:Nat)(x:ByteArray)(w:World)(hb:w.cell? ⟨b,0,none⟩=some (.string x))(i:(n.size:Int)<=1048576)(j:(x.size:Int)<=1048576) :
  CD 63 #[.agg #[n,y,mo,d,h,mi,s,t],.pointer b] w (.bool (cw n.data.toList x.data.toList)):=by
 have a:b<w.heap.size:=World.block_lt_of_cell? _ _ hb;have g:(w.alloc (.cells #[n,y,mo,d,h,mi,s,t] 49)).cell? ⟨b,0,none⟩=some (.string x):=by
  rw[World.cell?_alloc_past _ _ _ a];exact hb
 have f:=af (fun W=>vd n x W i j);clear hb;go_enter func63,ntmps63;go_wp2_with fail;refine(f _).mono ?_;rintro e w1⟨rfl,c⟩;rw[c];clear c;go_wp2;go_ret;exact⟨rfl,bx⟩
def lx(l:List En)(x:ByteArray):Bool:=l.any fun e=>cw e.n.data.toList x.data.toList
def tC{l:List En}{x:ByteArray}{k:Nat}(a:k<l.length)(e:cw (l.getD k default).n.data.toList x.data.toList=true):lx l x=true:=by
 unfold lx;rw[List.any_eq_true];refine⟨l.getD k default,?_,e⟩;simp[List.getD,a]
def qu{l:List En}{x:ByteArray}(h:∀j,j<l.length->cw (l.getD j default).n.data.toList x.data.toList=false):lx l x=false:=by
 unfold lx;rw[List.any_eq_false];intro e b;obtain⟨j,a,rfl⟩:=a1E b;have:=h j a;simp only[List.getD,List.getElem?_eq_getElem a,a1u]at this;simp[this]
def wg(a:Option Addr)(cap:Nat)(l:List En)(n:Nat)(J:l.length=n)(b:Nat)(x:ByteArray)(w:World)(h:kR w a l)(hl:(n:Int)<=1048576)(hb:w.cell? ⟨b,0,none⟩=some (.string x))(hx:(x.size:Int)<=1048576)
  (Q:∀i,i<n->((l.getD i default).n.size:Int)<=1048576) :
  Calls prog 97 #[.slice a n cap,.func (.func 63) #[] #[.pointer b]] w fun e w'=>(∃r:Int,e = .returned (.int .i64 r)/\decide (0<=r)=lx l x/\r<1048577)/\Below w.heap.size w w':=by
 have A:b<w.heap.size:=World.block_lt_of_cell? _ _ hb;have T:=af Q;have S:=af h;have C:=af hb;have F:=af A;have L:=af (fun k (I:k<l.length)=>@tC l x k I);have M:=af (@qu l x);rw[J]at L M;have N:=af J;clear h Q J hb A;go_enter func97,ntmps97;go_wp2_with fail
 go_loopw [5,8] (fun _ i wr=>∃k:Nat,k<=n/\i = .int .i64 k/\(∀j,j<k->cw (l.getD j default).n.data.toList x.data.toList=false)/\Below w.heap.size w wr) (fun _ i _=>n-(intOf i).toNat)
 case atStart=>exact⟨0,a0f _,rfl,fun j P=>absurd P (by omega),Below.refl _ _⟩
 case round=>
  obtain⟨k,I,rfl,q,v⟩:=hrel;have f:=af q;have c:=af v;clear q v;by_cases m:k<n
  .
   have aa:(k:Int)<(n:Int):=by omega
   obtain⟨g,o,rfl,hg,O⟩:=S.later c (by have:=ae N;omega);obtain⟨c0,c1,c2,c3,c4,V,X,Y⟩:=O k (by have:=ae N;omega);have z:=af m;have E:=af (ae L k m);have R:=af (fun W (Z:Below w.heap.size w W)=>Cj (l.getD k default).n (l.getD k default).y (l.getD k default).mo (l.getD k default).d (l.getD k default).h (l.getD k default).mi (l.getD k default).s (l.getD k default).t b x W ((Z.cell (p:=⟨b,0,none⟩) F).trans C) (T k m) hx);have G:Hid (cw (l.getD k default).n.data.toList x.data.toList=false->∀j,j<k+1->cw (l.getD j default).n.data.toList x.data.toList=false):=by
    intro e j P;by_cases H:j=k
    . rw[H];exact e
    . exact f j (by omega)
   clear O I f m;generalize cw (l.getD k default).n.data.toList x.data.toList=u at *
   go_wp2_with fail;refine(R _ (ae c)).mono ?_;rintro e z1⟨rfl,B⟩;have K:=af (aj c B);clear B c0 c1 c2 c3 c4 V X Y;cases u
   .
    have U:=af (ae G rfl);go_wp2;go_roundw
    case rel=>exact⟨k+1,by have:=ae z;omega,by go_num,U,K⟩
    case measure=>have:=ae z;simp[intOf];omega
   . have D:=af (ae E rfl);go_wp2;go_ret;exact⟨⟨(k:Int),rfl,by rw[ae D];simp,by omega⟩,K⟩
  .
   obtain rfl:k=n:=by omega
   have D:=af (ae M (ae f));go_wp2;go_ret;exact⟨⟨-1,rfl,by rw[ae D];rfl,by omega⟩,c⟩
def qD(a:Option Addr)(cap:Nat)(l:List En)(n:Nat)(d:l.length=n)(b:Nat)(x:ByteArray)(w:World)(h:kR w a l)(o:(n:Int)<=1048576)(hb:w.cell? ⟨b,0,none⟩=some (.string x))(p:(x.size:Int)<=1048576)
  (g:∀i,i<n->((l.getD i default).n.size:Int)<=1048576) :
  CD 62 #[.slice a n cap,.func (.func 63) #[] #[.pointer b]] w (.bool (lx l x)):=by
 have k:=af (wg a cap l n d b x w h o hb p g);clear h hb g d;go_enter func62,ntmps62;go_wp2_with fail;refine k.mono ?_;rintro e w1⟨⟨r,rfl,f,_⟩,c⟩;have m:=af f;have j:=af c;clear f c;go_wp2;go_ret;exact⟨am m,j⟩
def bU(l:List En)(e:En):Int:=if jb e then(if lx l e.n then 3 else if 6<=l.length then 4 else 0)else 1
def gq(c:Int):Value:=if c=0 then .nilIface else .iface 75 (.agg #[c])
def sN(a:Option Addr)(cap:Nat)(l:List En)(n:Nat)(C:l.length=n)(e:En)(m:Int)(w:World)(h:kR w a l)(K:(n:Int)<=1048576)
  (D:∀i,i<n->((l.getD i default).n.size:Int)<=1048576) (J:e.n.size<=1048576) (L:(e.t.size:Int)<=9223372036854775807) (z:w.cell? ⟨2,0,none⟩=some (.int .i64 m)) :
  Calls prog 33 #[.slice a n cap,.agg e] w fun f w'=>f = .returned (gq (bU l e))/\Below w.heap.size w w':=by
 have E:Hid ((w.alloc (.cells e 49)).cell? ⟨2,0,none⟩=some (.int .i64 m)):=by
  show _=_;rw[World.cell?_alloc_past _ _ _ (World.block_lt_of_cell? _ _ z)];exact z
 have j:=af (me e.n e.y e.mo e.d e.h e.mi e.s e.t m _ J L E);have F:=af h;have G:=af D;have A:=af C;have x:(e.n.size:Int)<=1048576:=by omega
 clear h D z C;cases v:jb e
 .
  have I:bU l e=1:=by simp[bU,v]
  rw[I];go_enter func33,ntmps33;go_wp2_with fail;refine j.mono ?_;rintro f w1⟨rfl,b⟩;rw[show g9 e.n e.y e.mo e.d e.h e.mi e.s e.t=false from v];have c:=af (mB b).2;clear b;go_wp2;go_ret;exact⟨rfl,c⟩
 .
  have k:Hid (bU l e=if lx l e.n then 3 else if 6<=n then 4 else 0):=by show _=_;rw[←ae A];simp[bU,v]
  go_enter func33,ntmps33;go_wp2_with fail;refine j.mono ?_;rintro f w1⟨rfl,b⟩;rw[show g9 e.n e.y e.mo e.d e.h e.mi e.s e.t=true from v];have c:=af (mB b).2;have q:=af (mB b).1;clear b;have p:=af (qD a cap l n A w.heap.size e.n w1 (F.later c) K q.1.1 x G);clear q j;generalize lx l e.n=u at *
  go_wp2_with fail;refine p.mono ?_;rintro f w2⟨rfl,r⟩;have g:=af (aj c r);clear r p;cases u
  .
   by_cases B:6<=n
   .
    have H:(6:Int)<=(n:Int):=by omega
    have o:Hid (bU l e=4):=by show _=_;rw[ae k];simp[B]
    go_wp2;go_ret;exact⟨by rw[ae o];rfl,g⟩
   .
    have o:Hid (bU l e=0):=by show _=_;rw[ae k];simp[B]
    go_wp2;go_ret;exact⟨by rw[ae o];rfl,g⟩
  .
   have o:Hid (bU l e=3):=by show _=_;rw[ae k];simp
   go_wp2;go_ret;exact⟨by rw[ae o];rfl,g⟩
