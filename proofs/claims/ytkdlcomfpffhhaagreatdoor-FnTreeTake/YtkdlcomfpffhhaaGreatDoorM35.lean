/- Of what the proof is made: 11 texts, one behind the other. -/
import Derived.Test.YtkdlcomfpffhhaaGreatDoorM24
import Derived.Test.YtkdlcomfpffhhaaGreatDoorM34
import Derived.Test.YtkdlcomfpffhhaaGreatDoorTo2
import Derived.Deep.RegionHeld3
import Derived.Deep.DeepCutAuto
import Derived.Test.YtkdlcomfpffhhaaGreatDoorM18
import Derived.Test.YtkdlcomfpffhhaaGreatDoorM8
import Derived.Test.YtkdlcomfpffhhaaGreatDoorM19
import Derived.Test.YtkdlcomfpffhhaaGreatDoorM3
import Derived.Test.YtkdlcomfpffhhaaGreatDoorM27
import Derived.Test.YtkdlcomfpffhhaaGreatDoorM10
import Derived.Test.YtkdlcomfpffhhaaGreatDoorM11
import Derived.Test.YtkdlcomfpffhhaaGreatDoorM26
import Derived.Test.YtkdlcomfpffhhaaGreatDoorM12
import Derived.Lib.AppendZerosOnto
import Derived.Test.YtkdlcomfpffhhaaGreatDoorM6
set_option maxRecDepth 100000
set_option linter.unusedSimpArgs false
set_option linter.unusedVariables false
set_option maxHeartbeats 6400000
namespace Go.Proofs.YtkdlcomfpffhhaaGreatDoor
open Go.Proofs.Tryz
open Go.RowKit Corb
variable {D L l:List Int}{a:Option Addr}{b k n:Nat}{w w':World}
def pG(w:World)(b:Nat)(a:Option Addr)(l:List Tk):Prop:=Af w a l/\(0<l.length->∀x,a=some x->x.block≠b/\∀cur fr,w.heap[x.block]?≠some (.cells cur 5 fr))
theorem pG.keep{l:List Tk}(h:pG w b a l)(k:bw b w w'):pG w' b a l:=by
 by_cases c:0<l.length
 .
  obtain⟨g,o,e,j,m⟩:=h.1 c;obtain⟨f,h2⟩:=h.2 c _ e;have hb:=k.2 g j f h2;refine⟨fun _=>⟨g,o,e,a0i j k.1,fun i n=>?_⟩,fun _ x ex=>?_⟩
  . obtain⟨c0,c1,c2⟩:=m i n;exact⟨by rw[←c0];exact World.cell?_of_block (w:=w) hb,by rw[←c1];exact World.cell?_of_block (w:=w) hb,by rw[←c2];exact World.cell?_of_block (w:=w) hb⟩
  .
   have:x=⟨g,o,none⟩:=by rw[ex]at e;exact a0Z e
   subst this;exact⟨f,fun d fr=>by rw[hb];exact h2 d fr⟩
 . exact⟨fun h=>absurd h c,fun h=>absurd h c⟩
theorem EA{base cap:Nat}{l:List Tk}(k:l.length=n)(h:dr w base (.slice a n cap) l)(hb:b<base):pG w b a l:=by
 refine⟨h.rowN k,fun m x ex=>?_⟩;subst ex;rcases h.2 with⟨e,_⟩|⟨g,c,f,e,i,j,_⟩
 . cases e
 . simp only[a0O,a0m]at e;obtain⟨rfl,_⟩:=e;refine⟨by show g≠b;omega,fun d fr=>?_⟩;show w.heap[g]?≠_;rw[j];intro e;cases e
def dH(L D:List Int)(t:Tk):List (Int×Int):=
 if isB t then [pcM L t.1.toNat]
 else [pcM L (257+fnd 3 4 t.2.1.toNat 27),((t.2.1.toNat:Int)-((stF 3 4 (fnd 3 4 t.2.1.toNat 27)).1:Int),((stF 3 4 (fnd 3 4 t.2.1.toNat 27)).2:Nat)),pcM D (fnd 1 2 t.2.2.toNat 29),((t.2.2.toNat:Int)-((stF 1 2 (fnd 1 2 t.2.2.toNat 29)).1:Int),((stF 1 2 (fnd 1 2 t.2.2.toNat 29)).2:Nat))]
def RR(W:World)(b:Nat)(L D:List Int)(T:List Tk)(a a2 va vb vl vk at_:Option Addr):Prop:=
 (gz W b a L/\gz W b a2 D)/\(gz W b va (a8 L 15).2/\gz W b vb (a8 D 15).2)/\(gz W b vl iQ/\gz W b vk iK)/\pG W b at_ T
theorem RR.keep{W W':World}{T:List Tk}{a2 va vb vl vk at_:Option Addr}(h:RR W b L D T a a2 va vb vl vk at_)(c:bw b W W'):RR W' b L D T a a2 va vb vl vk at_:=
 ⟨⟨h.1.1.keep c,h.1.2.keep c⟩,⟨h.2.1.1.keep c,h.2.1.2.keep c⟩,⟨h.2.2.1.1.keep c,h.2.2.1.2.keep c⟩,h.2.2.2.keep c⟩
def kF(l:List Int):Prop:=∀k,k<l.length->(0<=l.getD k 0/\l.getD k 0<=15)/\(0<=(a8 l 15).2.getD k 0/\(a8 l 15).2.getD k 0<65536)
theorem bl(h:Below w.heap.size w w'):bw b w w':=⟨h.size,fun k a _ _=>h.block k a⟩
theorem kA{g:Nat}{a:Array Value}{t:TypeId}(f:bw b w w')(h:w.heap[g]?=some (Obj.cells a t))(d:g≠b)(i:t≠5):w'.heap[g]?=some (Obj.cells a t):=by
 refine(f.2 g (lC h) d (fun c fr=>?_)).trans h;rw[h];intro e;cases e
 exact i rfl
theorem g9(h:gz w b a l)(f:k<l.length):∃g o,a=some ⟨g,o,none⟩/\g<w.heap.size/\w.cell? ⟨g,o+k,none⟩=some (.int .i64 (l.getD k 0)):=by
 obtain⟨g,o,e,d,c⟩:=h.1 (by omega);exact⟨g,o,e,d,c k f⟩
theorem zk(y:Nat)(a:3<=y)(b:y<=60):pOk ((y:Int)-((stF 3 4 (fnd 3 4 y 27)).1:Int)) ((stF 3 4 (fnd 3 4 y 27)).2:Nat)=true:=by
 have:(List.range 61).all (fun y=>decide (y<3) || pOk ((y:Int)-((stF 3 4 (fnd 3 4 y 27)).1:Int)) ((stF 3 4 (fnd 3 4 y 27)).2:Nat))=true:=by decide +kernel
 have:=a06.1 this y (List.mem_range.2 (by omega));simp only[a1U,a0E]at this;rcases this with h|h
 . omega
 . exact h
theorem zj(z:Nat)(a:1<=z)(b:z<=250):pOk ((z:Int)-((stF 1 2 (fnd 1 2 z 29)).1:Int)) ((stF 1 2 (fnd 1 2 z 29)).2:Nat)=true:=by
 have:(List.range 251).all (fun z=>decide (z<1) || pOk ((z:Int)-((stF 1 2 (fnd 1 2 z 29)).1:Int)) ((stF 1 2 (fnd 1 2 z 29)).2:Nat))=true:=by decide +kernel
 have:=a06.1 this z (List.mem_range.2 (by omega));simp only[a1U,a0E]at this;rcases this with h|h
 . omega
 . exact h
theorem dh(p:Nat×Nat)(l:List (Int×Int))(h:∀x∈l,x.2<=16):(aT p l).2<=p.2+16*l.length:=by
 unfold aT oZ;induction l generalizing p with
 | nil=>simp[iA]
 | cons x r ih=>
  have b:=h x (by simp);have h2:=ih (p.1+x.1.toNat*2 ^ p.2,p.2+x.2.toNat) (fun y a=>h y (by simp[a]));simp only[a0K,iA,a0J]at *
  omega
theorem uP(L D:List Int)(t:Tk)(gL:kF L)(gD:kF D)(a:jl L D t):(∀x∈dH L D t,x.2<=16)/\(dH L D t).length<=4:=by
 unfold dH;unfold jl at a
 split
 . rename_i h;rw[a0e h]at a;refine⟨fun x b=>?_,by simp⟩;simp only[a1h,a1M,a1C]at b;subst b;have:=(gL _ a).1.2;show L.getD _ 0<=16;omega
 .
  rename_i h;rw[a0d h]at a;refine⟨fun x b=>?_,by simp⟩;simp only[a1h,a1M,a1C]at b;have s1:=sX (L:=3) (G:=4) (k:=fnd 3 4 t.2.1.toNat 27) (by omega) (by omega) (by omega) (by have:=iZ 3 4 t.2.1.toNat 27;omega);have s2:=sX (L:=1) (G:=2) (k:=fnd 1 2 t.2.2.toNat 29) (by omega) (by omega) (by omega) (by have:=iZ 1 2 t.2.2.toNat 29;omega);rcases b with rfl|rfl|rfl|rfl
  . have:=(gL _ a.1).1.2;show L.getD _ 0<=16;omega
  . show((_:Nat):Int)<=16;omega
  . have:=(gD _ a.2).1.2;show D.getD _ 0<=16;omega
  . show((_:Nat):Int)<=16;omega
theorem jH(L D:List Int)(T:List Tk)(p:Nat×Nat)(gL:kF L)(gD:kF D)(a:∀t∈T,jl L D t):(aT p (T.flatMap (dH L D))).2<=p.2+64*T.length:=by
 induction T generalizing p with
 | nil=>simp[aT,oZ,iA]
 | cons t r ih=>
  rw[a1c,aU];obtain⟨b,h2⟩:=uP L D t gL gD (a t (by simp));have d:=dh p (dH L D t) b;have e:=ih (aT p (dH L D t)) (fun x c=>a x (by simp[c]));simp only[a0J];omega
theorem oU(a:Option Addr)(cap n:Nat)(l:List Int)(w:World)(d:l.length=n)(h:bn w a l)(c:n<=300) :
  Calls prog 253 #[.slice a n cap] w fun e w'=>(∃g,e = .returned (.slice (some ⟨g,0,none⟩) n n)/\ax w' w.heap.size (.slice (some ⟨g,0,none⟩) n n) (a8 l 15).2)/\Below w.heap.size w w':=
 (dp a cap n l w d h c).mono fun _ _ ⟨b,f,hb⟩=>⟨⟨_,b,f⟩,hb⟩
theorem mN(w:World):Calls prog 260 #[] w fun e w'=>(∃g,e = .returned (.slice (some ⟨g,0,none⟩) 28 28)/\ax w' w.heap.size (.slice (some ⟨g,0,none⟩) 28 28) pY)/\Below w.heap.size w w':=
 (gV w).mono fun _ _ ⟨a,b,hb⟩=>⟨⟨_,a,b⟩,hb⟩
theorem ms(w:World):Calls prog 261 #[] w fun e w'=>(∃g,e = .returned (.slice (some ⟨g,0,none⟩) 30 30)/\ax w' w.heap.size (.slice (some ⟨g,0,none⟩) 30 30) pH)/\Below w.heap.size w w':=
 (gR w).mono fun _ _ ⟨a,b,hb⟩=>⟨⟨_,a,b⟩,hb⟩
theorem eo:iQ.length=28:=jf _ _ _
theorem ea:iK.length=30:=jf _ _ _
theorem qi(b:Nat)(p:Nat×Nat)(ta a a2:Option Addr)(tcap tn cap n X n2:Nat)(T:List Tk)(L D:List Int)(w:World)(ho:iH w b p)(hT:pG w b ta T)(hL:gz w b a L)(hD:gz w b a2 D)
  (d7:T.length=tn) (hn:L.length=n) (d2:D.length=n2) (d3:n<=300) (d4:n2<=300) (gL:kF L) (gD:kF D) (a7:256<n) (e8:(tn:Int)<=300) (hp:p.2<=10000)
  (d6:∀t∈T,okT t=true/\jl L D t) :
  Calls prog 240 #[.pointer (some ⟨b,0,none⟩),.slice ta tn tcap,.slice a n cap,.slice a2 n2 X] w fun e w'=>e = .returned (.tuple #[])/\iH w' b (aT p (T.flatMap (dH L D)++[pcM L 256]))/\KB b w w':=by
 have Z:b<w.heap.size:=Out.lt ho;have ba:prog.follows .mixedOrders=true:=by kernel_rfl
 have HT:=af hT;have HO:=af ho;have HL:=af hL;have HD:=af hD;have V:=af d7;have F:=af hn;have B:=af d2;have a1:=af d3;have dq:=af d4;have s:=af gL;have U:=af gD;have M:=af a7;have Hp:=af hp;have b7:=af d6;clear hT ho hL hD d7 hn d2 d3 d4 gL gD a7 hp d6;go_enter func240,ntmps240;go_wp2_with fail;refine(oU a cap n L _ (ae F) (ae HL).1 (ae a1)).mono ?_;rintro e x1 ⟨⟨g1,rfl,o1⟩,b1⟩;have N1:=af (ef ((bK L 15).trans (ae F)) o1 Z);have B1:=af b1;clear o1 b1;go_wp2_with fail;refine(oU a2 X n2 D _ (ae B) ((ae HD).below (ae B1)).1 (ae dq)).mono ?_;rintro e x2 ⟨⟨g2,rfl,o2⟩,b2⟩;have N2:=af (ef ((bK D 15).trans (ae B)) o2 (a0i Z (ae B1).size));have N1':=af ((ae N1).below b2);have B2:=af (am (ae B1) b2);clear o2 b2 N1 B1;go_wp2_with fail;refine(mN _).mono ?_;rintro e x3 ⟨⟨g3,rfl,o3⟩,b3⟩;have R3:=af (o3.rowN rfl);have B3:=af (am (ae B2) b3);have N1:=af ((ae N1').below b3);have N2':=af ((ae N2).below b3);clear o3 b3 B2 N1' N2;go_wp2_with fail;refine(iv _ 28 _ (ae R3)).mono ?_;rintro e x4 ⟨v4,rfl,o4,b4⟩;obtain⟨a4,c4,rfl⟩:=o4.formN eo;have N4:=af (ef eo o4 (a0i Z (ae B3).size));have B4:=af (am (ae B3) b4);have N1':=af ((ae N1).below b4);have N2:=af ((ae N2').below b4);clear o4 b4 B3 N1 N2' R3;go_wp2_with fail;refine(ms _).mono ?_;rintro e x5 ⟨⟨g5,rfl,o5⟩,b5⟩;have R5:=af (o5.rowN rfl);have B5:=af (am (ae B4) b5);have N1:=af ((ae N1').below b5);have N2':=af ((ae N2).below b5);have N4':=af ((ae N4).below b5);clear o5 b5 B4 N1' N2 N4;go_wp2_with fail;refine(iu _ 30 _ (ae R5)).mono ?_;rintro e x6 ⟨v6,rfl,o6,b6⟩;obtain⟨a6,c6,rfl⟩:=o6.formN ea;have N6:=af (ef ea o6 (a0i Z (ae B5).size));have B6:=af (am (ae B5) b6);have dd:Hid (RR x6 b L D T a a2 (some ⟨g1,0,none⟩) (some ⟨g2,0,none⟩) a4 a6 ta):=
  ⟨⟨(ae HL).below (ae B6),(ae HD).below (ae B6)⟩,⟨(ae N1).below b6,(ae N2').below b6⟩,⟨(ae N4').below b6,ae N6⟩,(ae HT).keep (bl (ae B6))⟩
 have cv:Hid (iH x6 b (aT p ((T.take 0).flatMap (dH L D)))):=Out.kept (ae HO) (ae B6);have cq:Hid (KB b w x6):=(KB.refl b w).below (ae B6) (a0y Z);clear o6 b6 B5 N1 N2' N4' N6 R5 HT HO HL HD B6;go_wp2_with fail
 go_loopw [12,13,14] (fun i _ _ wr=>∃k:Nat,k<=tn/\i = .int .i64 k/\iH wr b (aT p ((T.take k).flatMap (dH L D)))/\RR wr b L D T a a2 (some ⟨g1,0,none⟩) (some ⟨g2,0,none⟩) a4 a6 ta/\KB b w wr) (fun i _ _ _=>tn-(intOf i).toNat)
 case atStart=>exact⟨0,a0h _,rfl,ae cv,ae dd,ae cq⟩
 case round=>
  obtain⟨k,hk,rfl,ho,co,d1⟩:=hrel;clear cv dd cq;have HO:=af ho;have a0:=af co;have be:=af d1;have HK:=af hk;have d0:Hid (b<wr.heap.size):=Out.lt ho;clear ho d1 hk;by_cases cm:k<tn
  .
   have e4:(k:Int)<(tn:Int):=by omega
   obtain⟨g,o,rfl,hg,hc⟩:=co.2.2.2.1 (by rw[ae V];omega);obtain⟨c0,c1,c2⟩:=hc k (by rw[ae V];exact cm);have cc:Hid ((T.take (k+1)).flatMap (dH L D)=(T.take k).flatMap (dH L D)++dH L D (T.getD k k0)):=by
    show(T.take (k+1)).flatMap (dH L D)=_;rw[B9 T k (by rw[ae V];exact cm)];simp
   obtain⟨A,G⟩:=ae b7 (T.getD k k0) (by simp[List.getD,show k<T.length by rw[ae V];exact cm]);have q:Hid ((aT p ((T.take k).flatMap (dH L D))).2<=80000):=by
    show _<=_;have h1:=jH L D (T.take k) p (ae s) (ae U) (fun t ht=>(ae b7 t (a19 ht)).2);have h2:(T.take k).length<=k:=List.length_take_le _ _;have h3:=ae Hp;omega
   clear hc co;generalize T.getD k k0=t at *
   have O:Hid (aT p ((T.take (k+1)).flatMap (dH L D))=aT (aT p ((T.take k).flatMap (dH L D))) (dH L D t)):=by
    show aT p _=_;rw[ae cc,aU]
   generalize aT p ((T.take k).flatMap (dH L D))=P at *
   have a3:Below wr.heap.size wr (wr.alloc (.cells #[.int .i64 t.1,.int .i64 t.2.1,.int .i64 t.2.2] 343)):=(a0c _ _).alloc (a0a _) _;have an:Hid (iH (wr.alloc (.cells #[.int .i64 t.1,.int .i64 t.2.1,.int .i64 t.2.2] 343)) b P):=Out.kept (ae HO) a3;have m:=af ((ae a0).keep (bl a3));have N:=af ((ae be).below a3 (a0y (ae d0)));have bb:=af (alloc_at wr (.cells #[.int .i64 t.1,.int .i64 t.2.1,.int .i64 t.2.2] 343));clear a3 HO a0 be;cases Y:isB t
   .
    have hK:isK t=true:=by unfold okT at A;rw[Y]at A;simpa using A
    obtain⟨y0,y1,z0,z1⟩:=AV hK;have d8:t.1=0:=by unfold isK at hK;simp only[a0n,a0E]at hK;exact hK.1.1
    have v:Hid (257+fnd 3 4 t.2.1.toNat 27<n/\fnd 1 2 t.2.2.toNat 29<n2):=by
     have:=G;unfold jl at this;rw[a0d (by simp[Y]),ae F,ae B]at this;exact this
    have ao:Hid (dH L D t=[pcM L (257+fnd 3 4 t.2.1.toNat 27),((t.2.1.toNat:Int)-((stF 3 4 (fnd 3 4 t.2.1.toNat 27)).1:Int),((stF 3 4 (fnd 3 4 t.2.1.toNat 27)).2:Nat)),pcM D (fnd 1 2 t.2.2.toNat 29),((t.2.2.toNat:Int)-((stF 1 2 (fnd 1 2 t.2.2.toNat 29)).1:Int),((stF 1 2 (fnd 1 2 t.2.2.toNat 29)).2:Nat))]):=by
     show dH L D t=_;unfold dH;rw[a0d (by simp[Y])]
    have hy:t.2.1=((t.2.1.toNat:Nat):Int):=by omega
    have hz:t.2.2=((t.2.2.toNat:Nat):Int):=by omega
    have J:3<=t.2.1.toNat/\t.2.1.toNat<=60:=by omega
    have K:1<=t.2.2.toNat/\t.2.2.toNat<=250:=by omega
    have Eok1:=af (zk t.2.1.toNat J.1 J.2);have Eok2:=af (zj t.2.2.toNat K.1 K.2);have Sy1:=af (yu t.2.1.toNat J.1 J.2);have Sy2:=af (wP t.2.2.toNat K.1 K.2);have e1:=iZ 3 4 t.2.1.toNat 27;have e2:=iZ 1 2 t.2.2.toNat 29;have At1:=af (ys (fnd 3 4 t.2.1.toNat 27) (by omega));have At2:=af (wM (fnd 1 2 t.2.2.toNat 29) (by omega));have eg:=af (yt (fnd 3 4 t.2.1.toNat 27) (by omega));have eh:=af (wO (fnd 1 2 t.2.2.toNat 29) (by omega));generalize stF 3 4 (fnd 3 4 t.2.1.toNat 27)=E at *
    generalize stF 1 2 (fnd 1 2 t.2.2.toNat 29)=E' at *
    generalize fnd 3 4 t.2.1.toNat 27=f at *
    generalize fnd 1 2 t.2.2.toNat 29=f' at *
    clear Y hK A G;obtain⟨tx,ty,tz⟩:=t;simp only at d8 y0 y1 z0 z1 hy hz J K c0 c1 c2 m N an bb ao Eok1 Eok2 Sy1 Sy2 O;generalize ty.toNat=y at *
    generalize tz.toNat=z at *
    subst d8 hy hz;have e7:(f:Int)<28:=by omega
    have e3:(f':Int)<30:=by omega
    have ab:Hid (f<28):=by show f<28;omega
    have ac:Hid (f'<30):=by show f'<30;omega
    have em:=aV.1 (ae Eok1);have en:=aV.1 (ae Eok2);have e5:=bp ((y:Int)-(E.1:Int)) (by omega) (by omega);have e6:=bp ((z:Int)-(E'.1:Int)) (by omega) (by omega);clear em en e1 e2 J K;obtain⟨gl,ol,rfl,e0,ev⟩:=g9 (ae m).2.2.1.1 (by rw[eo];exact ae ab);obtain⟨gk,ok,rfl,ey,eu⟩:=g9 (ae m).2.2.1.2 (by rw[ea];exact ae ac);have cu:=af (fun W (hR:gz W b (some ⟨gl,ol,none⟩) iQ)=>lE (some ⟨gl,ol,none⟩) c4 28 iQ (y:Int) W eo hR.1 (by omega) (by omega));have ct:=af (fun W (hR:gz W b (some ⟨gk,ok,none⟩) iK)=>lE (some ⟨gk,ok,none⟩) c6 30 iK (z:Int) W ea hR.1 (by omega) (by omega));rw[ae Sy1]at cu;rw[ae Sy2]at ct;have ad:Hid (wr.heap.size≠b):=by show _≠_;have:=ae d0;omega
    clear ev eu e0 ey;go_wp2_with fail;refine(ae cu _ (ae m).2.2.1.1).mono ?_;rintro e w7 ⟨rfl,al⟩;rw[al];clear al;have eI:(257:Int)+(f:Int)=((257+f:Nat):Int):=by omega
    have j:=af (oj b P a (some ⟨g1,0,none⟩) cap n n (257+f) L _ (ae an) (ae F) (ae m).1.1.1 (ae m).2.1.1.1 (ae v).1 (ae a1) ((ae s) _ (by rw[ae F];exact(ae v).1)).1 ((ae s) _ (by rw[ae F];exact(ae v).1)).2 (by have:=ae q;omega));rw[←eI]at j;clear eI;go_wp2_with fail;refine(ae j).mono ?_;rintro e x7 ⟨rfl,h7,k7⟩;have bk:=af h7;have b0:=af ((ae m).keep k7.2);have cr:=af ((ae N).trans k7);have bc:=af (kA k7.2 (ae bb) (ae ad) (by decide));have ds:Hid ((aT P [pcM L (257+f)]).2<=80100):=by
     show _<=_;have h1:=dh P [pcM L (257+f)] (fun x hx=>by simp only[a1h,a1M,a1C]at hx;subst hx;have:=((ae s) (257+f) (by rw[ae F];exact(ae v).1)).1.2;show L.getD _ 0<=16;omega);have h2:=ae q;simp only[a0J,a04]at h1;omega
    have H:Hid (∀W,bw b x7 W->W.cell? ⟨wr.heap.size,1,none⟩=some (.int .i64 (y:Nat))/\W.cell? ⟨gl,ol+f,none⟩=some (.int .i64 (E.1:Nat))):=by
     intro W hW;refine⟨kz (kA hW (ae bc) (ae ad) (by decide)) 1,?_⟩;obtain⟨g',o',e',_,aa⟩:=g9 ((ae b0).2.2.1.1.keep hW) (k:=f) (by rw[eo];exact ae ab);simp only[a0m,a0F,a1a]at e';obtain⟨rfl,rfl⟩:=e';rw[ae At1]at aa;exact aa
    have c7:=af (fun W (hW:iH W b (aT P [pcM L (257+f)]))=>dY b (aT P [pcM L (257+f)]) ((y:Int)-(E.1:Int)) (E.2:Nat) W hW (ae Eok1) (by have:=ae ds;omega));clear h7 k7 j an m N bb;go_wp2_with fail;have cg:Below x7.heap.size x7 x7.drew:=(a0c _ x7).drew;go_cut[] (fun wx=>iH wx b (aT (aT P [pcM L (257+f)]) [((y:Int)-(E.1:Int),(E.2:Nat))])/\KB b x7 wx)
    case first=>
     refine a0H (S:=fun W=>W.cell? ⟨wr.heap.size,1,none⟩=some (.int .i64 (y:Nat))/\W.cell? ⟨gl,ol+f,none⟩=some (.int .i64 (E.1:Nat))) ba (ae H _ (bl cg)) (fun u=>?_);refine ag 0 (.pointer (some ⟨b,0,none⟩)) rfl (by kernel_rfl) (fun _ _ _ h=>h) rfl (?_) u ?_
     . intro W c;obtain⟨s0,s1⟩:=c;go_simp
     refine ag 1 (.pointer (some ⟨wr.heap.size,1,none⟩)) rfl (by kernel_rfl) (fun _ _ _ h=>h) rfl (?_) u ?_
     . intro W c;obtain⟨s0,s1⟩:=c;go_simp
     refine ag 2 (.int .i64 (y:Nat)) rfl (by kernel_rfl) (fun _ _ _ h=>h) rfl (?_) u ?_
     . intro W c;obtain⟨s0,s1⟩:=c;go_simp
     refine ag 3 (.slice (some ⟨gl,ol,none⟩) 28 c4) rfl (by kernel_rfl) (fun _ _ _ h=>h) rfl (?_) u ?_
     . intro W c;obtain⟨s0,s1⟩:=c;go_simp
     refine ag 4 (.int .i64 (f:Nat)) rfl (by kernel_rfl) (fun _ _ _ h=>h) rfl (?_) u ?_
     . intro W c;obtain⟨s0,s1⟩:=c;go_simp
     refine ag 5 (.pointer (some ⟨gl,ol+f,none⟩)) rfl (by kernel_rfl) (fun _ _ _ h=>h) rfl (?_) u ?_
     . intro W c;obtain⟨s0,s1⟩:=c;go_simp
     refine ag 6 (.int .i64 (E.1:Nat)) rfl (by kernel_rfl) (fun _ _ _ h=>h) rfl (?_) u ?_
     . intro W c;obtain⟨s0,s1⟩:=c;go_simp
     refine ag 7 (.int .i64 ((y:Int)-(E.1:Int))) rfl (by kernel_rfl) (fun _ _ _ h=>h) rfl (?_) u ?_
     . intro W c;obtain⟨s0,s1⟩:=c;go_simp
     refine ag 9 (.int .i64 (f:Nat)) rfl (by kernel_rfl) (fun _ _ _ h=>h) rfl (?_) u ?_
     . intro W c;obtain⟨s0,s1⟩:=c;go_simp
     refine ah 8 (by kernel_rfl) rfl fun C d=>?_;go_simp;go_at_call 260;refine(mN _).mono ?_;rintro e x8 ⟨⟨g8,rfl,o8⟩,b8⟩;have l:Below x7.heap.size x7 x8:=am cg b8;have ch:=(o8.at rfl (ae ab)).1;rw[ae eg]at ch;have bs:=af (Out.kept (ae bk) l);clear o8 b8;refine a0f d _ _ (ae H _ (bl l)) (fun ep=>?_);clear d C;refine ah 10 (by kernel_rfl) rfl fun C d=>?_;go_simp;refine a0f d _ _ (ae H _ (bl l)) (fun _=>?_);clear d C;refine ah 11 (by kernel_rfl) rfl fun C d=>?_;go_simp;refine a0f d _ _ (ae H _ (bl l)) (fun _=>?_);clear d C;refine ah 12 (by kernel_rfl) rfl fun C d=>?_;go_simp;go_at_call 238;refine(ae c7 _ (ae bs)).mono ?_;rintro e x9 ⟨rfl,h9,k9⟩;have I:=af (a0b h9 (((KB.refl b x7).below l (a0y (Out.lt (ae bk)))).trans k9));refine a0f d _ _ (ae H _ ((bl l).trans k9.2)) (fun _=>?_);clear d C h9 k9;refine a0u (by kernel_rfl) ?_ _;go_wp2_with fail
     go_meet
     case rel=>exact ae I
    case rest=>
     obtain⟨d5,a5⟩:=hcut;have cy:=af d5;have Q:=af ((ae b0).keep a5.2);have cs:=af ((ae cr).trans a5);have bd:=af (kA a5.2 (ae bc) (ae ad) (by decide));have dv:Hid ((aT (aT P [pcM L (257+f)]) [((y:Int)-(E.1:Int),((E.2:Nat):Int))]).2<=80200):=by
      show _<=_;have h1:=dh (aT P [pcM L (257+f)]) [((y:Int)-(E.1:Int),((E.2:Nat):Int))] (fun x hx=>by simp only[a1h,a1M,a1C]at hx;subst hx;exact(aV.1 (ae Eok1)).1.2);have h2:=ae ds;simp only[a0J,a04]at h1;omega
     have HE:Hid (∀r,aT P (pcM L (257+f) :: ((y:Int)-(E.1:Int),((E.2:Nat):Int)) :: r)=aT (aT (aT P [pcM L (257+f)]) [((y:Int)-(E.1:Int),((E.2:Nat):Int))]) r):=fun r=>by
      show aT P _=_;rw[←aU,←aU];rfl
     generalize aT (aT P [pcM L (257+f)]) [((y:Int)-(E.1:Int),((E.2:Nat):Int))]=P2 at *
     have a9:=kz (ae bd) 2;simp at a9;clear d5 a5 bk b0 cr bc H c7 cg;go_wp2_with fail;refine(ae ct _ (ae Q).2.2.1.2).mono ?_;rintro e w7 ⟨rfl,al⟩;rw[al];clear al;have j:=af (oj b P2 a2 (some ⟨g2,0,none⟩) X n2 n2 f' D _ (ae cy) (ae B) (ae Q).1.2.1 (ae Q).2.1.2.1 (ae v).2 (ae dq) ((ae U) _ (by rw[ae B];exact(ae v).2)).1 ((ae U) _ (by rw[ae B];exact(ae v).2)).2 (by have:=ae dv;omega));go_wp2_with fail;refine(ae j).mono ?_;rintro e xa ⟨rfl,ha,ka⟩;have c5:=af ha;have dl:=af ((ae Q).keep ka.2);have ek:=af ((ae cs).trans ka);have ei:=af (kA ka.2 (ae bd) (ae ad) (by decide));have el:Hid ((aT P2 [pcM D f']).2<=80300):=by
      show _<=_;have h1:=dh P2 [pcM D f'] (fun x hx=>by simp only[a1h,a1M,a1C]at hx;subst hx;have:=((ae U) f' (by rw[ae B];exact(ae v).2)).1.2;show D.getD _ 0<=16;omega);have h2:=ae dv;simp only[a0J,a04]at h1;omega
     have R:Hid (∀W,bw b xa W->W.cell? ⟨wr.heap.size,2,none⟩=some (.int .i64 (z:Nat))/\W.cell? ⟨gk,ok+f',none⟩=some (.int .i64 (E'.1:Nat))):=by
      intro W hW;refine⟨kz (kA hW (ae ei) (ae ad) (by decide)) 2,?_⟩;obtain⟨g',o',e',_,aa⟩:=g9 ((ae dl).2.2.1.2.keep hW) (k:=f') (by rw[ea];exact ae ac);simp only[a0m,a0F,a1a]at e';obtain⟨rfl,rfl⟩:=e';rw[ae At2]at aa;exact aa
     have c8:=af (fun W (hW:iH W b (aT P2 [pcM D f']))=>dY b (aT P2 [pcM D f']) ((z:Int)-(E'.1:Int)) (E'.2:Nat) W hW (ae Eok2) (by have:=ae el;omega));have cp:Hid (aT (aT P2 [pcM D f']) [((z:Int)-(E'.1:Int),((E'.2:Nat):Int))]=aT P2 [pcM D f',((z:Int)-(E'.1:Int),((E'.2:Nat):Int))]):=(aU P2 [pcM D f'] _).symm;clear ha ka j cy Q cs bd a9;go_wp2_with fail;have dz:Below xa.heap.size xa xa.drew:=(a0c _ xa).drew;refine a0H (S:=fun W=>W.cell? ⟨wr.heap.size,2,none⟩=some (.int .i64 (z:Nat))/\W.cell? ⟨gk,ok+f',none⟩=some (.int .i64 (E'.1:Nat))) ba (ae R _ (bl dz)) (fun u=>?_);refine ag 0 (.pointer (some ⟨b,0,none⟩)) rfl (by kernel_rfl) (fun _ _ _ h=>h) rfl (?_) u ?_
     . intro W c;obtain⟨s0,s1⟩:=c;go_simp
     refine ag 1 (.pointer (some ⟨wr.heap.size,2,none⟩)) rfl (by kernel_rfl) (fun _ _ _ h=>h) rfl (?_) u ?_
     . intro W c;obtain⟨s0,s1⟩:=c;go_simp
     refine ag 2 (.int .i64 (z:Nat)) rfl (by kernel_rfl) (fun _ _ _ h=>h) rfl (?_) u ?_
     . intro W c;obtain⟨s0,s1⟩:=c;go_simp
     refine ag 3 (.slice (some ⟨gk,ok,none⟩) 30 c6) rfl (by kernel_rfl) (fun _ _ _ h=>h) rfl (?_) u ?_
     . intro W c;obtain⟨s0,s1⟩:=c;go_simp
     refine ag 4 (.int .i64 (f':Nat)) rfl (by kernel_rfl) (fun _ _ _ h=>h) rfl (?_) u ?_
     . intro W c;obtain⟨s0,s1⟩:=c;go_simp
     refine ag 5 (.pointer (some ⟨gk,ok+f',none⟩)) rfl (by kernel_rfl) (fun _ _ _ h=>h) rfl (?_) u ?_
     . intro W c;obtain⟨s0,s1⟩:=c;go_simp
     refine ag 6 (.int .i64 (E'.1:Nat)) rfl (by kernel_rfl) (fun _ _ _ h=>h) rfl (?_) u ?_
     . intro W c;obtain⟨s0,s1⟩:=c;go_simp
     refine ag 7 (.int .i64 ((z:Int)-(E'.1:Int))) rfl (by kernel_rfl) (fun _ _ _ h=>h) rfl (?_) u ?_
     . intro W c;obtain⟨s0,s1⟩:=c;go_simp
     refine ag 9 (.int .i64 (f':Nat)) rfl (by kernel_rfl) (fun _ _ _ h=>h) rfl (?_) u ?_
     . intro W c;obtain⟨s0,s1⟩:=c;go_simp
     refine ah 8 (by kernel_rfl) rfl fun C d=>?_;go_simp;go_at_call 261;refine(ms _).mono ?_;rintro e x8 ⟨⟨g8,rfl,o8⟩,b8⟩;have l:Below xa.heap.size xa x8:=am dz b8;have ch:=(o8.at rfl (ae ac)).1;rw[ae eh]at ch;have bs:=af (Out.kept (ae c5) l);clear o8 b8;refine a0f d _ _ (ae R _ (bl l)) (fun ep=>?_);clear d C;refine ah 10 (by kernel_rfl) rfl fun C d=>?_;go_simp;refine a0f d _ _ (ae R _ (bl l)) (fun _=>?_);clear d C;refine ah 11 (by kernel_rfl) rfl fun C d=>?_;go_simp;refine a0f d _ _ (ae R _ (bl l)) (fun _=>?_);clear d C;refine ah 12 (by kernel_rfl) rfl fun C d=>?_;go_simp;go_at_call 238;refine(ae c8 _ (ae bs)).mono ?_;rintro e x9 ⟨rfl,h9,k9⟩;have I:=af (a0b h9 (((KB.refl b xa).below l (a0y (Out.lt (ae c5)))).trans k9));refine a0f d _ _ (ae R _ ((bl l).trans k9.2)) (fun _=>?_);clear d C h9 k9;refine a0u (by kernel_rfl) ?_ _;have HX:=af (a0b (ae I).1 (a0b ((ae dl).keep (ae I).2.2) ((ae ek).trans (ae I).2)));clear I;go_wp2;go_roundw
     case rel=>exact⟨k+1,by omega,by go_num,by rw[ae O,ae ao,ae HE,←ae cp];exact(ae HX).1,(ae HX).2.1,(ae HX).2.2⟩
     case measure=>simp[intOf];omega
   .
    obtain⟨q1,q2⟩:=vY Y;have ck:Hid (t.1.toNat<n):=by
     have:=G;unfold jl at this;rw[a0e Y,ae F]at this;exact this
    have ao:Hid (dH L D t=[pcM L t.1.toNat]):=by show dH L D t=_;unfold dH;rw[a0e Y]
    have ed:t.2.1=0:=by unfold isB at Y;simp only[a0n,a0E]at Y;exact Y.1
    have hx:t.1=((t.1.toNat:Nat):Int):=by omega
    have j:=af (oj b P a (some ⟨g1,0,none⟩) cap n n t.1.toNat L _ (ae an) (ae F) (ae m).1.1.1 (ae m).2.1.1.1 (ae ck) (ae a1) ((ae s) _ (by rw[ae F];exact ae ck)).1 ((ae s) _ (by rw[ae F];exact ae ck)).2 (by have:=ae q;omega));rw[←hx]at j;generalize t.1.toNat=xN at *
    clear Y A G hx;obtain⟨tx,ty,tz⟩:=t;simp only at ed q1 q2 c0 c1 c2 j m N;subst ed;go_wp2_with fail;refine(ae j).mono ?_;rintro e x7 ⟨rfl,h7,k7⟩;have HX:=af (a0b h7 (a0b ((ae m).keep k7.2) ((ae N).trans k7)));clear h7 k7 j;go_wp2;go_roundw
    case rel=>exact⟨k+1,by omega,by go_num,by rw[ae O,ae ao];exact(ae HX).1,(ae HX).2.1,(ae HX).2.2⟩
    case measure=>simp[intOf];omega
  .
   obtain rfl:k=tn:=by have:=ae HK;omega
   have O:Hid (aT p (T.flatMap (dH L D)++[pcM L 256])=aT (aT p ((T.take k).flatMap (dH L D))) [pcM L 256]):=by
    show aT p _=_;rw[a0D (by rw[ae V];exact a0a _),aU]
   have q:Hid ((aT p ((T.take k).flatMap (dH L D))).2<=80000):=by
    show _<=_;have h1:=jH L D (T.take k) p (ae s) (ae U) (fun t ht=>(ae b7 t (a19 ht)).2);have h2:(T.take k).length<=k:=List.length_take_le _ _;have h3:=ae Hp;omega
   generalize aT p ((T.take k).flatMap (dH L D))=P at *
   have j:=af (oj b P a (some ⟨g1,0,none⟩) cap n n 256 L _ (ae HO) (ae F) (ae a0).1.1.1 (ae a0).2.1.1.1 (ae M) (ae a1) ((ae s) _ (by rw[ae F];exact ae M)).1 ((ae s) _ (by rw[ae F];exact ae M)).2 (by have:=ae q;omega));go_wp2_with fail;refine(ae j).mono ?_;rintro e x7 ⟨rfl,h7,k7⟩;have HX:=af (a0b h7 ((ae be).trans k7));clear h7 k7 j;go_wp2
   go_end0
   exact⟨rfl,by rw[ae O];exact(ae HX).1,(ae HX).2⟩
theorem KD(h:ay l=true)(b:k<l.length):pOk ((a8 l 15).2.getD k 0) (l.getD k 0)=true:=by
 have hb:=oO (hJ h) b;rw[ub h b];by_cases a:1<=l.getD k 0
 . rw[a0e a];have:=(tY h b a).1;exact aV.2 ⟨⟨hb.1,by omega⟩,by omega,by omega⟩
 .
  rw[a0d a];have e:l.getD k 0=0:=by omega
  rw[e];decide
theorem dc(h:ay l=true):kF l:=by
 intro k a;have hb:=oO (hJ h) a;obtain⟨_,c0,c1⟩:=aV.1 (KD h a);refine⟨hb,c0,?_⟩;have b:p2 (l.getD k 0).toNat<=p2 15:=a0W (by omega) (by omega);have h2:p2 15=32768:=by decide
 omega
theorem LQ(gL:kF L)(gD:kF D){t:Tk}(c:okT t=true)(a:jl L D t):bm (dH L D t)=true:=by
 unfold dH;unfold jl at a;unfold bm
 split
 . rename_i h;rw[a0e h]at a;simp only[a2q,a3j,a2X];exact mU (gL _ a).1
 .
  rename_i h;rw[a0d h]at a;have d:isK t=true:=by unfold okT at c;simp only[a1U]at c;rcases c with b|b;exact absurd b h;exact b
  obtain⟨y0,y1,z0,z1⟩:=AV d;simp only[a2q,a3j,a2X,a0n];exact⟨mU (gL _ a.1).1,zk _ (by omega) (by omega),mU (gD _ a.2).1,zj _ (by omega) (by omega)⟩
theorem xy(gL:kF L)(gD:kF D)(T:List Tk)(h:∀t∈T,okT t=true/\jl L D t):bm (T.flatMap (dH L D))=true/\(T.flatMap (dH L D)).length<=4*T.length:=by
 induction T with
 | nil=>exact⟨rfl,by simp⟩
 | cons t r ih=>
  obtain⟨b,h2⟩:=ih (fun x e=>h x (by simp[e]));obtain⟨c,a⟩:=h t (by simp);have f:=(uP L D t gL gD a).2;refine⟨?_,by simp only[a1c,a0o,a0J];omega⟩;have d:=LQ gL gD c a;unfold bm at *
  rw[a1c,a18,d,b];rfl
theorem F7(L:List UInt8):∀n p,L.length-p<=n->∀t∈eG L p,okT t=true:=by
 intro n;induction n with
 | zero=>
  intro p b t a;rw[jy (by omega)]at a;cases a
 | succ n ih=>
  intro p b t a;by_cases h:p<L.length
  .
   rw[ng h]at a;rcases a1h.1 a with rfl|a
   . exact Mi L p
   . exact ih (p+lh L p) (by have:=(ju L p).1;omega) t a
  . rw[jy h]at a;cases a
theorem j7(s:ByteArray):∀t∈eG s.data.toList 0,okT t=true:=F7 s.data.toList s.data.toList.length 0 (by omega)
def rM:List Int:=List.replicate 32 5
theorem kN:ay (c9 288)=true:=by decide +kernel
theorem rN:ay rM=true:=by decide +kernel
theorem oT{t:Tk}(_:okT t=true):jl (c9 288) rM t:=by
 unfold jl
 split
 . rename_i hB;have:=vY hB;rw[df];omega
 . have a:=iZ 3 4 t.2.1.toNat 27;have h2:=iZ 1 2 t.2.2.toNat 29;rw[df];exact⟨by omega,by show _<(List.replicate 32 (5:Int)).length;rw[a0A];omega⟩
def rr(s:ByteArray):List (Int×Int):=[(1,1),(1,2)]++((eG s.data.toList 0).flatMap (dH (c9 288) rM)++[pcM (c9 288) 256])
theorem ln(s:ByteArray)(b:s.size<=300):(eG s.data.toList 0).length<=300:=by
 have h2:=F6 s.data.toList s.data.toList.length 0 (by omega);have a:s.data.toList.length=s.size:=by simp
 omega
theorem KT(s:ByteArray)(f:s.size<=300):lOk (rr s)=true:=by
 obtain⟨b,h2⟩:=xy (dc kN) (dc rN) (eG s.data.toList 0) (fun t a=>⟨j7 s t a,oT (j7 s t a)⟩);have g:=ln s f;have c:pOk (pcM (c9 288) 256).1 (pcM (c9 288) 256).2=true:=mU (dc kN 256 (by rw[df];omega)).1;unfold lOk;have d:bm (rr s)=true:=by
  unfold rr;unfold bm at *
  rw[a18,a18,b];simp only[a2q,a3j,c];decide
 have e:(rr s).length<=4000:=by unfold rr;simp only[a0o,a0J,a04];omega
 rw[d];simpa using e
def rO(s:ByteArray):List UInt8:=iF (rr s)
theorem yb(s:ByteArray)(w:World)(p:s.size<=300) :
  CD 221 #[.string s] w (.string ⟨(rO s).toArray⟩):=by
 have B:Hid (iH (w.alloc (.cells #[.slice none 0 0,.int .i64 0,.int .i64 0] 326)) w.heap.size (0,0)):=wl w 326;have d:Hid (KB w.heap.size w (w.alloc (.cells #[.slice none 0 0,.int .i64 0,.int .i64 0] 326))):=(KB.refl _ _).below ((a0c _ _).alloc (a0a _) _) (a0a _);have r:=af p;have u:Hid (aT (aT (aT (0,0) [(1,1)]) [(1,2)]) ((eG s.data.toList 0).flatMap (dH (c9 288) rM)++[pcM (c9 288) 256])=cO (rr s)):=by
  show aT _ _=_;rw[←aU,←aU];rfl
 have H:Hid ((cO (rr s)).2<=90000):=by
  show _<=_;rw[←ae u,aU];have N:=jH (c9 288) rM (eG s.data.toList 0) (aT (aT (0,0) [(1,1)]) [(1,2)]) (dc kN) (dc rN) (fun t g=>oT (j7 s t g));have h2:=dh (aT (aT (aT (0,0) [(1,1)]) [(1,2)]) ((eG s.data.toList 0).flatMap (dH (c9 288) rM))) [pcM (c9 288) 256] (fun x D=>by simp only[a1h,a1M,a1C]at D;subst D;have:=(dc kN 256 (by rw[df];omega)).1.2;show(c9 288).getD 256 0<=16;omega);have O:=ln s p;have P:(aT (aT (0,0) [(1,1)]) [(1,2)]).2=3:=rfl;simp only[a0J,a04]at h2;omega
 clear p;go_enter func221,ntmps221;go_wp2_with fail;refine(dY _ _ 1 1 _ (ae B) (by decide) (by show(0:Nat)<=_;omega)).mono ?_;rintro e x1 ⟨rfl,o1,h⟩;have m:=af (a0b o1 ((ae d).trans h));clear o1 h B d;go_wp2_with fail;refine(dY _ _ 1 2 _ (ae m).1 (by decide) (by show(1:Nat)<=_;omega)).mono ?_;rintro e x2 ⟨rfl,o2,i⟩;have n:=af (a0b o2 ((ae m).2.trans i));have a:Hid (w.heap.size<x2.heap.size):=Out.lt o2;clear o2 i m;go_wp2_with fail;refine(nH s _ (by have:=ae r;omega)).mono ?_;rintro e x3 ⟨v3,rfl,o3,z⟩;obtain⟨tn,htn⟩:∃tn,(eG s.data.toList 0).length=tn:=⟨_,rfl⟩;obtain⟨a3,c3,rfl⟩:=o3.formN htn;have N3:=af (EA htn o3 (ae a));have j:=af z;clear o3 z;go_wp2_with fail;refine(pW _).mono ?_;rintro e x4 ⟨v4,rfl,o4,o⟩;obtain⟨a4,c4,rfl⟩:=o4.formN (df 288);have N4:=af (ef (df 288) o4 (a0i (ae a) (ae j).size));have N3':=af ((ae N3).keep (bl o));have k:=af (am (ae j) o);clear o4 o N3 j;go_wp2_with fail;refine(pV _).mono ?_;rintro e x5 ⟨v5,rfl,o5,f⟩;have b:(List.replicate 32 (5:Int)).length=32:=a0A;obtain⟨a5,J,rfl⟩:=o5.formN b;have N5:=af (ef b o5 (a0i (ae a) (ae k).size));have N3:=af ((ae N3').keep (bl f));have N4':=af ((ae N4).below f);have l:=af (am (ae k) f);have O5:=af (Out.kept (ae n).1 (ae l));have y:=af ((ae n).2.below (ae l) (a0y (ae a)));have q:Hid ((tn:Int)<=300):=by show(tn:Int)<=300;have:=ln s (ae r);omega
 have c:=af (qi w.heap.size (aT (aT (0,0) [(1,1)]) [(1,2)]) a3 a4 a5 c3 tn c4 288 J 32 (eG s.data.toList 0) (c9 288) rM x5 (ae O5) (ae N3) (ae N4') (ae N5) htn (df 288) b (by omega) (by omega) (dc kN) (dc rN) (by omega) (ae q) (by show(3:Nat)<=10000;omega) (fun t g=>⟨j7 s t g,oT (j7 s t g)⟩));rw[ae u]at c;clear o5 f N3' N4 N5 k b htn;go_wp2_with fail;refine(ae c).mono ?_;rintro e x6 ⟨rfl,o6,E⟩;have I:=af ((ae y).trans E).1;have O6:=af o6;clear o6 E c N3 N4' O5 y l n;go_wp2_with fail;refine(kf _ _ _ _ (ae O6) (ae H)).mono ?_;rintro e x7 ⟨rfl,K,A⟩;obtain⟨_,v,T,Y⟩:=K;have e8:8*(((cO (rr s)).2+7)/8)/8=((cO (rr s)).2+7)/8:=by omega
 rw[e8]at Y;have Y':Bys x7 w.heap.size v (rO s):=Y;have M:=jG Y';have F:=af ((ae I).trans A);obtain⟨k0,h,i,f0,f1,f2,L⟩:=T;clear Y Y' e8 h i A O6;generalize C:rO s=R at *
 have G:=af C;clear C;go_wp2;go_ret;exact⟨by rw[ae G];rfl,ae F⟩
def vP(s:ByteArray):List UInt8:=if s.size<=300 then rO s else []
def byS(s:ByteArray):ByteArray:=⟨(sY s.data.toList).toArray⟩
def byF(s:ByteArray):ByteArray:=⟨(vP s).toArray⟩
theorem wX(s:ByteArray)(h:¬ s.size<=300):byS s=⟨#[]⟩:=by
 have:sY s.data.toList=[]:=by unfold sY;rw[a0d (by rw[jZ];exact h)]
 unfold byS;rw[this]
theorem wV(s:ByteArray)(h:¬ s.size<=300):byF s=⟨#[]⟩:=by unfold byF vP;rw[a0d h]
def inc(o:List Int)(k:Nat):List Int:=o.set k (o.getD k 0+1)
def iI(o:List Int)(s:List Nat):List Int:=s.foldl inc o
theorem gU(o:List Int)(k:Nat):(inc o k).length=o.length:=by simp[inc]
theorem fD(o:List Int)(s:List Nat):(iI o s).length=o.length:=by
 induction s generalizing o with
 | nil=>rfl
 | cons x s ih=>show(iI (inc o x) s).length=_;rw[ih,gU]
theorem oP(o:List Int)(s:List Nat)(x:Nat):iI o (s++[x])=inc (iI o s) x:=by simp[iI]
theorem jO(o:List Int)(k j:Nat):(inc o k).getD j 0=o.getD j 0+(if j=k/\k<o.length then 1 else 0):=by
 unfold inc;simp only[List.getD_eq_getElem?_getD,List.getElem?_set];by_cases h:k=j
 .
  subst h;by_cases a:k<o.length
  . simp[a]
  . simp[a]
 . have:¬ j=k:=fun e=>h e.symm;simp[h,this]
theorem jp(o:List Int)(s:List Nat)(j:Nat):(iI o s).getD j 0=o.getD j 0+(if j<o.length then(s.count j:Int)else 0):=by
 induction s generalizing o with
 | nil=>simp[iI]
 | cons x s ih=>
  show(iI (inc o x) s).getD j 0=_;rw[ih,jO,gU,List.count_cons];by_cases h:j=x
  .
   subst h;by_cases a:j<o.length
   . simp[a];omega
   . simp[a]
  .
   have:(x == j)=false:=by simp;exact fun e=>h e.symm
   simp[h,this]
theorem EW{a b:List Int}(d:a.length=b.length)(h:∀j,j<a.length->a.getD j 0=b.getD j 0):a=b:=by
 apply a3a d;intro i c h2;have:=h i c;simpa[List.getD,c,h2]using this
theorem gi(n j:Nat):(List.replicate n (0:Int)).getD j 0=0:=by
 by_cases h:j<n<;>simp[List.getD,h]
theorem wG   (hk : k < l.length) (h : 0 < l.getD k 0) : 1 ≤ us l := by
  induction l generalizing k with
  | nil => simp at hk
  | cons b l ih =>
    simp only [us, a0K, a0V] at ih ⊢
    cases k with
    | zero => have : 0 < b := by simpa using h
              rw [a0e this]; omega
    | succ k => have := ih (k := k) (by simpa using hk) (by simpa using h); omega
theorem Mp(h:us l=0)(k:Nat)(a:k<l.length):¬ 0<l.getD k 0:=fun b=>by have:=wG a b;omega
def ko(t:Tk):Nat:=if isB t then t.1.toNat else 257+fnd 3 4 t.2.1.toNat 27
def fR(t:Tk):List Nat:=if isB t then []else [fnd 1 2 t.2.2.toNat 29]
theorem Ln{t:Tk}(_:okT t=true):ko t<286:=by
 unfold ko
 split
 . rename_i hB;have:=vY hB;omega
 . have:=iZ 3 4 t.2.1.toNat 27;omega
theorem Ha{t:Tk} : ∀x∈fR t,x<30:=by
 unfold fR;intro x a
 split at a
 . simp at a
 . have:=iZ 1 2 t.2.2.toNat 29;simp at a;omega
def iJ(T:List Tk):List Int:=inc (iI (List.replicate 286 0) (T.map ko)) 256
def fm(T:List Tk):List Int:=iI (List.replicate 30 0) (T.flatMap fR)
def dn(T:List Tk):List Int:=if us (fm T)=0 then inc (fm T) 0 else fm T
theorem gr(T:List Tk):(iJ T).length=286:=by unfold iJ;rw[gU,fD,a0A]
theorem eb(T:List Tk):(fm T).length=30:=by unfold fm;rw[fD,a0A]
theorem gX(T:List Tk):(dn T).length=30:=by unfold dn;split;rw[gU,eb];exact eb T
theorem nN(T:List Tk)(j:Nat)(a:j<286):(iJ T).getD j 0=((T.map ko).count j:Int)+(if j=256 then 1 else 0):=by
 unfold iJ;rw[jO,jp,fD,a0A,gi,a0e a];by_cases h:j=256<;>simp[h]
theorem oC(T:List Tk)(j:Nat)(a:j<30):(fm T).getD j 0=((T.flatMap fR).count j:Int):=by
 unfold fm;rw[jp,a0A,gi,a0e a];simp
theorem Bn(T:List Tk):iI (inc (List.replicate 286 0) 256) (T.map ko)=iJ T:=by
 apply EW
 . rw[fD,gU,gr,a0A]
 . intro j a;rw[fD,gU,a0A]at a;rw[nN T j a,jp,jO,gU,a0A,gi,a0e a];by_cases h:j=256<;>simp[h];omega
theorem xz(T:List Tk):(T.flatMap fR).length<=T.length:=by
 induction T with
 | nil=>simp
 | cons t r ih=>
  have:(fR t).length<=1:=by unfold fR;split<;>simp
  simp only[a1c,a0o,a0J];omega
theorem Df(T:List Tk)(c:T.length<=300):okC (iJ T):=by
 intro i a;rw[gr]at a;rw[nN T i a];have b:(T.map ko).count i<=(T.map ko).length:=a3k;rw[a1l]at b
 split<;>omega
theorem G9(T:List Tk)(c:T.length<=300):∀i,i<30->0<=(fm T).getD i 0/\(fm T).getD i 0<=300:=by
 intro i a;rw[oC T i a];have b:(T.flatMap fR).count i<=(T.flatMap fR).length:=a3k;have h2:=xz T;omega
theorem xl(T:List Tk)(b:T.length<=300):okC (dn T):=by
 intro i a;rw[gX]at a;have:=G9 T b i a;unfold dn
 split
 . rw[jO];split<;>omega
 . omega
theorem Dg(T:List Tk):1<=us (iJ T)/\us (iJ T)<=286:=by
 refine⟨wG (k:=256) (by rw[gr];omega) ?_,by have:=zN (iJ T);rw[gr]at this;exact this⟩;rw[nN T 256 (by omega),a0e rfl];omega
theorem xm(T:List Tk):1<=us (dn T)/\us (dn T)<=30:=by
 refine⟨?_,by have:=zN (dn T);rw[gX]at this;exact this⟩;unfold dn
 split
 . rename_i h;refine wG (k:=0) (by rw[gU,eb];omega) ?_;rw[jO,oC T 0 (by omega),eb,a0e (by omega)];omega
 . omega
theorem Ea(T:List Tk)(j:Nat)(h:0<(fm T).getD j 0):0<(dn T).getD j 0:=by
 unfold dn
 split
 . rw[jO];split<;>omega
 . exact h
def fq(l:List Int)(least:Nat):Nat->Nat
 | 0=>0
 | n+1=>if least<n+1/\l.getD n 0=0 then fq l least n else n+1
def nB(l:List Int)(least:Nat):List Int:=l.take (fq l least l.length)
theorem ud{least:Nat}(h:least<n+1/\l.getD n 0=0):fq l least (n+1)=fq l least n:=by simp only[fq];rw[a0e h]
theorem ue{least:Nat}(h:¬ (least<n/\l.getD (n-1) 0=0)):fq l least n=n:=by
 cases n with
 | zero=>rfl
 | succ n=>rw[a3K]at h;simp only[fq];rw[a0d h]
theorem qH(l:List Int)(least n:Nat):fq l least n<=n:=by
 induction n with
 | zero=>exact a0a _
 | succ n ih=>simp only[fq];split<;>omega
theorem rn (l : List Int) (least n : Nat) (h : least ≤ n) : least ≤ fq l least n := by
  induction n with
  | zero => exact h
  | succ n ih => simp only [fq]; split
                 . exact ih (by omega)
                 . exact h
theorem uf(l:List Int)(least n j:Nat)(a:fq l least n<=j)(h2:j<n):l.getD j 0=0:=by
 induction n with
 | zero=>omega
 | succ n ih=>
  by_cases b:least<n+1/\l.getD n 0=0
  .
   rw[ud b]at a;by_cases e:j=n
   . subst e;exact b.2
   . exact ih a (by omega)
  . simp only[fq]at a;rw[a0d b]at a;omega
theorem jh(l:List Int)(least:Nat):(nB l least).length=fq l least l.length:=by
 unfold nB;rw[a0t];have:=qH l least l.length;omega
theorem JY(l:List Int)(c j:Nat)(h:j<c):(l.take c).getD j 0=l.getD j 0:=by
 simp[List.getD,h]
theorem xi(l:List Int)(least j:Nat)(h:j<l.length):(nB l least).getD j 0=l.getD j 0:=by
 by_cases a:j<fq l least l.length
 . exact JY l _ j a
 .
  rw[uf l least l.length j (by omega) h];have:(nB l least).length<=j:=by rw[jh];omega
  simp[List.getD,this]
theorem Gn(h:∀x∈l,x=0):kr l=0/\us l=0:=by
 induction l with
 | nil=>exact⟨rfl,rfl⟩
 | cons b l ih=>
  obtain⟨a,h2⟩:=ih (fun x c=>h x (by simp[c]));have hb:b=0:=h b (by simp);subst hb;simp only[kr,us,a0K,a0V]at a h2 ⊢;rw[a,h2];exact⟨rfl,rfl⟩
theorem G4(l:List Int)(least:Nat):kr (nB l least)=kr l/\us (nB l least)=us l:=by
 have h:∀x∈l.drop (fq l least l.length),x=0:=by
  intro x c;obtain⟨i,b,rfl⟩:=List.mem_iff_getElem.1 c;rw[List.getElem_drop];rw[a01]at b;have:=uf l least l.length (fq l least l.length+i) (by omega) (by omega);have a:fq l least l.length+i<l.length:=by omega
  simpa[List.getD,a]using this
 obtain⟨d,h2⟩:=Gn h;have e:l=nB l least++l.drop (fq l least l.length):=(a13 _ _).symm;have f:kr l=kr (nB l least)+kr (l.drop (fq l least l.length)):=by
  conv=>lhs;rw[e]
  simp[kr]
 have g:us l=us (nB l least)+us (l.drop (fq l least l.length)):=by
  conv=>lhs;rw[e]
  simp[us]
 omega
theorem r8(least:Nat)(h:ay l=true):ay (nB l least)=true:=by
 obtain⟨b,h2⟩:=G4 l least;unfold ay kc at h ⊢;rw[b,h2];simp only[a0n,a0E]at h ⊢;obtain⟨⟨a,hb⟩,c⟩:=h;refine⟨⟨?_,by rw[jh];have:=qH l least l.length;omega⟩,c⟩;unfold inL at a ⊢;rw[a06]at a ⊢;intro x d;exact a x (a19 d)
def dG(T:List Tk):List Int:=nB (ft 15 (iJ T)) 257
def eT(T:List Tk):List Int:=nB (ft 15 (dn T)) 1
theorem Jk:p2 14=16384:=by decide
theorem NZ:p2 6=64:=by decide
theorem Lm(T:List Tk)(a:T.length<=300):(ft 15 (iJ T)).length=286/\ay (ft 15 (iJ T))=true/\∀i,i<286->0<=(ft 15 (iJ T)).getD i 0/\(ft 15 (iJ T)).getD i 0<=15/\(0<(ft 15 (iJ T)).getD i 0<->0<(iJ T).getD i 0):=by
 have b:=Dg T;have h:=sd (m:=14) (Df T a) (by rw[gr];omega) (by rw[gu];omega) (by rw[gu];have h2:=Jk;omega) (by omega);rw[gr]at h;exact h
theorem Cx(T:List Tk)(a:T.length<=300):(ft 15 (dn T)).length=30/\ay (ft 15 (dn T))=true/\∀i,i<30->0<=(ft 15 (dn T)).getD i 0/\(ft 15 (dn T)).getD i 0<=15/\(0<(ft 15 (dn T)).getD i 0<->0<(dn T).getD i 0):=by
 have b:=xm T;have h:=sd (m:=14) (xl T a) (by rw[gX];omega) (by rw[gu];omega) (by rw[gu];have h2:=Jk;omega) (by omega);rw[gX]at h;exact h
theorem sC(T:List Tk)(b:T.length<=300):257<=(dG T).length/\(dG T).length<=286:=by
 obtain⟨a,_,_⟩:=Lm T b;unfold dG;rw[jh,a];exact⟨rn _ _ _ (by omega),qH _ _ _⟩
theorem sy(T:List Tk)(b:T.length<=300):1<=(eT T).length/\(eT T).length<=30:=by
 obtain⟨a,_,_⟩:=Cx T b;unfold eT;rw[jh,a];exact⟨rn _ _ _ (by omega),qH _ _ _⟩
theorem jT(T:List Tk)(a:T.length<=300):ay (dG T)=true:=r8 257 (Lm T a).2.1
theorem lK(T:List Tk)(a:T.length<=300):ay (eT T)=true:=r8 1 (Cx T a).2.1
theorem AJ{j:Nat}(h:0<l.getD j 0):j<l.length:=by
 rcases a1z j l.length with a|a
 . exact a
 . simp[List.getD,a]at h
theorem Jg(T:List Tk)(d:T.length<=300)(k:Nat)(b:k=256∨k∈T.map ko)(a:k<286):0<(dG T).getD k 0:=by
 obtain⟨e,_,c⟩:=Lm T d;unfold dG;rw[xi _ _ _ (by omega)];refine(c k a).2.2.2 ?_;rw[nN T k a];rcases b with rfl|b
 . rw[a0e rfl];omega
 .
  have:=List.count_pos_iff.2 b
  split<;>omega
theorem Je(T:List Tk)(c:T.length<=300)(k:Nat)(d:k∈T.flatMap fR)(a:k<30):0<(eT T).getD k 0:=by
 obtain⟨e,_,b⟩:=Cx T c;unfold eT;rw[xi _ _ _ (by omega)];refine(b k a).2.2.2 (Ea T k ?_);rw[oC T k a];have:=List.count_pos_iff.2 d;omega
theorem LM(T:List Tk)(c:T.length<=300)(a:∀t∈T,okT t=true)(t:Tk)(b:t∈T):0<(dG T).getD (ko t) 0/\∀k∈fR t,0<(eT T).getD k 0:=by
 refine⟨Jg T c _ (.inr (a3r b)) (Ln (a t b)),fun k d=>Je T c k ?_ (Ha k d)⟩;exact List.mem_flatMap.2 ⟨t,b,d⟩
theorem sE(T:List Tk)(c:T.length<=300)(b:∀t∈T,okT t=true)(t:Tk)(d:t∈T):jl (dG T) (eT T) t:=by
 obtain⟨a,h2⟩:=LM T c b t d;unfold jl;unfold ko at a;unfold fR at h2
 split
 . rename_i h;rw[a0e h]at a;exact AJ a
 . rename_i h;rw[a0d h]at a h2;exact⟨AJ a,AJ (h2 _ (by simp))⟩
def qs(A:List Int):List Int:=iI (List.replicate 19 0) (A.map Int.toNat)
def br(A:List Int):List Int:=ft 7 (qs A)
theorem ij(A:List Int):(qs A).length=19:=by unfold qs;rw[fD,a0A]
theorem xf(A:List Int)(j:Nat)(a:j<19):(qs A).getD j 0=((A.map Int.toNat).count j:Int):=by
 unfold qs;rw[jp,a0A,gi,a0e a];simp
theorem Ct(A:List Int)(c:A.length<=400):okC (qs A):=by
 intro i a;rw[ij]at a;rw[xf A i a];have b:(A.map Int.toNat).count i<=(A.map Int.toNat).length:=a3k;rw[a1l]at b;omega
theorem Cu(A:List Int)(a:0<A.length)(b:∀x∈A,0<=x/\x<=15):1<=us (qs A)/\us (qs A)<=19:=by
 refine⟨?_,by have:=zN (qs A);rw[ij]at this;exact this⟩;have c:=b A[0] (a1A a);refine wG (k:=(A[0]).toNat) (by rw[ij];omega) ?_;rw[xf A _ (by omega)];have:=List.count_pos_iff.2 (a3r (f:=Int.toNat) (a1A a));omega
theorem ID(A:List Int)(a:0<A.length)(b:A.length<=400)(c:∀x∈A,0<=x/\x<=15):(br A).length=19/\ay (br A)=true/\∀i,i<19->0<=(br A).getD i 0/\(br A).getD i 0<=7/\(0<(br A).getD i 0<->0<(qs A).getD i 0):=by
 have d:=Cu A a c;have h:=sd (m:=6) (Ct A b) (by rw[ij];omega) (by rw[gu];omega) (by rw[gu];have h2:=NZ;omega) (by omega);rw[ij]at h;exact h
def iS(L D:List Int):List (Int×Int):=
 [((L.length:Int)-257,5),((D.length:Int)-1,5),(15,4)]++(bS.map (fun i=>((br (L++D)).getD i 0,(3:Int)))++(L++D).map (fun x=>pcM (br (L++D)) x.toNat))
def nW(T:List Tk):List (Int×Int):=[(1,1),(2,2)]++(iS (dG T) (eT T)++(T.flatMap (dH (dG T) (eT T))++[pcM (dG T) 256]))
theorem qO(h:ay l=true):∀x∈l,0<=x/\x<=15:=by
 intro x b;obtain⟨i,a,rfl⟩:=List.mem_iff_getElem.1 b;have:=oO (hJ h) a;simpa[List.getD,a]using this
theorem zF(g:ay L=true)(f:ay D=true)(l0:257<=L.length)(l1:L.length<=286)(m:1<=D.length)(n:D.length<=30):bm (iS L D)=true/\(iS L D).length<=338:=by
 have c:∀x∈L++D,0<=x/\x<=15:=by
  intro x b;rcases a1j.1 b with h|h
  . exact qO g x h
  . exact qO f x h
 obtain⟨d,h2,e⟩:=ID (L++D) (by rw[a0o];omega) (by rw[a0o];omega) c;refine⟨?_,?_⟩
 .
  unfold iS bm;rw[a18,a18];simp only[a0n];refine⟨?_,?_,?_⟩
  .
   simp only[a2q,a3j,a2X,a0n];refine⟨aV.2 ⟨by omega,by omega,?_⟩,aV.2 ⟨by omega,by omega,?_⟩,by decide⟩
   .
    have:p2 (5:Int).toNat=32:=by decide
    rw[this];omega
   .
    have:p2 (5:Int).toNat=32:=by decide
    rw[this];omega
  .
   rw[a06];intro x b;obtain⟨i,j,rfl⟩:=a2S.1 b;have a:i<19:=by
    have:∀i∈bS,i<19:=by decide
    exact this i j
   have:=e i a;refine aV.2 ⟨by omega,this.1,?_⟩;have:p2 (3:Int).toNat=8:=by decide
   rw[this];omega
  . rw[a06];intro x b;obtain⟨y,k,rfl⟩:=a2S.1 b;have l:=c y k;exact mU (oO (hJ h2) (by rw[d];omega))
 . unfold iS;simp only[a0o,a1l,a0J,a04];have:bS.length=19:=rfl;omega
theorem LL(T:List Tk)(a:T.length<=300)(b:∀t∈T,okT t=true):lOk (nW T)=true:=by
 have gL:=dc (jT T a);have gD:=dc (lK T a);obtain⟨l0,l1⟩:=sC T a;obtain⟨d,e⟩:=sy T a;obtain⟨f,h2⟩:=xy gL gD T (fun t c=>⟨b t c,sE T a b t c⟩);obtain⟨t1,t2⟩:=zF (jT T a) (lK T a) l0 l1 d e;have g:pOk (pcM (dG T) 256).1 (pcM (dG T) 256).2=true:=mU (gL 256 (by omega)).1;unfold lOk;have h:bm (nW T)=true:=by
  unfold nW;unfold bm at *
  rw[a18,a18,a18,f,t1];simp only[a2q,a3j,g];decide
 have i:(nW T).length<=4000:=by unfold nW;simp only[a0o,a0J,a04];omega
 rw[h];simpa using i
def Fv(s:ByteArray):List UInt8:=iF (nW (eG s.data.toList 0))
theorem rW(g o:Nat)(cap n least:Nat)(l:List Int)(w:World)(G:l.length=n)(h:∀i,i<n->w.cell? ⟨g,o+i,none⟩=some (.int .i64 (l.getD i 0)))(v:n<=cap)(E:n<=300)(D:least<=n) :
  Calls prog 243 #[.slice (some ⟨g,o,none⟩) n cap,.int .i64 (least:Nat)] w fun e w'=>e = .returned (.slice (some ⟨g,o,none⟩) (fq l least n) cap)/\w'=w:=by
 have A:(n:Int)<=(cap:Int):=by omega
 have F:(n:Int)<=300:=by omega
 have H:=af h;clear h G v E D;go_enter func243,ntmps243;go_wp2
 go_loop [5] (fun x=>∃k:Nat,k<=n/\x = .int .i64 k/\fq l least n=fq l least k) (fun x=>(intOf x).toNat)
 case atStart=>exact⟨n,a0a _,rfl,rfl⟩
 case round=>
  obtain⟨k,q,rfl,c⟩:=hrel;have f:=af c;have p:=af q;have C:(k:Int)<=(n:Int):=by omega
  clear c q;by_cases b:least<k
  .
   have r:decide ((least:Int)<(k:Int))=true:=a0w (by omega);have d:(least:Int)<(k:Int):=by omega
   obtain⟨j,hj⟩:∃j,k=j+1:=⟨k-1,by omega⟩;subst hj;have z:=ae H j (by have:=ae p;omega);have J:=af (fun h=>ud (l:=l) (least:=least) (n:=j) h);have I:=af (fun h=>ue (l:=l) (least:=least) (n:=j+1) h);have B:(j:Int)<(n:Int):=by omega
   generalize s:l.getD j 0=y at *
   have u:=af s;clear s;by_cases m:y=0
   .
    subst m;have a:Hid (fq l least n=fq l least j):=(ae f).trans (ae J ⟨b,rfl⟩);have t:Hid (j<=n):=by show j<=n;have:=ae p;omega
    clear b;go_wp2
    go_round
    case rel=>exact⟨j,ae t,by go_num,ae a⟩
    case measure=>simp[intOf]
   .
    have K:(y == 0)=false:=by simpa using m
    have a:Hid (fq l least n=j+1):=(ae f).trans (ae I (by rw[a3K,ae u];exact fun h=>m h.2));clear b;go_wp2;go_ret;exact⟨by rw[ae a];rfl,rfl⟩
  .
   have d:¬ (least:Int)<(k:Int):=by omega
   have a:Hid (fq l least n=k):=(ae f).trans (ue (fun h=>b h.1));clear b;go_wp2;go_ret;exact⟨by rw[ae a];rfl,rfl⟩
end Go.Proofs.YtkdlcomfpffhhaaGreatDoor
namespace Go.Proofs.YtkdlcomfpffhhaaGreatDoor
open Go.Proofs.Tryz
open Go.RowKit Go.Shelf Corb
attribute [local go_sem] Oper.semAt_some
theorem kG{W W':World}(h:W.grownBy W' none):Below W.heap.size W W':=(a0c _ _).grown h (a0a _) (fun j a=>by cases a)
theorem CY(n:Nat)(l:List Nat)(k:Nat):0<=(iI (List.replicate n 0) l).getD k 0/\(iI (List.replicate n 0) l).getD k 0<=(l.length:Int):=by
 rw[jp,gi];have:l.count k<=l.length:=a3k
 split<;>omega
end Go.Proofs.YtkdlcomfpffhhaaGreatDoor
namespace Go.Proofs.YtkdlcomfpffhhaaGreatDoor
open Go.Proofs.Tryz
open Go.RowKit Corb
variable {A D l:List Int}{B c4 c6 g4 g6 gd gl n:Nat}{W w:World}{a:Option Addr}
theorem ax.cut{base m cap:Nat}(j:l.length=n)(h:ax w base (.slice a n cap) l)(p:m<=n)(k:0<n):ax w base (.slice a m cap) (l.take m):=by
 subst j;rcases h.2 with⟨_,e⟩|⟨g,c,b,e,hb,i,o,h2,d,f⟩
 . omega
 .
  simp only[a0O]at e;obtain⟨rfl,_,rfl⟩:=e;refine⟨by simp,.inr ⟨g,cap,b,by rw[a0t];congr 1;omega,hb,i,by rw[a0t];omega,h2,d,?_⟩⟩;rw[a0t,List.map_take,←f,a3h]
  congr 1
  omega
theorem ax.cap{base cap g:Nat}(h:ax w base (.slice (some ⟨g,0,none⟩) n cap) l):n<=cap/\cap<=maxLen:=by
 rcases h.2 with⟨e,_⟩|⟨g',a,b,e,hb,i,c,h2,d,f⟩
 . cases e
 . simp only[a0O]at e;obtain⟨_,rfl,rfl⟩:=e;exact⟨c,h2⟩
def gO(L D:List Int):List (Int×Int):=[((L.length:Int)-257,5),((D.length:Int)-1,5),(15,4)]
def i6(l:List Int)(k:Nat):List (Int×Int):=(bS.take k).map fun i=>(l.getD i 0,(3:Int))
theorem Ft(l:List Int)(k:Nat)(h:k<19):i6 l (k+1)=i6 l k++[(l.getD (bS.getD k 0) 0,3)]:=by
 unfold i6;have a:k<bS.length:=h;rw[a1i a,a1d];simp[List.getD,a]
theorem yL(l:List Int)(k:Nat)(h:k<=19):(i6 l k).length=k:=by unfold i6;have:bS.length=19:=rfl;simp;omega
def gE(T:List Tk)(k:Nat):List Int:=iI (inc (List.replicate 286 0) 256) ((T.take k).map ko)
def fo(T:List Tk)(k:Nat):List Int:=iI (List.replicate 30 0) ((T.take k).flatMap fR)
theorem nO(T:List Tk)(k:Nat):(gE T k).length=286:=by unfold gE;rw[fD,gU,a0A]
theorem ug(T:List Tk)(k:Nat):(fo T k).length=30:=by unfold fo;rw[fD,a0A]
theorem nb(T:List Tk)(k:Nat)(h:k<T.length):T.take (k+1)=T.take k++[T.getD k k0]:=by
 rw[a1i h]
 congr 1
 simp[List.getD,h]
theorem E5(T:List Tk)(k:Nat)(h:k<T.length):gE T (k+1)=inc (gE T k) (ko (T.getD k k0)):=by
 unfold gE;rw[nb T k h,a1d,List.map_singleton,oP]
theorem E6(T:List Tk):gE T 0=(List.replicate 286 (0:Int)).set 256 1:=by
 unfold gE inc;rw[List.take_zero,gi];rfl
theorem KN(T:List Tk)(k:Nat)(h:k<T.length)(hb:isB (T.getD k k0)=true):fo T (k+1)=fo T k:=by
 unfold fo;rw[nb T k h,a3b];have:[T.getD k k0].flatMap fR=[]:=by simp only[a1c,a2s,a1r];unfold fR;rw[a0e hb]
 rw[this,a1r]
theorem KO(T:List Tk)(k:Nat)(h:k<T.length)(hb:isB (T.getD k k0)=false):fo T (k+1)=inc (fo T k) (fnd 1 2 (T.getD k k0).2.2.toNat 29):=by
 unfold fo;rw[nb T k h,a3b];have:[T.getD k k0].flatMap fR=[fnd 1 2 (T.getD k k0).2.2.toNat 29]:=by simp only[a1c,a2s,a1r];unfold fR;rw[a0d (by rw[hb];exact Bool.false_ne_true)]
 rw[this,oP]
theorem Dh(T:List Tk)(k j:Nat)(a:k<=300):0<=(gE T k).getD j 0/\(gE T k).getD j 0<=301:=by
 unfold gE;rw[jp,jO,gi];have:((T.take k).map ko).count j<=((T.take k).map ko).length:=a3k;rw[a1l,a0t]at this
 split<;>split<;>omega
theorem xo(T:List Tk)(k j:Nat)(b:k<=300):0<=(fo T k).getD j 0/\(fo T k).getD j 0<=300:=by
 have a:=CY 30 ((T.take k).flatMap fR) j;have h2:=xz (T.take k);rw[a0t]at h2;unfold fo;omega
theorem Is{t:Tk}(h:isB t=true):t.2.1=0:=by unfold isB at h;simp only[a0n,a0E]at h;exact h.1
def qo(w W:World)(B gl gd g4 c4 g6 c6:Nat)(A D:List Int):Prop:=
 (ax W w.heap.size (.slice (some ⟨gl,0,none⟩) 286 286) A/\ax W w.heap.size (.slice (some ⟨gd,0,none⟩) 30 30) D)/\(ax W B (.slice (some ⟨g4,0,none⟩) 28 c4) iQ/\ax W B (.slice (some ⟨g6,0,none⟩) 30 c6) iK)/\Below w.heap.size w W/\gl≠gd/\gl<B/\gd<B
theorem qo.drew(h:qo w W B gl gd g4 c4 g6 c6 A D):qo w W.drew B gl gd g4 c4 g6 c6 A D:=⟨h.1,h.2.1,h.2.2.1.drew,h.2.2.2⟩
theorem qo.putL(h:qo w W B gl gd g4 c4 g6 c6 A D)(i:A.length=286)(j:Nat)(x:Int):qo w (W.setCell ⟨gl,j,none⟩ (.int .i64 x)) B gl gd g4 c4 g6 c6 (A.set j x) D:=by
 obtain⟨⟨a,h2⟩,⟨b,c⟩,e,d,f,g⟩:=h;have e3:=b.below.1;have e4:=c.below.1;exact⟨⟨a.put i x,h2.setOther d _⟩,⟨b.setOther (by omega) _,c.setOther (by omega) _⟩,ap e a.below.1 _,d,f,g⟩
theorem qo.putD(h:qo w W B gl gd g4 c4 g6 c6 A D)(i:D.length=30)(j:Nat)(x:Int):qo w (W.setCell ⟨gd,j,none⟩ (.int .i64 x)) B gl gd g4 c4 g6 c6 A (D.set j x):=by
 obtain⟨⟨d,h2⟩,⟨a,b⟩,e,c,f,g⟩:=h;have e3:=a.below.1;have e4:=b.below.1;exact⟨⟨d.setOther c.symm _,h2.put i x⟩,⟨a.setOther (by omega) _,b.setOther (by omega) _⟩,ap e h2.below.1 _,c,f,g⟩
theorem wg(ta:Option Addr)(tcap tn:Nat)(T:List Tk)(w:World)(aa:T.length=tn)(hT:Af w ta T)(Z:tn<=300)(V:∀t∈T,okT t=true) :
  Calls prog 242 #[.slice ta tn tcap] w fun e w'=>(∃gl gd,e = .returned (.tuple #[.slice (some ⟨gl,0,none⟩) 286 286,.slice (some ⟨gd,0,none⟩) 30 30])/\ax w' w.heap.size (.slice (some ⟨gl,0,none⟩) 286 286) (iJ T)/\ax w' w.heap.size (.slice (some ⟨gd,0,none⟩) 30 30) (dn T))/\Below w.heap.size w w':=by
 obtain⟨i0,hi,ab,ac,ad⟩:=a0s Tryz.infoInt;have u:=af aa;have HT:=af hT;have L:=af Z;have ao:=af V;have bd:(tn:Int)<=300:=by omega
 clear aa hT Z V;go_enter func242,ntmps242;go_wp2_with (first
  | (at_make;refine a2a _ rfl _ _ 146 rfl w.heap.size 3 i0 (.int .i64 0) 1 a0L hi ab ac .i64 .i64 _ _ 286 rfl rfl rfl rfl (by rw[ad];omega) (by unfold maxLen;omega) (a0a _) ?_;intro x1 R O;have m:=kG O;have o1:=eq R;clear O R)
  | (at_make;refine a2a _ rfl _ _ 146 rfl w.heap.size 3 i0 (.int .i64 0) 1 a0L hi ab ac .i64 .i64 _ _ 30 rfl rfl rfl rfl (by rw[ad];omega) (by unfold maxLen;omega) m.size ?_;intro x2 S P;have n:=kG P;have o2:=eq S;clear P S))
 have lt1:=o1.below.2;have O1:=af (o1.later n (a0a _));have O2:=af o2;have B2:=af (am m n);have lt2:=o2.below.2;obtain⟨gl,hgl⟩:∃g,w.heap.size=g:=⟨_,rfl⟩;obtain⟨gd,hgd⟩:∃g,x1.heap.size=g:=⟨_,rfl⟩;have a1:gl≠gd:=by omega
 have v:gl<x2.heap.size:=by omega
 have x:gd<x2.heap.size:=by omega
 rw[hgd]at O2;have K:Hid (ax x2 w.heap.size (.slice (some ⟨gl,0,none⟩) 286 286) (List.replicate 286 0)):=by show ax _ _ _ _;have:=ae O1;rw[hgl]at this ⊢;exact this
 rw[hgd];have eg:Value.slice (some ⟨w.heap.size,0,none⟩) 286 286 = .slice (some ⟨gl,0,none⟩) 286 286:=by rw[hgl]
 rw[eg];clear o1 o2 m n lt1 lt2 O1 eg hgl hgd;refine(mN _).mono ?_;rintro e x3 ⟨⟨g3,rfl,o3⟩,b3⟩;have R3:=af (o3.rowN rfl);have B3:=af b3;clear o3 b3;go_wp2_with fail;refine(iv _ 28 _ (ae R3)).mono ?_;rintro e x4 ⟨v4,rfl,o4,b4⟩;obtain⟨a4,c4,rfl⟩:=o4.formN eo;obtain⟨g4,rfl⟩:=o4.somes (by rw[eo];omega);have O4:=af (o4.mono (ae B3).size);have B4:=af (am (ae B3) b4);clear o4 b4 B3 R3;go_wp2_with fail;refine(ms _).mono ?_;rintro e x5 ⟨⟨g5,rfl,o5⟩,b5⟩;have R5:=af (o5.rowN rfl);have B5:=af (am (ae B4) b5);have O4':=af ((ae O4).later b5 (a0a _));clear o5 b5 O4;go_wp2_with fail;refine(iu _ 30 _ (ae R5)).mono ?_;rintro e x6 ⟨v6,rfl,o6,b6⟩;obtain⟨a6,c6,rfl⟩:=o6.formN ea;obtain⟨g6,rfl⟩:=o6.somes (by rw[ea];omega);have X:=(ae B5).size;have O4:ax x6 x2.heap.size (.slice (some ⟨g4,0,none⟩) 28 c4) iQ:=(ae O4').later b6 (a0a _);have O6:ax x6 x2.heap.size (.slice (some ⟨g6,0,none⟩) 30 c6) iK:=o6.mono X;have B6:=am (ae B5) b6;have E:qo w x6 x2.heap.size gl gd g4 c4 g6 c6 (List.replicate 286 0) (List.replicate 30 0):=⟨⟨(ae K).later B6 (a0a _),(ae O2).later B6 (a0a _)⟩,⟨O4,O6⟩,am (ae B2) B6,a1,v,x⟩;have F:=E.putL (a0A ..) 256 1;have e1:(List.replicate 286 (0:Int)).set 256 1=gE T 0:=(E6 T).symm;rw[e1]at F;have M:qo w (x6.setCell ⟨gl,256,none⟩ (.int .i64 1)) x2.heap.size gl gd g4 c4 g6 c6 (gE T 0) (fo T 0):=F;obtain⟨f1,f2,_,_⟩:=E.1.1.at (j:=256) (a0A ..) (by omega);clear E F e1 O4 O6 B6 b6 o6 K O2 B2 B4 O4' X R5 B5 v x;generalize x2.heap.size=B at *
 go_wp2_with fail
 go_loopw [8,9] (fun i _ wr=>∃k:Nat,k<=tn/\i = .int .i64 k/\qo w wr B gl gd g4 c4 g6 c6 (gE T k) (fo T k)) (fun i _ _=>tn-(intOf i).toNat)
 case atStart=>exact⟨0,a0h _,rfl,M⟩
 case round=>
  obtain⟨k,hk,rfl,l⟩:=hrel;clear M f1 f2;by_cases H:k<tn
  .
   obtain⟨g,o,rfl,hg,N⟩:=(ae HT) (by rw[ae u];omega);obtain⟨c0,c1,c2⟩:=N k (by rw[ae u];exact H);have d0:=(l.2.2.1.cell (p:=⟨g,o+k*3,none⟩) hg).trans c0;have d1:=(l.2.2.1.cell (p:=⟨g,o+k*3+1,none⟩) hg).trans c1;have d2:=(l.2.2.1.cell (p:=⟨g,o+k*3+2,none⟩) hg).trans c2;have a0:g≠gl:=by have:=l.1.1.below.1;omega
   clear c0 c1 c2;have c:k<T.length:=by rw[ae u];exact H
   have Y:=ae ao (T.getD k k0) (by simp[List.getD,c]);have f:=af (E5 T k c);have a:k<=300:=by have:=ae L;omega
   have Hk:=af H;clear N;cases hb:isB (T.getD k k0)
   .
    have hK:isK (T.getD k k0)=true:=by unfold okT at Y;rw[hb]at Y;simpa using Y
    obtain⟨q1,q2,q3,q4⟩:=AV hK;have r:=af (KO T k c hb);have e2:ko (T.getD k k0)=257+fnd 3 4 (T.getD k k0).2.1.toNat 27:=by unfold ko;rw[a0d (by rw[hb];exact Bool.false_ne_true)]
    rw[e2]at f;obtain⟨y,hy⟩:=a0r (show 0<=(T.getD k k0).2.1 by omega);obtain⟨z,A⟩:=a0r (show 0<=(T.getD k k0).2.2 by omega);rw[hy]at d1 q1 q2 f;rw[A]at d2 q3 q4 r;rw[a0x]at f r;have C:=af (fun W (h:bn W (some ⟨g4,0,none⟩) iQ)=>lE (some ⟨g4,0,none⟩) c4 28 iQ (y:Int) W eo h (by omega) (by omega));have D:=af (fun W (h:bn W (some ⟨g6,0,none⟩) iK)=>lE (some ⟨g6,0,none⟩) c6 30 iK (z:Int) W ea h (by omega) (by omega));rw[yu y (by omega) (by omega)]at C;rw[wP z (by omega) (by omega)]at D;have k1:=iZ 3 4 y 27;have k2:=iZ 1 2 z 29;clear hb hK c e2 hy A Y;generalize fnd 3 4 y 27=p at *
    generalize fnd 1 2 z 29=q at *
    have m:=Dh T k (257+p) a;have n:=xo T k q a;obtain⟨m1,m2,_,_⟩:=l.1.1.at (j:=257+p) (nO T k) (by omega);have d:=l.putL (nO T k) (257+p) ((gE T k).getD (257+p) 0+1);have el:(gE T k).set (257+p) ((gE T k).getD (257+p) 0+1)=gE T (k+1):=(ae f).symm;rw[el]at d;generalize (gE T k).getD (257+p) 0=ya at *
    obtain⟨m3,m4,_,_⟩:=d.1.2.at (j:=q) (ug T k) (by omega);have G:=d.putD (ug T k) q ((fo T k).getD q 0+1);have ed:(fo T k).set q ((fo T k).getD q 0+1)=fo T (k+1):=(ae r).symm;rw[ed]at G;generalize (fo T k).getD q 0=za at *
    have R1:=af (ae C wr (l.2.1.1.rowN eo));have R2:=af (ae D _ (d.2.1.2.rowN ea));have ba:(wr.setCell ⟨gl,257+p,none⟩ (.int .i64 (ya+1))).cell? ⟨g,o+k*3+2,none⟩=some (.int .i64 (z:Int)):=by
     rw[World.cell?_setCell_other _ _ _ _ (by intro e;simp only[a0F]at e;exact a0 e.1.symm)];exact d2
    have an:=af G;have bb:(257:Int)+(p:Int)<286:=by omega
    have bc:(q:Int)<30:=by omega
    have a5:ya<=301:=m.2;have bk:za<=300:=n.2;have a3:0<=ya:=m.1;have a9:0<=za:=n.1;have y0':¬ (y:Int)=0:=by omega
    clear l d G el ed m n k1 k2 q1 q2 q3 q4 C D a;go_wp2_with fail;refine(ae R1).mono ?_;rintro e x7 ⟨rfl,b⟩;rw[b];clear b x7;go_wp2_with fail;refine(ae R2).mono ?_;rintro e x7 ⟨rfl,b⟩;rw[b];clear b x7;go_wp2;go_roundw
    case rel=>exact⟨k+1,by have:=ae Hk;omega,by go_num,ae an⟩
    case measure=>have:=ae Hk;simp[intOf];omega
   .
    obtain⟨q1,q2⟩:=vY hb;have A:=Is hb;have r:=af (KN T k c hb);have e2:ko (T.getD k k0)=(T.getD k k0).1.toNat:=by unfold ko;rw[a0e hb]
    rw[e2]at f;obtain⟨y,hy⟩:=a0r q1;rw[hy]at d0 q2 f;rw[A]at d1;rw[a0x]at f;clear hb c e2 hy A Y d2 q1;have m:=Dh T k y a;obtain⟨m1,m2,_,_⟩:=l.1.1.at (j:=y) (nO T k) (by omega);have d:=l.drew.putL (nO T k) y ((gE T k).getD y 0+1);have el:(gE T k).set y ((gE T k).getD y 0+1)=gE T (k+1):=(ae f).symm;rw[el,←ae r]at d;generalize (gE T k).getD y 0=ya at *
    have al:=af d;have a5:ya<=301:=m.2;have a3:0<=ya:=m.1;have be:(y:Int)<286:=by omega
    clear l d el m a q2;go_wp2
    go_region
    go_wp2;go_roundw
    case rel=>exact⟨k+1,by have:=ae Hk;omega,by go_num,ae al⟩
    case measure=>have:=ae Hk;simp[intOf];omega
  .
   have c:T.take k=T:=a0D (by rw[ae u];omega);have Q:k<=300:=by have:=ae L;omega
   have eL:gE T k=iJ T:=by unfold gE;rw[c];exact Bn T
   have eD:fo T k=fm T:=by unfold fo fm;rw[c]
   have n:=xo T k 0 Q;rw[eL,eD]at l;rw[eD]at n;have HU:=af (rU (some ⟨gd,0,none⟩) 30 30 (fm T) wr (eb T) (l.1.2.rowN (eb T)) (by omega));obtain⟨m1,m2,_,_⟩:=l.1.2.at (j:=0) (eb T) (by omega);have I:=af l;clear l c Q eL eD;by_cases J:us (fm T)=0
   .
    have A:(fm T).getD 0 0=0:=by have:=Mp J 0 (by rw[eb];omega);omega
    have s:=af ((ae I).putD (eb T) 0 1);have e1:(fm T).set 0 1=dn T:=by unfold dn;rw[a0e J];unfold inc;rw[A];rfl
    rw[e1]at s;rw[J]at HU;clear e1 A n I J;go_wp2_with fail;refine(ae HU).mono ?_;rintro e x7 ⟨rfl,b⟩;rw[b];clear b x7;go_wp2
    go_ret2
    exact⟨⟨gl,gd,rfl,(ae s).1.1,(ae s).1.2⟩,(ae s).2.2.1⟩
   .
    have e1:fm T=dn T:=by unfold dn;rw[a0d J]
    have a2:((us (fm T):Nat):Int)≠0:=by omega
    have a7:(((us (fm T):Nat):Int) == 0)=false:=by simpa using a2
    rw[e1]at I;clear e1 n J;generalize us (fm T)=U at *
    go_wp2_with fail;refine(ae HU).mono ?_;rintro e x7 ⟨rfl,b⟩;rw[b];clear b x7;go_wp2
    go_ret2
    exact⟨⟨gl,gd,rfl,(ae I).1.1,(ae I).1.2⟩,(ae I).2.2.1⟩
theorem uw{g o:Nat}(c:∀i,i<l.length->w.cell? ⟨g,o+i,none⟩=some (.int .i64 (l.getD i 0))):∀j u,(l.map (Value.int .i64))[j]?=some u->w.cell? ((⟨g,o,none⟩:Addr).add j)=some u:=by
 intro j u d;have b:j<l.length:=by have:=(List.getElem?_eq_some_iff.1 d).1;simpa using this
 have a:(⟨g,o,none⟩:Addr).add j=⟨g,o+j,none⟩:=by unfold Addr.add;split<;>simp_all
 rw[a,c j b,←d];simp[List.getD,b]
def jq(l:List Int)(t:List Int):List (Int×Int):=t.map fun x=>pcM l x.toNat
theorem Bl(l t:List Int)(k:Nat)(h:k<t.length):jq l (t.take (k+1))=jq l (t.take k)++[pcM l (t.getD k 0).toNat]:=by
 unfold jq;rw[dy t k h,a1d];rfl
theorem Ob(L D:List Int):gO L D++(i6 (br (L++D)) 19++jq (br (L++D)) (L++D))=iS L D:=rfl
def LR(W:World)(b:Nat)(A l:List Int)(gA g7 gc:Option Addr):Prop:=gz W b gA A/\gz W b g7 l/\gz W b gc (a8 l 15).2
theorem LR.keep{W':World}{b:Nat}{gA g7 gc:Option Addr}(h:LR W b A l gA g7 gc)(a:bw b W W'):LR W' b A l gA g7 gc:=⟨h.1.keep a,h.2.1.keep a,h.2.2.keep a⟩
theorem ET(b:Nat)(p:Nat×Nat)(a aD:Option Addr)(cL nL cD nD:Nat)(L D:List Int)(w:World)(ho:iH w b p)(hL:bn w a L)(hD:bn w aD D)(ao:L.length=nL)(an:D.length=nD)
  (l0:257<=nL) (l1:nL<=286) (d0:1<=nD) (d1:nD<=30) (kL:ay L=true) (kD:ay D=true) (hp:p.2<=1000) :
  Calls prog 245 #[.pointer (some ⟨b,0,none⟩),.slice a nL cL,.slice aD nD cD] w fun e w'=>e = .returned (.tuple #[])/\iH w' b (aT p (iS L D))/\KB b w w':=by
 obtain⟨i0,hi,bd,be,bk⟩:=a0s Tryz.infoInt;have ab:b<w.heap.size:=Out.lt ho;have HA:Hid (∀x∈L++D,0<=x/\x<=15):=by
  intro x F;rcases a1j.1 F with h|h
  . exact qO kL x h
  . exact qO kD x h
 obtain⟨nA,hnA⟩:∃nA,(L++D).length=nA:=⟨_,rfl⟩;have d2:nA=nL+nD:=by rw[←hnA,a0o,ao,an]
 have K:=af (ID (L++D) (by omega) (by omega) (ae HA));have HQ:=af (Ob L D);have HU:=af (Cu (L++D) (by omega) (ae HA));have d4:=af (Ct (L++D) (by omega));have HB:Hid (gO L D=[((nL:Int)-257,5),((nD:Int)-1,5),(15,4)]):=by show gO L D=_;unfold gO;rw[ao,an]
 have b0:Hid (pOk ((nL:Int)-257) 5=true/\pOk ((nD:Int)-1) 5=true):=by
  have:p2 (5:Int).toNat=32:=by decide
  exact⟨aV.2 ⟨by omega,by omega,by rw[this];omega⟩,aV.2 ⟨by omega,by omega,by rw[this];omega⟩⟩
 obtain⟨g,o,rfl,hg,cy⟩:=hL (by omega);obtain⟨g',o',rfl,c5,a1⟩:=hD (by omega);have O:Below w.heap.size w (w.alloc (.cells #[] 3)):=(a0c _ _).alloc (a0a _) _;have a9:World.ownsRow (w.alloc (.cells #[] 3)) w.heap.size 3 1 (.slice (some ⟨w.heap.size,0,none⟩) 0 0) 0 []:=a0P w #[] 0 (a0a _) (by unfold maxLen;omega) rfl;have T:=af (uw (w:=w.alloc (.cells #[] 3)) (g:=g) (o:=o) (l:=L) (fun i hi=>by rw[O.cell (p:=⟨g,o+i,none⟩) hg];exact cy i hi));have E:Hid (∀W,Below w.heap.size w W->∀j u,(D.map (Value.int .i64))[j]?=some u->W.cell? ((⟨g',o',none⟩:Addr).add j)=some u):=fun W hW=>uw (fun i hi=>by rw[hW.cell (p:=⟨g',o'+i,none⟩) c5];exact a1 i hi);have dv:Hid ((L.map (Value.int .i64)).length=nL*1):=by show _=_;simp[ao]
 have ds:Hid ((D.map (Value.int .i64)).length=nD*1):=by show _=_;simp[an]
 have R:Hid ((0+nL<=maxLen/\(0+nL)*8<=140737488355328)/\(0+nL+nD<=maxLen/\(0+nL+nD)*8<=140737488355328)):=by show(_/\_)/\_/\_;unfold maxLen;omega
 have nLI:(nL:Int)<=286:=by omega
 have nDI:(nD:Int)<=30:=by omega
 have nLI0:(257:Int)<=(nL:Int):=by omega
 have nDI0:(1:Int)<=(nD:Int):=by omega
 have nAI:(nA:Int)<=316:=by omega
 have aa:Hid (1<=nA/\nA<=316/\nA=nL+nD):=by show _/\_;omega
 have HO:=af ho;have Hp:=af hp;clear hL hD kL kD l0 l1 d0 d1 ao an d2 ho hp cy a1 hg c5;generalize cm:L++D=A at *
 have bs:Hid (L.map (Value.int .i64)++D.map (Value.int .i64)=A.map (Value.int .i64)):=by show _=_;rw[←cm,a1d]
 have m:=af hnA;clear hnA cm;go_enter func245,ntmps245;go_wp2_with (first
  | (at_builtin;refine a0v _ rfl _ _ 146 rfl w.heap.size 3 i0 (.int .i64 0) 1 8 a0L hi bd be bk rfl (by decide) _ _ _ rfl a9 ⟨g,o,none⟩ nL cL (L.map (Value.int .i64)) rfl (ae dv) (ae T) (a2c .i64 _) (ae R).1.1 (ae R).1.2 O.size ?_;intro v1 x1 s t U;clear U;have Q:Below w.heap.size w x1:=O.grown t O.size (fun j hj=>(a0p a9 j hj).1))
  | (at_builtin;refine a0v _ rfl _ _ 146 rfl w.heap.size 3 i0 (.int .i64 0) 1 8 a0L hi bd be bk rfl (by decide) _ _ _ rfl s ⟨g',o',none⟩ nD cD (D.map (Value.int .i64)) rfl (ae ds) (ae E _ Q) (a2c .i64 _) (ae R).2.1 (ae R).2.2 Q.size ?_;intro v2 x2 X B U;clear U;have a6:Below w.heap.size w x2:=Q.grown B Q.size (fun j hj=>(a0p s j hj).1))
  | (at_make;refine a2a _ rfl _ _ 146 rfl w.heap.size 3 i0 (.int .i64 0) 1 a0L hi bd be .i64 .i64 _ _ 19 rfl rfl rfl rfl (by rw[bk];omega) (by unfold maxLen;omega) a6.size ?_;intro x3 Y C))
 have N:ax x2 w.heap.size v2 A:=by
  show World.ownsRow _ _ _ _ _ A.length _;rw[ae m,(ae aa).2.2,←ae bs];simpa using X
 obtain⟨aA,cA,rfl⟩:=N.formN (ae m);obtain⟨gA,rfl⟩:=N.somes (by have:=ae m;have:=ae aa;omega);have c6:=N.below.2;obtain⟨gC,hgC⟩:∃gC,x2.heap.size=gC:=⟨_,rfl⟩;have b3:=kG C;have o2:=eq Y;rw[hgC]at o2 c6;have cv:=am a6 b3;have o1:=N.later b3 (a0a _);have ed:gC≠gA:=by omega
 rw[hgC];clear s X Y t B C b3 hgC c6 O Q a6 a9 T E dv ds R bs N
 go_loopw [8] (fun i wr=>∃k:Nat,k<=nA/\i = .int .i64 k/\ax wr w.heap.size (.slice (some ⟨gA,0,none⟩) nA cA) A/\ax wr w.heap.size (.slice (some ⟨gC,0,none⟩) 19 19) (iI (List.replicate 19 0) ((A.take k).map Int.toNat))/\Below w.heap.size w wr) (fun i _=>nA-(intOf i).toNat)
 case atStart=>exact⟨0,a0h _,rfl,o1,o2,cv⟩
 case round=>
  obtain⟨k,hk,rfl,M,H,r⟩:=hrel;clear o1 o2 cv;by_cases c:k<nA
  .
   obtain⟨c0,_,_,_⟩:=M.at (ae m) c;have c7:A.getD k 0∈A:=by have:=ae m;simp[List.getD,show k<A.length by omega]
   have n:=ae HA _ c7;have f:Hid ((A.take (k+1)).map Int.toNat=(A.take k).map Int.toNat++[(A.getD k 0).toNat]):=by
    show _=_;rw[dy A k (by rw[ae m];exact c),a1d];rfl
   have bb:(iI (List.replicate 19 0) ((A.take k).map Int.toNat)).length=19:=by rw[fD,a0A]
   obtain⟨y,hy⟩:=a0r n.1;rw[hy]at f c0 n;rw[a0x]at f;have hb:=CY 19 ((A.take k).map Int.toNat) y;have d7:((A.take k).map Int.toNat).length<=nA:=by simp;omega
   obtain⟨e0,e1,e2,e3⟩:=H.at (j:=y) bb (by omega);have hP:=ax.put (w:=wr.drew) (j:=y) bb H ((iI (List.replicate 19 0) ((A.take k).map Int.toNat)).getD y 0+1);have ct:Hid (∀u,ax (wr.drew.setCell ⟨gC,y,none⟩ u) w.heap.size (.slice (some ⟨gA,0,none⟩) nA cA) A/\Below w.heap.size w (wr.drew.setCell ⟨gC,y,none⟩ u)):=fun u=>⟨ax.setOther (w:=wr.drew) M ed u,ap r.drew e2 u⟩;have HP:Hid (ax (wr.drew.setCell ⟨gC,y,none⟩ (.int .i64 ((iI (List.replicate 19 0) ((A.take k).map Int.toNat)).getD y 0+1))) w.heap.size (.slice (some ⟨gC,0,none⟩) 19 19) (iI (List.replicate 19 0) ((A.take (k+1)).map Int.toNat))):=by
    show ax _ _ _ _;rw[ae f,oP];exact hP
   generalize (iI (List.replicate 19 0) ((A.take k).map Int.toNat)).getD y 0=z at *
   have ek:(y:Int)<19:=by omega
   have el:z<=400:=by have:=ae aa;omega
   have eh:0<=z:=hb.1;have Hk:=af hk;clear hP H M r d7 hb n hy c7 hk bb e2 e3;go_wp2
   go_region
   go_wp2;go_roundw
   case rel=>exact⟨k+1,by have:=ae Hk;omega,by go_num,(ae ct _).1,ae HP,(ae ct _).2⟩
   case measure=>simp[intOf];omega
  .
   have dq:A.take k=A:=a0D (by rw[ae m];omega);rw[dq]at H;have co:ax wr w.heap.size (.slice (some ⟨gC,0,none⟩) 19 19) (qs A):=H;have HL:Hid (Calls prog 244 #[.slice (some ⟨gC,0,none⟩) 19 19,.int .i64 7] wr fun e w'=>(∃v,e = .returned v/\ax w' wr.heap.size v (br A))/\Below wr.heap.size wr w'):=uy (some ⟨gC,0,none⟩) 19 19 6 (qs A) wr (ij A) (co.rowN (ij A)) (by omega) (by omega) (ae d4) (by rw[gu];have h2:=NZ;have:=(ae HU).2;omega) (by omega);have eg:=r.size;have O1:=af M;have B1:=af r;clear dq H co M r;go_wp2_with fail;refine(ae HL).mono ?_;rintro e x3 ⟨⟨v3,rfl,o3⟩,b3⟩;obtain⟨a3,c3,rfl⟩:=o3.formN (ae K).1;obtain⟨g3,rfl⟩:=o3.somes (by rw[(ae K).1];omega);have O1':=af ((ae O1).later b3 (a0a _));have B3:=af (am (ae B1) b3);have O3:=af (o3.mono eg);clear o3 b3 HL O1 B1;go_wp2_with fail;refine(oU (some ⟨g3,0,none⟩) c3 19 (br A) x3 (ae K).1 ((ae O3).rowN (ae K).1) (by omega)).mono ?_;rintro e x4 ⟨⟨g4,rfl,o4⟩,b4⟩;have hR:LR x4 b A (br A) (some ⟨gA,0,none⟩) (some ⟨g3,0,none⟩) (some ⟨g4,0,none⟩):=⟨ef (ae m) ((ae O1').later b4 (a0a _)) ab,ef (ae K).1 ((ae O3).later b4 (a0a _)) ab,ef ((bK _ 15).trans (ae K).1) (o4.mono (ae B3).size) ab⟩;have a7:=am (ae B3) b4;have cr:iH x4 b p:=Out.kept (ae HO) a7;have cp:KB b w x4:=(KB.refl b w).below a7 (a0y ab);have HR:=af hR;have b6:=af cr;have b1:=af cp;clear hR o4 b4 a7 cr cp O1' O3 B3;go_wp2_with fail;refine(dY b p ((nL:Int)-257) 5 x4 (ae b6) (ae b0).1 (by have:=ae Hp;omega)).mono ?_;rintro e x5 ⟨rfl,o5,k5⟩;have b7:=af o5;have cg:=af ((ae HR).keep k5.2);have b2:=af ((ae b1).trans k5);have q5:=dh p [((nL:Int)-257,5)] (by intro x F;simp at F;subst F;simp);clear o5 k5 b6 HR b1;go_wp2_with fail;refine(dY b _ ((nD:Int)-1) 5 x5 (ae b7) (ae b0).2 (by have:=ae Hp;simp only[a0J,a04]at q5;omega)).mono ?_;rintro e x6 ⟨rfl,o6,k6⟩;rw[←aU]at o6;have cc:=af o6;have ch:=af ((ae cg).keep k6.2);have b5:=af ((ae b2).trans k6);have q6:=dh p ([((nL:Int)-257,5)]++[((nD:Int)-1,5)]) (by intro x F;simp at F;rcases F with rfl|rfl<;>simp);clear o6 k6 b7 cg b2;go_wp2_with fail;refine(dY b _ 15 4 x6 (ae cc) (by decide) (by have:=ae Hp;simp only[a0J,a04,a0o]at q6;omega)).mono ?_;rintro e x7 ⟨rfl,o7,k7⟩;rw[←aU]at o7;have o7':iH x7 b (aT p (gO L D++i6 (br A) 0)):=by rw[ae HB];exact o7
   have cu:=(ae ch).keep k7.2;have cq:=(ae b5).trans k7;clear o7 k7 cc ch b5 q5 q6;go_wp2_with fail;have d5:=af (dc (ae K).2.1);have ck:Hid (∀l:List (Int×Int),(∀x∈l,x.2<=16)->l.length<=400->(aT p (gO L D++l)).2<=100000):=by
    intro l h1 h2;have h3:=dh p (gO L D++l) (by
     intro x F;rcases a1j.1 F with h|h
     . rw[ae HB]at h;simp at h;rcases h with rfl|rfl|rfl<;>simp
     . exact h1 x h)
    rw[a0o]at h3;have h4:(gO L D).length=3:=rfl;have:=ae Hp;omega
   go_loopw [11] (fun i wr=>∃j:Nat,j<=19/\i = .int .i64 j/\iH wr b (aT p (gO L D++i6 (br A) j))/\LR wr b A (br A) (some ⟨gA,0,none⟩) (some ⟨g3,0,none⟩) (some ⟨g4,0,none⟩)/\KB b w wr) (fun i _=>19-(intOf i).toNat)
   case atStart=>exact⟨0,by omega,rfl,o7',cu,cq⟩
   case round=>
    obtain⟨j,S,rfl,I,a0,al⟩:=hrel;clear o7' cu cq;by_cases c:j<19
    .
     have f:Hid (aT p (gO L D++i6 (br A) (j+1))=aT (aT p (gO L D++i6 (br A) j)) [((br A).getD (bS.getD j 0) 0,3)]):=by show _=_;rw[Ft (br A) j c,←a0U,aU]
     have bc:=Bu j c;have d:=ae ck (i6 (br A) j) (by intro x F;unfold i6 at F;obtain⟨i,_,rfl⟩:=a2S.1 F;simp) (by rw[yL _ _ S];omega);have n:=(ae K).2.2 (bS.getD j 0) bc;have d3:=yJ j c;have dz:=Out.lt I;have HJ:=af (a0b c (a0b I (a0b a0 al)));have d6:(j:Int)<19:=by omega
     clear I a0 al S;generalize aT p (gO L D++i6 (br A) j)=P at *
     go_wp2_with fail;refine(yd wr).mono ?_;rintro e x8 ⟨⟨g8,rfl,o8⟩,b8⟩;obtain⟨d8,_,_,_⟩:=o8.at (j:=j) yK c;rw[d3]at d8;have Z:=(ae HJ).2.2.1.keep (bl b8);have a5:iH x8 b P:=Out.kept (ae HJ).2.1 b8;have a2:=(ae HJ).2.2.2.below b8 (a0y dz);obtain⟨g,o,e,_,dd⟩:=g9 Z.2.1 (k:=bS.getD j 0) (by rw[(ae K).1];exact bc);cases e
     rw[a0B]at dd;have cs:pOk ((br A).getD (bS.getD j 0) 0) 3=true:=by
      have:p2 (3:Int).toNat=8:=by decide
      exact aV.2 ⟨by omega,n.1,by rw[this];omega⟩
     generalize (br A).getD (bS.getD j 0) 0=y at *
     generalize bS.getD j 0=q at *
     have ei:(q:Int)<19:=by omega
     have HX:=af (a0b Z a2);have G:=af (dY b P y 3 x8 a5 cs d);have Hj:=af (ae HJ).1;clear o8 b8 Z a5 a2 HJ bc n d3 d cs c;go_wp2_with fail;refine(ae G).mono ?_;rintro e x9 ⟨rfl,o9,k9⟩;rw[←ae f]at o9;have HY:=af (a0b o9 (a0b ((ae HX).1.keep k9.2) ((ae HX).2.trans k9)));clear o9 k9 HX G d8 dd f;go_wp2;go_roundw
     case rel=>exact⟨j+1,by have:=ae Hj;omega,by go_num,(ae HY).1,(ae HY).2.1,(ae HY).2.2⟩
     case measure=>have:=ae Hj;simp[intOf];omega
    .
     have c8:j=19:=by omega
     have d6:¬ (j:Int)<19:=by omega
     rw[c8]at I;have a4:iH wr b (aT p (gO L D++(i6 (br A) 19++jq (br A) (A.take 0)))):=by
      have e0:i6 (br A) 19++jq (br A) (A.take 0)=i6 (br A) 19:=by unfold jq;rw[List.take_zero,a2Q,a1r]
      rw[e0];exact I
     clear I c S c8;go_wp2_with fail
     go_loopw [12] (fun i wr=>∃j:Nat,j<=nA/\i = .int .i64 j/\iH wr b (aT p (gO L D++(i6 (br A) 19++jq (br A) (A.take j))))/\LR wr b A (br A) (some ⟨gA,0,none⟩) (some ⟨g3,0,none⟩) (some ⟨g4,0,none⟩)/\KB b w wr) (fun i _=>nA-(intOf i).toNat)
     case atStart=>exact⟨0,by omega,rfl,a4,a0,al⟩
     case round=>
      obtain⟨j,hj,rfl,V,J,ad⟩:=hrel;clear a4 a0 al;by_cases c:j<nA
      .
       have ac:j<A.length:=by rw[ae m];exact c
       have f:Hid (aT p (gO L D++(i6 (br A) 19++jq (br A) (A.take (j+1))))=aT (aT p (gO L D++(i6 (br A) 19++jq (br A) (A.take j)))) [pcM (br A) (A.getD j 0).toNat]):=by show _=_;rw[Bl (br A) A j ac,←aU,a0U,a0U]
       have d:=ae ck (i6 (br A) 19++jq (br A) (A.take j)) (by
        intro x F;rcases a1j.1 F with h|h
        . unfold i6 at h;obtain⟨i,_,rfl⟩:=a2S.1 h;simp
        . unfold jq at h;obtain⟨y,hy,rfl⟩:=a2S.1 h;have h1:=ae HA y (a19 hy);have h2:=(ae K).2.2 y.toNat (by omega);show(br A).getD y.toNat 0<=16;omega) (by rw[a0o,yL _ _ (a0a _)];unfold jq;rw[a1l,a0t];have:=ae aa;omega)
       have n:=ae HA (A.getD j 0) (by simp[List.getD,ac]);obtain⟨g,o,e,_,dd⟩:=g9 J.1 (k:=j) ac;cases e
       rw[a0B]at dd;obtain⟨q,hq⟩:=a0r n.1;rw[hq]at dd n f;rw[a0x]at f;have ba:=ae d5 q (by rw[(ae K).1];omega);have G:=af (oj b _ (some ⟨g3,0,none⟩) (some ⟨g4,0,none⟩) c3 19 19 q (br A) wr V (ae K).1 J.2.1.1 J.2.2.1 (by omega) (by omega) ba.1 ba.2 d);rw[←ae f]at G;have HX:=af (a0b J ad);have Hj:=af c;clear V J ad hj c ac f d n hq ba;go_wp2_with fail;refine(ae G).mono ?_;rintro e x9 ⟨rfl,o9,k9⟩;have HY:=af (a0b o9 (a0b ((ae HX).1.keep k9.2) ((ae HX).2.trans k9)));clear o9 k9 HX G dd;go_wp2;go_roundw
       case rel=>exact⟨j+1,by have:=ae Hj;omega,by go_num,(ae HY).1,(ae HY).2.1,(ae HY).2.2⟩
       case measure=>have:=ae Hj;simp[intOf];omega
      .
       have dl:A.take j=A:=a0D (by rw[ae m];omega);rw[dl,ae HQ]at V;have HY:=af (a0b V ad);clear V J ad dl;go_wp2
       go_end0
       exact⟨rfl,(ae HY).1,(ae HY).2⟩
theorem yR{base cap:Nat}(j:l.length=n)(h:ax w base (.slice a n cap) l):gz w w.heap.size a l:=by
 refine⟨h.rowN j,fun k x ex=>?_⟩;subst ex;rcases h.2 with⟨e,_⟩|⟨g,b,f,e,i,d,_⟩
 . cases e
 . simp only[a0O,a0m]at e;obtain⟨rfl,_⟩:=e;refine⟨by have:=lC d;show g≠_;omega,fun c fr=>?_⟩;show w.heap[g]?≠_;rw[d];intro e;cases e
theorem Ez{base cap:Nat}{l:List Tk}(j:l.length=n)(h:dr w base (.slice a n cap) l):pG w w.heap.size a l:=by
 refine⟨h.rowN j,fun k x ex=>?_⟩;subst ex;rcases h.2 with⟨e,_⟩|⟨g,b,f,e,i,d,_⟩
 . cases e
 . simp only[a0O,a0m]at e;obtain⟨rfl,_⟩:=e;refine⟨by have:=lC d;show g≠_;omega,fun c fr=>?_⟩;show w.heap[g]?≠_;rw[d];intro e;cases e
theorem ul(g:Nat)(n:Nat)(l:List Int)(w:World)(d:l.length=n)(h:bn w (some ⟨g,0,none⟩) l)(a:1<=n)(c:n<=300)(b:okC l)(f:us l<=300) :
  Calls prog 244 #[.slice (some ⟨g,0,none⟩) n n,.int .i64 15] w fun e w'=>(∃v,e = .returned v/\ax w' w.heap.size v (ft 15 l))/\Below w.heap.size w w':=
 uy (some ⟨g,0,none⟩) n n 14 l w d h a c b (by rw[gu];have h2:=Jk;omega) (by omega)
theorem EF(s:ByteArray)(w:World)(hs:s.size<=300) :
  CD 222 #[.string s] w (.string ⟨(Fv s).toArray⟩):=by
 obtain⟨T,hT⟩:∃T,eG s.data.toList 0=T:=⟨_,rfl⟩;have a:Hid (T.length<=300):=by show _<=_;rw[←hT];exact ln s hs
 have u:Hid (∀t∈T,okT t=true):=by rw[←hT];exact j7 s
 have aa:Hid (Fv s=iF (nW T)):=by show Fv s=_;unfold Fv;rw[hT]
 have c:=af (nH s w (by omega));rw[hT]at c;clear hs hT;obtain⟨tn,htn⟩:∃tn,T.length=tn:=⟨_,rfl⟩;have l:=af htn;have I:Hid (tn<=300):=by show _<=_;rw[←htn];exact ae a
 clear htn;go_enter func222,ntmps222;go_wp2_with fail;refine(ae c).mono ?_;rintro e x1 ⟨v1,rfl,o1,b1⟩;obtain⟨a1,c1,rfl⟩:=o1.formN (ae l);have B:=af (wg a1 c1 tn T x1 (ae l) (o1.rowN (ae l)) (ae I) (ae u));have O1:=af o1;have B1:=af b1;clear o1 b1 c;go_wp2_with fail;refine(ae B).mono ?_;rintro e x2 ⟨⟨gl,gd,rfl,o2,o3⟩,b2⟩;have O1':=af (pj (ae O1) b2);have B2:=af (am (ae B1) b2);have D:=af (ul gl 286 (iJ T) x2 (gr T) (o2.rowN (gr T)) (by omega) (by omega) (Df T (ae a)) (by have:=(Dg T).2;omega));have O3:=af (o3.mono (ae B1).size);have y:Hid (w.heap.size<=x2.heap.size):=(ae B2).size;clear o2 o3 b2 B O1 B1;go_wp2_with fail;refine(ae D).mono ?_;rintro e x3 ⟨⟨v3,rfl,o4⟩,b3⟩;have d:=(Lm T (ae a)).1;obtain⟨a3,c3,rfl⟩:=o4.formN d;obtain⟨g3,rfl⟩:=o4.somes (by omega);have q:=af (rW g3 0 c3 286 257 (ft 15 (iJ T)) x3 d (fun i hi=>by rw[a0B];exact(o4.at d hi).1) o4.cap.1 (by omega) (by omega));have e2:fq (ft 15 (iJ T)) 257 286=(dG T).length:=by unfold dG;rw[jh,d]
 rw[e2]at q;have O4:Hid (ax x3 w.heap.size (.slice (some ⟨g3,0,none⟩) (dG T).length c3) (dG T)):=by
  have Q:=o4.cut (m:=(dG T).length) d (by have:=sC T (ae a);omega) (by omega);have e3:(ft 15 (iJ T)).take (dG T).length=dG T:=by rw[←e2];unfold dG nB;rw[d]
  rw[e3]at Q;exact Q.mono (ae y)
 have O1:=af (pj (ae O1') b3);have O3':=af ((ae O3).later b3 (a0a _));have B3:=af (am (ae B2) b3);have b:=af (sC T (ae a));obtain⟨nL,hnL⟩:∃n,(dG T).length=n:=⟨_,rfl⟩;rw[hnL]at q O4 b;have j:=af hnL;clear hnL e2 d o4 b3 D O3 B2 O1' y;go_wp2_with fail;refine(ae q).mono ?_;rintro e x4 ⟨rfl,U⟩;rw[U];clear U x4 q;have E:=af (ul gd 30 (dn T) x3 (gX T) ((ae O3').rowN (gX T)) (by omega) (by omega) (xl T (ae a)) (by have:=(xm T).2;omega));go_wp2_with fail;refine(ae E).mono ?_;rintro e x4 ⟨⟨v4,rfl,o5⟩,b4⟩;have f:=(Cx T (ae a)).1;obtain⟨a4,c4,rfl⟩:=o5.formN f;obtain⟨g4,rfl⟩:=o5.somes (by omega);have r:=af (rW g4 0 c4 30 1 (ft 15 (dn T)) x4 f (fun i hi=>by rw[a0B];exact(o5.at f hi).1) o5.cap.1 (by omega) (by omega));have e2:fq (ft 15 (dn T)) 1 30=(eT T).length:=by unfold eT;rw[jh,f]
 rw[e2]at r;have O5:Hid (ax x4 w.heap.size (.slice (some ⟨g4,0,none⟩) (eT T).length c4) (eT T)):=by
  have Q:=o5.cut (m:=(eT T).length) f (by have:=sy T (ae a);omega) (by omega);have e3:(ft 15 (dn T)).take (eT T).length=eT T:=by rw[←e2];unfold eT nB;rw[f]
  rw[e3]at Q;exact Q.mono (ae B3).size
 have O1':=af (pj (ae O1) b4);have O4':=af ((ae O4).later b4 (a0a _));have B4:=af (am (ae B3) b4);have g:=af (sy T (ae a));obtain⟨nD,hnD⟩:∃n,(eT T).length=n:=⟨_,rfl⟩;rw[hnD]at r O5 g;have k:=af hnD;clear hnD e2 f o5 b4 E O4 O1 O3' B3;go_wp2_with fail;refine(ae r).mono ?_;rintro e x5 ⟨rfl,V⟩;rw[V];clear V x5 r;have h0:Hid (iH (x4.alloc (.cells #[.slice none 0 0,.int .i64 0,.int .i64 0] 326)) x4.heap.size (0,0)):=wl x4 326;have o:Below x4.heap.size x4 (x4.alloc (.cells #[.slice none 0 0,.int .i64 0,.int .i64 0] 326)):=(a0c _ _).alloc (a0a _) _;have RL:Hid (gz (x4.alloc (.cells #[.slice none 0 0,.int .i64 0,.int .i64 0] 326)) x4.heap.size (some ⟨g3,0,none⟩) (dG T)):=(yR (ae j) (ae O4')).below o;have RD:Hid (gz (x4.alloc (.cells #[.slice none 0 0,.int .i64 0,.int .i64 0] 326)) x4.heap.size (some ⟨g4,0,none⟩) (eT T)):=(yR (ae k) (ae O5)).below o;have RT:Hid (pG (x4.alloc (.cells #[.slice none 0 0,.int .i64 0,.int .i64 0] 326)) x4.heap.size a1 T):=(Ez (ae l) (ae O1')).keep (bl o);have C:Hid (KB x4.heap.size x4 (x4.alloc (.cells #[.slice none 0 0,.int .i64 0,.int .i64 0] 326))):=(KB.refl _ _).below o (a0a _);clear o O1' O4' O5;go_wp2_with fail;refine(dY _ _ 1 1 _ (ae h0) (by decide) (by show(0:Nat)<=_;omega)).mono ?_;rintro e x6 ⟨rfl,o6,W⟩;have H6:=af (a0b o6 ((ae C).trans W));have L:=af ((ae RL).keep W.2);have J:=af ((ae RD).keep W.2);have N:=af ((ae RT).keep W.2);clear o6 W h0 C RL RD RT;go_wp2_with fail;refine(dY _ _ 2 2 _ (ae H6).1 (by decide) (by show(1:Nat)<=_;omega)).mono ?_;rintro e x7 ⟨rfl,o7,X⟩;have H7:=af (a0b o7 ((ae H6).2.trans X));have A:=af ((ae L).keep X.2);have z:=af ((ae J).keep X.2);have O:=af ((ae N).keep X.2);clear o7 X H6 L J N;have F:=af (ET x4.heap.size (aT (aT (0,0) [(1,1)]) [(2,2)]) (some ⟨g3,0,none⟩) (some ⟨g4,0,none⟩) c3 nL c4 nD (dG T) (eT T) x7 (ae H7).1 (ae A).1 (ae z).1 (ae j) (ae k) (ae b).1 (ae b).2 (ae g).1 (ae g).2 (jT T (ae a)) (lK T (ae a)) (by show(3:Nat)<=1000;omega));go_wp2_with fail;refine(ae F).mono ?_;rintro e x8 ⟨rfl,o8,Z⟩;have G:Hid (aT (aT (aT (0,0) [(1,1)]) [(2,2)]) (iS (dG T) (eT T))=aT (0,0) ([(1,1),(2,2)]++iS (dG T) (eT T))):=by
  show _=_;rw[←aU,←aU];rfl
 rw[ae G]at o8;have M:=(ae A).keep Z.2;have K:=(ae z).keep Z.2;have P:=(ae O).keep Z.2;have K8:=af ((ae H7).2.trans Z);have p:=zF (jT T (ae a)) (lK T (ae a)) (by rw[ae j];exact(ae b).1) (by rw[ae j];exact(ae b).2) (by rw[ae k];exact(ae g).1) (by rw[ae k];exact(ae g).2);have S:(aT (0,0) ([(1,1),(2,2)]++iS (dG T) (eT T))).2<=10000:=by
  have h1:=dh (0,0) ([(1,1),(2,2)]++iS (dG T) (eT T)) (by
   intro x hx;rcases a1j.1 hx with h|h
   . simp at h;rcases h with rfl|rfl<;>simp
   . have h3:=p.1;unfold bm at h3;have:=a06.1 h3 x h;exact(aV.1 this).1.2)
  rw[a0o]at h1;have:=p.2;simp only[a0J,a04]at h1;omega
 have c:=af (qi x4.heap.size _ a1 (some ⟨g3,0,none⟩) (some ⟨g4,0,none⟩) c1 tn c3 nL c4 nD T (dG T) (eT T) x8 o8 P M K (ae l) (ae j) (ae k) (by have:=ae b;omega) (by have:=ae g;omega) (dc (jT T (ae a))) (dc (lK T (ae a))) (by have:=ae b;omega) (by have:=ae I;omega) S (fun t ht=>⟨ae u t ht,sE T (ae a) (ae u) t ht⟩));have H:Hid (aT (aT (0,0) ([(1,1),(2,2)]++iS (dG T) (eT T))) (T.flatMap (dH (dG T) (eT T))++[pcM (dG T) 256])=cO (nW T)):=by
  show aT _ _=_;rw[←aU,a0U];rfl
 rw[ae H]at c;have Hm:Hid ((cO (nW T)).2<=90000):=by
  show _<=_;rw[←ae H,aU];have h1:=jH (dG T) (eT T) T (aT (0,0) ([(1,1),(2,2)]++iS (dG T) (eT T))) (dc (jT T (ae a))) (dc (lK T (ae a))) (fun t ht=>sE T (ae a) (ae u) t ht);have h2:=dh (aT (aT (0,0) ([(1,1),(2,2)]++iS (dG T) (eT T))) (T.flatMap (dH (dG T) (eT T)))) [pcM (dG T) 256] (fun x hx=>by simp only[a1h,a1M,a1C]at hx;subst hx;have:=(dc (jT T (ae a)) 256 (by have:=ae j;have:=ae b;omega)).1.2;show(dG T).getD 256 0<=16;omega);have h3:=ae a;simp only[a0J,a04]at h2;omega
 clear o8 Z M K P p S F A z O H7 G;go_wp2_with fail;refine(ae c).mono ?_;rintro e x9 ⟨rfl,o9,k9⟩;have K9:=af ((ae K8).trans k9).1;have O9:=af o9;clear o9 k9 c K8;go_wp2_with fail;refine(kf _ _ _ _ (ae O9) (ae Hm)).mono ?_;rintro e x10 ⟨rfl,h7,b7⟩;obtain⟨_,v,Th,Y⟩:=h7;have e8:8*(((cO (nW T)).2+7)/8)/8=((cO (nW T)).2+7)/8:=by omega
 rw[e8]at Y;have Y':Bys x10 x4.heap.size v (iF (nW T)):=Y;have ac:=jG Y';have HB:=af ((ae K9).trans b7);obtain⟨k0,k1,k2,f0,f1,f2,ab⟩:=Th;clear Y Y' e8 k1 k2 b7 O9;generalize hR:iF (nW T)=R at *
 clear hR;go_wp2;go_ret;exact⟨by rw[ae aa];rfl,am (ae B4) (ae HB)⟩
def wn(s:ByteArray):List UInt8:=if s.size<=300 then Fv s else []
end Go.Proofs.YtkdlcomfpffhhaaGreatDoor
