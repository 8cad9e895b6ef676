/- Of what the proof is made: 13 texts, one behind the other. -/
import Derived.Test.YtchidddpplangaaGreatDoorM26
import Derived.Test.YtchidddpplangaaGreatDoorM34
import Derived.Test.YtchidddpplangaaGreatDoorTo2
import Derived.Deep.RegionHeld3
import Derived.Deep.DeepCutAuto
import Derived.Test.YtchidddpplangaaGreatDoorM20
import Derived.Test.YtchidddpplangaaGreatDoorM22
import Derived.Test.YtchidddpplangaaGreatDoorM3
import Derived.Test.YtchidddpplangaaGreatDoorM12
import Derived.Test.YtchidddpplangaaGreatDoorM29
import Derived.Test.YtchidddpplangaaGreatDoorM11
import Derived.Test.YtchidddpplangaaGreatDoorM25
import Derived.Test.YtchidddpplangaaGreatDoorM13
import Derived.Test.YtchidddpplangaaGreatDoorM14
set_option maxRecDepth 100000
set_option linter.unusedSimpArgs false
set_option linter.unusedVariables false
set_option maxHeartbeats 12800000
namespace Go.Proofs.YtchidddpplangaaGreatDoor
open Go.Proofs.Tryz
open Go.RowKit Corb
variable {D L l:List Int}{a:Option Addr}{b k n:Nat}{w w':World}
def qX(w:World)(b:Nat)(a:Option Addr)(l:List Tk):Prop:=Cj w a l/\(0<l.length->∀x,a=some x->x.block≠b/\∀cur fr,w.heap[x.block]?≠some (.cells cur 5 fr))
theorem qX.keep{l:List Tk}(h:qX w b a l)(k:bV b w w'):qX w' b a l:=by
 by_cases c:0<l.length
 .
  obtain⟨g,o,e,j,m⟩:=h.1 c;obtain⟨f,h2⟩:=h.2 c _ e;have hb:=k.2 g j f h2;refine⟨fun _=>⟨g,o,e,a0m j k.1,fun i n=>?_⟩,fun _ x ex=>?_⟩
  . obtain⟨c0,c1,c2⟩:=m i n;exact⟨by rw[←c0];exact World.cell?_of_block (w:=w) hb,by rw[←c1];exact World.cell?_of_block (w:=w) hb,by rw[←c2];exact World.cell?_of_block (w:=w) hb⟩
  .
   have:x=⟨g,o,none⟩:=by rw[ex]at e;exact a1I e
   subst this;exact⟨f,fun d fr=>by rw[hb];exact h2 d fr⟩
 . exact⟨fun h=>absurd h c,fun h=>absurd h c⟩
theorem Gm{base cap:Nat}{l:List Tk}(k:l.length=n)(h:dY w base (.slice a n cap) l)(hb:b<base):qX w b a l:=by
 refine⟨h.rowN k,fun m x ex=>?_⟩;subst ex;rcases h.2 with⟨e,_⟩|⟨g,c,f,e,i,j,_⟩
 . cases e
 . simp only[a0J,a0l]at e;obtain⟨rfl,_⟩:=e;refine⟨by show g≠b;omega,fun d fr=>?_⟩;show w.heap[g]?≠_;rw[j];intro e;cases e
def dP(L D:List Int)(t:Tk):List (Int×Int):=
 if isB t then [pcM L t.1.toNat]
 else [pcM L (257+fnd 3 4 t.2.1.toNat 27),((t.2.1.toNat:Int)-((stF 3 4 (fnd 3 4 t.2.1.toNat 27)).1:Int),((stF 3 4 (fnd 3 4 t.2.1.toNat 27)).2:Nat)),pcM D (fnd 1 2 t.2.2.toNat 29),((t.2.2.toNat:Int)-((stF 1 2 (fnd 1 2 t.2.2.toNat 29)).1:Int),((stF 1 2 (fnd 1 2 t.2.2.toNat 29)).2:Nat))]
def RR(W:World)(b:Nat)(L D:List Int)(T:List Tk)(a a2 va vb vl vk at_:Option Addr):Prop:=
 (iM W b a L/\iM W b a2 D)/\(iM W b va (aV L 15).2/\iM W b vb (aV D 15).2)/\(iM W b vl jQ/\iM W b vk jK)/\qX W b at_ T
theorem RR.keep{W W':World}{T:List Tk}{a2 va vb vl vk at_:Option Addr}(h:RR W b L D T a a2 va vb vl vk at_)(c:bV b W W'):RR W' b L D T a a2 va vb vl vk at_:=
 ⟨⟨h.1.1.keep c,h.1.2.keep c⟩,⟨h.2.1.1.keep c,h.2.1.2.keep c⟩,⟨h.2.2.1.1.keep c,h.2.2.1.2.keep c⟩,h.2.2.2.keep c⟩
def me(l:List Int):Prop:=∀k,k<l.length->(0<=l.getD k 0/\l.getD k 0<=15)/\(0<=(aV l 15).2.getD k 0/\(aV l 15).2.getD k 0<65536)
theorem bH(h:Below w.heap.size w w'):bV b w w':=⟨h.size,fun k a _ _=>h.block k a⟩
theorem lU{g:Nat}{a:Array Value}{t:TypeId}(f:bV b w w')(h:w.heap[g]?=some (Obj.cells a t))(d:g≠b)(i:t≠5):w'.heap[g]?=some (Obj.cells a t):=by
 refine(f.2 g (dn h) d (fun c fr=>?_)).trans h;rw[h];intro e;cases e
 exact i rfl
theorem jg(h:iM w b a l)(f:k<l.length):∃g o,a=some ⟨g,o,none⟩/\g<w.heap.size/\w.cell? ⟨g,o+k,none⟩=some (.int .i64 (l.getD k 0)):=by
 obtain⟨g,o,e,d,c⟩:=h.1 (by omega);exact⟨g,o,e,d,c k f⟩
theorem Bq(y:Nat)(a:3<=y)(b:y<=60):pOk ((y:Int)-((stF 3 4 (fnd 3 4 y 27)).1:Int)) ((stF 3 4 (fnd 3 4 y 27)).2:Nat)=true:=by
 have:(List.range 61).all (fun y=>decide (y<3) || pOk ((y:Int)-((stF 3 4 (fnd 3 4 y 27)).1:Int)) ((stF 3 4 (fnd 3 4 y 27)).2:Nat))=true:=by decide +kernel
 have:=a1a.1 this y (List.mem_range.2 (by omega));simp only[a1y,a0w]at this;rcases this with h|h
 . omega
 . exact h
theorem Bp(z:Nat)(a:1<=z)(b:z<=250):pOk ((z:Int)-((stF 1 2 (fnd 1 2 z 29)).1:Int)) ((stF 1 2 (fnd 1 2 z 29)).2:Nat)=true:=by
 have:(List.range 251).all (fun z=>decide (z<1) || pOk ((z:Int)-((stF 1 2 (fnd 1 2 z 29)).1:Int)) ((stF 1 2 (fnd 1 2 z 29)).2:Nat))=true:=by decide +kernel
 have:=a1a.1 this z (List.mem_range.2 (by omega));simp only[a1y,a0w]at this;rcases this with h|h
 . omega
 . exact h
theorem dO(p:Nat×Nat)(l:List (Int×Int))(h:∀x∈l,x.2<=16):(aX p l).2<=p.2+16*l.length:=by
 unfold aX ot;induction l generalizing p with
 | nil=>simp[iR]
 | cons x r ih=>
  have b:=h x (by simp);have h2:=ih (p.1+x.1.toNat*2 ^ p.2,p.2+x.2.toNat) (fun y a=>h y (by simp[a]));simp only[a0H,iR,a0D]at *
  omega
theorem wv(L D:List Int)(t:Tk)(gL:me L)(gD:me D)(a:fY L D t):(∀x∈dP L D t,x.2<=16)/\(dP L D t).length<=4:=by
 unfold dP;unfold fY at a
 split
 . rename_i h;rw[a0e h]at a;refine⟨fun x b=>?_,by simp⟩;simp only[a0U,a1C,a1q]at b;subst b;have:=(gL _ a).1.2;show L.getD _ 0<=16;omega
 .
  rename_i h;rw[a0d h]at a;refine⟨fun x b=>?_,by simp⟩;simp only[a0U,a1C,a1q]at b;have s1:=qO (L:=3) (G:=4) (k:=fnd 3 4 t.2.1.toNat 27) (by omega) (by omega) (by omega) (by have:=gX 3 4 t.2.1.toNat 27;omega);have s2:=qO (L:=1) (G:=2) (k:=fnd 1 2 t.2.2.toNat 29) (by omega) (by omega) (by omega) (by have:=gX 1 2 t.2.2.toNat 29;omega);rcases b with rfl|rfl|rfl|rfl
  . have:=(gL _ a.1).1.2;show L.getD _ 0<=16;omega
  . show((_:Nat):Int)<=16;omega
  . have:=(gD _ a.2).1.2;show D.getD _ 0<=16;omega
  . show((_:Nat):Int)<=16;omega
theorem lc(L D:List Int)(T:List Tk)(p:Nat×Nat)(gL:me L)(gD:me D)(a:∀t∈T,fY L D t):(aX p (T.flatMap (dP L D))).2<=p.2+64*T.length:=by
 induction T generalizing p with
 | nil=>simp[aX,ot,iR]
 | cons t r ih=>
  rw[a0V,bj];obtain⟨b,h2⟩:=wv L D t gL gD (a t (by simp));have d:=dO p (dP L D t) b;have e:=ih (aX p (dP L D t)) (fun x c=>a x (by simp[c]));simp only[a0D];omega
theorem qz(a:Option Addr)(cap n:Nat)(l:List Int)(w:World)(d:l.length=n)(h:aZ w a l)(c:n<=300) :
  Calls prog 164 #[.slice a n cap] w fun e w'=>(∃g,e = .returned (.slice (some ⟨g,0,none⟩) n n)/\am w' w.heap.size (.slice (some ⟨g,0,none⟩) n n) (aV l 15).2)/\Below w.heap.size w w':=
 (dX a cap n l w d h c).mono fun _ _ ⟨b,f,hb⟩=>⟨⟨_,b,f⟩,hb⟩
theorem om(w:World):Calls prog 166 #[] w fun e w'=>(∃g,e = .returned (.slice (some ⟨g,0,none⟩) 28 28)/\am w' w.heap.size (.slice (some ⟨g,0,none⟩) 28 28) rz)/\Below w.heap.size w w':=
 (je w).mono fun _ _ ⟨a,b,hb⟩=>⟨⟨_,a,b⟩,hb⟩
theorem nT(w:World):Calls prog 167 #[] w fun e w'=>(∃g,e = .returned (.slice (some ⟨g,0,none⟩) 30 30)/\am w' w.heap.size (.slice (some ⟨g,0,none⟩) 30 30) qY)/\Below w.heap.size w w':=
 (jb w).mono fun _ _ ⟨a,b,hb⟩=>⟨⟨_,a,b⟩,hb⟩
theorem fw:jQ.length=28:=kv _ _ _
theorem fo:jK.length=30:=kv _ _ _
theorem rK(b:Nat)(p:Nat×Nat)(ta a a2:Option Addr)(tcap tn cap n X n2:Nat)(T:List Tk)(L D:List Int)(w:World)(ho:jI w b p)(hT:qX w b ta T)(hL:iM w b a L)(hD:iM w b a2 D)
  (d8:T.length=tn) (hn:L.length=n) (d3:D.length=n2) (d4:n<=300) (d5:n2<=300) (gL:me L) (gD:me D) (a9:256<n) (e9:(tn:Int)<=300) (hp:p.2<=10000)
  (d7:∀t∈T,okT t=true/\fY L D t) :
  Calls prog 121 #[.pointer (some ⟨b,0,none⟩),.slice ta tn tcap,.slice a n cap,.slice a2 n2 X] w fun e w'=>e = .returned (.tuple #[])/\jI w' b (aX p (T.flatMap (dP L D)++[pcM L 256]))/\KB b w w':=by
 have Z:b<w.heap.size:=Out.lt ho;have bb:prog.follows .mixedOrders=true:=by kernel_rfl
 have HT:=ae hT;have HO:=ae ho;have HL:=ae hL;have HD:=ae hD;have V:=ae d8;have F:=ae hn;have B:=ae d3;have a5:=ae d4;have dq:=ae d5;have s:=ae gL;have U:=ae gD;have M:=ae a9;have Hp:=ae hp;have b0:=ae d7;clear hT ho hL hD d8 hn d3 d4 d5 gL gD a9 hp d7;go_enter func121,ntmps121;go_wp2_with fail;refine(qz a cap n L _ (ab F) (ab HL).1 (ab a5)).mono ?_;rintro e x1 ⟨⟨g1,rfl,o1⟩,b1⟩;have N1:=ae (ft ((bC L 15).trans (ab F)) o1 Z);have B1:=ae b1;clear o1 b1;go_wp2_with fail;refine(qz a2 X n2 D _ (ab B) ((ab HD).below (ab B1)).1 (ab dq)).mono ?_;rintro e x2 ⟨⟨g2,rfl,o2⟩,b2⟩;have N2:=ae (ft ((bC D 15).trans (ab B)) o2 (a0m Z (ab B1).size));have N1':=ae ((ab N1).below b2);have B2:=ae (ai (ab B1) b2);clear o2 b2 N1 B1;go_wp2_with fail;refine(om _).mono ?_;rintro e x3 ⟨⟨g3,rfl,o3⟩,b3⟩;have R3:=ae (o3.rowN rfl);have B3:=ae (ai (ab B2) b3);have N1:=ae ((ab N1').below b3);have N2':=ae ((ab N2).below b3);clear o3 b3 B2 N1' N2;go_wp2_with fail;refine(ju _ 28 _ (ab R3)).mono ?_;rintro e x4 ⟨v4,rfl,o4,b4⟩;obtain⟨a4,c4,rfl⟩:=o4.formN fw;have N4:=ae (ft fw o4 (a0m Z (ab B3).size));have B4:=ae (ai (ab B3) b4);have N1':=ae ((ab N1).below b4);have N2:=ae ((ab N2').below b4);clear o4 b4 B3 N1 N2' R3;go_wp2_with fail;refine(nT _).mono ?_;rintro e x5 ⟨⟨g5,rfl,o5⟩,b5⟩;have R5:=ae (o5.rowN rfl);have B5:=ae (ai (ab B4) b5);have N1:=ae ((ab N1').below b5);have N2':=ae ((ab N2).below b5);have N4':=ae ((ab N4).below b5);clear o5 b5 B4 N1' N2 N4;go_wp2_with fail;refine(jt _ 30 _ (ab R5)).mono ?_;rintro e x6 ⟨v6,rfl,o6,b6⟩;obtain⟨a6,c6,rfl⟩:=o6.formN fo;have N6:=ae (ft fo o6 (a0m Z (ab B5).size));have B6:=ae (ai (ab B5) b6);have dd:Hid (RR x6 b L D T a a2 (some ⟨g1,0,none⟩) (some ⟨g2,0,none⟩) a4 a6 ta):=
  ⟨⟨(ab HL).below (ab B6),(ab HD).below (ab B6)⟩,⟨(ab N1).below b6,(ab N2').below b6⟩,⟨(ab N4').below b6,ab N6⟩,(ab HT).keep (bH (ab B6))⟩
 have cy:Hid (jI x6 b (aX p ((T.take 0).flatMap (dP L D)))):=Out.kept (ab HO) (ab B6);have cp:Hid (KB b w x6):=(KB.refl b w).below (ab B6) (a0z Z);clear o6 b6 B5 N1 N2' N4' N6 R5 HT HO HL HD B6;go_wp2_with fail
 go_loopw [12,13,14] (fun i _ _ wr=>∃k:Nat,k<=tn/\i = .int .i64 k/\jI wr b (aX p ((T.take k).flatMap (dP L D)))/\RR wr b L D T a a2 (some ⟨g1,0,none⟩) (some ⟨g2,0,none⟩) a4 a6 ta/\KB b w wr) (fun i _ _ _=>tn-(intOf i).toNat)
 case atStart=>exact⟨0,a0g _,rfl,ab cy,ab dd,ab cp⟩
 case round=>
  obtain⟨k,hk,rfl,ho,ch,d2⟩:=hrel;clear cy dd cp;have HO:=ae ho;have a3:=ae ch;have bk:=ae d2;have HK:=ae hk;have d1:Hid (b<wr.heap.size):=Out.lt ho;clear ho d2 hk;by_cases cg:k<tn
  .
   have e5:(k:Int)<(tn:Int):=by omega
   obtain⟨g,o,rfl,hg,hc⟩:=ch.2.2.2.1 (by rw[ab V];omega);obtain⟨c0,c1,c2⟩:=hc k (by rw[ab V];exact cg);have b7:Hid ((T.take (k+1)).flatMap (dP L D)=(T.take k).flatMap (dP L D)++dP L D (T.getD k k0)):=by
    show(T.take (k+1)).flatMap (dP L D)=_;rw[Eg T k (by rw[ab V];exact cg)];simp
   obtain⟨A,G⟩:=ab b0 (T.getD k k0) (by simp[List.getD,show k<T.length by rw[ab V];exact cg]);have q:Hid ((aX p ((T.take k).flatMap (dP L D))).2<=80000):=by
    show _<=_;have h1:=lc L D (T.take k) p (ab s) (ab U) (fun t ht=>(ab b0 t (a2d ht)).2);have h2:(T.take k).length<=k:=List.length_take_le _ _;have h3:=ab Hp;omega
   clear hc ch;generalize T.getD k k0=t at *
   have O:Hid (aX p ((T.take (k+1)).flatMap (dP L D))=aX (aX p ((T.take k).flatMap (dP L D))) (dP L D t)):=by
    show aX p _=_;rw[ab b7,bj]
   generalize aX p ((T.take k).flatMap (dP L D))=P at *
   have a7:Below wr.heap.size wr (wr.alloc (.cells #[.int .i64 t.1,.int .i64 t.2.1,.int .i64 t.2.2] 229)):=(a0c _ _).alloc (a0a _) _;have a0:Hid (jI (wr.alloc (.cells #[.int .i64 t.1,.int .i64 t.2.1,.int .i64 t.2.2] 229)) b P):=Out.kept (ab HO) a7;have m:=ae ((ab a3).keep (bH a7));have N:=ae ((ab bk).below a7 (a0z (ab d1)));have bc:=ae (alloc_at wr (.cells #[.int .i64 t.1,.int .i64 t.2.1,.int .i64 t.2.2] 229));clear a7 HO a3 bk;cases Y:isB t
   .
    have hK:isK t=true:=by unfold okT at A;rw[Y]at A;simpa using A
    obtain⟨y0,y1,z0,z1⟩:=tI hK;have ed:t.1=0:=by unfold isK at hK;simp only[a0n,a0w]at hK;exact hK.1.1
    have v:Hid (257+fnd 3 4 t.2.1.toNat 27<n/\fnd 1 2 t.2.2.toNat 29<n2):=by
     have:=G;unfold fY at this;rw[a0d (by simp[Y]),ab F,ab B]at this;exact this
    have a1:Hid (dP L D t=[pcM L (257+fnd 3 4 t.2.1.toNat 27),((t.2.1.toNat:Int)-((stF 3 4 (fnd 3 4 t.2.1.toNat 27)).1:Int),((stF 3 4 (fnd 3 4 t.2.1.toNat 27)).2:Nat)),pcM D (fnd 1 2 t.2.2.toNat 29),((t.2.2.toNat:Int)-((stF 1 2 (fnd 1 2 t.2.2.toNat 29)).1:Int),((stF 1 2 (fnd 1 2 t.2.2.toNat 29)).2:Nat))]):=by
     show dP L D t=_;unfold dP;rw[a0d (by simp[Y])]
    have hy:t.2.1=((t.2.1.toNat:Nat):Int):=by omega
    have hz:t.2.2=((t.2.2.toNat:Nat):Int):=by omega
    have J:3<=t.2.1.toNat/\t.2.1.toNat<=60:=by omega
    have K:1<=t.2.2.toNat/\t.2.2.toNat<=250:=by omega
    have Eok1:=ae (Bq t.2.1.toNat J.1 J.2);have Eok2:=ae (Bp t.2.2.toNat K.1 K.2);have Sy1:=ae (As t.2.1.toNat J.1 J.2);have Sy2:=ae (yP t.2.2.toNat K.1 K.2);have e2:=gX 3 4 t.2.1.toNat 27;have e3:=gX 1 2 t.2.2.toNat 29;have At1:=ae (Aq (fnd 3 4 t.2.1.toNat 27) (by omega));have At2:=ae (yM (fnd 1 2 t.2.2.toNat 29) (by omega));have eh:=ae (Ar (fnd 3 4 t.2.1.toNat 27) (by omega));have ei:=ae (yO (fnd 1 2 t.2.2.toNat 29) (by omega));generalize stF 3 4 (fnd 3 4 t.2.1.toNat 27)=E at *
    generalize stF 1 2 (fnd 1 2 t.2.2.toNat 29)=E' at *
    generalize fnd 3 4 t.2.1.toNat 27=f at *
    generalize fnd 1 2 t.2.2.toNat 29=f' at *
    clear Y hK A G;obtain⟨tx,ty,tz⟩:=t;simp only at ed y0 y1 z0 z1 hy hz J K c0 c1 c2 m N a0 bc a1 Eok1 Eok2 Sy1 Sy2 O;generalize ty.toNat=y at *
    generalize tz.toNat=z at *
    subst ed hy hz;have e8:(f:Int)<28:=by omega
    have e4:(f':Int)<30:=by omega
    have ac:Hid (f<28):=by show f<28;omega
    have ad:Hid (f'<30):=by show f'<30;omega
    have em:=aS.1 (ab Eok1);have en:=aS.1 (ab Eok2);have e6:=bK ((y:Int)-(E.1:Int)) (by omega) (by omega);have e7:=bK ((z:Int)-(E'.1:Int)) (by omega) (by omega);clear em en e2 e3 J K;obtain⟨gl,ol,rfl,e1,ey⟩:=jg (ab m).2.2.1.1 (by rw[fw];exact ab ac);obtain⟨gk,ok,rfl,e0,ev⟩:=jg (ab m).2.2.1.2 (by rw[fo];exact ab ad);have cv:=ae (fun W (hR:iM W b (some ⟨gl,ol,none⟩) jQ)=>nf (some ⟨gl,ol,none⟩) c4 28 jQ (y:Int) W fw hR.1 (by omega) (by omega));have cu:=ae (fun W (hR:iM W b (some ⟨gk,ok,none⟩) jK)=>nf (some ⟨gk,ok,none⟩) c6 30 jK (z:Int) W fo hR.1 (by omega) (by omega));rw[ab Sy1]at cv;rw[ab Sy2]at cu;have al:Hid (wr.heap.size≠b):=by show _≠_;have:=ab d1;omega
    clear ey ev e1 e0;go_wp2_with fail;refine(ab cv _ (ab m).2.2.1.1).mono ?_;rintro e w7 ⟨rfl,an⟩;rw[an];clear an;have eI:(257:Int)+(f:Int)=((257+f:Nat):Int):=by omega
    have j:=ae (pH b P a (some ⟨g1,0,none⟩) cap n n (257+f) L _ (ab a0) (ab F) (ab m).1.1.1 (ab m).2.1.1.1 (ab v).1 (ab a5) ((ab s) _ (by rw[ab F];exact(ab v).1)).1 ((ab s) _ (by rw[ab F];exact(ab v).1)).2 (by have:=ab q;omega));rw[←eI]at j;clear eI;go_wp2_with fail;refine(ab j).mono ?_;rintro e x7 ⟨rfl,h7,k7⟩;have bl:=ae h7;have bs:=ae ((ab m).keep k7.2);have cr:=ae ((ab N).trans k7);have bd:=ae (lU k7.2 (ab bc) (ab al) (by decide));have ds:Hid ((aX P [pcM L (257+f)]).2<=80100):=by
     show _<=_;have h1:=dO P [pcM L (257+f)] (fun x hx=>by simp only[a0U,a1C,a1q]at hx;subst hx;have:=((ab s) (257+f) (by rw[ab F];exact(ab v).1)).1.2;show L.getD _ 0<=16;omega);have h2:=ab q;simp only[a0D,a0S]at h1;omega
    have H:Hid (∀W,bV b x7 W->W.cell? ⟨wr.heap.size,1,none⟩=some (.int .i64 (y:Nat))/\W.cell? ⟨gl,ol+f,none⟩=some (.int .i64 (E.1:Nat))):=by
     intro W hW;refine⟨bu (lU hW (ab bd) (ab al) (by decide)) 1,?_⟩;obtain⟨g',o',e',_,aa⟩:=jg ((ab bs).2.2.1.1.keep hW) (k:=f) (by rw[fw];exact ab ac);simp only[a0l,a0B,a0P]at e';obtain⟨rfl,rfl⟩:=e';rw[ab At1]at aa;exact aa
    have c8:=ae (fun W (hW:jI W b (aX P [pcM L (257+f)]))=>fg b (aX P [pcM L (257+f)]) ((y:Int)-(E.1:Int)) (E.2:Nat) W hW (ab Eok1) (by have:=ab ds;omega));clear h7 k7 j a0 m N bc;go_wp2_with fail;have b9:Below x7.heap.size x7 x7.drew:=(a0c _ x7).drew;go_cut[] (fun wx=>jI wx b (aX (aX P [pcM L (257+f)]) [((y:Int)-(E.1:Int),(E.2:Nat))])/\KB b x7 wx)
    case first=>
     refine wp_region_held_drew (S:=fun W=>W.cell? ⟨wr.heap.size,1,none⟩=some (.int .i64 (y:Nat))/\W.cell? ⟨gl,ol+f,none⟩=some (.int .i64 (E.1:Nat))) bb (ab H _ (bH b9)) (fun u=>?_);refine af 0 (.pointer (some ⟨b,0,none⟩)) rfl (by kernel_rfl) (fun _ _ _ h=>h) rfl (?_) u ?_
     . intro W c;obtain⟨s0,s1⟩:=c;go_simp
     refine af 1 (.pointer (some ⟨wr.heap.size,1,none⟩)) rfl (by kernel_rfl) (fun _ _ _ h=>h) rfl (?_) u ?_
     . intro W c;obtain⟨s0,s1⟩:=c;go_simp
     refine af 2 (.int .i64 (y:Nat)) rfl (by kernel_rfl) (fun _ _ _ h=>h) rfl (?_) u ?_
     . intro W c;obtain⟨s0,s1⟩:=c;go_simp
     refine af 3 (.slice (some ⟨gl,ol,none⟩) 28 c4) rfl (by kernel_rfl) (fun _ _ _ h=>h) rfl (?_) u ?_
     . intro W c;obtain⟨s0,s1⟩:=c;go_simp
     refine af 4 (.int .i64 (f:Nat)) rfl (by kernel_rfl) (fun _ _ _ h=>h) rfl (?_) u ?_
     . intro W c;obtain⟨s0,s1⟩:=c;go_simp
     refine af 5 (.pointer (some ⟨gl,ol+f,none⟩)) rfl (by kernel_rfl) (fun _ _ _ h=>h) rfl (?_) u ?_
     . intro W c;obtain⟨s0,s1⟩:=c;go_simp
     refine af 6 (.int .i64 (E.1:Nat)) rfl (by kernel_rfl) (fun _ _ _ h=>h) rfl (?_) u ?_
     . intro W c;obtain⟨s0,s1⟩:=c;go_simp
     refine af 7 (.int .i64 ((y:Int)-(E.1:Int))) rfl (by kernel_rfl) (fun _ _ _ h=>h) rfl (?_) u ?_
     . intro W c;obtain⟨s0,s1⟩:=c;go_simp
     refine af 9 (.int .i64 (f:Nat)) rfl (by kernel_rfl) (fun _ _ _ h=>h) rfl (?_) u ?_
     . intro W c;obtain⟨s0,s1⟩:=c;go_simp
     refine ag 8 (by kernel_rfl) rfl fun C d=>?_;go_simp;go_at_call 166;refine(om _).mono ?_;rintro e x8 ⟨⟨g8,rfl,o8⟩,b8⟩;have l:Below x7.heap.size x7 x8:=ai b9 b8;have ca:=(o8.at rfl (ab ac)).1;rw[ab eh]at ca;have bn:=ae (Out.kept (ab bl) l);clear o8 b8;refine Shut.out d _ _ (ab H _ (bH l)) (fun eu=>?_);clear d C;refine ag 10 (by kernel_rfl) rfl fun C d=>?_;go_simp;refine Shut.out d _ _ (ab H _ (bH l)) (fun _=>?_);clear d C;refine ag 11 (by kernel_rfl) rfl fun C d=>?_;go_simp;refine Shut.out d _ _ (ab H _ (bH l)) (fun _=>?_);clear d C;refine ag 12 (by kernel_rfl) rfl fun C d=>?_;go_simp;go_at_call 119;refine(ab c8 _ (ab bn)).mono ?_;rintro e x9 ⟨rfl,h9,k9⟩;have I:=ae (a0b h9 (((KB.refl b x7).below l (a0z (Out.lt (ab bl)))).trans k9));refine Shut.out d _ _ (ab H _ ((bH l).trans k9.2)) (fun _=>?_);clear d C h9 k9;refine wpAnyH_done (by kernel_rfl) ?_ _;go_wp2_with fail
     go_meet
     case rel=>exact ab I
    case rest=>
     obtain⟨d6,a8⟩:=hcut;have c5:=ae d6;have Q:=ae ((ab bs).keep a8.2);have cs:=ae ((ab cr).trans a8);have be:=ae (lU a8.2 (ab bd) (ab al) (by decide));have dv:Hid ((aX (aX P [pcM L (257+f)]) [((y:Int)-(E.1:Int),((E.2:Nat):Int))]).2<=80200):=by
      show _<=_;have h1:=dO (aX P [pcM L (257+f)]) [((y:Int)-(E.1:Int),((E.2:Nat):Int))] (fun x hx=>by simp only[a0U,a1C,a1q]at hx;subst hx;exact(aS.1 (ab Eok1)).1.2);have h2:=ab ds;simp only[a0D,a0S]at h1;omega
     have HE:Hid (∀r,aX P (pcM L (257+f) :: ((y:Int)-(E.1:Int),((E.2:Nat):Int)) :: r)=aX (aX (aX P [pcM L (257+f)]) [((y:Int)-(E.1:Int),((E.2:Nat):Int))]) r):=fun r=>by
      show aX P _=_;rw[←bj,←bj];rfl
     generalize aX (aX P [pcM L (257+f)]) [((y:Int)-(E.1:Int),((E.2:Nat):Int))]=P2 at *
     have ba:=bu (ab be) 2;simp at ba;clear d6 a8 bl bs cr bd H c8 b9;go_wp2_with fail;refine(ab cu _ (ab Q).2.2.1.2).mono ?_;rintro e w7 ⟨rfl,an⟩;rw[an];clear an;have j:=ae (pH b P2 a2 (some ⟨g2,0,none⟩) X n2 n2 f' D _ (ab c5) (ab B) (ab Q).1.2.1 (ab Q).2.1.2.1 (ab v).2 (ab dq) ((ab U) _ (by rw[ab B];exact(ab v).2)).1 ((ab U) _ (by rw[ab B];exact(ab v).2)).2 (by have:=ab dv;omega));go_wp2_with fail;refine(ab j).mono ?_;rintro e xa ⟨rfl,ha,ka⟩;have c7:=ae ha;have dl:=ae ((ab Q).keep ka.2);have ek:=ae ((ab cs).trans ka);have ej:=ae (lU ka.2 (ab be) (ab al) (by decide));have el:Hid ((aX P2 [pcM D f']).2<=80300):=by
      show _<=_;have h1:=dO P2 [pcM D f'] (fun x hx=>by simp only[a0U,a1C,a1q]at hx;subst hx;have:=((ab U) f' (by rw[ab B];exact(ab v).2)).1.2;show D.getD _ 0<=16;omega);have h2:=ab dv;simp only[a0D,a0S]at h1;omega
     have R:Hid (∀W,bV b xa W->W.cell? ⟨wr.heap.size,2,none⟩=some (.int .i64 (z:Nat))/\W.cell? ⟨gk,ok+f',none⟩=some (.int .i64 (E'.1:Nat))):=by
      intro W hW;refine⟨bu (lU hW (ab ej) (ab al) (by decide)) 2,?_⟩;obtain⟨g',o',e',_,aa⟩:=jg ((ab dl).2.2.1.2.keep hW) (k:=f') (by rw[fo];exact ab ad);simp only[a0l,a0B,a0P]at e';obtain⟨rfl,rfl⟩:=e';rw[ab At2]at aa;exact aa
     have c9:=ae (fun W (hW:jI W b (aX P2 [pcM D f']))=>fg b (aX P2 [pcM D f']) ((z:Int)-(E'.1:Int)) (E'.2:Nat) W hW (ab Eok2) (by have:=ab el;omega));have co:Hid (aX (aX P2 [pcM D f']) [((z:Int)-(E'.1:Int),((E'.2:Nat):Int))]=aX P2 [pcM D f',((z:Int)-(E'.1:Int),((E'.2:Nat):Int))]):=(bj P2 [pcM D f'] _).symm;clear ha ka j c5 Q cs be ba;go_wp2_with fail;have d0:Below xa.heap.size xa xa.drew:=(a0c _ xa).drew;refine wp_region_held_drew (S:=fun W=>W.cell? ⟨wr.heap.size,2,none⟩=some (.int .i64 (z:Nat))/\W.cell? ⟨gk,ok+f',none⟩=some (.int .i64 (E'.1:Nat))) bb (ab R _ (bH d0)) (fun u=>?_);refine af 0 (.pointer (some ⟨b,0,none⟩)) rfl (by kernel_rfl) (fun _ _ _ h=>h) rfl (?_) u ?_
     . intro W c;obtain⟨s0,s1⟩:=c;go_simp
     refine af 1 (.pointer (some ⟨wr.heap.size,2,none⟩)) rfl (by kernel_rfl) (fun _ _ _ h=>h) rfl (?_) u ?_
     . intro W c;obtain⟨s0,s1⟩:=c;go_simp
     refine af 2 (.int .i64 (z:Nat)) rfl (by kernel_rfl) (fun _ _ _ h=>h) rfl (?_) u ?_
     . intro W c;obtain⟨s0,s1⟩:=c;go_simp
     refine af 3 (.slice (some ⟨gk,ok,none⟩) 30 c6) rfl (by kernel_rfl) (fun _ _ _ h=>h) rfl (?_) u ?_
     . intro W c;obtain⟨s0,s1⟩:=c;go_simp
     refine af 4 (.int .i64 (f':Nat)) rfl (by kernel_rfl) (fun _ _ _ h=>h) rfl (?_) u ?_
     . intro W c;obtain⟨s0,s1⟩:=c;go_simp
     refine af 5 (.pointer (some ⟨gk,ok+f',none⟩)) rfl (by kernel_rfl) (fun _ _ _ h=>h) rfl (?_) u ?_
     . intro W c;obtain⟨s0,s1⟩:=c;go_simp
     refine af 6 (.int .i64 (E'.1:Nat)) rfl (by kernel_rfl) (fun _ _ _ h=>h) rfl (?_) u ?_
     . intro W c;obtain⟨s0,s1⟩:=c;go_simp
     refine af 7 (.int .i64 ((z:Int)-(E'.1:Int))) rfl (by kernel_rfl) (fun _ _ _ h=>h) rfl (?_) u ?_
     . intro W c;obtain⟨s0,s1⟩:=c;go_simp
     refine af 9 (.int .i64 (f':Nat)) rfl (by kernel_rfl) (fun _ _ _ h=>h) rfl (?_) u ?_
     . intro W c;obtain⟨s0,s1⟩:=c;go_simp
     refine ag 8 (by kernel_rfl) rfl fun C d=>?_;go_simp;go_at_call 167;refine(nT _).mono ?_;rintro e x8 ⟨⟨g8,rfl,o8⟩,b8⟩;have l:Below xa.heap.size xa x8:=ai d0 b8;have ca:=(o8.at rfl (ab ad)).1;rw[ab ei]at ca;have bn:=ae (Out.kept (ab c7) l);clear o8 b8;refine Shut.out d _ _ (ab R _ (bH l)) (fun eu=>?_);clear d C;refine ag 10 (by kernel_rfl) rfl fun C d=>?_;go_simp;refine Shut.out d _ _ (ab R _ (bH l)) (fun _=>?_);clear d C;refine ag 11 (by kernel_rfl) rfl fun C d=>?_;go_simp;refine Shut.out d _ _ (ab R _ (bH l)) (fun _=>?_);clear d C;refine ag 12 (by kernel_rfl) rfl fun C d=>?_;go_simp;go_at_call 119;refine(ab c9 _ (ab bn)).mono ?_;rintro e x9 ⟨rfl,h9,k9⟩;have I:=ae (a0b h9 (((KB.refl b xa).below l (a0z (Out.lt (ab c7)))).trans k9));refine Shut.out d _ _ (ab R _ ((bH l).trans k9.2)) (fun _=>?_);clear d C h9 k9;refine wpAnyH_done (by kernel_rfl) ?_ _;have HX:=ae (a0b (ab I).1 (a0b ((ab dl).keep (ab I).2.2) ((ab ek).trans (ab I).2)));clear I;go_wp2;go_roundw
     case rel=>exact⟨k+1,by omega,by go_num,by rw[ab O,ab a1,ab HE,←ab co];exact(ab HX).1,(ab HX).2.1,(ab HX).2.2⟩
     case measure=>simp[intOf];omega
   .
    obtain⟨q1,q2⟩:=qw Y;have cc:Hid (t.1.toNat<n):=by
     have:=G;unfold fY at this;rw[a0e Y,ab F]at this;exact this
    have a1:Hid (dP L D t=[pcM L t.1.toNat]):=by show dP L D t=_;unfold dP;rw[a0e Y]
    have eg:t.2.1=0:=by unfold isB at Y;simp only[a0n,a0w]at Y;exact Y.1
    have hx:t.1=((t.1.toNat:Nat):Int):=by omega
    have j:=ae (pH b P a (some ⟨g1,0,none⟩) cap n n t.1.toNat L _ (ab a0) (ab F) (ab m).1.1.1 (ab m).2.1.1.1 (ab cc) (ab a5) ((ab s) _ (by rw[ab F];exact ab cc)).1 ((ab s) _ (by rw[ab F];exact ab cc)).2 (by have:=ab q;omega));rw[←hx]at j;generalize t.1.toNat=xN at *
    clear Y A G hx;obtain⟨tx,ty,tz⟩:=t;simp only at eg q1 q2 c0 c1 c2 j m N;subst eg;go_wp2_with fail;refine(ab j).mono ?_;rintro e x7 ⟨rfl,h7,k7⟩;have HX:=ae (a0b h7 (a0b ((ab m).keep k7.2) ((ab N).trans k7)));clear h7 k7 j;go_wp2;go_roundw
    case rel=>exact⟨k+1,by omega,by go_num,by rw[ab O,ab a1];exact(ab HX).1,(ab HX).2.1,(ab HX).2.2⟩
    case measure=>simp[intOf];omega
  .
   obtain rfl:k=tn:=by have:=ab HK;omega
   have O:Hid (aX p (T.flatMap (dP L D)++[pcM L 256])=aX (aX p ((T.take k).flatMap (dP L D))) [pcM L 256]):=by
    show aX p _=_;rw[a0u (by rw[ab V];exact a0a _),bj]
   have q:Hid ((aX p ((T.take k).flatMap (dP L D))).2<=80000):=by
    show _<=_;have h1:=lc L D (T.take k) p (ab s) (ab U) (fun t ht=>(ab b0 t (a2d ht)).2);have h2:(T.take k).length<=k:=List.length_take_le _ _;have h3:=ab Hp;omega
   generalize aX p ((T.take k).flatMap (dP L D))=P at *
   have j:=ae (pH b P a (some ⟨g1,0,none⟩) cap n n 256 L _ (ab HO) (ab F) (ab a3).1.1.1 (ab a3).2.1.1.1 (ab M) (ab a5) ((ab s) _ (by rw[ab F];exact ab M)).1 ((ab s) _ (by rw[ab F];exact ab M)).2 (by have:=ab q;omega));go_wp2_with fail;refine(ab j).mono ?_;rintro e x7 ⟨rfl,h7,k7⟩;have HX:=ae (a0b h7 ((ab bk).trans k7));clear h7 k7 j;go_wp2
   go_end0
   exact⟨rfl,by rw[ab O];exact(ab HX).1,(ab HX).2⟩
theorem EC(h:au l=true)(b:k<l.length):pOk ((aV l 15).2.getD k 0) (l.getD k 0)=true:=by
 have hb:=qu (jj h) b;rw[vI h b];by_cases a:1<=l.getD k 0
 . rw[a0e a];have:=(vG h b a).1;exact aS.2 ⟨⟨hb.1,by omega⟩,by omega,by omega⟩
 .
  rw[a0d a];have e:l.getD k 0=0:=by omega
  rw[e];decide
theorem dK(h:au l=true):me l:=by
 intro k a;have hb:=qu (jj h) a;obtain⟨_,c0,c1⟩:=aS.1 (EC h a);refine⟨hb,c0,?_⟩;have b:p2 (l.getD k 0).toNat<=p2 15:=a0N (by omega) (by omega);have h2:p2 15=32768:=by decide
 omega
theorem np(h:au l=true)(a:k<l.length):pcS l k=pcM l k:=by
 unfold pcS pcM;rw[Ez (EC h a)]
theorem KL(b:au L=true)(c:au D=true){t:Tk}(a:fY L D t):pcT L D t=dP L D t:=by
 unfold pcT dP;unfold fY at a
 split
 . rename_i h;rw[a0e h]at a;rw[np b a]
 . rename_i h;rw[a0d h]at a;rw[np b a.1,np c a.2]
theorem rh(c:au L=true)(b:au D=true)(T:List Tk)(a:∀t∈T,fY L D t):T.flatMap (pcT L D)=T.flatMap (dP L D):=by
 induction T with
 | nil=>rfl
 | cons t r ih=>rw[a0V,a0V,KL c b (a t (by simp)),ih (fun x d=>a x (by simp[d]))]
theorem MN(gL:me L)(gD:me D){t:Tk}(c:okT t=true)(a:fY L D t):bw (dP L D t)=true:=by
 unfold dP;unfold fY at a;unfold bw
 split
 . rename_i h;rw[a0e h]at a;simp only[a1Z,a2M,a2T];exact ox (gL _ a).1
 .
  rename_i h;rw[a0d h]at a;have d:isK t=true:=by unfold okT at c;simp only[a1y]at c;rcases c with b|b;exact absurd b h;exact b
  obtain⟨y0,y1,z0,z1⟩:=tI d;simp only[a1Z,a2M,a2T,a0n];exact⟨ox (gL _ a.1).1,Bq _ (by omega) (by omega),ox (gD _ a.2).1,Bp _ (by omega) (by omega)⟩
theorem zy(gL:me L)(gD:me D)(T:List Tk)(h:∀t∈T,okT t=true/\fY L D t):bw (T.flatMap (dP L D))=true/\(T.flatMap (dP L D)).length<=4*T.length:=by
 induction T with
 | nil=>exact⟨rfl,by simp⟩
 | cons t r ih=>
  obtain⟨b,h2⟩:=ih (fun x e=>h x (by simp[e]));obtain⟨c,a⟩:=h t (by simp);have f:=(wv L D t gL gD a).2;refine⟨?_,by simp only[a0V,a0j,a0D];omega⟩;have d:=MN gL gD c a;unfold bw at *
  rw[a0V,a1Y,d,b];rfl
theorem Im(L:List UInt8):∀n p,L.length-p<=n->∀t∈bJ L p,okT t=true:=by
 intro n;induction n with
 | zero=>
  intro p b t a;rw[jl (by omega)]at a;cases a
 | succ n ih=>
  intro p b t a;by_cases h:p<L.length
  .
   rw[lC h]at a;rcases a0U.1 a with rfl|a
   . exact sF L p
   . exact ih (p+kb L p) (by have:=(jy L p).1;omega) t a
  . rw[jl h]at a;cases a
theorem iu(s:ByteArray):∀t∈bJ s.data.toList 0,okT t=true:=Im s.data.toList s.data.toList.length 0 (by omega)
def nK:List Int:=List.replicate 32 5
theorem js:au (dc 288)=true:=by decide +kernel
theorem pa:au nK=true:=by decide +kernel
theorem kB{t:Tk}(_:okT t=true):fY (dc 288) nK t:=by
 unfold fY
 split
 . rename_i hB;have:=qw hB;rw[cN];omega
 . have a:=gX 3 4 t.2.1.toNat 27;have h2:=gX 1 2 t.2.2.toNat 29;rw[cN];exact⟨by omega,by show _<(List.replicate 32 (5:Int)).length;rw[a0x];omega⟩
def kZ(s:ByteArray):List (Int×Int):=[(1,1),(1,2)]++((bJ s.data.toList 0).flatMap (dP (dc 288) nK)++[pcM (dc 288) 256])
theorem kQ(s:ByteArray)(b:s.size<=300):(bJ s.data.toList 0).length<=300:=by
 have h2:=wL s.data.toList s.data.toList.length 0 (by omega);have a:s.data.toList.length=s.size:=by simp
 omega
theorem xG(s:ByteArray)(f:s.size<=300):lOk (kZ s)=true:=by
 obtain⟨b,h2⟩:=zy (dK js) (dK pa) (bJ s.data.toList 0) (fun t a=>⟨iu s t a,kB (iu s t a)⟩);have g:=kQ s f;have c:pOk (pcM (dc 288) 256).1 (pcM (dc 288) 256).2=true:=ox (dK js 256 (by rw[cN];omega)).1;unfold lOk;have d:bw (kZ s)=true:=by
  unfold kZ;unfold bw at *
  rw[a1Y,a1Y,b];simp only[a1Z,a2M,c];decide
 have e:(kZ s).length<=4000:=by unfold kZ;simp only[a0j,a0D,a0S];omega
 rw[d];simpa using e
def ln(s:ByteArray):List UInt8:=gF (kZ s)
theorem zW(s:ByteArray)(w:World)(p:s.size<=300) :
  Ds 93 #[.string s] w (.string ⟨(ln s).toArray⟩):=by
 have B:Hid (jI (w.alloc (.cells #[.slice none 0 0,.int .i64 0,.int .i64 0] 173)) w.heap.size (0,0)):=ym w 173;have d:Hid (KB w.heap.size w (w.alloc (.cells #[.slice none 0 0,.int .i64 0,.int .i64 0] 173))):=(KB.refl _ _).below ((a0c _ _).alloc (a0a _) _) (a0a _);have r:=ae p;have u:Hid (aX (aX (aX (0,0) [(1,1)]) [(1,2)]) ((bJ s.data.toList 0).flatMap (dP (dc 288) nK)++[pcM (dc 288) 256])=cH (kZ s)):=by
  show aX _ _=_;rw[←bj,←bj];rfl
 have H:Hid ((cH (kZ s)).2<=90000):=by
  show _<=_;rw[←ab u,bj];have N:=lc (dc 288) nK (bJ s.data.toList 0) (aX (aX (0,0) [(1,1)]) [(1,2)]) (dK js) (dK pa) (fun t g=>kB (iu s t g));have h2:=dO (aX (aX (aX (0,0) [(1,1)]) [(1,2)]) ((bJ s.data.toList 0).flatMap (dP (dc 288) nK))) [pcM (dc 288) 256] (fun x D=>by simp only[a0U,a1C,a1q]at D;subst D;have:=(dK js 256 (by rw[cN];omega)).1.2;show(dc 288).getD 256 0<=16;omega);have O:=kQ s p;have P:(aX (aX (0,0) [(1,1)]) [(1,2)]).2=3:=rfl;simp only[a0D,a0S]at h2;omega
 clear p;go_enter func93,ntmps93;go_wp2_with fail;refine(fg _ _ 1 1 _ (ab B) (by decide) (by show(0:Nat)<=_;omega)).mono ?_;rintro e x1 ⟨rfl,o1,h⟩;have m:=ae (a0b o1 ((ab d).trans h));clear o1 h B d;go_wp2_with fail;refine(fg _ _ 1 2 _ (ab m).1 (by decide) (by show(1:Nat)<=_;omega)).mono ?_;rintro e x2 ⟨rfl,o2,i⟩;have n:=ae (a0b o2 ((ab m).2.trans i));have a:Hid (w.heap.size<x2.heap.size):=Out.lt o2;clear o2 i m;go_wp2_with fail;refine(pd s _ (by have:=ab r;omega)).mono ?_;rintro e x3 ⟨v3,rfl,o3,z⟩;obtain⟨tn,htn⟩:∃tn,(bJ s.data.toList 0).length=tn:=⟨_,rfl⟩;obtain⟨a3,c3,rfl⟩:=o3.formN htn;have N3:=ae (Gm htn o3 (ab a));have j:=ae z;clear o3 z;go_wp2_with fail;refine(rr _).mono ?_;rintro e x4 ⟨v4,rfl,o4,o⟩;obtain⟨a4,c4,rfl⟩:=o4.formN (cN 288);have N4:=ae (ft (cN 288) o4 (a0m (ab a) (ab j).size));have N3':=ae ((ab N3).keep (bH o));have k:=ae (ai (ab j) o);clear o4 o N3 j;go_wp2_with fail;refine(rq _).mono ?_;rintro e x5 ⟨v5,rfl,o5,f⟩;have b:(List.replicate 32 (5:Int)).length=32:=a0x;obtain⟨a5,J,rfl⟩:=o5.formN b;have N5:=ae (ft b o5 (a0m (ab a) (ab k).size));have N3:=ae ((ab N3').keep (bH f));have N4':=ae ((ab N4).below f);have l:=ae (ai (ab k) f);have O5:=ae (Out.kept (ab n).1 (ab l));have y:=ae ((ab n).2.below (ab l) (a0z (ab a)));have q:Hid ((tn:Int)<=300):=by show(tn:Int)<=300;have:=kQ s (ab r);omega
 have c:=ae (rK w.heap.size (aX (aX (0,0) [(1,1)]) [(1,2)]) a3 a4 a5 c3 tn c4 288 J 32 (bJ s.data.toList 0) (dc 288) nK x5 (ab O5) (ab N3) (ab N4') (ab N5) htn (cN 288) b (by omega) (by omega) (dK js) (dK pa) (by omega) (ab q) (by show(3:Nat)<=10000;omega) (fun t g=>⟨iu s t g,kB (iu s t g)⟩));rw[ab u]at c;clear o5 f N3' N4 N5 k b htn;go_wp2_with fail;refine(ab c).mono ?_;rintro e x6 ⟨rfl,o6,E⟩;have I:=ae ((ab y).trans E).1;have O6:=ae o6;clear o6 E c N3 N4' O5 y l n;go_wp2_with fail;refine(lG _ _ _ _ (ab O6) (ab H)).mono ?_;rintro e x7 ⟨rfl,K,A⟩;obtain⟨_,v,T,Y⟩:=K;have e8:8*(((cH (kZ s)).2+7)/8)/8=((cH (kZ s)).2+7)/8:=by omega
 rw[e8]at Y;have Y':Bys x7 w.heap.size v (ln s):=Y;have M:=kY Y';have F:=ae ((ab I).trans A);obtain⟨k0,h,i,f0,f1,f2,L⟩:=T;clear Y Y' e8 h i A O6;generalize C:ln s=R at *
 have G:=ae C;clear C;go_wp2;go_ret;exact⟨by rw[ab G];rfl,ab F⟩
def mb(s:ByteArray):List UInt8:=if s.size<=300 then ln s else []
theorem F9(s:ByteArray):[(1,1),(1,2)]++((bJ s.data.toList 0).flatMap (pcT (dc 288) nK)++[pcS (dc 288) 256])=kZ s:=by
 unfold kZ;rw[rh js pa _ (fun t a=>kB (iu s t a)),np js (by rw[cN];omega)]
theorem He{base cap:Nat}{l:List (Int×Int)}(f:l.length=n)(h:Pcs w base (.slice a n cap) l)(d:0<n):∃g,a=some ⟨g,0,none⟩/\∀(j:Nat) (u:Value),(aU l)[j]?=some u->w.cell? ((⟨g,0,none⟩:Addr).add j)=some u:=by
 rcases h.2 with⟨_,e⟩|⟨g,b,c,e,_⟩
 . omega
 . simp only[a0J]at e;obtain⟨rfl,_,rfl⟩:=e;exact⟨g,rfl,a1K h rfl⟩
theorem vi(s:ByteArray)(w:World)(I:s.size<=300) :
  Ds 109 #[.string s] w (.string ⟨(ln s).toArray⟩):=by
 obtain⟨i0,Z,N,O,P⟩:=a0o Tryz.infoPiece;have hI:¬ (300:Int)<(s.size:Int):=by omega
 have A:Hid ((w.alloc (.cells #[.int .i64 1,.int .i64 1,.int .i64 1,.int .i64 2] 185)).ownsRow w.heap.size 185 2 (.slice (some ⟨w.heap.size,0,none⟩) 2 2) 2 [.int .i64 1,.int .i64 1,.int .i64 1,.int .i64 2]):=a05 w #[.int .i64 1,.int .i64 1,.int .i64 1,.int .i64 2] 2 (a0a _) (by unfold maxLen;omega) rfl;have y:Hid (Below w.heap.size w (w.alloc (.cells #[.int .i64 1,.int .i64 1,.int .i64 1,.int .i64 2] 185))):=(a0c _ _).alloc (a0a _) _;have Y:=ae I;have L:=ae (F9 s);have HP:Hid (qF (kZ s)=ln s):=gx (xG s I);have n:Hid ((kZ s).length<=4000):=by
  have:=xG s I;unfold lOk at this;simp only[a0n,a0w]at this;exact this.2
 clear I;go_enter func109,ntmps109;go_wp2_with fail;refine(j7 1 w).mono ?_;rintro e x1 ⟨rfl,k⟩;have p:=ae (show x1.ownsRow w.heap.size 185 2 (.slice (some ⟨w.heap.size,0,none⟩) 2 2) 2 [.int .i64 1,.int .i64 1,.int .i64 1,.int .i64 2] by rw[k];exact ab A);have o:=ae (show Below w.heap.size w x1 by rw[k];exact ab y);clear k A y;go_wp2_with fail;refine(l9 _).mono ?_;rintro e x2 ⟨⟨C,rfl,z⟩,f⟩;have r:=ae (dR (ab p) f);have q:=ae (ai (ab o) f);have l:=ae z;clear z f p o;go_wp2_with fail;refine(uE s _ (dc 288) nK C _ (ab Y) (ab l) (by rw[cN];omega) (by show(List.replicate 32 (5:Int)).length<=300;rw[a0x];omega) (by rw[cN];omega) (fun t ht=>kB (iu s t ht))).mono ?_;rintro e x3 ⟨v,rfl,i,h⟩;have x:=ae (dR (ab r) h);have u:=ae (ai (ab q) h);clear h r q l;generalize B:(bJ s.data.toList 0).flatMap (pcT (dc 288) nK)++[pcS (dc 288) 256]=R at *
 have M:0<R.length:=by rw[←B];simp
 obtain⟨m,hm⟩:∃m,R.length=m:=⟨_,rfl⟩;obtain⟨va,vc,rfl⟩:∃a cap,v = .slice a m cap:=by
  rcases i.2 with⟨_,h0⟩|⟨g,cap,_,e,_⟩
  . omega
  . exact⟨_,cap,by rw[←hm];exact e⟩
 obtain⟨g3,rfl,G⟩:=He hm i (by omega);have K:=ae G;have S:=ae hm;have T:Hid (2+m<=maxLen/\(2+m)*16<=140737488355328):=by
  show _/\_;have U:=ab n;rw[←ab L,a0j,hm]at U;unfold maxLen;simp only[a0D,a0S]at U;omega
 have F:=(ab u).size;clear B M i G hm;go_wp2_with (at_builtin;refine a0r _ rfl _ _ 182 rfl w.heap.size 185 i0 (.agg #[.int .i64 0,.int .i64 0]) 2 16 a1p Z N O P rfl (by decide) (.slice (some ⟨w.heap.size,0,none⟩) 2 2) _ _ rfl (ab x) ⟨g3,0,none⟩ m vc (aU R) rfl (by rw[lu,ab S]) (ab K) (ie R) (ab T).1 (ab T).2 F ?_;intro v' x4 c b H;clear H);have W:([.int .i64 1,.int .i64 1,.int .i64 1,.int .i64 2]:List Value)++aU R=aU (kZ s):=by rw[←ab L,eG];rfl
 have V:2+m=(kZ s).length:=by rw[←ab L,a0j,ab S];rfl
 rw[W,V]at c;have d:Pcs x4 w.heap.size v' (kZ s):=c;obtain⟨a4,c4,rfl⟩:=d.form;have D:Below w.heap.size w x4:=(ab u).grown b F (fun j hj=>(a0y (ab x) j hj).1);refine(fR a4 c4 (kZ s) _ d.row (by have:=ab n;omega)).mono ?_;rintro e x5 ⟨rfl,E⟩;rw[ab HP];have J:=ae (ai D E);clear W V c d D E b;generalize B:ln s=Q at *
 have X:=ae B;clear B;go_wp2;go_ret;exact⟨by rw[ab X];rfl,ab J⟩
theorem qm(s:ByteArray)(w:World)(c:s.size<=1048576) :
  Ds 109 #[.string s] w (.string ⟨(mb s).toArray⟩):=by
 by_cases h:s.size<=300
 . have a:Hid (mb s=ln s):=a0e h;rw[ab a];exact vi s w h
 .
  have b:(300:Int)<(s.size:Int):=by omega
  have a:Hid (mb s=[]):=a0d h;clear h;go_enter func109,ntmps109;go_wp2;go_ret;exact⟨by rw[ab a];rfl,a0c _ _⟩
def byS(s:ByteArray):ByteArray:=⟨(jB s.data.toList).toArray⟩
def byF(s:ByteArray):ByteArray:=⟨(mb s).toArray⟩
theorem yX(s:ByteArray)(h:¬ s.size<=300):byS s=⟨#[]⟩:=by
 have:jB s.data.toList=[]:=by unfold jB;rw[a0d (by rw[jX];exact h)]
 unfold byS;rw[this]
theorem yV(s:ByteArray)(h:¬ s.size<=300):byF s=⟨#[]⟩:=by unfold byF mb;rw[a0d h]
def inc(o:List Int)(k:Nat):List Int:=o.set k (o.getD k 0+1)
def fT(o:List Int)(s:List Nat):List Int:=s.foldl inc o
theorem jd(o:List Int)(k:Nat):(inc o k).length=o.length:=by simp[inc]
theorem ep(o:List Int)(s:List Nat):(fT o s).length=o.length:=by
 induction s generalizing o with
 | nil=>rfl
 | cons x s ih=>show(fT (inc o x) s).length=_;rw[ih,jd]
theorem g9(o:List Int)(s:List Nat)(x:Nat):fT o (s++[x])=inc (fT o s) x:=by simp[fT]
theorem ll(o:List Int)(k j:Nat):(inc o k).getD j 0=o.getD j 0+(if j=k/\k<o.length then 1 else 0):=by
 unfold inc;simp only[List.getD_eq_getElem?_getD,List.getElem?_set];by_cases h:k=j
 .
  subst h;by_cases a:k<o.length
  . simp[a]
  . simp[a]
 . have:¬ j=k:=fun e=>h e.symm;simp[h,this]
theorem kA(o:List Int)(s:List Nat)(j:Nat):(fT o s).getD j 0=o.getD j 0+(if j<o.length then(s.count j:Int)else 0):=by
 induction s generalizing o with
 | nil=>simp[fT]
 | cons x s ih=>
  show(fT (inc o x) s).getD j 0=_;rw[ih,ll,jd,List.count_cons];by_cases h:j=x
  .
   subst h;by_cases a:j<o.length
   . simp[a];omega
   . simp[a]
  .
   have:(x == j)=false:=by simp;exact fun e=>h e.symm
   simp[h,this]
theorem GD{a b:List Int}(d:a.length=b.length)(h:∀j,j<a.length->a.getD j 0=b.getD j 0):a=b:=by
 apply a2D d;intro i c h2;have:=h i c;simpa[List.getD,c,h2]using this
theorem io(n j:Nat):(List.replicate n (0:Int)).getD j 0=0:=by
 by_cases h:j<n<;>simp[List.getD,h]
theorem yF   (hk : k < l.length) (h : 0 < l.getD k 0) : 1 ≤ us l := by
  induction l generalizing k with
  | nil => simp at hk
  | cons b l ih =>
    simp only [us, a0H, a0M] at ih ⊢
    cases k with
    | zero => have : 0 < b := by simpa using h
              rw [a0e this]; omega
    | succ k => have := ih (k := k) (by simpa using hk) (by simpa using h); omega
theorem Fw(h:us l=0)(k:Nat)(a:k<l.length):¬ 0<l.getD k 0:=fun b=>by have:=yF a b;omega
def iO(t:Tk):Nat:=if isB t then t.1.toNat else 257+fnd 3 4 t.2.1.toNat 27
def eK(t:Tk):List Nat:=if isB t then []else [fnd 1 2 t.2.2.toNat 29]
theorem MC{t:Tk}(_:okT t=true):iO t<286:=by
 unfold iO
 split
 . rename_i hB;have:=qw hB;omega
 . have:=gX 3 4 t.2.1.toNat 27;omega
theorem Jf{t:Tk} : ∀x∈eK t,x<30:=by
 unfold eK;intro x a
 split at a
 . simp at a
 . have:=gX 1 2 t.2.2.toNat 29;simp at a;omega
def fN(T:List Tk):List Int:=inc (fT (List.replicate 286 0) (T.map iO)) 256
def fC(T:List Tk):List Int:=fT (List.replicate 30 0) (T.flatMap eK)
def cn(T:List Tk):List Int:=if us (fC T)=0 then inc (fC T) 0 else fC T
theorem eZ(T:List Tk):(fN T).length=286:=by unfold fN;rw[jd,ep,a0x]
theorem fp(T:List Tk):(fC T).length=30:=by unfold fC;rw[ep,a0x]
theorem fq(T:List Tk):(cn T).length=30:=by unfold cn;split;rw[jd,fp];exact fp T
theorem pg(T:List Tk)(j:Nat)(a:j<286):(fN T).getD j 0=((T.map iO).count j:Int)+(if j=256 then 1 else 0):=by
 unfold fN;rw[ll,kA,ep,a0x,io,a0e a];by_cases h:j=256<;>simp[h]
theorem pZ(T:List Tk)(j:Nat)(a:j<30):(fC T).getD j 0=((T.flatMap eK).count j:Int):=by
 unfold fC;rw[kA,a0x,io,a0e a];simp
theorem DG(T:List Tk):fT (inc (List.replicate 286 0) 256) (T.map iO)=fN T:=by
 apply GD
 . rw[ep,jd,eZ,a0x]
 . intro j a;rw[ep,jd,a0x]at a;rw[pg T j a,kA,ll,jd,a0x,io,a0e a];by_cases h:j=256<;>simp[h];omega
theorem tf(T:List Tk):(T.flatMap eK).length<=T.length:=by
 induction T with
 | nil=>simp
 | cons t r ih=>
  have:(eK t).length<=1:=by unfold eK;split<;>simp
  simp only[a0V,a0j,a0D];omega
theorem xY(T:List Tk)(c:T.length<=300):okC (fN T):=by
 intro i a;rw[eZ]at a;rw[pg T i a];have b:(T.map iO).count i<=(T.map iO).length:=a3h;rw[a0K]at b
 split<;>omega
theorem Je(T:List Tk)(c:T.length<=300):∀i,i<30->0<=(fC T).getD i 0/\(fC T).getD i 0<=300:=by
 intro i a;rw[pZ T i a];have b:(T.flatMap eK).count i<=(T.flatMap eK).length:=a3h;have h2:=tf T;omega
theorem sZ(T:List Tk)(b:T.length<=300):okC (cn T):=by
 intro i a;rw[fq]at a;have:=Je T b i a;unfold cn
 split
 . rw[ll];split<;>omega
 . omega
theorem xZ(T:List Tk):1<=us (fN T)/\us (fN T)<=286:=by
 refine⟨yF (k:=256) (by rw[eZ];omega) ?_,by have:=rP (fN T);rw[eZ]at this;exact this⟩;rw[pg T 256 (by omega),a0e rfl];omega
theorem s9(T:List Tk):1<=us (cn T)/\us (cn T)<=30:=by
 refine⟨?_,by have:=rP (cn T);rw[fq]at this;exact this⟩;unfold cn
 split
 . rename_i h;refine yF (k:=0) (by rw[jd,fp];omega) ?_;rw[ll,pZ T 0 (by omega),fp,a0e (by omega)];omega
 . omega
theorem FQ(T:List Tk)(j:Nat)(h:0<(fC T).getD j 0):0<(cn T).getD j 0:=by
 unfold cn
 split
 . rw[ll];split<;>omega
 . exact h
def d9(l:List Int)(least:Nat):Nat->Nat
 | 0=>0
 | n+1=>if least<n+1/\l.getD n 0=0 then d9 l least n else n+1
def nC(l:List Int)(least:Nat):List Int:=l.take (d9 l least l.length)
theorem pX{least:Nat}(h:least<n+1/\l.getD n 0=0):d9 l least (n+1)=d9 l least n:=by simp only[d9];rw[a0e h]
theorem mY{least:Nat}(h:¬ (least<n/\l.getD (n-1) 0=0)):d9 l least n=n:=by
 cases n with
 | zero=>rfl
 | succ n=>rw[a3H]at h;simp only[d9];rw[a0d h]
theorem sj(l:List Int)(least n:Nat):d9 l least n<=n:=by
 induction n with
 | zero=>exact a0a _
 | succ n ih=>simp only[d9];split<;>omega
theorem sX (l : List Int) (least n : Nat) (h : least ≤ n) : least ≤ d9 l least n := by
  induction n with
  | zero => exact h
  | succ n ih => simp only [d9]; split
                 . exact ih (by omega)
                 . exact h
theorem vJ(l:List Int)(least n j:Nat)(a:d9 l least n<=j)(h2:j<n):l.getD j 0=0:=by
 induction n with
 | zero=>omega
 | succ n ih=>
  by_cases b:least<n+1/\l.getD n 0=0
  .
   rw[pX b]at a;by_cases e:j=n
   . subst e;exact b.2
   . exact ih a (by omega)
  . simp only[d9]at a;rw[a0d b]at a;omega
theorem iz(l:List Int)(least:Nat):(nC l least).length=d9 l least l.length:=by
 unfold nC;rw[a0s];have:=sj l least l.length;omega
theorem Lp(l:List Int)(c j:Nat)(h:j<c):(l.take c).getD j 0=l.getD j 0:=by
 simp[List.getD,h]
theorem zd(l:List Int)(least j:Nat)(h:j<l.length):(nC l least).getD j 0=l.getD j 0:=by
 by_cases a:j<d9 l least l.length
 . exact Lp l _ j a
 .
  rw[vJ l least l.length j (by omega) h];have:(nC l least).length<=j:=by rw[iz];omega
  simp[List.getD,this]
theorem ID(h:∀x∈l,x=0):kr l=0/\us l=0:=by
 induction l with
 | nil=>exact⟨rfl,rfl⟩
 | cons b l ih=>
  obtain⟨a,h2⟩:=ih (fun x c=>h x (by simp[c]));have hb:b=0:=h b (by simp);subst hb;simp only[kr,us,a0H,a0M]at a h2 ⊢;rw[a,h2];exact⟨rfl,rfl⟩
theorem Jd(l:List Int)(least:Nat):kr (nC l least)=kr l/\us (nC l least)=us l:=by
 have h:∀x∈l.drop (d9 l least l.length),x=0:=by
  intro x c;obtain⟨i,b,rfl⟩:=List.mem_iff_getElem.1 c;rw[List.getElem_drop];rw[a04]at b;have:=vJ l least l.length (d9 l least l.length+i) (by omega) (by omega);have a:d9 l least l.length+i<l.length:=by omega
  simpa[List.getD,a]using this
 obtain⟨d,h2⟩:=ID h;have e:l=nC l least++l.drop (d9 l least l.length):=(a1n _ _).symm;have f:kr l=kr (nC l least)+kr (l.drop (d9 l least l.length)):=by
  conv=>lhs;rw[e]
  simp[kr]
 have g:us l=us (nC l least)+us (l.drop (d9 l least l.length)):=by
  conv=>lhs;rw[e]
  simp[us]
 omega
theorem tY(least:Nat)(h:au l=true):au (nC l least)=true:=by
 obtain⟨b,h2⟩:=Jd l least;unfold au lF at h ⊢;rw[b,h2];simp only[a0n,a0w]at h ⊢;obtain⟨⟨a,hb⟩,c⟩:=h;refine⟨⟨?_,by rw[iz];have:=sj l least l.length;omega⟩,c⟩;unfold inL at a ⊢;rw[a1a]at a ⊢;intro x d;exact a x (a2d d)
def bT(T:List Tk):List Int:=nC (db 15 (fN T)) 257
def cz(T:List Tk):List Int:=nC (db 15 (cn T)) 1
theorem A9:p2 14=16384:=by decide
theorem Ob:p2 6=64:=by decide
theorem J4(T:List Tk)(a:T.length<=300):(db 15 (fN T)).length=286/\au (db 15 (fN T))=true/\∀i,i<286->0<=(db 15 (fN T)).getD i 0/\(db 15 (fN T)).getD i 0<=15/\(0<(db 15 (fN T)).getD i 0<->0<(fN T).getD i 0):=by
 have b:=xZ T;have h:=ub (m:=14) (xY T a) (by rw[eZ];omega) (by rw[fj];omega) (by rw[fj];have h2:=A9;omega) (by omega);rw[eZ]at h;exact h
theorem zg(T:List Tk)(a:T.length<=300):(db 15 (cn T)).length=30/\au (db 15 (cn T))=true/\∀i,i<30->0<=(db 15 (cn T)).getD i 0/\(db 15 (cn T)).getD i 0<=15/\(0<(db 15 (cn T)).getD i 0<->0<(cn T).getD i 0):=by
 have b:=s9 T;have h:=ub (m:=14) (sZ T a) (by rw[fq];omega) (by rw[fj];omega) (by rw[fj];have h2:=A9;omega) (by omega);rw[fq]at h;exact h
theorem kI(T:List Tk)(b:T.length<=300):257<=(bT T).length/\(bT T).length<=286:=by
 obtain⟨a,_,_⟩:=J4 T b;unfold bT;rw[iz,a];exact⟨sX _ _ _ (by omega),sj _ _ _⟩
theorem ms(T:List Tk)(b:T.length<=300):1<=(cz T).length/\(cz T).length<=30:=by
 obtain⟨a,_,_⟩:=zg T b;unfold cz;rw[iz,a];exact⟨sX _ _ _ (by omega),sj _ _ _⟩
theorem ir(T:List Tk)(a:T.length<=300):au (bT T)=true:=tY 257 (J4 T a).2.1
theorem jR(T:List Tk)(a:T.length<=300):au (cz T)=true:=tY 1 (zg T a).2.1
theorem Dg{j:Nat}(h:0<l.getD j 0):j<l.length:=by
 rcases a1k j l.length with a|a
 . exact a
 . simp[List.getD,a]at h
theorem KA(T:List Tk)(d:T.length<=300)(k:Nat)(b:k=256∨k∈T.map iO)(a:k<286):0<(bT T).getD k 0:=by
 obtain⟨e,_,c⟩:=J4 T d;unfold bT;rw[zd _ _ _ (by omega)];refine(c k a).2.2.2 ?_;rw[pg T k a];rcases b with rfl|b
 . rw[a0e rfl];omega
 .
  have:=List.count_pos_iff.2 b
  split<;>omega
theorem Ky(T:List Tk)(c:T.length<=300)(k:Nat)(d:k∈T.flatMap eK)(a:k<30):0<(cz T).getD k 0:=by
 obtain⟨e,_,b⟩:=zg T c;unfold cz;rw[zd _ _ _ (by omega)];refine(b k a).2.2.2 (FQ T k ?_);rw[pZ T k a];have:=List.count_pos_iff.2 d;omega
theorem ML(T:List Tk)(c:T.length<=300)(a:∀t∈T,okT t=true)(t:Tk)(b:t∈T):0<(bT T).getD (iO t) 0/\∀k∈eK t,0<(cz T).getD k 0:=by
 refine⟨KA T c _ (.inr (a2V b)) (MC (a t b)),fun k d=>Ky T c k ?_ (Jf k d)⟩;exact List.mem_flatMap.2 ⟨t,b,d⟩
theorem mt(T:List Tk)(c:T.length<=300)(b:∀t∈T,okT t=true)(t:Tk)(d:t∈T):fY (bT T) (cz T) t:=by
 obtain⟨a,h2⟩:=ML T c b t d;unfold fY;unfold iO at a;unfold eK at h2
 split
 . rename_i h;rw[a0e h]at a;exact Dg a
 . rename_i h;rw[a0d h]at a h2;exact⟨Dg a,Dg (h2 _ (by simp))⟩
def nV(A:List Int):List Int:=fT (List.replicate 19 0) (A.map Int.toNat)
def aR(A:List Int):List Int:=db 7 (nV A)
theorem fJ(A:List Int):(nV A).length=19:=by unfold nV;rw[ep,a0x]
theorem y7(A:List Int)(j:Nat)(a:j<19):(nV A).getD j 0=((A.map Int.toNat).count j:Int):=by
 unfold nV;rw[kA,a0x,io,a0e a];simp
theorem xi(A:List Int)(c:A.length<=400):okC (nV A):=by
 intro i a;rw[fJ]at a;rw[y7 A i a];have b:(A.map Int.toNat).count i<=(A.map Int.toNat).length:=a3h;rw[a0K]at b;omega
theorem xj(A:List Int)(a:0<A.length)(b:∀x∈A,0<=x/\x<=15):1<=us (nV A)/\us (nV A)<=19:=by
 refine⟨?_,by have:=rP (nV A);rw[fJ]at this;exact this⟩;have c:=b A[0] (a19 a);refine yF (k:=(A[0]).toNat) (by rw[fJ];omega) ?_;rw[y7 A _ (by omega)];have:=List.count_pos_iff.2 (a2V (f:=Int.toNat) (a19 a));omega
theorem DC(A:List Int)(a:0<A.length)(b:A.length<=400)(c:∀x∈A,0<=x/\x<=15):(aR A).length=19/\au (aR A)=true/\∀i,i<19->0<=(aR A).getD i 0/\(aR A).getD i 0<=7/\(0<(aR A).getD i 0<->0<(nV A).getD i 0):=by
 have d:=xj A a c;have h:=ub (m:=6) (xi A b) (by rw[fJ];omega) (by rw[fj];omega) (by rw[fj];have h2:=Ob;omega) (by omega);rw[fJ]at h;exact h
def fQ(L D:List Int):List (Int×Int):=
 [((L.length:Int)-257,5),((D.length:Int)-1,5),(15,4)]++(bY.map (fun i=>((aR (L++D)).getD i 0,(3:Int)))++(L++D).map (fun x=>pcM (aR (L++D)) x.toNat))
def kJ(T:List Tk):List (Int×Int):=[(1,1),(2,2)]++(fQ (bT T) (cz T)++(T.flatMap (dP (bT T) (cz T))++[pcM (bT T) 256]))
theorem nh(h:au l=true):∀x∈l,0<=x/\x<=15:=by
 intro x b;obtain⟨i,a,rfl⟩:=List.mem_iff_getElem.1 b;have:=qu (jj h) a;simpa[List.getD,a]using this
theorem BL(g:au L=true)(f:au D=true)(l0:257<=L.length)(l1:L.length<=286)(m:1<=D.length)(n:D.length<=30):bw (fQ L D)=true/\(fQ L D).length<=338:=by
 have c:∀x∈L++D,0<=x/\x<=15:=by
  intro x b;rcases a0T.1 b with h|h
  . exact nh g x h
  . exact nh f x h
 obtain⟨d,h2,e⟩:=DC (L++D) (by rw[a0j];omega) (by rw[a0j];omega) c;refine⟨?_,?_⟩
 .
  unfold fQ bw;rw[a1Y,a1Y];simp only[a0n];refine⟨?_,?_,?_⟩
  .
   simp only[a1Z,a2M,a2T,a0n];refine⟨aS.2 ⟨by omega,by omega,?_⟩,aS.2 ⟨by omega,by omega,?_⟩,by decide⟩
   .
    have:p2 (5:Int).toNat=32:=by decide
    rw[this];omega
   .
    have:p2 (5:Int).toNat=32:=by decide
    rw[this];omega
  .
   rw[a1a];intro x b;obtain⟨i,j,rfl⟩:=a2H.1 b;have a:i<19:=by
    have:∀i∈bY,i<19:=by decide
    exact this i j
   have:=e i a;refine aS.2 ⟨by omega,this.1,?_⟩;have:p2 (3:Int).toNat=8:=by decide
   rw[this];omega
  . rw[a1a];intro x b;obtain⟨y,k,rfl⟩:=a2H.1 b;have l:=c y k;exact ox (qu (jj h2) (by rw[d];omega))
 . unfold fQ;simp only[a0j,a0K,a0D,a0S];have:bY.length=19:=rfl;omega
theorem Fc(T:List Tk)(a:T.length<=300)(b:∀t∈T,okT t=true):lOk (kJ T)=true:=by
 have gL:=dK (ir T a);have gD:=dK (jR T a);obtain⟨l0,l1⟩:=kI T a;obtain⟨d,e⟩:=ms T a;obtain⟨f,h2⟩:=zy gL gD T (fun t c=>⟨b t c,mt T a b t c⟩);obtain⟨t1,t2⟩:=BL (ir T a) (jR T a) l0 l1 d e;have g:pOk (pcM (bT T) 256).1 (pcM (bT T) 256).2=true:=ox (gL 256 (by omega)).1;unfold lOk;have h:bw (kJ T)=true:=by
  unfold kJ;unfold bw at *
  rw[a1Y,a1Y,a1Y,f,t1];simp only[a1Z,a2M,g];decide
 have i:(kJ T).length<=4000:=by unfold kJ;simp only[a0j,a0D,a0S];omega
 rw[h];simpa using i
def uy(s:ByteArray):List UInt8:=gF (kJ (bJ s.data.toList 0))
theorem rt(g o:Nat)(cap n least:Nat)(l:List Int)(w:World)(G:l.length=n)(h:∀i,i<n->w.cell? ⟨g,o+i,none⟩=some (.int .i64 (l.getD i 0)))(v:n<=cap)(E:n<=300)(D:least<=n) :
  Calls prog 143 #[.slice (some ⟨g,o,none⟩) n cap,.int .i64 (least:Nat)] w fun e w'=>e = .returned (.slice (some ⟨g,o,none⟩) (d9 l least n) cap)/\w'=w:=by
 have A:(n:Int)<=(cap:Int):=by omega
 have F:(n:Int)<=300:=by omega
 have H:=ae h;clear h G v E D;go_enter func143,ntmps143;go_wp2
 go_loop [5] (fun x=>∃k:Nat,k<=n/\x = .int .i64 k/\d9 l least n=d9 l least k) (fun x=>(intOf x).toNat)
 case atStart=>exact⟨n,a0a _,rfl,rfl⟩
 case round=>
  obtain⟨k,q,rfl,c⟩:=hrel;have f:=ae c;have p:=ae q;have C:(k:Int)<=(n:Int):=by omega
  clear c q;by_cases b:least<k
  .
   have r:decide ((least:Int)<(k:Int))=true:=a0v (by omega);have d:(least:Int)<(k:Int):=by omega
   obtain⟨j,hj⟩:∃j,k=j+1:=⟨k-1,by omega⟩;subst hj;have z:=ab H j (by have:=ab p;omega);have J:=ae (fun h=>pX (l:=l) (least:=least) (n:=j) h);have I:=ae (fun h=>mY (l:=l) (least:=least) (n:=j+1) h);have B:(j:Int)<(n:Int):=by omega
   generalize s:l.getD j 0=y at *
   have u:=ae s;clear s;by_cases m:y=0
   .
    subst m;have a:Hid (d9 l least n=d9 l least j):=(ab f).trans (ab J ⟨b,rfl⟩);have t:Hid (j<=n):=by show j<=n;have:=ab p;omega
    clear b;go_wp2
    go_round
    case rel=>exact⟨j,ab t,by go_num,ab a⟩
    case measure=>simp[intOf]
   .
    have K:(y == 0)=false:=by simpa using m
    have a:Hid (d9 l least n=j+1):=(ab f).trans (ab I (by rw[a3H,ab u];exact fun h=>m h.2));clear b;go_wp2;go_ret;exact⟨by rw[ab a];rfl,rfl⟩
  .
   have d:¬ (least:Int)<(k:Int):=by omega
   have a:Hid (d9 l least n=k):=(ab f).trans (mY (fun h=>b h.1));clear b;go_wp2;go_ret;exact⟨by rw[ab a];rfl,rfl⟩
theorem tT(g o:Nat)(cap n least:Nat)(l:List Int)(w:World)(G:l.length=n)(h:∀i,i<n->w.cell? ⟨g,o+i,none⟩=some (.int .i64 (l.getD i 0)))(v:n<=cap)(E:n<=300)(D:least<=n) :
  Calls prog 126 #[.slice (some ⟨g,o,none⟩) n cap,.int .i64 (least:Nat)] w fun e w'=>e = .returned (.slice (some ⟨g,o,none⟩) (d9 l least n) cap)/\w'=w:=by
 have A:(n:Int)<=(cap:Int):=by omega
 have F:(n:Int)<=300:=by omega
 have H:=ae h;clear h G v E D;go_enter func126,ntmps126;go_wp2
 go_loop [5] (fun x=>∃k:Nat,k<=n/\x = .int .i64 k/\d9 l least n=d9 l least k) (fun x=>(intOf x).toNat)
 case atStart=>exact⟨n,a0a _,rfl,rfl⟩
 case round=>
  obtain⟨k,q,rfl,c⟩:=hrel;have f:=ae c;have p:=ae q;have C:(k:Int)<=(n:Int):=by omega
  clear c q;by_cases b:least<k
  .
   have r:decide ((least:Int)<(k:Int))=true:=a0v (by omega);have d:(least:Int)<(k:Int):=by omega
   obtain⟨j,hj⟩:∃j,k=j+1:=⟨k-1,by omega⟩;subst hj;have z:=ab H j (by have:=ab p;omega);have J:=ae (fun h=>pX (l:=l) (least:=least) (n:=j) h);have I:=ae (fun h=>mY (l:=l) (least:=least) (n:=j+1) h);have B:(j:Int)<(n:Int):=by omega
   generalize s:l.getD j 0=y at *
   have u:=ae s;clear s;by_cases m:y=0
   .
    subst m;have a:Hid (d9 l least n=d9 l least j):=(ab f).trans (ab J ⟨b,rfl⟩);have t:Hid (j<=n):=by show j<=n;have:=ab p;omega
    clear b;go_wp2
    go_round
    case rel=>exact⟨j,ab t,by go_num,ab a⟩
    case measure=>simp[intOf]
   .
    have K:(y == 0)=false:=by simpa using m
    have a:Hid (d9 l least n=j+1):=(ab f).trans (ab I (by rw[a3H,ab u];exact fun h=>m h.2));clear b;go_wp2;go_ret;exact⟨by rw[ab a];rfl,rfl⟩
  .
   have d:¬ (least:Int)<(k:Int):=by omega
   have a:Hid (d9 l least n=k):=(ab f).trans (mY (fun h=>b h.1));clear b;go_wp2;go_ret;exact⟨by rw[ab a];rfl,rfl⟩
theorem Tryz.infoLenK:(prog.info? 268).map (·.size)=some 19:=by kernel_rfl
theorem Ai(a:Option Addr)(cap n base:Nat)(l:List Int)(w:World)(b:l.length=n)(h:cx w base a l)(g:base<=w.heap.size)(f:n<=300) :
  Calls prog 193 #[.slice a n cap] w fun e w'=>(∃C,e = .returned (.agg C)/\bP w' base l C)/\Below w.heap.size w w':=by
 refine(Bkx.codeBook_any Bkx.bkN (.inr (.inr rfl)) a cap n l w b h.1 f).mono ?_;rintro e w' ⟨vs,C,rfl,d,c,h2,hb⟩;obtain⟨q,sc,rfl⟩:=h2.form;subst b;exact⟨⟨C,rfl,a,cap,_,_,q,sc,d,h.later hb,(bG (bC l 15) (c.own (bC l 15))).mono (by omega),(bG rfl h2).mono (by omega)⟩,hb⟩
theorem Dy(k:Nat)(l:List Int)(C:Array Value)(base:Nat)(w:World)(d:bP w base l C)(f:k<l.length)(g:l.length<=300) :
  Ds 195 #[.agg C,.int .i64 (k:Int)] w (.agg #[.int .i64 (btI ((aV l 15).2.getD k 0) (l.getD k 0)),.int .i64 (l.getD k 0)]):=by
 obtain⟨a,cap,ac,b,q,sc,e,c,h2,h⟩:=d;exact Bkx.bookPut_any Bkx.bkN (.inr (.inr rfl)) a ac cap l.length b k _ _ C l (aV l 15).2 w e rfl (bC l 15) c.1 h2.1 f g
def sL(w:World)(b base:Nat)(l:List Int)(C:Array Value):Prop:=bP w base l C/\w.rangeAt b 0 C.toList/\b<w.heap.size
theorem sL.later{base:Nat}{C:Array Value}(h:sL w b base l C)(hb:Below w.heap.size w w'):sL w' b base l C:=
 ⟨h.1.later hb,jT h.2.1 hb h.2.2,a0m h.2.2 hb.size⟩
theorem BJ(k b base:Nat)(l:List Int)(C:Array Value)(w:World)(d:sL w b base l C)(h:k<l.length)(i:l.length<=300) :
  Ds 194 #[.int .i64 (k:Int),.pointer (some ⟨b,0,none⟩)] w (.agg #[.int .i64 (pcS l k).1,.int .i64 (pcS l k).2]):=by
 have c:Below w.heap.size w (w.alloc (.cells #[.int .i64 0,.int .i64 0] 185)):=(a0c _ _).alloc (a0a _) _;have j:=ae c;have m:=ae (d.later c).2.1;have n:=ae d.1.size;have HP:=ae (Dy k l C base _ (d.later c).1 h i);have f:Hid (pcS l k=(btI ((aV l 15).2.getD k 0) (l.getD k 0),l.getD k 0)):=rfl;generalize btI ((aV l 15).2.getD k 0) (l.getD k 0)=u at *
 generalize l.getD k 0=v at *
 clear d h i c;go_enter func194,ntmps194;go_wp2_with (first
  | (refine bi rfl 268 (.tmp 1) rfl b 0 rfl C _ (ab m) a27 rfl (by rw[ab n];exact Tryz.infoLenK) ?_)
  | (go_at_call 195;refine(ab HP).mono ?_;rintro e x1 ⟨rfl,a⟩;have g:=tL a;obtain⟨m0,m1,_⟩:=df g;obtain⟨n0,n1⟩:=nd g))
 have o:=qx g (.int .i64 u) (.int .i64 v);obtain⟨p,q,_⟩:=df o;refine a0F (v:=.agg #[.int .i64 u,.int .i64 v]) (by simp[results,results194,go_sem,p,q]) rfl ⟨by rw[ab f],?_⟩;exact ah (ah (ai (ab j) a) (a0a _) _) (a0a _) _
def iX(l:List Int)(t:List Int):List (Int×Int):=t.map fun x=>pcS l x.toNat
theorem DF(l t:List Int)(k:Nat)(h:k<t.length):iX l (t.take (k+1))=iX l (t.take k)++[pcS l (t.getD k 0).toNat]:=by
 unfold iX;rw[ci t k h,a0I];rfl
theorem FU(a:Option Addr)(cap n b base:Nat)(t l:List Int)(C:Array Value)(w:World)(P:t.length=n)(h:aZ w a t)(O:n<=1000)(L:sL w b base l C)(N:l.length<=300)(m:∀i,i<t.length->0<=t.getD i 0/\t.getD i 0<(l.length:Int)) :
  Calls prog 129 #[.slice a n cap,.func (.func 194) #[] #[.pointer (some ⟨b,0,none⟩)]] w fun e w'=>∃v,e = .returned v/\Pcs w' w.heap.size v (iX l t)/\Below w.heap.size w w':=by
 have aa:(n:Int)<=1000:=by omega
 have A:=ae P;have V:=ae O;have U:=ae N;have Q:=ae m;have S:=ae L;clear P O m N L;obtain⟨i0,hi,I,J,K⟩:=a0o Tryz.infoPiece;go_enter func129,ntmps129;go_wp2_with fail
 go_loopw [5,7,10] (fun o _ i wr=>∃k:Nat,k<=n/\i = .int .i64 k/\Pcs wr w.heap.size o (iX l (t.take k))/\Below w.heap.size w wr) (fun _ _ i _=>n-(intOf i).toNat)
 case atStart=>exact⟨0,a0g _,rfl,a00 _ _ _ _,a0c _ _⟩
 case round=>
  obtain⟨k,M,rfl,hq,c⟩:=hrel;have Z:=c.size;by_cases x:k<n
  .
   obtain⟨g,o,rfl,hg,B⟩:=(h.later c) (by rw[ab A];omega);have c0:=B k (by rw[ab A];exact x);have F:=ae (DF l t k (by rw[ab A];exact x));have H:Hid ((iX l (t.take k)).length=k):=by show(iX l (t.take k)).length=k;unfold iX;have:=ab A;simp;omega
   obtain⟨y0,y1⟩:=ab Q k (by rw[ab A];exact x);have T:=ae M;clear B M h;generalize t.getD k 0=y at *
   obtain⟨q,rfl⟩:=a0t y0;rw[a0p]at F;have HP:=ae (BJ q b base l C wr ((ab S).later c) (by omega) (ab U));generalize Y:pcS l q=R at *
   clear Y;obtain⟨W,X⟩:=R;go_wp2_with fail;refine(ab HP).mono ?_;rintro e x1 ⟨rfl,u⟩;have z:=Pcs.later hq u (a0a _);have d:=ai c u;have p:=d.size;have j:Hid ((iX l (t.take k)).length+1<=maxLen/\((iX l (t.take k)).length+1)*16<=140737488355328):=by
    show _/\_;rw[ab H];have:=ab V;unfold maxLen;omega
   clear hq c u HP;go_wp2_with (at_builtin;refine a0r _ rfl _ _ 182 rfl w.heap.size 185 i0 (.agg #[.int .i64 0,.int .i64 0]) 2 16 a1p hi I J K rfl (by decide) _ _ _ rfl (a0k z _) ⟨x1.heap.size,0,none⟩ 1 1 [.int .i64 W,.int .i64 X] rfl rfl (sH x1 _ _ _) (sG _ _) (ab j).1 (ab j).2 (ao p _) ?_;intro v' x2 s f D;clear D);have G:=aC (v:=u5) f z (a0a _) p d;have E:=my s;rw[←ab F]at E;clear s f z;go_wp2;go_roundw
   case rel=>exact⟨k+1,by have:=ab T;omega,by go_num,E,G⟩
   case measure=>simp[intOf];omega
  . have r:t.take k=t:=a0u (by rw[ab A];omega);rw[r]at hq;obtain⟨va,vc,rfl⟩:=hq.form;clear r h;go_wp2;go_ret;exact⟨_,rfl,hq,c⟩
end Go.Proofs.YtchidddpplangaaGreatDoor
namespace Go.Proofs.YtchidddpplangaaGreatDoor
open Go.Proofs.Tryz
open Go.RowKit Go.Shelf Corb
variable {W W' w:World}{b g n n₀:Nat}{l:List Int}{r10 r11:Option Nat}{r4 r5:Option (Nat×Value)}{s:ByteArray}{v:Value}
attribute [local go_sem] Oper.semAt_some
theorem pG{F:Fence}{P:Program}{ops:Array Oper}{o:Oper}{a:Act}{K:Act->World->Prop}{Q:Exit->Act->World->Prop}{E:Prop}
  (B:o.guard=none) (l c:Operand) (t:TypeId) (b:o.op=Op.makeSlice t l c)
  (base:Nat) (e:TypeId) (i:TypeInfo) (z:Value) (size:Nat) (r:P.underlying t=some (.slice e)) (h2:P.info? e=some i) (s:i.zero=some z) (u:i.size=size)
  (j h:IntKind) (L C:Int) (k:Nat) (D:a.eval l = .int j L) (A:a.eval c = .int h C) (y:L=(k:Int)) (v:C=(k:Int)) (m:i.bytes*k<=281474976710656) (p:k<=maxLen) (q:base<=w.heap.size)
  (x:∀g w',w.heap.size=g->w'.ownsRow base e size (.slice (some ⟨g,0,none⟩) k k) k (madeCells z.cells (k*size)).toList->w.grownBy w' none->K (a.put o.dst (.slice (some ⟨g,0,none⟩) k k)) w') :
  if Region.wanted o (yielded ops a.tmps)=true then Oper.wpIn F n P o a w K Q else E:=by
 have G:Region.wanted o (yielded ops a.tmps)=true:=by simp[Region.wanted,B]
 rw[a0e G];obtain⟨w',d,H,I⟩:=run_make_full (P:=P) w base t e i z size r h2 s u j h k m p q;subst y;subst v;unfold Oper.wpIn;refine⟨?_,?_⟩
 . simp[Oper.about,b]
 . rw[Oper.semAt_plain F _ _ (by rw[b];intro c f;cases f)];simp[execOp,b,D,A,d,Result.andThen];exact x _ w' rfl H I
theorem zT{β:Type}(n₀:Nat)(v:Value)(f:β->List Int):Own (fun(b:β) W=>am W n₀ v (f b)):=fun b X _ row e j a=>by
 refine a1N e j ?_;rcases e.2 with⟨rfl,_⟩|⟨g,cap,h,rfl,_,c,_⟩
 . exact .inl rfl
 .
  refine .inr fun e'=>?_;obtain⟨o,d,i⟩:=a g e'.symm;rw[show X.heap[g]?=_ from c]at d;cases d
  cases i
def Sts(n₀:Nat)(w W:World)(r10 r11:Option Nat)(r4 r5:Option (Nat×Value)):Prop:=
 Below n₀ w W/\(∀g,r10=some g->am W n₀ (.slice (some ⟨g,0,none⟩) 286 286) (List.replicate 286 0))/\(∀g,r11=some g->am W n₀ (.slice (some ⟨g,0,none⟩) 30 30) (List.replicate 30 0)) /\
 (∀b v,r4=some (b,v)->n₀<=b/\Boxed W b 137 v)/\(∀b v,r5=some (b,v)->n₀<=b/\Boxed W b 137 v)/\(∀g g',r10=some g->r11=some g'->g≠g')/\(∀b v b' v',r4=some (b,v)->r5=some (b',v')->b≠b')/\n₀<=W.heap.size
theorem fZ(h:W.grownBy W' none):Below W.heap.size W W':=(a0c _ _).grown h (a0a _) (fun j a=>by cases a)
theorem Sts.later(h:Sts n₀ w W r10 r11 r4 r5)(hb:Below W.heap.size W W'):Sts n₀ w W' r10 r11 r4 r5:=by
 obtain⟨f,i,h2,a,c,j,k,d⟩:=h;exact⟨f.trans (hb.mono d),fun g e=>(i g e).later hb (a0a _),fun g e=>(h2 g e).later hb (a0a _),fun b v e=>⟨(a b v e).1,Boxed.later (a b v e).2 hb⟩,fun b v e=>⟨(c b v e).1,Boxed.later (c b v e).2 hb⟩,j,k,a0E d hb.size⟩
theorem Sts.make10(h:Sts n₀ w W none r11 r4 r5)(k:W.grownBy W' none)(a:W.heap.size=g)(l:am W' n₀ (.slice (some ⟨g,0,none⟩) 286 286) (List.replicate 286 0)):Sts n₀ w W' (some g) r11 r4 r5:=by
 subst a;have b:∀g,r11=some g->g<W.heap.size:=fun g e=>(h.2.2.1 g e).below.2;obtain⟨c,m,h2,d,f,n,i,j⟩:=h.later (fZ k);exact⟨c,fun g e=>by cases e;exact l,h2,d,f,fun g g' e e'=>by cases e;have:=b g' e';omega,i,j⟩
theorem Sts.make11(h:Sts n₀ w W r10 none r4 r5)(l:W.grownBy W' none)(a:W.heap.size=g)(m:am W' n₀ (.slice (some ⟨g,0,none⟩) 30 30) (List.replicate 30 0)):Sts n₀ w W' r10 (some g) r4 r5:=by
 subst a;have b:∀g,r10=some g->g<W.heap.size:=fun g e=>(h.2.1 g e).below.2;obtain⟨c,d,h2,f,i,n,j,k⟩:=h.later (fZ l);exact⟨c,d,fun g e=>by cases e;exact m,f,i,fun g g' e e'=>by cases e';have:=b g e;omega,j,k⟩
theorem Sts.box4(h:Sts n₀ w W r10 r11 none r5)(v:Value):Sts n₀ w (W.alloc (.cells #[v] 137)) r10 r11 (some (W.heap.size,v)) r5:=by
 have a:∀b v,r5=some (b,v)->b<W.heap.size:=fun b v e=>(h.2.2.2.2.1 b v e).2.lt;have j:=h.2.2.2.2.2.2.2;obtain⟨c,d,h2,k,f,g,l,i⟩:=h.later ((a0c _ W).alloc (a0a _) (.cells #[v] 137));exact⟨c,d,h2,fun b u e=>by cases e;exact⟨j,Boxed.new _ _ _⟩,f,g,fun b u b' u' e e'=>by cases e;have:=a b' u' e';omega,i⟩
theorem Sts.box5(h:Sts n₀ w W r10 r11 r4 none)(v:Value):Sts n₀ w (W.alloc (.cells #[v] 137)) r10 r11 r4 (some (W.heap.size,v)):=by
 have a:∀b v,r4=some (b,v)->b<W.heap.size:=fun b v e=>(h.2.2.2.1 b v e).2.lt;have j:=h.2.2.2.2.2.2.2;obtain⟨c,d,h2,f,k,g,l,i⟩:=h.later ((a0c _ W).alloc (a0a _) (.cells #[v] 137));exact⟨c,d,h2,f,fun b u e=>by cases e;exact⟨j,Boxed.new _ _ _⟩,g,fun b u b' u' e e'=>by cases e';have:=a b u e;omega,i⟩
theorem cB(h:Boxed W b 137 v)(a:am W n₀ (.slice (some ⟨g,0,none⟩) n n) l):b≠g:=by
 intro e;exact h.not_row (by decide) a (by rw[e];rfl)
theorem ly(h:Boxed W b 9 v)(a:am W n₀ (.slice (some ⟨g,0,none⟩) n n) l):b≠g:=by
 intro e;exact h.not_row (by decide) a (by rw[e];rfl)
theorem cX{B o:Nat}{t:TypeId}(h:Boxed W B t v)(a:B≠b)(u:Value):Boxed (W.setCell ⟨b,o,none⟩ u) B t v:=(a0O _ _ _ B a).trans h
theorem wy{D:Nat}{r:Option (List Deferred)}(h:W.heap[D]?=some (.deferred r))(c:am W n₀ (.slice (some ⟨g,0,none⟩) n n) l):D≠g:=by
 rintro rfl;rcases c.2 with⟨e,_⟩|⟨g,cap,b,e,_,a,_⟩
 . cases e
 . simp only[a0J,a0l,a0B,a0P]at e;rw[←e.1]at a;rw[h]at a;cases a
theorem MG(l:List Int):bR l l.length=0<->us l=0:=by
 have d:∀k,0<=bR l k:=by
  intro k;induction k with
  | zero=>exact a29 _
  | succ k ih=>simp only[bR];split<;>omega
 constructor
 .
  intro h;rcases a2m (us l)with a|a
  . exact a
  .
   exfalso;have:∃k,k<l.length/\0<l.getD k 0:=by
    clear h d;induction l with
    | nil=>simp[us]at a
    | cons b l ih=>
     by_cases hb:0<b
     . exact⟨0,by simp,by simpa using hb⟩
     . obtain⟨k,c,d⟩:=ih (by simp only[us,a0H,a0M,a0d hb]at a;simpa[us]using a);exact⟨k+1,by simpa using c,by simpa using d⟩
   obtain⟨k,c,d⟩:=this;have:=EZ l l.length k c;omega
 .
  intro h;have:∀k,k<=l.length->bR l k=0:=by
   intro k;induction k with
   | zero=>exact fun _=>rfl
   | succ k ih=>
    intro c;have a:=Fw h k (by omega);simp only[bR];rw[ih (by omega),a0d a]
  exact this _ (a0a _)
theorem Sts.put4(h:Sts n₀ w W r10 r11 (some (b,v)) r5)(u:Value):Sts n₀ w (W.setCell ⟨b,0,none⟩ u) r10 r11 (some (b,u)) r5:=by
 obtain⟨i,c,h2,j,d,k,f,l⟩:=h;have hb:=j b v rfl;exact⟨ah i hb.1 u,fun g e=>(c g e).setOther (cB hb.2 (c g e)) u,fun g e=>(h2 g e).setOther (cB hb.2 (h2 g e)) u,fun b' v' e=>by cases e;exact⟨hb.1,hb.2.set u⟩,fun b' v' e=>⟨(d b' v' e).1,(d b' v' e).2.other (f b v b' v' rfl e).symm u⟩,k,fun b' v' a v'' e e'=>by cases e;exact f b v a v'' rfl e',by simpa using l⟩
theorem Sts.put5(h:Sts n₀ w W r10 r11 r4 (some (b,v)))(u:Value):Sts n₀ w (W.setCell ⟨b,0,none⟩ u) r10 r11 r4 (some (b,u)):=by
 obtain⟨i,a,h2,c,j,k,d,l⟩:=h;have hb:=j b v rfl;exact⟨ah i hb.1 u,fun g e=>(a g e).setOther (cB hb.2 (a g e)) u,fun g e=>(h2 g e).setOther (cB hb.2 (h2 g e)) u,fun b' v' e=>⟨(c b' v' e).1,(c b' v' e).2.other (d b' v' b v e rfl) u⟩,fun b' v' e=>by cases e;exact⟨hb.1,hb.2.set u⟩,k,fun b' v' f v'' e e'=>by cases e';exact d b' v' b v e rfl,by simpa using l⟩
theorem Sts.fill4(h:Sts n₀ w W (some g) r11 (some (b,v)) r5):Sts n₀ w (W.setCell ⟨b,0,none⟩ (.slice (some ⟨g,0,none⟩) 286 286)) (some g) r11 (some (b,.slice (some ⟨g,0,none⟩) 286 286)) r5:=h.put4 _
theorem Sts.fill5(h:Sts n₀ w W r10 (some g) r4 (some (b,v))):Sts n₀ w (W.setCell ⟨b,0,none⟩ (.slice (some ⟨g,0,none⟩) 30 30)) r10 (some g) r4 (some (b,.slice (some ⟨g,0,none⟩) 30 30)):=h.put5 _
def j8{s:ByteArray}(pre:List (TkS s)):List Int:=fT (List.replicate 286 0) ((pre.map Subtype.val).map iO)
def cM{s:ByteArray}(pre:List (TkS s)):List Int:=fT (List.replicate 30 0) ((pre.map Subtype.val).flatMap eK)
theorem mq(pre:List (TkS s)):(j8 pre).length=286:=by unfold j8;rw[ep,a0x]
theorem kz(pre:List (TkS s)):(cM pre).length=30:=by unfold cM;rw[ep,a0x]
theorem DI(pre:List (TkS s))(x:TkS s)(h:isB x.1=true):j8 (pre++[x])=inc (j8 pre) x.1.1.toNat:=by
 unfold j8;rw[a0I,a0I,a2p,a2p,g9];have:iO x.1=x.1.1.toNat:=by unfold iO;rw[a0e h]
 rw[this]
theorem DJ(pre:List (TkS s))(x:TkS s)(h:isB x.1=false):j8 (pre++[x])=inc (j8 pre) (257+fnd 3 4 x.1.2.1.toNat 27):=by
 unfold j8;rw[a0I,a0I,a2p,a2p,g9];have:iO x.1=257+fnd 3 4 x.1.2.1.toNat 27:=by unfold iO;rw[a0d (by simp[h])]
 rw[this]
theorem zi(pre:List (TkS s))(x:TkS s)(h:isB x.1=true):cM (pre++[x])=cM pre:=by
 unfold cM;rw[a0I,a12,a2p];have:[x.1].flatMap eK=[]:=by simp[eK,h]
 rw[this,a1c]
theorem zj(pre:List (TkS s))(x:TkS s)(h:isB x.1=false):cM (pre++[x])=inc (cM pre) (fnd 1 2 x.1.2.2.toNat 29):=by
 unfold cM;rw[a0I,a12,a2p];have:[x.1].flatMap eK=[fnd 1 2 x.1.2.2.toNat 29]:=by simp[eK,h]
 rw[this,g9]
theorem oY(n:Nat)(l:List Nat)(k:Nat):0<=(fT (List.replicate n 0) l).getD k 0/\(fT (List.replicate n 0) l).getD k 0<=(l.length:Int):=by
 rw[kA,io];have:l.count k<=l.length:=a3h
 split<;>omega
theorem yb(pre:List (TkS s))(k:Nat):0<=(j8 pre).getD k 0/\(j8 pre).getD k 0<=(pre.length:Int):=by
 have:=oY 286 ((pre.map Subtype.val).map iO) k;rw[a0K,a0K]at this;exact this
theorem tc(pre:List (TkS s))(k:Nat):0<=(cM pre).getD k 0/\(cM pre).getD k 0<=(pre.length:Int):=by
 have a:=oY 30 ((pre.map Subtype.val).flatMap eK) k;have h2:=tf (pre.map Subtype.val);rw[a0K]at h2;exact⟨a.1,by have:=a.2;unfold cM;omega⟩
theorem rV(s:ByteArray)(w:World)(a:s.size<=300)  :
  Calls prog 142 #[.string s] w fun e w'=>(∃gl gd,e = .returned (.tuple #[.slice (some ⟨gl,0,none⟩) 286 286,.slice (some ⟨gd,0,none⟩) 30 30])/\am w' w.heap.size (.slice (some ⟨gl,0,none⟩) 286 286) (fN (bJ s.data.toList 0))/\am w' w.heap.size (.slice (some ⟨gd,0,none⟩) 30 30) (cn (bJ s.data.toList 0)))/\Below w.heap.size w w':=by
 obtain⟨i0,hi,b4,b6,b7⟩:=a0o Tryz.infoInt;have ed:(s.size:Int)<=300:=by omega
 have c5:prog.follows .mixedOrders=true:=by kernel_rfl
 refine(callsIn_wide (n:=6)).1 ?_;refine callsIn_of_wp_marks func142 rfl trivial ?_ rfl;simp only[ntmps142,a2B,a0D,a0S,Nat.reduceAdd,Nat.reduceSub,Array.replicate_succ,Array.replicate_zero,List.push_toArray,List.append_toArray,a1G,a18]
 gi_wp2
 rename_i Q' K hKr
 suffices U:∀(gl gd P O:Nat) (W:World),Sts w.heap.size w W (some gl) (some gd) (some (P,.slice (some ⟨gl,0,none⟩) 286 286)) (some (O,.slice (some ⟨gd,0,none⟩) 30 30)) ->
   K { tmps:=#[.string s,undef,.slice none 0 0,.slice none 0 0,.pointer (some ⟨P,0,none⟩),.pointer (some ⟨O,0,none⟩),undef,undef,undef,undef,.slice (some ⟨gl,0,none⟩) 286 286,.slice (some ⟨gd,0,none⟩) 30 30,undef,undef,undef,undef,undef,undef,undef,undef,undef,undef,undef,undef,undef,undef,undef,undef,undef,undef,undef,undef,undef,undef,undef,undef,undef,undef,undef,undef,undef,undef,undef,undef,undef,undef,undef,undef,undef,undef,undef,undef,undef,undef,undef,undef,undef,undef,undef],defers:=[] } W by
  clear hKr;have a0:Sts w.heap.size w w.drew none none none none:=⟨(a0c _ _).drew,nofun,nofun,nofun,nofun,nofun,nofun,a0a _⟩;refine wpIn_region_any c5 ?_;change wpAnyIn _ _ _ _ _ _ _ _ _ (World.drew _);generalize w.drew=W at a0 ⊢;have a:=a0;clear a0;repeat' first
   | exact AllReadyIn.nil
   | refine AllReadyIn.cons rfl (fun K1 b=>?_) ?_
   | (refine pG rfl _ _ 137 rfl w.heap.size 3 i0 (.int .i64 0) 1 a0C hi b4 b6 .i64 .i64 286 286 286 rfl rfl rfl rfl (by rw[b7];omega) (by unfold maxLen;omega) a.2.2.2.2.2.2.2 ?_;intro g W hg ho J;have a:=a.make10 J hg (cY ho);refine b _ _ ?_;clear b K1 ho J hg)
   | (refine pG rfl _ _ 137 rfl w.heap.size 3 i0 (.int .i64 0) 1 a0C hi b4 b6 .i64 .i64 30 30 30 rfl rfl rfl rfl (by rw[b7];omega) (by unfold maxLen;omega) a.2.2.2.2.2.2.2 ?_;intro g W hg ho J;have a:=a.make11 J hg (cY ho);refine b _ _ ?_;clear b K1 ho J hg)
   | (refine gi 4 rfl ?_;have a:=a.box4 (.slice none 0 0);go_simp;refine b _ _ ?_;clear b K1;generalize W.alloc (.cells #[.slice none 0 0] 137)=V at a ⊢;generalize W.heap.size=g at a ⊢;revert V;intro W a)
   | (refine gi 5 rfl ?_;have a:=a.box5 (.slice none 0 0);go_simp;refine b _ _ ?_;clear b K1;generalize W.alloc (.cells #[.slice none 0 0] 137)=V at a ⊢;generalize W.heap.size=g at a ⊢;revert V;intro W a)
   | (refine IV (Op.store 137 (.tmp 4) (.tmp 10)) rfl ?_;have hc:=(a.2.2.2.1 _ _ rfl).2.cell;have hf:=(a.2.2.2.1 _ _ rfl).2.frozen;have a:=a.fill4;go_simp;refine b _ _ ?_;clear b K1 hc hf;revert a;generalize W.setCell ⟨_,0,none⟩ _=V;intro a;revert V;intro W a)
   | (refine IV (Op.store 137 (.tmp 5) (.tmp 11)) rfl ?_;have hc:=(a.2.2.2.2.1 _ _ rfl).2.cell;have hf:=(a.2.2.2.2.1 _ _ rfl).2.frozen;have a:=a.fill5;go_simp;refine b _ _ ?_;clear b K1 hc hf;revert a;generalize W.setCell ⟨_,0,none⟩ _=V;intro a;revert V;intro W a)
   | (refine wpAnyIn_done (by decide +kernel) ?_ _;exact U _ _ _ _ _ a)
   | refine wpAnyIn_ready (rs:=[0,1,2,3]) (by decide +kernel) (by simp) ?_
   | refine wpAnyIn_ready (rs:=[1,2,3]) (by decide +kernel) (by simp) ?_
   | refine wpAnyIn_ready (rs:=[2,3]) (by decide +kernel) (by simp) ?_
   | refine wpAnyIn_ready (rs:=[3]) (by decide +kernel) (by simp) ?_
   | refine wpAnyIn_ready (rs:=[4]) (by decide +kernel) (by simp) ?_
   | refine wpAnyIn_ready (rs:=[5]) (by decide +kernel) (by simp) ?_
   | refine wpAnyIn_ready (rs:=[2]) (by decide +kernel) (by simp) ?_
   | refine wpAnyIn_ready (rs:=[1,3]) (by decide +kernel) (by simp) ?_
   | refine wpAnyIn_ready (rs:=[1,4]) (by decide +kernel) (by simp) ?_
   | refine wpAnyIn_ready (rs:=[1]) (by decide +kernel) (by simp) ?_
   | refine wpAnyIn_ready (rs:=[1,2]) (by decide +kernel) (by simp) ?_
   | refine wpAnyIn_ready (rs:=[0,2,3]) (by decide +kernel) (by simp) ?_
   | refine wpAnyIn_ready (rs:=[0,3]) (by decide +kernel) (by simp) ?_
   | refine wpAnyIn_ready (rs:=[0]) (by decide +kernel) (by simp) ?_
   | refine wpAnyIn_ready (rs:=[0,2]) (by decide +kernel) (by simp) ?_
   | refine wpAnyIn_ready (rs:=[0,1,3]) (by decide +kernel) (by simp) ?_
   | refine wpAnyIn_ready (rs:=[0,1]) (by decide +kernel) (by simp) ?_
   | refine wpAnyIn_ready (rs:=[0,1,2]) (by decide +kernel) (by simp) ?_
 intro gl gd P O W m;refine hKr _ _ ?_;clear hKr;have cv:=m.2.1 gl rfl;have cr:=m.2.2.1 gd rfl;obtain⟨dd,x40⟩:=m.2.2.2.1 P _ rfl;obtain⟨dl,x50⟩:=m.2.2.2.2.1 O _ rfl;have H:gl≠gd:=m.2.2.2.2.2.1 gl gd rfl rfl;have dq:P≠O:=m.2.2.2.2.2.2.1 P _ O _ rfl rfl;have cg:=m.1;have c6:=m.2.2.2.2.2.2.2;clear m
 gi_wp2_with (refine⟨trivial,?_⟩;gi_at_call 182;refine(callsIn_wide.2 (pq s _)).mono ?_;rintro e w' ⟨rfl,rfl⟩)
 have bN:=Boxed.new W 9 (.string s);have hA:Below W.heap.size W (W.alloc (.cells #[.string s] 9)):=(a0c _ W).alloc (a0a _) _;have lb4:P<W.heap.size:=x40.lt;have lb5:O<W.heap.size:=x50.lt;refine wpIn_rangeFunc_ownG rfl (by omega) (gf:=212) (lb:=#[.pointer (some ⟨W.heap.size,0,none⟩)]) rfl trivial (enters_of func212 (by kernel_rfl) rfl)
  (rM 5 (by omega) W.heap.size s (by omega) _ bN) ER (fun W l o o' _ h1 h2 _=>EQ W l o o' h1 h2) (a0c _ _) (fun _=>rfl)
  (fun(pre:List (TkS s)) X=>((((am X w.heap.size (.slice (some ⟨gl,0,none⟩) 286 286) (j8 pre)/\am X w.heap.size (.slice (some ⟨gd,0,none⟩) 30 30) (cM pre))/\Boxed X P 137 (.slice (some ⟨gl,0,none⟩) 286 286))/\Boxed X O 137 (.slice (some ⟨gd,0,none⟩) 30 30))/\Below w.heap.size w X)/\Boxed X W.heap.size 9 (.string s))
  (fun _ _ _=>False)
  (OwnFrom.and (OwnFrom.and (OwnFrom.and (OwnFrom.and (OwnFrom.and (Own.from (zT _ _ j8) _) (Own.from (zT _ _ cM) _)) (Own.from (boxed_own _ _ _) _)) (Own.from (boxed_own _ _ _) _)) (ownFrom_below (a0a _) (by simp;omega))) (Own.from (boxed_own _ _ _) _))
  (fun _ _ _ _ _ a _ _=>a)
  ⟨⟨⟨⟨⟨cv.later hA (a0a _),cr.later hA (a0a _)⟩,Boxed.later x40 hA⟩,Boxed.later x50 hA⟩,cg.trans (hA.mono c6)⟩,bN⟩
  (fun x=>{ tmps:=#[.string s,undef,.slice none 0 0,.slice none 0 0,.pointer (some ⟨P,0,none⟩),.pointer (some ⟨O,0,none⟩),fG x.1,undef,undef,undef,.slice (some ⟨gl,0,none⟩) 286 286,.slice (some ⟨gd,0,none⟩) 30 30,.string s,.func (.func 212) #[] #[.pointer (some ⟨W.heap.size,0,none⟩)],fG x.1,undef,undef,undef,undef,undef,undef,undef,undef,undef,undef,undef,undef,undef,undef,undef,undef,undef,undef,undef,undef,undef,undef,undef,undef,undef,undef,undef,undef,undef,undef,undef,undef,undef,undef,undef,undef,undef,undef,undef,undef,undef,undef,undef,undef],defers:=[] }) ?assign ?body ?done ?stop
 case assign=>
  intro l x W K U
  gi_wp2
  exact U
 case body=>
  rintro l pre x X ⟨⟨⟨⟨⟨d,hd⟩,x4⟩,x5⟩,hB⟩,B⟩ bn;have co:=x4.cell;have cp:=x5.cell;have u:=mq pre;have t:=kz pre;have m1:=kU;have m2:=mS;have m3:=kT;cases hb:isB x.1
  .
   have hk:isK x.1=true:=by have:=x.2.1;unfold okT at this;rw[hb]at this;simpa using this
   obtain⟨q1,q2,q3,q4⟩:=tI hk;have f1:x.1.2.1=((x.1.2.1.toNat:Nat):Int):=by omega
   have f2:x.1.2.2=((x.1.2.2.toNat:Nat):Int):=by omega
   have e2:fG x.1 = .iface 259 (.agg #[.int .i64 ((x.1.2.1.toNat:Nat):Int),.int .i64 ((x.1.2.2.toNat:Nat):Int)]):=by rw[←f1,←f2];exact oH hk
   have f:=DJ pre x hb;have N:=zj pre x hb;have b1:=yb pre (257+fnd 3 4 x.1.2.1.toNat 27);have b2:=tc pre (fnd 1 2 x.1.2.2.toNat 29);have b8:=ae (fun W=>Bo x.1.2.1.toNat x.1.2.2.toNat W (by omega) (by omega) (by omega) (by omega));have k1:=gX 3 4 x.1.2.1.toNat 27;have k2:=gX 1 2 x.1.2.2.toNat 29;rw[e2];generalize x.1.2.1.toNat=y at *
   generalize x.1.2.2.toNat=z at *
   generalize fnd 3 4 y 27=p at *
   generalize fnd 1 2 z 29=q at *
   have I:=d.at u (show 257+p<286 by omega);generalize A:(j8 pre).getD (257+p) 0=ya at *
   generalize T:(cM pre).getD q 0=za at *
   have d7:(257:Int)+(p:Int)<286:=by omega
   have d8:(q:Int)<30:=by omega
   have b3:ya<=300:=by omega
   have eg:za<=300:=by omega
   have b0:0<=ya:=by omega
   have b5:0<=za:=by omega
   have E:=cB x4 d;have r:=cB x5 d;have Y:=cB x4 hd;have aa:=cB x5 hd;have HX:Hid (∀Z,Below X.heap.size X Z->am Z w.heap.size (.slice (some ⟨gl,0,none⟩) 286 286) (j8 pre)/\am Z w.heap.size (.slice (some ⟨gd,0,none⟩) 30 30) (cM pre)/\Boxed Z P 137 (.slice (some ⟨gl,0,none⟩) 286 286)/\Boxed Z O 137 (.slice (some ⟨gd,0,none⟩) 30 30)/\Boxed Z W.heap.size 9 (.string s)):=fun Z h=>⟨d.later h (a0a _),hd.later h (a0a _),Boxed.later x4 h,Boxed.later x5 h,Boxed.later B h⟩;have d0:=d.below.2;have dv:=hd.below.2;have Q:=ae (a0b (show 257+p<286 by omega) (show q<30 by omega));have H1:=ae f;have H2:=ae N;have a4:=ae A;have a5:=ae T;have HB:=ae hB;have ca:=ae (a0b E (a0b r (a0b Y aa)));have cc:=hB.size;have c9:=B.lt;clear f N A T b1 b2 k1 k2 q1 q2 q3 q4 f1 f2 e2 I d hd x4 x5 B bn hB
   gi_wp2_with (refine⟨trivial,?_⟩;gi_at_call 185;refine(CallsIn.inRound l (callsIn_wide.2 (ab b8 _))).mono ?_;rintro e X1 ⟨rfl,be⟩;have C:Below X.heap.size X X1:=ai ((a0c _ X).alloc (a0a _) _) be;have c7:=C.size;have hZ:Hid (∀v,Below X.heap.size X (X1.alloc (.cells v 261))):=fun v=>C.alloc c7 _;have z1:=fun v=>(ab HX _ (ab hZ v)).2.2.1.cell;have z2:=fun v=>(ab HX _ (ab hZ v)).2.2.2.1.cell;have z3:=fun v=>((ab HX _ (ab hZ v)).1.at (mq pre) (ab Q).1).1;have z4:=fun v=>((ab HX _ (ab hZ v)).1.at (mq pre) (ab Q).1).2.1;have z5:=fun v=>((ab HX _ (ab hZ v)).2.1.at (kz pre) (ab Q).2).1;have z6:=fun v=>((ab HX _ (ab hZ v)).2.1.at (kz pre) (ab Q).2).2.1;rw[ab a4]at z3;rw[ab a5]at z5;have n1:¬ X1.heap.size=gl:=(by omega);have n2:¬ gl=X1.heap.size:=(by omega);have n3:¬ gd=gl:=(fun e=>H e.symm);have c8:=ae C;clear be C)
   refine(fun Z (al:Below X.heap.size X Z)=>?_:∀Z,Below X.heap.size X Z->ownPostG _ _ _ _ _ _ _ _ ((Z.setCell ⟨gl,257+p,none⟩ (.int .i64 (ya+1))).setCell ⟨gd,q,none⟩ (.int .i64 (za+1)))) _ (ab hZ _);obtain⟨d,hd,x4,x5,B⟩:=ab HX Z al;obtain⟨e4,e5,e6,e7⟩:=ab ca;have e8:=ly B d;have e9:=ly B hd;have cy:am ((Z.setCell ⟨gl,257+p,none⟩ (.int .i64 (ya+1))).setCell ⟨gd,q,none⟩ (.int .i64 (za+1))) w.heap.size (.slice (some ⟨gl,0,none⟩) 286 286) (j8 (pre++[x])):=by
    have:=d.put (j:=257+p) (mq pre) (ya+1);rw[ab H1];unfold inc;rw[ab a4];exact this.setOther H.symm _
   have cs:am ((Z.setCell ⟨gl,257+p,none⟩ (.int .i64 (ya+1))).setCell ⟨gd,q,none⟩ (.int .i64 (za+1))) w.heap.size (.slice (some ⟨gd,0,none⟩) 30 30) (cM (pre++[x])):=by
    have:=(hd.setOther (g':=gl) (o:=257+p) H (.int .i64 (ya+1))).put (j:=q) (kz pre) (za+1);rw[ab H2];unfold inc;rw[ab a5];exact this
   exact⟨(((KeepsOthers.of_grownBy (eU al) (fun _ _ e=>by cases e)).trans (KeepsOthers.setCell _ _ _)).trans (KeepsOthers.setCell _ _ _)).from _,fun _=>cX (cX B e8 _) e9 _,⟨⟨⟨⟨⟨cy,cs⟩,cX (cX x4 e4 _) e6 _⟩,cX (cX x5 e5 _) e7 _⟩,ah (ah ((ab HB).trans (al.mono cc)) d.below.1 _) hd.below.1 _⟩,cX (cX B e8 _) e9 _⟩⟩
  .
   obtain⟨q1,q2⟩:=qw hb;have f1:x.1.1=((x.1.1.toNat:Nat):Int):=by omega
   have e2:fG x.1 = .iface 257 (.int .u8 ((x.1.1.toNat:Nat):Int)):=by rw[←f1];exact lB hb
   have f:=DI pre x hb;have N:=zi pre x hb;have b1:=yb pre x.1.1.toNat
   rw[e2];generalize x.1.1.toNat=k at *
   have I:=d.at u (show k<286 by omega);generalize A:(j8 pre).getD k 0=ya at *
   have d5:(k:Int)<286:=by omega
   have b3:ya<=300:=by omega
   have b0:0<=ya:=by omega
   have R:Hid (am (X.setCell ⟨gl,k,none⟩ (.int .i64 (ya+1))) w.heap.size (.slice (some ⟨gl,0,none⟩) 286 286) (j8 (pre++[x]))):=by
    have:=d.put (j:=k) u (ya+1);rw[f];unfold inc;rw[A];exact this
   have G:Hid (am (X.setCell ⟨gl,k,none⟩ (.int .i64 (ya+1))) w.heap.size (.slice (some ⟨gd,0,none⟩) 30 30) (cM (pre++[x]))):=by
    rw[N];exact hd.setOther H _
   have E:=cB x4 d;have r:=cB x5 d;obtain⟨c1,c2,c3,c4⟩:=I;clear f N A b1 bn q1 q2 f1 e2
   gi_wp2
   exact⟨(KeepsOthers.setCell _ _ _).from _,fun _=>cX B (ly B d) _,⟨⟨⟨⟨⟨ab R,ab G⟩,cX x4 E _⟩,cX x5 r _⟩,ah hB c3 _⟩,cX B (ly B d) _⟩⟩
 case done=>
  rintro D ys X hD S ⟨⟨⟨⟨⟨d,hd⟩,x4⟩,x5⟩,hB⟩,B⟩ U;have co:=x4.cell;have cp:=x5.cell;have u:=mq ys;have t:=kz ys;have bk:=BI s a S;have b1:=yb ys 256;have b2:=tc ys 0;have hL:j8 ys=fT (List.replicate 286 0) ((bJ s.data.toList 0).map iO):=by unfold j8;rw[S]
  have a9:cM ys=fC (bJ s.data.toList 0):=by unfold cM fC;rw[S]
  have bc:inc (j8 ys) 256=fN (bJ s.data.toList 0):=by unfold fN;rw[hL]
  have I:=d.at u (show 256<286 by omega);have E:=cB x4 d;have r:=cB x5 d;have Y:=cB x5 hd;have aa:=cB x4 hd;have ch:D≠gl:=fun e=>by subst e;exact wy U d rfl
  have a8:D≠gd:=fun e=>by subst e;exact wy U hd rfl
  have ba:w.heap.size<=D:=by simp at hD;omega
  have eh:(cM ys).getD 0 0<=300:=by omega
  have L:∀i,i<(cM ys).length->0<=(cM ys).getD i 0:=fun i _=>(tc ys i).1;generalize A:(j8 ys).getD 256 0=ya at *
  have b3:ya<=300:=by omega
  have b0:0<=ya:=by omega
  have R:am (X.setCell ⟨gl,256,none⟩ (.int .i64 (ya+1))) w.heap.size (.slice (some ⟨gl,0,none⟩) 286 286) (fN (bJ s.data.toList 0)):=by
   have:=d.put (j:=256) u (ya+1);rw[←bc];unfold inc;rw[A];exact this
  have G:am (X.setCell ⟨gl,256,none⟩ (.int .i64 (ya+1))) w.heap.size (.slice (some ⟨gd,0,none⟩) 30 30) (cM ys):=hd.setOther H _;have bs:=cX (o:=256) x5 r (.int .i64 (ya+1));have ds:=bs.cell;have bb:(X.setCell ⟨gl,256,none⟩ (.int .i64 (ya+1))).heap[D]?=some (.deferred (some [])):=(a0O _ _ _ D ch).trans U;have a7:Below w.heap.size w (X.setCell ⟨gl,256,none⟩ (.int .i64 (ya+1))):=ah hB d.below.1 _;obtain⟨c1,c2,c3,c4⟩:=I;have HM:=ae (uj (some ⟨gd,0,none⟩) 30 30 (cM ys) (X.setCell ⟨gl,256,none⟩ (.int .i64 (ya+1))) t (G.rowN t) (by omega) (by omega) L);have ac:=ae (MG (cM ys));rw[t]at ac;have a3:=ae R;have a2:=ae G;have F:=ae bb;have a1:=ae a7;have cu:=G.at t (show 0<30 by omega);obtain⟨d1,d2,d3,d4⟩:=cu;have a6:=ae a9;have b9:=ae t;clear d hd x4 x5 B hB U S hL bc b1 R G bb a7 bs a9 t L bk u c3 c4;by_cases hu:us (cM ys)=0
  .
   have an:Hid (bR (cM ys) 30=0):=(ab ac).2 hu;rw[ab an]at HM;generalize T:(cM ys).getD 0 0=za at *
   have b5:0<=za:=b2.1
   gi_wp2_with (refine⟨trivial,?_⟩;gi_at_call 186;refine(callsIn_wide.2 (ab HM)).mono ?_;rintro e x1 ⟨rfl,f⟩;rw[f];clear f)
   gi_region
   gi_wp2
   refine⟨by simp,.inl ⟨_,_,rfl,run_takeDeferred ((a0O _ _ _ D a8).trans (ab F)),?_⟩⟩;have ad:((X.setCell ⟨gl,256,none⟩ (.int .i64 (ya+1))).setCell ⟨gd,0,none⟩ (.int .i64 (za+1))).heap[D]?=some (.deferred (some [])):=(a0O _ _ _ D a8).trans (ab F);refine⟨_,results_tmp2 rfl _ _ _,⟨gl,gd,rfl,?_,?_⟩,?_⟩
   . exact ownsRow_putObj (show am _ _ _ _ from(ab a3).setOther H.symm _) (.deferred none) ad rfl
   .
    have e1:cn (bJ s.data.toList 0)=inc (cM ys) 0:=by
     unfold cn;rw[←ab a6,a0e hu]
    rw[e1];refine ownsRow_putObj (show am _ _ _ _ from ?_) (.deferred none) ad rfl;unfold inc;rw[T];exact(ab a2).put (j:=0) (ab b9) (za+1)
   . exact(ah (ab a1) d3 _).drew.trans (belowK_b (w:=w) (a0a _) (World.drew _) D _ _ ba ad rfl rfl)
  .
   have an:Hid (¬ bR (cM ys) 30=0):=fun h=>hu ((ab ac).1 h);have d6:(bR (cM ys) 30 == 0)=false:=by have:=ab an;simpa using this
   generalize bR (cM ys) 30=M at *
   gi_wp2_with (refine⟨trivial,?_⟩;gi_at_call 186;refine(callsIn_wide.2 (ab HM)).mono ?_;rintro e x1 ⟨rfl,f⟩;rw[f];clear f)
   gi_region
   gi_wp2
   refine⟨by simp,.inl ⟨_,_,rfl,run_takeDeferred (ab F),?_⟩⟩;refine⟨_,results_tmp2 rfl _ _ _,⟨gl,gd,rfl,?_,?_⟩,?_⟩
   . exact ownsRow_putObj (ab a3) (.deferred none) (ab F) rfl
   .
    have e1:cn (bJ s.data.toList 0)=cM ys:=by
     unfold cn;rw[←ab a6,a0d hu]
    rw[e1];exact ownsRow_putObj (ab a2) (.deferred none) (ab F) rfl
   . exact(ab a1).drew.trans (belowK_b (w:=w) (a0a _) (World.drew _) D _ _ ba (ab F) rfl rfl)
 case stop=>
  rintro D c pre W _ _ h _;exact h.elim
end Go.Proofs.YtchidddpplangaaGreatDoor
namespace Go.Proofs.YtchidddpplangaaGreatDoor
open Go.Proofs.Tryz
open Go.RowKit Corb
variable {A D l:List Int}{B c4 c6 g4 g6 gd gl n:Nat}{W w:World}{a:Option Addr}
theorem NW(h:okC l):inC l=true:=by
 unfold inC;rw[a1a];intro x b;obtain⟨i,a,rfl⟩:=List.mem_iff_getElem.1 b;have:=h i a;rw[show l.getD i 0=l[i] by simp[List.getD,a]]at this;exact aB.2 this
theorem ua{m:Nat}(a:okC l)(b:l.length<=300)(c:1<=us l)(d:us l<=p2 m)(e:m<=14):jP l ((m:Int)+1)=db ((m:Int)+1) l:=by
 unfold jP;rw[a0e];unfold wl;simp only[a0n,a0w];refine⟨⟨⟨b,aB.2 (by omega)⟩,NW a⟩,aB.2 ?_⟩;rw[show((m:Int)+1).toNat=m+1 by omega,yo];omega
theorem MD(T:List Tk)(b:T.length<=300):jP (fN T) 15=db 15 (fN T):=by
 have a:=xZ T;have h2:=A9;exact ua (m:=14) (xY T b) (by rw[eZ];omega) a.1 (by omega) (by omega)
theorem Jg(T:List Tk)(b:T.length<=300):jP (cn T) 15=db 15 (cn T):=by
 have a:=s9 T;have h2:=A9;exact ua (m:=14) (sZ T b) (by rw[fq];omega) a.1 (by omega) (by omega)
theorem Hv(A:List Int)(a:0<A.length)(c:A.length<=400)(d:∀x∈A,0<=x/\x<=15):jP (nV A) 7=aR A:=by
 have b:=xj A a d;have h2:=Ob;exact ua (m:=6) (xi A c) (by rw[fJ];omega) b.1 (by omega) (by omega)
theorem am.cut{base m cap:Nat}(j:l.length=n)(h:am w base (.slice a n cap) l)(p:m<=n)(k:0<n):am w base (.slice a m cap) (l.take m):=by
 subst j;rcases h.2 with⟨_,e⟩|⟨g,c,b,e,hb,i,o,h2,d,f⟩
 . omega
 .
  simp only[a0J]at e;obtain⟨rfl,_,rfl⟩:=e;refine⟨by simp,.inr ⟨g,cap,b,by rw[a0s];congr 1;omega,hb,i,by rw[a0s];omega,h2,d,?_⟩⟩;rw[a0s,List.map_take,←f,a3e]
  congr 1
  omega
theorem pu{base base' size:Nat}{e:TypeId}{v:Value}{xs:List Value}(h:w.ownsRow base e size v n xs)(hb:base'<=base):w.ownsRow base' e size v n xs:=
 ⟨h.1,h.2.imp id fun⟨g,c,u,e,a,r⟩=>⟨g,c,u,e,a0E hb a,r⟩⟩
theorem am.cap{base cap g:Nat}(h:am w base (.slice (some ⟨g,0,none⟩) n cap) l):n<=cap/\cap<=maxLen:=by
 rcases h.2 with⟨e,_⟩|⟨g',a,b,e,hb,i,c,h2,d,f⟩
 . cases e
 . simp only[a0J]at e;obtain⟨_,rfl,rfl⟩:=e;exact⟨c,h2⟩
def cU(L D:List Int):List (Int×Int):=[((L.length:Int)-257,5),((D.length:Int)-1,5),(15,4)]
def fe(l:List Int)(k:Nat):List (Int×Int):=(bY.take k).map fun i=>(l.getD i 0,(3:Int))
theorem wo(l:List Int)(k:Nat)(h:k<19):fe l (k+1)=fe l k++[(l.getD (bY.getD k 0) 0,3)]:=by
 unfold fe;have a:k<bY.length:=h;rw[a1b a,a0I];simp[List.getD,a]
theorem uw(l:List Int)(k:Nat)(h:k<=19):(fe l k).length=k:=by unfold fe;have:bY.length=19:=rfl;simp;omega
theorem Em(L D:List Int)(h:au (aR (L++D))=true)(a:(aR (L++D)).length=19)(b:∀x∈L++D,0<=x/\x<=15):cU L D++fe (aR (L++D)) 19++iX (aR (L++D)) (L++D)=fQ L D:=by
 unfold fQ cU fe iX;rw[a0L]
 congr 2
 apply List.map_congr_left;intro x c;have:=b x c;exact np h (by rw[a];omega)
theorem FI{b base:Nat}{C:Array Value}(h:sL w b base l C):∃a cap,w.cell? ⟨b,0,none⟩=some (.slice a l.length cap)/\aZ w a l:=by
 obtain⟨⟨a,cap,ac,f,q,sc,e,c,h2,g⟩,d,_⟩:=h;refine⟨a,cap,?_,c.1⟩;have:=d 0 (.slice a l.length cap) (by rw[e];rfl);simpa using this
def pU:Array Value:=#[Value.slice none 0 0,Value.slice none 0 0,Value.int .i64 0,Value.int .i64 0,Value.int .i64 0,Value.int .i64 0,Value.int .i64 0,Value.int .i64 0,Value.int .i64 0,Value.int .i64 0,Value.int .i64 0,Value.int .i64 0,Value.int .i64 0,Value.int .i64 0,Value.int .i64 0,Value.int .i64 0,Value.int .i64 0,Value.int .i64 0,Value.slice none 0 0]
theorem CJ(gL gD nL b nD a base:Nat)(L D:List Int)(w:World)(n:L.length=nL)(m:D.length=nD)(j:am w base (.slice (some ⟨gL,0,none⟩) nL b) L)(h:am w base (.slice (some ⟨gD,0,none⟩) nD a) D)(o:nL+nD<=1000) :
  Calls prog 181 #[.slice (some ⟨w.heap.size,0,none⟩) 2 2] (w.alloc (.cells #[.slice (some ⟨gL,0,none⟩) nL b,.slice (some ⟨gD,0,none⟩) nD a] 137)) fun e w'=>∃v,e = .returned v/\am w' w.heap.size v (L++D)/\Below w.heap.size w w':=by
 have d:Below w.heap.size w (w.alloc (.cells #[.slice (some ⟨gL,0,none⟩) nL b,.slice (some ⟨gD,0,none⟩) nD a] 137)):=(a0c _ _).alloc (a0a _) _;have k:i6 (w.alloc (.cells #[.slice (some ⟨gL,0,none⟩) nL b,.slice (some ⟨gD,0,none⟩) nD a] 137)) w.heap.size base [(.slice (some ⟨gL,0,none⟩) nL b,L.map (Value.int .i64)),(.slice (some ⟨gD,0,none⟩) nD a,D.map (Value.int .i64))]:=by
  intro i l
  match i,l with
  | 0,_=>exact⟨by simp,_,j.later d (a0a _),a1l .i64 _⟩
  | 1,_=>exact⟨by simp,_,h.later d (a0a _),a1l .i64 _⟩
 have c:aO [(Value.slice (some ⟨gL,0,none⟩) nL b,L.map (Value.int .i64)),(.slice (some ⟨gD,0,none⟩) nD a,D.map (Value.int .i64))]=(L++D).length:=by simp[aO,cw]
 refine(pV w.heap.size base 2 2 _ _ rfl (by omega) (by omega) k (by rw[c,a0j];omega)).mono ?_;rintro e x5 ⟨v,rfl,g,hb⟩;refine⟨v,rfl,?_,ai d hb⟩;have f:dj [(Value.slice (some ⟨gL,0,none⟩) nL b,L.map (Value.int .i64)),(.slice (some ⟨gD,0,none⟩) nD a,D.map (Value.int .i64))]=(L++D).map (Value.int .i64):=by
  simp only[dj,a0V,a2o,a0I,a1c]
 rw[c,f]at g;exact am.mono (base:=(w.alloc (.cells #[.slice (some ⟨gL,0,none⟩) nL b,.slice (some ⟨gD,0,none⟩) nD a] 137)).heap.size) g (by simp)
theorem xX(gL gD nL cL nD cD base:Nat)(L D:List Int)(w:World)(O:L.length=nL)(N:D.length=nD)(hL:am w base (.slice (some ⟨gL,0,none⟩) nL cL) L)(hD:am w base (.slice (some ⟨gD,0,none⟩) nD cD) D)
  (l0:257<=nL) (l1:nL<=286) (d0:1<=nD) (d1:nD<=30) (kL:au L=true) (kD:au D=true) (hO:dT w) :
  Calls prog 148 #[.slice (some ⟨gL,0,none⟩) nL cL,.slice (some ⟨gD,0,none⟩) nD cD] w fun e w'=>∃v,e = .returned v/\Pcs w' w.heap.size v (fQ L D)/\Below w.heap.size w w':=by
 obtain⟨i0,hi,cp,cr,cs⟩:=a0o Tryz.infoInt;obtain⟨j0,hj,bl,bn,bs⟩:=a0o Tryz.infoPiece;have Z:Hid (∀x∈L++D,0<=x/\x<=15):=by
  intro x hx;rcases a0T.1 hx with h|h
  . exact nh kL x h
  . exact nh kD x h
 obtain⟨nA,hnA⟩:∃nA,(L++D).length=nA:=⟨_,rfl⟩;have bb:nA=nL+nD:=by rw[←hnA,a0j,O,N]
 have r:=ae (DC (L++D) (by omega) (by omega) (ab Z));have HS:=ae (Hv (L++D) (by omega) (by omega) (ab Z));have HT:=ae (Em L D (ab r).2.1 (ab r).1 (ab Z));have Q:=ae (CJ gL gD nL cL nD cD base L D w O N hL hD (by omega));have HB:Hid (cU L D=[((nL:Int)-257,5),((nD:Int)-1,5),(15,4)]):=by show cU L D=_;unfold cU;rw[O,N]
 have nLI:(nL:Int)<=286:=by omega
 have nDI:(nD:Int)<=30:=by omega
 have nLI0:(257:Int)<=(nL:Int):=by omega
 have nDI0:(1:Int)<=(nD:Int):=by omega
 have nAI:(nA:Int)<=316:=by omega
 have B:Hid (1<=nA/\nA<=316):=by show _/\_;omega
 have HO:=ae hO;clear hL hD kL kD l0 l1 d0 d1 O N bb hO;generalize b8:L++D=A at *
 have f:=ae hnA;clear hnA b8;go_enter func148,ntmps148;go_wp2_with fail;refine(ab Q).mono ?_;rintro e x1 ⟨v1,rfl,o1,b1⟩;obtain⟨a1,c1,rfl⟩:=o1.formN (ab f);obtain⟨g1,rfl⟩:=o1.somes (by have:=ab f;have:=ab B;omega);have O1:=ae o1;have S:=ae b1;clear o1 b1 Q
 go_wp2_with (at_make;refine a1w _ rfl _ _ 137 rfl w.heap.size 3 i0 (.int .i64 0) 1 a0C hi cp cr .i64 .i64 _ _ 19 rfl rfl rfl rfl (by rw[cs];omega) (by unfold maxLen;omega) (ab S).size ?_;intro x2 d b);have a8:=(ab O1).below.2;obtain⟨gC,hgC⟩:∃gC,x1.heap.size=gC:=⟨_,rfl⟩;have b2:=fZ b;have o2:=cY d;rw[hgC]at d o2 a8;have M:=ai (ab S) b2;have o1:=(ab O1).later b2 (a0a _);have ch:gC≠g1:=by omega
 rw[hgC];clear d b b2 O1 S hgC a8
 go_loopw [8,20] (fun _ i wr=>∃k:Nat,k<=nA/\i = .int .i64 k/\am wr w.heap.size (.slice (some ⟨g1,0,none⟩) nA c1) A/\am wr w.heap.size (.slice (some ⟨gC,0,none⟩) 19 19) (fT (List.replicate 19 0) ((A.take k).map Int.toNat))/\Below w.heap.size w wr) (fun _ i _=>nA-(intOf i).toNat)
 case atStart=>exact⟨0,a0g _,rfl,o1,o2,M⟩
 case round=>
  obtain⟨k,hk,rfl,E,n,a⟩:=hrel;clear o1 o2 M;by_cases l:k<nA
  .
   obtain⟨c0,_,_,_⟩:=E.at (ab f) l;have a9:A.getD k 0∈A:=by have:=ab f;simp[List.getD,show k<A.length by omega]
   have K:=ab Z _ a9;have J:Hid ((A.take (k+1)).map Int.toNat=(A.take k).map Int.toNat++[(A.getD k 0).toNat]):=by
    show _=_;rw[ci A k (by rw[ab f];exact l),a0I];rfl
   have V:(fT (List.replicate 19 0) ((A.take k).map Int.toNat)).length=19:=by rw[ep,a0x]
   obtain⟨y,hy⟩:=a0t K.1;rw[hy]at J c0 K;rw[a0p]at J;have hb:=oY 19 ((A.take k).map Int.toNat) y;have p:((A.take k).map Int.toNat).length<=nA:=by simp;omega
   obtain⟨d0,d1,d2,d3⟩:=n.at (j:=y) V (by omega);have hP:=n.put (j:=y) V ((fT (List.replicate 19 0) ((A.take k).map Int.toNat)).getD y 0+1);have a4:Hid (∀u,am (wr.setCell ⟨gC,y,none⟩ u) w.heap.size (.slice (some ⟨g1,0,none⟩) nA c1) A/\Below w.heap.size w (wr.setCell ⟨gC,y,none⟩ u)):=fun u=>⟨E.setOther ch u,ah a d2 u⟩;have HP:Hid (am (wr.setCell ⟨gC,y,none⟩ (.int .i64 ((fT (List.replicate 19 0) ((A.take k).map Int.toNat)).getD y 0+1))) w.heap.size (.slice (some ⟨gC,0,none⟩) 19 19) (fT (List.replicate 19 0) ((A.take (k+1)).map Int.toNat))):=by
    show am _ _ _ _;rw[ab J,g9];exact hP
   generalize (fT (List.replicate 19 0) ((A.take k).map Int.toNat)).getD y 0=z at *
   have c8:(y:Int)<19:=by omega
   have c9:z<=400:=by have:=ab B;omega
   have cv:0<=z:=hb.1;have Hk:=ae hk;clear hP n E a p hb K hy a9 hk V d2 d3;go_wp2;go_roundw
   case rel=>exact⟨k+1,by have:=ab Hk;omega,by go_num,(ab a4 _).1,ab HP,(ab a4 _).2⟩
   case measure=>simp[intOf];omega
  .
   have ba:A.take k=A:=a0u (by rw[ab f];omega);rw[ba]at n;have a0:am wr w.heap.size (.slice (some ⟨gC,0,none⟩) 19 19) (nV A):=n;have HL:=ae (jr (some ⟨gC,0,none⟩) 19 19 (nV A) 7 wr (fJ A) (a0.rowN (fJ A)) (by omega));rw[ab HS]at HL;have O1:=ae E;have S:=ae a;clear ba n a0 E a;go_wp2_with fail;refine(ab HL).mono ?_;rintro e x3 ⟨⟨v3,rfl,o3⟩,b3⟩;obtain⟨a3,c3,rfl⟩:=o3.formN (ab r).1;have O1':=ae ((ab O1).later b3 (a0a _));have B3:=ae (ai (ab S) b3);have ac:=ae (Ai a3 c3 19 w.heap.size (aR A) x3 (ab r).1 ((bG (ab r).1 (o3.own (ab r).1)).mono (ab S).size) (ab B3).size (by omega));clear o3 b3 HL O1 S;go_wp2_with fail;refine(ab ac).mono ?_;rintro e x4 ⟨⟨C,rfl,k4⟩,b4⟩;have O1:=ae ((ab O1').later b4 (a0a _));have B4:=ae (ai (ab B3) b4);have K4:=ae k4;have T:=ae k4.size;have ad:=ae k4.one;clear k4 b4 ac O1' B3;have b5:Below x4.heap.size x4 ((x4.alloc (.cells pU 268)).setCells x4.heap.size 0 C.toList):=below_setCells (a0a _) _ _ _ ((a0c _ _).alloc (a0a _) _);have Y:(x4.alloc (.cells pU 268)).there x4.heap.size 0 19:=ij x4 pU _ 19 rfl;have bk:=World.rangeAt_setCells_same (x4.alloc (.cells pU 268)) x4.heap.size 0 C.toList (by rw[a1W,ab T];exact Y);have m:sL ((x4.alloc (.cells pU 268)).setCells x4.heap.size 0 C.toList) x4.heap.size w.heap.size (aR A) C:=⟨(ab K4).later b5,bk,by rw[size_setCells];simp⟩;have U:=ae Y;have s:=ae b5;have aa:=ae m;unfold pU at U s aa;clear b5 Y bk m K4;go_wp2_with (first
    | (refine wpList_store_mid rfl 268 (.tmp 9) (.tmp 33) rfl x4.heap.size 0 C rfl rfl (by rw[ab T];exact ab U) (by rw[ab T];exact Tryz.infoLenK) (ab ad) ?_;generalize co:World.setCells _ x4.heap.size 0 C.toList=x5 at *;clear co U)
    | (refine bi rfl 271 (.global 1) rfl 1 0 rfl GU _ (dT.later (dT.later (dT.later (ab HO) (ab B4)) (ab s)) ((a0c _ _).alloc (a0a _) _)).1 underlying271 rfl Tryz.infoOrd ?_))
   have bc:Pcs (x5.alloc (.cells #[.int .i64 ((nL:Int)-256-1),.int .i64 5,.int .i64 ((nD:Int)-1),.int .i64 5,.int .i64 15,.int .i64 4] 185)) x5.heap.size (.slice (some ⟨x5.heap.size,0,none⟩) 3 3) (cU L D++fe (aR A) 0):=by
    have e0:cU L D++fe (aR A) 0=[((nL:Int)-256-1,5),((nD:Int)-1,5),(15,4)]:=by rw[ab HB];simp only[fe,a3S,a1X,a1c];congr 2;omega
    rw[e0];exact a05 x5 #[.int .i64 ((nL:Int)-256-1),.int .i64 5,.int .i64 ((nD:Int)-1),.int .i64 5,.int .i64 15,.int .i64 4] 3 (a0a _) (by unfold maxLen;omega) rfl
   have an:Below x5.heap.size x5 (x5.alloc (.cells #[.int .i64 ((nL:Int)-256-1),.int .i64 5,.int .i64 ((nD:Int)-1),.int .i64 5,.int .i64 15,.int .i64 4] 185)):=(a0c _ _).alloc (a0a _) _;have O5:=ae ((ab O1).later (ab s) (a0a _));have B5:=ae (ai (ab B4) (ab s));generalize x5.alloc (.cells #[.int .i64 ((nL:Int)-256-1),.int .i64 5,.int .i64 ((nD:Int)-1),.int .i64 5,.int .i64 15,.int .i64 4] 185)=x6 at *
   generalize x4.heap.size=b9 at *
   clear s B4 O1
   go_loopw [10,12,46] (fun o _ i wr=>∃j:Nat,j<=19/\i = .int .i64 j/\Pcs wr x5.heap.size o (cU L D++fe (aR A) j)/\Below x5.heap.size x5 wr) (fun _ _ i _=>19-(intOf i).toNat)
   case atStart=>exact⟨0,by omega,rfl,bc,an⟩
   case round=>
    obtain⟨j,F,rfl,hp,a⟩:=hrel;clear bc an x6;have m:=(ab aa).later a;have p:Hid ((cU L D++fe (aR A) j).length=3+j):=by show _=_;rw[a0j,uw _ _ F];rfl
    have a5:=a.size;by_cases l:j<19
    .
     have c5:=GV j l;have W:=yl j l;have J:Hid (cU L D++fe (aR A) (j+1)=(cU L D++fe (aR A) j)++[((aR A).getD (bY.getD j 0) 0,3)]):=by show _=_;rw[wo (aR A) j l,a0L]
     obtain⟨a7,cu,cg,a2⟩:=FI m;rw[(ab r).1]at cg;obtain⟨g7,o7,rfl,cy,a6⟩:=a2 (by rw[(ab r).1];omega);have d7:=a6 (bY.getD j 0) (by rw[(ab r).1];exact W);have K:=(ab r).2.2 (bY.getD j 0) W;generalize (aR A).getD (bY.getD j 0) 0=y at *
     generalize bY.getD j 0=q at *
     have c7:(q:Int)<19:=by omega
     have c6:(j:Int)<19:=by omega
     have H:Hid ((cU L D++fe (aR A) j).length+1<=maxLen/\((cU L D++fe (aR A) j).length+1)*16<=140737488355328):=by
      show _/\_;rw[ab p];unfold maxLen;omega
     have Hj:=ae l;clear m a6 W a2 K F l;go_wp2_with (at_builtin;refine a0r _ rfl _ _ 182 rfl x5.heap.size 185 j0 (.agg #[.int .i64 0,.int .i64 0]) 2 16 a1p hj bl bn bs rfl (by decide) _ _ _ rfl (a0k hp _) ⟨wr.heap.size,0,none⟩ 1 1 [.int .i64 y,.int .i64 3] rfl rfl (sH wr _ _ _) (sG _ _) (ab H).1 (ab H).2 (ao a5 _) ?_;intro v' x2 d b I;clear I);have M:=aC (v:=u10) b hp (a0a _) a5 a;have be:=my d;rw[←ab J]at be;exact⟨⟨j+1,by have:=ab Hj;omega,by go_num,be,M⟩,by have:=ab Hj;simp[intOf];omega⟩
    .
     obtain rfl:j=19:=by omega
     have t:=ae (FU (some ⟨g1,0,none⟩) c1 nA b9 w.heap.size A (aR A) C wr (ab f) (((ab O5).later a (a0a _)).rowN (ab f)) (by have:=ab B;omega) m (by rw[(ab r).1];omega) (fun i hi=>by rw[(ab r).1];have:=ab Z (A.getD i 0) (by simp[List.getD,hi]);omega));obtain⟨ga,ca,rfl⟩:∃ga ca,u10 = .slice (some ⟨ga,0,none⟩) 22 ca:=by
      obtain⟨g,c,e⟩:=uA hp (by rw[ab p];omega);rw[ab p]at e;exact⟨g,c,e⟩
     have HP:=ae hp;have P:=ae a;clear hp a m l F;go_wp2_with fail;refine(ab t).mono ?_;rintro e x7 ⟨v7,rfl,X,b7⟩;have G:Hid ((iX (aR A) A).length=nA):=by show _=_;unfold iX;rw[a0K];exact ab f
     obtain⟨ga7,ca7,rfl⟩:∃ga ca,v7 = .slice (some ⟨ga,0,none⟩) nA ca:=by
      obtain⟨g,c,e⟩:=uA X (by rw[ab G];have:=ab B;omega);rw[ab G]at e;exact⟨g,c,e⟩
     have b6:=ae (X.newsN (ab G));have al:=ae (dR (ab HP) b7);have R:x5.heap.size<=x7.heap.size:=a0E (ab P).size b7.size;have b0:=ae (ai (ab P) b7);have bd:Hid ((cU L D++fe (aR A) 19).length+nA<=maxLen/\((cU L D++fe (aR A) 19).length+nA)*16<=140737488355328):=by
      show _/\_;rw[ab p];have:=ab B;unfold maxLen;omega
     clear X b7 t;go_wp2_with (at_builtin;refine a0r _ rfl _ _ 182 rfl x5.heap.size 185 j0 (.agg #[.int .i64 0,.int .i64 0]) 2 16 a1p hj bl bn bs rfl (by decide) _ _ _ rfl (ab al) ⟨ga7,0,none⟩ nA ca7 (aU (iX (aR A) A)) rfl (by rw[lu,ab G]) (ab b6) (ie _) (ab bd).1 (ab bd).2 R ?_;intro v' x8 d b I;clear I);go_ret;have cc:Below x5.heap.size x5 x8:=(ab b0).grown b R (fun j hj=>(a0y (ab al) j hj).1);refine⟨_,rfl,?_,ai (ab B5) cc⟩;rw[←ab HT];have h9:Pcs x8 x5.heap.size v' ((cU L D++fe (aR A) 19)++iX (aR A) A):=by
      show World.ownsRow _ _ _ _ _ _ _;rw[eG,a0j,ab G];exact d
     exact pu h9 (ab B5).size
def iN(T:List Tk)(k:Nat):List Int:=fT (inc (List.replicate 286 0) 256) ((T.take k).map iO)
def fX(T:List Tk)(k:Nat):List Int:=fT (List.replicate 30 0) ((T.take k).flatMap eK)
theorem pi(T:List Tk)(k:Nat):(iN T k).length=286:=by unfold iN;rw[ep,jd,a0x]
theorem vK(T:List Tk)(k:Nat):(fX T k).length=30:=by unfold fX;rw[ep,a0x]
theorem oF(T:List Tk)(k:Nat)(h:k<T.length):T.take (k+1)=T.take k++[T.getD k k0]:=by
 rw[a1b h]
 congr 1
 simp[List.getD,h]
theorem GF(T:List Tk)(k:Nat)(h:k<T.length):iN T (k+1)=inc (iN T k) (iO (T.getD k k0)):=by
 unfold iN;rw[oF T k h,a0I,a2p,g9]
theorem GG(T:List Tk):iN T 0=(List.replicate 286 (0:Int)).set 256 1:=by
 unfold iN inc;rw[a3S,io];rfl
theorem Mf(T:List Tk)(k:Nat)(h:k<T.length)(hb:isB (T.getD k k0)=true):fX T (k+1)=fX T k:=by
 unfold fX;rw[oF T k h,a12];have:[T.getD k k0].flatMap eK=[]:=by simp only[a0V,a2o,a1c];unfold eK;rw[a0e hb]
 rw[this,a1c]
theorem Mg(T:List Tk)(k:Nat)(h:k<T.length)(hb:isB (T.getD k k0)=false):fX T (k+1)=inc (fX T k) (fnd 1 2 (T.getD k k0).2.2.toNat 29):=by
 unfold fX;rw[oF T k h,a12];have:[T.getD k k0].flatMap eK=[fnd 1 2 (T.getD k k0).2.2.toNat 29]:=by simp only[a0V,a2o,a1c];unfold eK;rw[a0d (by rw[hb];exact Bool.false_ne_true)]
 rw[this,g9]
theorem EU(T:List Tk)(k j:Nat)(a:k<=300):0<=(iN T k).getD j 0/\(iN T k).getD j 0<=301:=by
 unfold iN;rw[kA,ll,io];have:((T.take k).map iO).count j<=((T.take k).map iO).length:=a3h;rw[a0K,a0s]at this
 split<;>split<;>omega
theorem zh(T:List Tk)(k j:Nat)(b:k<=300):0<=(fX T k).getD j 0/\(fX T k).getD j 0<=300:=by
 have a:=oY 30 ((T.take k).flatMap eK) j;have h2:=tf (T.take k);rw[a0s]at h2;unfold fX;omega
theorem JP{t:Tk}(h:isB t=true):t.2.1=0:=by unfold isB at h;simp only[a0n,a0w]at h;exact h.1
def rT(w W:World)(B gl gd g4 c4 g6 c6:Nat)(A D:List Int):Prop:=
 (am W w.heap.size (.slice (some ⟨gl,0,none⟩) 286 286) A/\am W w.heap.size (.slice (some ⟨gd,0,none⟩) 30 30) D)/\(am W B (.slice (some ⟨g4,0,none⟩) 28 c4) jQ/\am W B (.slice (some ⟨g6,0,none⟩) 30 c6) jK)/\Below w.heap.size w W/\gl≠gd/\gl<B/\gd<B
theorem rT.drew(h:rT w W B gl gd g4 c4 g6 c6 A D):rT w W.drew B gl gd g4 c4 g6 c6 A D:=⟨h.1,h.2.1,h.2.2.1.drew,h.2.2.2⟩
theorem rT.putL(h:rT w W B gl gd g4 c4 g6 c6 A D)(i:A.length=286)(j:Nat)(x:Int):rT w (W.setCell ⟨gl,j,none⟩ (.int .i64 x)) B gl gd g4 c4 g6 c6 (A.set j x) D:=by
 obtain⟨⟨a,h2⟩,⟨b,c⟩,e,d,f,g⟩:=h;have e3:=b.below.1;have e4:=c.below.1;exact⟨⟨a.put i x,h2.setOther d _⟩,⟨b.setOther (by omega) _,c.setOther (by omega) _⟩,ah e a.below.1 _,d,f,g⟩
theorem rT.putD(h:rT w W B gl gd g4 c4 g6 c6 A D)(i:D.length=30)(j:Nat)(x:Int):rT w (W.setCell ⟨gd,j,none⟩ (.int .i64 x)) B gl gd g4 c4 g6 c6 A (D.set j x):=by
 obtain⟨⟨d,h2⟩,⟨a,b⟩,e,c,f,g⟩:=h;have e3:=a.below.1;have e4:=b.below.1;exact⟨⟨d.setOther c.symm _,h2.put i x⟩,⟨a.setOther (by omega) _,b.setOther (by omega) _⟩,ah e h2.below.1 _,c,f,g⟩
theorem xV(ta:Option Addr)(tcap tn:Nat)(T:List Tk)(w:World)(aa:T.length=tn)(hT:Cj w ta T)(Z:tn<=300)(V:∀t∈T,okT t=true) :
  Calls prog 125 #[.slice ta tn tcap] w fun e w'=>(∃gl gd,e = .returned (.tuple #[.slice (some ⟨gl,0,none⟩) 286 286,.slice (some ⟨gd,0,none⟩) 30 30])/\am w' w.heap.size (.slice (some ⟨gl,0,none⟩) 286 286) (fN T)/\am w' w.heap.size (.slice (some ⟨gd,0,none⟩) 30 30) (cn T))/\Below w.heap.size w w':=by
 obtain⟨i0,hi,ac,ad,al⟩:=a0o Tryz.infoInt;have u:=ae aa;have HT:=ae hT;have L:=ae Z;have a1:=ae V;have be:(tn:Int)<=300:=by omega
 clear aa hT Z V;go_enter func125,ntmps125;go_wp2_with (first
  | (at_make;refine a1w _ rfl _ _ 137 rfl w.heap.size 3 i0 (.int .i64 0) 1 a0C hi ac ad .i64 .i64 _ _ 286 rfl rfl rfl rfl (by rw[al];omega) (by unfold maxLen;omega) (a0a _) ?_;intro x1 R O;have m:=fZ O;have o1:=cY R;clear O R)
  | (at_make;refine a1w _ rfl _ _ 137 rfl w.heap.size 3 i0 (.int .i64 0) 1 a0C hi ac ad .i64 .i64 _ _ 30 rfl rfl rfl rfl (by rw[al];omega) (by unfold maxLen;omega) m.size ?_;intro x2 S P;have n:=fZ P;have o2:=cY S;clear P S))
 have lt1:=o1.below.2;have O1:=ae (o1.later n (a0a _));have O2:=ae o2;have B2:=ae (ai m n);have lt2:=o2.below.2;obtain⟨gl,hgl⟩:∃g,w.heap.size=g:=⟨_,rfl⟩;obtain⟨gd,hgd⟩:∃g,x1.heap.size=g:=⟨_,rfl⟩;have a3:gl≠gd:=by omega
 have v:gl<x2.heap.size:=by omega
 have x:gd<x2.heap.size:=by omega
 rw[hgd]at O2;have K:Hid (am x2 w.heap.size (.slice (some ⟨gl,0,none⟩) 286 286) (List.replicate 286 0)):=by show am _ _ _ _;have:=ab O1;rw[hgl]at this ⊢;exact this
 rw[hgd];have eg:Value.slice (some ⟨w.heap.size,0,none⟩) 286 286 = .slice (some ⟨gl,0,none⟩) 286 286:=by rw[hgl]
 rw[eg];clear o1 o2 m n lt1 lt2 O1 eg hgl hgd;refine(om _).mono ?_;rintro e x3 ⟨⟨g3,rfl,o3⟩,b3⟩;have R3:=ae (o3.rowN rfl);have B3:=ae b3;clear o3 b3;go_wp2_with fail;refine(ju _ 28 _ (ab R3)).mono ?_;rintro e x4 ⟨v4,rfl,o4,b4⟩;obtain⟨a4,c4,rfl⟩:=o4.formN fw;obtain⟨g4,rfl⟩:=o4.somes (by rw[fw];omega);have O4:=ae (o4.mono (ab B3).size);have B4:=ae (ai (ab B3) b4);clear o4 b4 B3 R3;go_wp2_with fail;refine(nT _).mono ?_;rintro e x5 ⟨⟨g5,rfl,o5⟩,b5⟩;have R5:=ae (o5.rowN rfl);have B5:=ae (ai (ab B4) b5);have O4':=ae ((ab O4).later b5 (a0a _));clear o5 b5 O4;go_wp2_with fail;refine(jt _ 30 _ (ab R5)).mono ?_;rintro e x6 ⟨v6,rfl,o6,b6⟩;obtain⟨a6,c6,rfl⟩:=o6.formN fo;obtain⟨g6,rfl⟩:=o6.somes (by rw[fo];omega);have X:=(ab B5).size;have O4:am x6 x2.heap.size (.slice (some ⟨g4,0,none⟩) 28 c4) jQ:=(ab O4').later b6 (a0a _);have O6:am x6 x2.heap.size (.slice (some ⟨g6,0,none⟩) 30 c6) jK:=o6.mono X;have B6:=ai (ab B5) b6;have E:rT w x6 x2.heap.size gl gd g4 c4 g6 c6 (List.replicate 286 0) (List.replicate 30 0):=⟨⟨(ab K).later B6 (a0a _),(ab O2).later B6 (a0a _)⟩,⟨O4,O6⟩,ai (ab B2) B6,a3,v,x⟩;have F:=E.putL (a0x ..) 256 1;have e1:(List.replicate 286 (0:Int)).set 256 1=iN T 0:=(GG T).symm;rw[e1]at F;have M:rT w (x6.setCell ⟨gl,256,none⟩ (.int .i64 1)) x2.heap.size gl gd g4 c4 g6 c6 (iN T 0) (fX T 0):=F;obtain⟨f1,f2,_,_⟩:=E.1.1.at (j:=256) (a0x ..) (by omega);clear E F e1 O4 O6 B6 b6 o6 K O2 B2 B4 O4' X R5 B5 v x;generalize x2.heap.size=B at *
 go_wp2_with fail
 go_loopw [8,9] (fun i _ wr=>∃k:Nat,k<=tn/\i = .int .i64 k/\rT w wr B gl gd g4 c4 g6 c6 (iN T k) (fX T k)) (fun i _ _=>tn-(intOf i).toNat)
 case atStart=>exact⟨0,a0g _,rfl,M⟩
 case round=>
  obtain⟨k,hk,rfl,l⟩:=hrel;clear M f1 f2;by_cases H:k<tn
  .
   obtain⟨g,o,rfl,hg,N⟩:=(ab HT) (by rw[ab u];omega);obtain⟨c0,c1,c2⟩:=N k (by rw[ab u];exact H);have d0:=(l.2.2.1.cell (p:=⟨g,o+k*3,none⟩) hg).trans c0;have d1:=(l.2.2.1.cell (p:=⟨g,o+k*3+1,none⟩) hg).trans c1;have d2:=(l.2.2.1.cell (p:=⟨g,o+k*3+2,none⟩) hg).trans c2;have a2:g≠gl:=by have:=l.1.1.below.1;omega
   clear c0 c1 c2;have c:k<T.length:=by rw[ab u];exact H
   have Y:=ab a1 (T.getD k k0) (by simp[List.getD,c]);have f:=ae (GF T k c);have a:k<=300:=by have:=ab L;omega
   have Hk:=ae H;clear N;cases hb:isB (T.getD k k0)
   .
    have hK:isK (T.getD k k0)=true:=by unfold okT at Y;rw[hb]at Y;simpa using Y
    obtain⟨q1,q2,q3,q4⟩:=tI hK;have r:=ae (Mg T k c hb);have e2:iO (T.getD k k0)=257+fnd 3 4 (T.getD k k0).2.1.toNat 27:=by unfold iO;rw[a0d (by rw[hb];exact Bool.false_ne_true)]
    rw[e2]at f;obtain⟨y,hy⟩:=a0t (show 0<=(T.getD k k0).2.1 by omega);obtain⟨z,A⟩:=a0t (show 0<=(T.getD k k0).2.2 by omega);rw[hy]at d1 q1 q2 f;rw[A]at d2 q3 q4 r;rw[a0p]at f r;have C:=ae (fun W (h:aZ W (some ⟨g4,0,none⟩) jQ)=>nf (some ⟨g4,0,none⟩) c4 28 jQ (y:Int) W fw h (by omega) (by omega));have D:=ae (fun W (h:aZ W (some ⟨g6,0,none⟩) jK)=>nf (some ⟨g6,0,none⟩) c6 30 jK (z:Int) W fo h (by omega) (by omega));rw[As y (by omega) (by omega)]at C;rw[yP z (by omega) (by omega)]at D;have k1:=gX 3 4 y 27;have k2:=gX 1 2 z 29;clear hb hK c e2 hy A Y;generalize fnd 3 4 y 27=p at *
    generalize fnd 1 2 z 29=q at *
    have m:=EU T k (257+p) a;have n:=zh T k q a;obtain⟨m1,m2,_,_⟩:=l.1.1.at (j:=257+p) (pi T k) (by omega);have d:=l.putL (pi T k) (257+p) ((iN T k).getD (257+p) 0+1);have el:(iN T k).set (257+p) ((iN T k).getD (257+p) 0+1)=iN T (k+1):=(ab f).symm;rw[el]at d;generalize (iN T k).getD (257+p) 0=ya at *
    obtain⟨m3,m4,_,_⟩:=d.1.2.at (j:=q) (vK T k) (by omega);have G:=d.putD (vK T k) q ((fX T k).getD q 0+1);have ed:(fX T k).set q ((fX T k).getD q 0+1)=fX T (k+1):=(ab r).symm;rw[ed]at G;generalize (fX T k).getD q 0=za at *
    have R1:=ae (ab C wr (l.2.1.1.rowN fw));have R2:=ae (ab D _ (d.2.1.2.rowN fo));have bb:(wr.setCell ⟨gl,257+p,none⟩ (.int .i64 (ya+1))).cell? ⟨g,o+k*3+2,none⟩=some (.int .i64 (z:Int)):=by
     rw[World.cell?_setCell_other _ _ _ _ (by intro e;simp only[a0B]at e;exact a2 e.1.symm)];exact d2
    have a0:=ae G;have bc:(257:Int)+(p:Int)<286:=by omega
    have bd:(q:Int)<30:=by omega
    have a8:ya<=301:=m.2;have bl:za<=300:=n.2;have a7:0<=ya:=m.1;have ba:0<=za:=n.1;have y0':¬ (y:Int)=0:=by omega
    clear l d G el ed m n k1 k2 q1 q2 q3 q4 C D a;go_wp2_with fail;refine(ab R1).mono ?_;rintro e x7 ⟨rfl,b⟩;rw[b];clear b x7;go_wp2_with fail;refine(ab R2).mono ?_;rintro e x7 ⟨rfl,b⟩;rw[b];clear b x7;go_wp2;go_roundw
    case rel=>exact⟨k+1,by have:=ab Hk;omega,by go_num,ab a0⟩
    case measure=>have:=ab Hk;simp[intOf];omega
   .
    obtain⟨q1,q2⟩:=qw hb;have A:=JP hb;have r:=ae (Mf T k c hb);have e2:iO (T.getD k k0)=(T.getD k k0).1.toNat:=by unfold iO;rw[a0e hb]
    rw[e2]at f;obtain⟨y,hy⟩:=a0t q1;rw[hy]at d0 q2 f;rw[A]at d1;rw[a0p]at f;clear hb c e2 hy A Y d2 q1;have m:=EU T k y a;obtain⟨m1,m2,_,_⟩:=l.1.1.at (j:=y) (pi T k) (by omega);have d:=l.drew.putL (pi T k) y ((iN T k).getD y 0+1);have el:(iN T k).set y ((iN T k).getD y 0+1)=iN T (k+1):=(ab f).symm;rw[el,←ab r]at d;generalize (iN T k).getD y 0=ya at *
    have an:=ae d;have a8:ya<=301:=m.2;have a7:0<=ya:=m.1;have bk:(y:Int)<286:=by omega
    clear l d el m a q2;go_wp2
    go_region
    go_wp2;go_roundw
    case rel=>exact⟨k+1,by have:=ab Hk;omega,by go_num,ab an⟩
    case measure=>have:=ab Hk;simp[intOf];omega
  .
   have c:T.take k=T:=a0u (by rw[ab u];omega);have Q:k<=300:=by have:=ab L;omega
   have eL:iN T k=fN T:=by unfold iN;rw[c];exact DG T
   have eD:fX T k=fC T:=by unfold fX fC;rw[c]
   have n:=zh T k 0 Q;rw[eL,eD]at l;rw[eD]at n;have HU:=ae (tR (some ⟨gd,0,none⟩) 30 30 (fC T) wr (fp T) (l.1.2.rowN (fp T)) (by omega));obtain⟨m1,m2,_,_⟩:=l.1.2.at (j:=0) (fp T) (by omega);have I:=ae l;clear l c Q eL eD;by_cases J:us (fC T)=0
   .
    have A:(fC T).getD 0 0=0:=by have:=Fw J 0 (by rw[fp];omega);omega
    have s:=ae ((ab I).putD (fp T) 0 1);have e1:(fC T).set 0 1=cn T:=by unfold cn;rw[a0e J];unfold inc;rw[A];rfl
    rw[e1]at s;rw[J]at HU;clear e1 A n I J;go_wp2_with fail;refine(ab HU).mono ?_;rintro e x7 ⟨rfl,b⟩;rw[b];clear b x7;go_wp2
    go_ret2
    exact⟨⟨gl,gd,rfl,(ab s).1.1,(ab s).1.2⟩,(ab s).2.2.1⟩
   .
    have e1:fC T=cn T:=by unfold cn;rw[a0d J]
    have a5:((us (fC T):Nat):Int)≠0:=by omega
    have a9:(((us (fC T):Nat):Int) == 0)=false:=by simpa using a5
    rw[e1]at I;clear e1 n J;generalize us (fC T)=U at *
    go_wp2_with fail;refine(ab HU).mono ?_;rintro e x7 ⟨rfl,b⟩;rw[b];clear b x7;go_wp2
    go_ret2
    exact⟨⟨gl,gd,rfl,(ab I).1.1,(ab I).1.2⟩,(ab I).2.2.1⟩
theorem wa{g o:Nat}(c:∀i,i<l.length->w.cell? ⟨g,o+i,none⟩=some (.int .i64 (l.getD i 0))):∀j u,(l.map (Value.int .i64))[j]?=some u->w.cell? ((⟨g,o,none⟩:Addr).add j)=some u:=by
 intro j u d;have b:j<l.length:=by have:=(List.getElem?_eq_some_iff.1 d).1;simpa using this
 have a:(⟨g,o,none⟩:Addr).add j=⟨g,o+j,none⟩:=by unfold Addr.add;split<;>simp_all
 rw[a,c j b,←d];simp[List.getD,b]
def kC(l:List Int)(t:List Int):List (Int×Int):=t.map fun x=>pcM l x.toNat
theorem DD(l t:List Int)(k:Nat)(h:k<t.length):kC l (t.take (k+1))=kC l (t.take k)++[pcM l (t.getD k 0).toNat]:=by
 unfold kC;rw[ci t k h,a0I];rfl
theorem OR(L D:List Int):cU L D++(fe (aR (L++D)) 19++kC (aR (L++D)) (L++D))=fQ L D:=rfl
def LR(W:World)(b:Nat)(A l:List Int)(gA g7 gc:Option Addr):Prop:=iM W b gA A/\iM W b g7 l/\iM W b gc (aV l 15).2
theorem LR.keep{W':World}{b:Nat}{gA g7 gc:Option Addr}(h:LR W b A l gA g7 gc)(a:bV b W W'):LR W' b A l gA g7 gc:=⟨h.1.keep a,h.2.1.keep a,h.2.2.keep a⟩
theorem Gz(b:Nat)(p:Nat×Nat)(a aD:Option Addr)(cL nL cD nD:Nat)(L D:List Int)(w:World)(ho:jI w b p)(hL:aZ w a L)(hD:aZ w aD D)(a1:L.length=nL)(a0:D.length=nD)
  (l0:257<=nL) (l1:nL<=286) (d0:1<=nD) (d1:nD<=30) (kL:au L=true) (kD:au D=true) (hp:p.2<=1000) :
  Calls prog 128 #[.pointer (some ⟨b,0,none⟩),.slice a nL cL,.slice aD nD cD] w fun e w'=>e = .returned (.tuple #[])/\jI w' b (aX p (fQ L D))/\KB b w w':=by
 obtain⟨i0,hi,be,bk,bl⟩:=a0o Tryz.infoInt;have ac:b<w.heap.size:=Out.lt ho;have HA:Hid (∀x∈L++D,0<=x/\x<=15):=by
  intro x F;rcases a0T.1 F with h|h
  . exact nh kL x h
  . exact nh kD x h
 obtain⟨nA,hnA⟩:∃nA,(L++D).length=nA:=⟨_,rfl⟩;have d3:nA=nL+nD:=by rw[←hnA,a0j,a1,a0]
 have K:=ae (DC (L++D) (by omega) (by omega) (ab HA));have HQ:=ae (OR L D);have HU:=ae (xj (L++D) (by omega) (ab HA));have d5:=ae (xi (L++D) (by omega));have HB:Hid (cU L D=[((nL:Int)-257,5),((nD:Int)-1,5),(15,4)]):=by show cU L D=_;unfold cU;rw[a1,a0]
 have bs:Hid (pOk ((nL:Int)-257) 5=true/\pOk ((nD:Int)-1) 5=true):=by
  have:p2 (5:Int).toNat=32:=by decide
  exact⟨aS.2 ⟨by omega,by omega,by rw[this];omega⟩,aS.2 ⟨by omega,by omega,by rw[this];omega⟩⟩
 obtain⟨g,o,rfl,hg,c5⟩:=hL (by omega);obtain⟨g',o',rfl,c6,a4⟩:=hD (by omega);have O:Below w.heap.size w (w.alloc (.cells #[] 3)):=(a0c _ _).alloc (a0a _) _;have ba:World.ownsRow (w.alloc (.cells #[] 3)) w.heap.size 3 1 (.slice (some ⟨w.heap.size,0,none⟩) 0 0) 0 []:=a05 w #[] 0 (a0a _) (by unfold maxLen;omega) rfl;have T:=ae (wa (w:=w.alloc (.cells #[] 3)) (g:=g) (o:=o) (l:=L) (fun i hi=>by rw[O.cell (p:=⟨g,o+i,none⟩) hg];exact c5 i hi));have E:Hid (∀W,Below w.heap.size w W->∀j u,(D.map (Value.int .i64))[j]?=some u->W.cell? ((⟨g',o',none⟩:Addr).add j)=some u):=fun W hW=>wa (fun i hi=>by rw[hW.cell (p:=⟨g',o'+i,none⟩) c6];exact a4 i hi);have dv:Hid ((L.map (Value.int .i64)).length=nL*1):=by show _=_;simp[a1]
 have ds:Hid ((D.map (Value.int .i64)).length=nD*1):=by show _=_;simp[a0]
 have R:Hid ((0+nL<=maxLen/\(0+nL)*8<=140737488355328)/\(0+nL+nD<=maxLen/\(0+nL+nD)*8<=140737488355328)):=by show(_/\_)/\_/\_;unfold maxLen;omega
 have nLI:(nL:Int)<=286:=by omega
 have nDI:(nD:Int)<=30:=by omega
 have nLI0:(257:Int)<=(nL:Int):=by omega
 have nDI0:(1:Int)<=(nD:Int):=by omega
 have nAI:(nA:Int)<=316:=by omega
 have aa:Hid (1<=nA/\nA<=316/\nA=nL+nD):=by show _/\_;omega
 have HO:=ae ho;have Hp:=ae hp;clear hL hD kL kD l0 l1 d0 d1 a1 a0 d3 ho hp c5 a4 hg c6;generalize cg:L++D=A at *
 have bn:Hid (L.map (Value.int .i64)++D.map (Value.int .i64)=A.map (Value.int .i64)):=by show _=_;rw[←cg,a0I]
 have m:=ae hnA;clear hnA cg;go_enter func128,ntmps128;go_wp2_with (first
  | (at_builtin;refine a0r _ rfl _ _ 137 rfl w.heap.size 3 i0 (.int .i64 0) 1 8 a0C hi be bk bl rfl (by decide) _ _ _ rfl ba ⟨g,o,none⟩ nL cL (L.map (Value.int .i64)) rfl (ab dv) (ab T) (a1l .i64 _) (ab R).1.1 (ab R).1.2 O.size ?_;intro v1 x1 s t U;clear U;have Q:Below w.heap.size w x1:=O.grown t O.size (fun j hj=>(a0y ba j hj).1))
  | (at_builtin;refine a0r _ rfl _ _ 137 rfl w.heap.size 3 i0 (.int .i64 0) 1 8 a0C hi be bk bl rfl (by decide) _ _ _ rfl s ⟨g',o',none⟩ nD cD (D.map (Value.int .i64)) rfl (ab ds) (ab E _ Q) (a1l .i64 _) (ab R).2.1 (ab R).2.2 Q.size ?_;intro v2 x2 X B U;clear U;have a8:Below w.heap.size w x2:=Q.grown B Q.size (fun j hj=>(a0y s j hj).1))
  | (at_make;refine a1w _ rfl _ _ 137 rfl w.heap.size 3 i0 (.int .i64 0) 1 a0C hi be bk .i64 .i64 _ _ 19 rfl rfl rfl rfl (by rw[bl];omega) (by unfold maxLen;omega) a8.size ?_;intro x3 Y C))
 have N:am x2 w.heap.size v2 A:=by
  show World.ownsRow _ _ _ _ _ A.length _;rw[ab m,(ab aa).2.2,←ab bn];simpa using X
 obtain⟨aA,cA,rfl⟩:=N.formN (ab m);obtain⟨gA,rfl⟩:=N.somes (by have:=ab m;have:=ab aa;omega);have c7:=N.below.2;obtain⟨gC,hgC⟩:∃gC,x2.heap.size=gC:=⟨_,rfl⟩;have b3:=fZ C;have o2:=cY Y;rw[hgC]at o2 c7;have cy:=ai a8 b3;have o1:=N.later b3 (a0a _);have eg:gC≠gA:=by omega
 rw[hgC];clear s X Y t B C b3 hgC c7 O Q a8 ba T E dv ds R bn N
 go_loopw [8] (fun i wr=>∃k:Nat,k<=nA/\i = .int .i64 k/\am wr w.heap.size (.slice (some ⟨gA,0,none⟩) nA cA) A/\am wr w.heap.size (.slice (some ⟨gC,0,none⟩) 19 19) (fT (List.replicate 19 0) ((A.take k).map Int.toNat))/\Below w.heap.size w wr) (fun i _=>nA-(intOf i).toNat)
 case atStart=>exact⟨0,a0g _,rfl,o1,o2,cy⟩
 case round=>
  obtain⟨k,hk,rfl,M,H,r⟩:=hrel;clear o1 o2 cy;by_cases c:k<nA
  .
   obtain⟨c0,_,_,_⟩:=M.at (ab m) c;have c8:A.getD k 0∈A:=by have:=ab m;simp[List.getD,show k<A.length by omega]
   have n:=ab HA _ c8;have f:Hid ((A.take (k+1)).map Int.toNat=(A.take k).map Int.toNat++[(A.getD k 0).toNat]):=by
    show _=_;rw[ci A k (by rw[ab m];exact c),a0I];rfl
   have bc:(fT (List.replicate 19 0) ((A.take k).map Int.toNat)).length=19:=by rw[ep,a0x]
   obtain⟨y,hy⟩:=a0t n.1;rw[hy]at f c0 n;rw[a0p]at f;have hb:=oY 19 ((A.take k).map Int.toNat) y;have ed:((A.take k).map Int.toNat).length<=nA:=by simp;omega
   obtain⟨e0,e1,e2,e3⟩:=H.at (j:=y) bc (by omega);have hP:=am.put (w:=wr.drew) (j:=y) bc H ((fT (List.replicate 19 0) ((A.take k).map Int.toNat)).getD y 0+1);have cu:Hid (∀u,am (wr.drew.setCell ⟨gC,y,none⟩ u) w.heap.size (.slice (some ⟨gA,0,none⟩) nA cA) A/\Below w.heap.size w (wr.drew.setCell ⟨gC,y,none⟩ u)):=fun u=>⟨am.setOther (w:=wr.drew) M eg u,ah r.drew e2 u⟩;have HP:Hid (am (wr.drew.setCell ⟨gC,y,none⟩ (.int .i64 ((fT (List.replicate 19 0) ((A.take k).map Int.toNat)).getD y 0+1))) w.heap.size (.slice (some ⟨gC,0,none⟩) 19 19) (fT (List.replicate 19 0) ((A.take (k+1)).map Int.toNat))):=by
    show am _ _ _ _;rw[ab f,g9];exact hP
   generalize (fT (List.replicate 19 0) ((A.take k).map Int.toNat)).getD y 0=z at *
   have ek:(y:Int)<19:=by omega
   have el:z<=400:=by have:=ab aa;omega
   have ei:0<=z:=hb.1;have Hk:=ae hk;clear hP H M r ed hb n hy c8 hk bc e2 e3;go_wp2
   go_region
   go_wp2;go_roundw
   case rel=>exact⟨k+1,by have:=ab Hk;omega,by go_num,(ab cu _).1,ab HP,(ab cu _).2⟩
   case measure=>simp[intOf];omega
  .
   have dq:A.take k=A:=a0u (by rw[ab m];omega);rw[dq]at H;have ch:am wr w.heap.size (.slice (some ⟨gC,0,none⟩) 19 19) (nV A):=H;have HL:Hid (Calls prog 127 #[.slice (some ⟨gC,0,none⟩) 19 19,.int .i64 7] wr fun e w'=>(∃v,e = .returned v/\am w' wr.heap.size v (aR A))/\Below wr.heap.size wr w'):=wg (some ⟨gC,0,none⟩) 19 19 6 (nV A) wr (fJ A) (ch.rowN (fJ A)) (by omega) (by omega) (ab d5) (by rw[fj];have h2:=Ob;have:=(ab HU).2;omega) (by omega);have eh:=r.size;have O1:=ae M;have B1:=ae r;clear dq H ch M r;go_wp2_with fail;refine(ab HL).mono ?_;rintro e x3 ⟨⟨v3,rfl,o3⟩,b3⟩;obtain⟨a3,c3,rfl⟩:=o3.formN (ab K).1;obtain⟨g3,rfl⟩:=o3.somes (by rw[(ab K).1];omega);have O1':=ae ((ab O1).later b3 (a0a _));have B3:=ae (ai (ab B1) b3);have O3:=ae (o3.mono eh);clear o3 b3 HL O1 B1;go_wp2_with fail;refine(qz (some ⟨g3,0,none⟩) c3 19 (aR A) x3 (ab K).1 ((ab O3).rowN (ab K).1) (by omega)).mono ?_;rintro e x4 ⟨⟨g4,rfl,o4⟩,b4⟩;have hR:LR x4 b A (aR A) (some ⟨gA,0,none⟩) (some ⟨g3,0,none⟩) (some ⟨g4,0,none⟩):=⟨ft (ab m) ((ab O1').later b4 (a0a _)) ac,ft (ab K).1 ((ab O3).later b4 (a0a _)) ac,ft ((bC _ 15).trans (ab K).1) (o4.mono (ab B3).size) ac⟩;have a9:=ai (ab B3) b4;have cr:jI x4 b p:=Out.kept (ab HO) a9;have co:KB b w x4:=(KB.refl b w).below a9 (a0z ac);have HR:=ae hR;have b5:=ae cr;have b0:=ae co;clear hR o4 b4 a9 cr co O1' O3 B3;go_wp2_with fail;refine(fg b p ((nL:Int)-257) 5 x4 (ab b5) (ab bs).1 (by have:=ab Hp;omega)).mono ?_;rintro e x5 ⟨rfl,o5,k5⟩;have b6:=ae o5;have b9:=ae ((ab HR).keep k5.2);have b1:=ae ((ab b0).trans k5);have q5:=dO p [((nL:Int)-257,5)] (by intro x F;simp at F;subst F;simp);clear o5 k5 b5 HR b0;go_wp2_with fail;refine(fg b _ ((nD:Int)-1) 5 x5 (ab b6) (ab bs).2 (by have:=ab Hp;simp only[a0D,a0S]at q5;omega)).mono ?_;rintro e x6 ⟨rfl,o6,k6⟩;rw[←bj]at o6;have b7:=ae o6;have ca:=ae ((ab b9).keep k6.2);have b2:=ae ((ab b1).trans k6);have q6:=dO p ([((nL:Int)-257,5)]++[((nD:Int)-1,5)]) (by intro x F;simp at F;rcases F with rfl|rfl<;>simp);clear o6 k6 b6 b9 b1;go_wp2_with fail;refine(fg b _ 15 4 x6 (ab b7) (by decide) (by have:=ab Hp;simp only[a0D,a0S,a0j]at q6;omega)).mono ?_;rintro e x7 ⟨rfl,o7,k7⟩;rw[←bj]at o7;have o7':jI x7 b (aX p (cU L D++fe (aR A) 0)):=by rw[ab HB];exact o7
   have cv:=(ab ca).keep k7.2;have cp:=(ab b2).trans k7;clear o7 k7 b7 ca b2 q5 q6;go_wp2_with fail;have d6:=ae (dK (ab K).2.1);have cc:Hid (∀l:List (Int×Int),(∀x∈l,x.2<=16)->l.length<=400->(aX p (cU L D++l)).2<=100000):=by
    intro l h1 h2;have h3:=dO p (cU L D++l) (by
     intro x F;rcases a0T.1 F with h|h
     . rw[ab HB]at h;simp at h;rcases h with rfl|rfl|rfl<;>simp
     . exact h1 x h)
    rw[a0j]at h3;have h4:(cU L D).length=3:=rfl;have:=ab Hp;omega
   go_loopw [11] (fun i wr=>∃j:Nat,j<=19/\i = .int .i64 j/\jI wr b (aX p (cU L D++fe (aR A) j))/\LR wr b A (aR A) (some ⟨gA,0,none⟩) (some ⟨g3,0,none⟩) (some ⟨g4,0,none⟩)/\KB b w wr) (fun i _=>19-(intOf i).toNat)
   case atStart=>exact⟨0,by omega,rfl,o7',cv,cp⟩
   case round=>
    obtain⟨j,S,rfl,I,a2,an⟩:=hrel;clear o7' cv cp;by_cases c:j<19
    .
     have f:Hid (aX p (cU L D++fe (aR A) (j+1))=aX (aX p (cU L D++fe (aR A) j)) [((aR A).getD (bY.getD j 0) 0,3)]):=by show _=_;rw[wo (aR A) j c,←a0L,bj]
     have bd:=yl j c;have d:=ab cc (fe (aR A) j) (by intro x F;unfold fe at F;obtain⟨i,_,rfl⟩:=a2H.1 F;simp) (by rw[uw _ _ S];omega);have n:=(ab K).2.2 (bY.getD j 0) bd;have d4:=AJ j c;have d2:=Out.lt I;have HJ:=ae (a0b c (a0b I (a0b a2 an)));have d7:(j:Int)<19:=by omega
     clear I a2 an S;generalize aX p (cU L D++fe (aR A) j)=P at *
     go_wp2_with fail;refine(zX wr).mono ?_;rintro e x8 ⟨⟨g8,rfl,o8⟩,b8⟩;obtain⟨d8,_,_,_⟩:=o8.at (j:=j) AL c;rw[d4]at d8;have Z:=(ab HJ).2.2.1.keep (bH b8);have a7:jI x8 b P:=Out.kept (ab HJ).2.1 b8;have a5:=(ab HJ).2.2.2.below b8 (a0z d2);obtain⟨g,o,e,_,dd⟩:=jg Z.2.1 (k:=bY.getD j 0) (by rw[(ab K).1];exact bd);cases e
     rw[a0G]at dd;have cs:pOk ((aR A).getD (bY.getD j 0) 0) 3=true:=by
      have:p2 (3:Int).toNat=8:=by decide
      exact aS.2 ⟨by omega,n.1,by rw[this];omega⟩
     generalize (aR A).getD (bY.getD j 0) 0=y at *
     generalize bY.getD j 0=q at *
     have ej:(q:Int)<19:=by omega
     have HX:=ae (a0b Z a5);have G:=ae (fg b P y 3 x8 a7 cs d);have Hj:=ae (ab HJ).1;clear o8 b8 Z a7 a5 HJ bd n d4 d cs c;go_wp2_with fail;refine(ab G).mono ?_;rintro e x9 ⟨rfl,o9,k9⟩;rw[←ab f]at o9;have HY:=ae (a0b o9 (a0b ((ab HX).1.keep k9.2) ((ab HX).2.trans k9)));clear o9 k9 HX G d8 dd f;go_wp2;go_roundw
     case rel=>exact⟨j+1,by have:=ab Hj;omega,by go_num,(ab HY).1,(ab HY).2.1,(ab HY).2.2⟩
     case measure=>have:=ab Hj;simp[intOf];omega
    .
     have c9:j=19:=by omega
     have d7:¬ (j:Int)<19:=by omega
     rw[c9]at I;have a6:jI wr b (aX p (cU L D++(fe (aR A) 19++kC (aR A) (A.take 0)))):=by
      have e0:fe (aR A) 19++kC (aR A) (A.take 0)=fe (aR A) 19:=by unfold kC;rw[a3S,a1X,a1c]
      rw[e0];exact I
     clear I c S c9;go_wp2_with fail
     go_loopw [12] (fun i wr=>∃j:Nat,j<=nA/\i = .int .i64 j/\jI wr b (aX p (cU L D++(fe (aR A) 19++kC (aR A) (A.take j))))/\LR wr b A (aR A) (some ⟨gA,0,none⟩) (some ⟨g3,0,none⟩) (some ⟨g4,0,none⟩)/\KB b w wr) (fun i _=>nA-(intOf i).toNat)
     case atStart=>exact⟨0,by omega,rfl,a6,a2,an⟩
     case round=>
      obtain⟨j,hj,rfl,V,J,al⟩:=hrel;clear a6 a2 an;by_cases c:j<nA
      .
       have ad:j<A.length:=by rw[ab m];exact c
       have f:Hid (aX p (cU L D++(fe (aR A) 19++kC (aR A) (A.take (j+1))))=aX (aX p (cU L D++(fe (aR A) 19++kC (aR A) (A.take j)))) [pcM (aR A) (A.getD j 0).toNat]):=by show _=_;rw[DD (aR A) A j ad,←bj,a0L,a0L]
       have d:=ab cc (fe (aR A) 19++kC (aR A) (A.take j)) (by
        intro x F;rcases a0T.1 F with h|h
        . unfold fe at h;obtain⟨i,_,rfl⟩:=a2H.1 h;simp
        . unfold kC at h;obtain⟨y,hy,rfl⟩:=a2H.1 h;have h1:=ab HA y (a2d hy);have h2:=(ab K).2.2 y.toNat (by omega);show(aR A).getD y.toNat 0<=16;omega) (by rw[a0j,uw _ _ (a0a _)];unfold kC;rw[a0K,a0s];have:=ab aa;omega)
       have n:=ab HA (A.getD j 0) (by simp[List.getD,ad]);obtain⟨g,o,e,_,dd⟩:=jg J.1 (k:=j) ad;cases e
       rw[a0G]at dd;obtain⟨q,hq⟩:=a0t n.1;rw[hq]at dd n f;rw[a0p]at f;have bb:=ab d6 q (by rw[(ab K).1];omega);have G:=ae (pH b _ (some ⟨g3,0,none⟩) (some ⟨g4,0,none⟩) c3 19 19 q (aR A) wr V (ab K).1 J.2.1.1 J.2.2.1 (by omega) (by omega) bb.1 bb.2 d);rw[←ab f]at G;have HX:=ae (a0b J al);have Hj:=ae c;clear V J al hj c ad f d n hq bb;go_wp2_with fail;refine(ab G).mono ?_;rintro e x9 ⟨rfl,o9,k9⟩;have HY:=ae (a0b o9 (a0b ((ab HX).1.keep k9.2) ((ab HX).2.trans k9)));clear o9 k9 HX G dd;go_wp2;go_roundw
       case rel=>exact⟨j+1,by have:=ab Hj;omega,by go_num,(ab HY).1,(ab HY).2.1,(ab HY).2.2⟩
       case measure=>have:=ab Hj;simp[intOf];omega
      .
       have dl:A.take j=A:=a0u (by rw[ab m];omega);rw[dl,ab HQ]at V;have HY:=ae (a0b V al);clear V J al dl;go_wp2
       go_end0
       exact⟨rfl,(ab HY).1,(ab HY).2⟩
theorem GX(T:List Tk)(a:T.length<=300)(b:∀t∈T,okT t=true):[(1,1),(2,2)]++(fQ (bT T) (cz T)++(T.flatMap (pcT (bT T) (cz T))++[pcS (bT T) 256]))=kJ T:=by
 unfold kJ;rw[rh (ir T a) (jR T a) _ (fun t c=>mt T a b t c),np (ir T a) (by have:=(kI T a).1;omega)]
theorem xl(v1 v2 v3:Value)(A B C:List (Int×Int))(base:Nat)(w:World)(f:Pcs w base v1 A)(h2:Pcs w base v2 B)(g:Pcs w base v3 C)(k:A.length+(B.length+C.length)<=4000) :
  Calls prog 147 #[.slice (some ⟨w.heap.size,0,none⟩) 3 3] (w.alloc (.cells #[v1,v2,v3] 182)) fun e w'=>∃v,e = .returned v/\Pcs w' w.heap.size v (A++(B++C))/\Below w.heap.size w w':=by
 have a:Below w.heap.size w (w.alloc (.cells #[v1,v2,v3] 182)):=(a0c _ _).alloc (a0a _) _;have h:gT (w.alloc (.cells #[v1,v2,v3] 182)) w.heap.size base [(v1,aU A),(v2,aU B),(v3,aU C)]:=by
  intro i j
  match i,j with
  | 0,_=>exact⟨by simp,_,f.later a (a0a _),ie _⟩
  | 1,_=>exact⟨by simp,_,h2.later a (a0a _),ie _⟩
  | 2,_=>exact⟨by simp,_,g.later a (a0a _),ie _⟩
 have b:aK [(v1,aU A),(v2,aU B),(v3,aU C)]=(A++(B++C)).length:=by
  simp only[aK,bU,a0H,a1X,a0M,a28,lu,a0j];omega
 refine(y9 w.heap.size base 3 3 _ _ rfl (by omega) (by omega) h (by rw[b,a0j,a0j];omega)).mono ?_;rintro e x5 ⟨v,rfl,d,hb⟩;refine⟨v,rfl,?_,ai a hb⟩;have c:ef [(v1,aU A),(v2,aU B),(v3,aU C)]=aU (A++(B++C)):=by
  simp only[ef,a0V,a2o,eG,a1c]
 rw[b,c]at d;exact pu (base:=(w.alloc (.cells #[v1,v2,v3] 182)).heap.size) d (by simp)
theorem zR(s:ByteArray)(w:World)(hs:s.size<=300)(hO:dT w) :
  Ds 110 #[.string s] w (.string ⟨(uy s).toArray⟩):=by
 have hI:¬ (300:Int)<(s.size:Int):=by omega
 have ba:prog.follows .mixedOrders=true:=by kernel_rfl
 have HS:=ae hs;have HO:=ae hO;have N:=ae (rV s w hs);obtain⟨T,hT⟩:∃T,bJ s.data.toList 0=T:=⟨_,rfl⟩;have a:Hid (T.length<=300):=by show _<=_;rw[←hT];exact kQ s hs
 have U:Hid (∀t∈T,okT t=true):=by rw[←hT];exact iu s
 have b0:Hid (uy s=gF (kJ T)):=by show uy s=_;unfold uy;rw[hT]
 have HT:=ae hT;rw[hT]at N;clear hs hO hT;go_enter func110,ntmps110;go_wp2_with fail;refine(ab N).mono ?_;rintro e x1 ⟨⟨gl,gd,rfl,o1,o2⟩,b1⟩;have O:=ae (jr (some ⟨gl,0,none⟩) 286 286 (fN T) 15 x1 (eZ T) (o1.rowN (eZ T)) (by omega));rw[MD T (ab a)]at O;have O2:=ae o2;have B1:=ae b1;clear o1 o2 b1 N;go_wp2_with fail;refine(ab O).mono ?_;rintro e x2 ⟨⟨v2,rfl,o3⟩,b2⟩;have k:=(J4 T (ab a)).1;obtain⟨a2,c2,rfl⟩:=o3.formN k;obtain⟨g2,rfl⟩:=o3.somes (by omega);have C:=ae (rt g2 0 c2 286 257 (db 15 (fN T)) x2 k (fun i hi=>by rw[a0G];exact(o3.at k hi).1) o3.cap.1 (by omega) (by omega));have e2:d9 (db 15 (fN T)) 257 286=(bT T).length:=by unfold bT;rw[iz,k]
 rw[e2]at C;have O3:Hid (am x2 w.heap.size (.slice (some ⟨g2,0,none⟩) (bT T).length c2) (bT T)):=by
  have G:=o3.cut (m:=(bT T).length) k (by have:=kI T (ab a);omega) (by omega);have e3:(db 15 (fN T)).take (bT T).length=bT T:=by rw[←e2];unfold bT nC;rw[k]
  rw[e3]at G;exact G.mono (ab B1).size
 have O2':=ae ((ab O2).later b2 (a0a _));have B2:=ae (ai (ab B1) b2);have p:=ae (kI T (ab a));obtain⟨nL,hnL⟩:∃n,(bT T).length=n:=⟨_,rfl⟩;rw[hnL]at C O3 p;have q:=ae hnL;clear hnL e2 k o3 b2 O O2 B1;have P:=ae (jr (some ⟨gd,0,none⟩) 30 30 (cn T) 15 x2 (fq T) ((ab O2').rowN (fq T)) (by omega));rw[Jg T (ab a)]at P;clear O2';go_wp2_with fail;refine(ab C).mono ?_;rintro e x3 ⟨rfl,bd⟩;rw[bd];clear bd x3 C;go_wp2_with fail;refine(ab P).mono ?_;rintro e x3 ⟨⟨v3,rfl,o4⟩,b3⟩;have l:=(zg T (ab a)).1;obtain⟨a3,c3,rfl⟩:=o4.formN l;obtain⟨g3,rfl⟩:=o4.somes (by omega);have D:=ae (rt g3 0 c3 30 1 (db 15 (cn T)) x3 l (fun i hi=>by rw[a0G];exact(o4.at l hi).1) o4.cap.1 (by omega) (by omega));have e2:d9 (db 15 (cn T)) 1 30=(cz T).length:=by unfold cz;rw[iz,l]
 rw[e2]at D;have O4:Hid (am x3 w.heap.size (.slice (some ⟨g3,0,none⟩) (cz T).length c3) (cz T)):=by
  have G:=o4.cut (m:=(cz T).length) l (by have:=ms T (ab a);omega) (by omega);have e3:(db 15 (cn T)).take (cz T).length=cz T:=by rw[←e2];unfold cz nC;rw[l]
  rw[e3]at G;exact G.mono (ab B2).size
 have O3':=ae ((ab O3).later b3 (a0a _));have B3:=ae (ai (ab B2) b3);have r:=ae (ms T (ab a));obtain⟨nD,hnD⟩:∃n,(cz T).length=n:=⟨_,rfl⟩;rw[hnD]at D O4 r;have u:=ae hnD;clear hnD e2 l o4 b3 P O3 B2;go_wp2_with fail;refine(ab D).mono ?_;rintro e x4 ⟨rfl,be⟩;rw[be];clear be x4 D;have al:=ae (ry (some ⟨g2,0,none⟩) c2 nL w.heap.size (bT T) x3 (ab q) (bG (ab q) ((ab O3').own (ab q))) (ab B3).size (by have:=ab p;omega));go_wp2_with fail;refine(ab al).mono ?_;rintro e x4 ⟨⟨c,rfl,k1⟩,b4⟩;have O3:=ae ((ab O3').later b4 (a0a _));have O4':=ae ((ab O4).later b4 (a0a _));have B4:=ae (ai (ab B3) b4);have K1:=ae k1;clear k1 b4 al O3' O4 B3;have ad:=ae (oQ (some ⟨g3,0,none⟩) c3 nD w.heap.size (cz T) x4 (ab u) (bG (ab u) ((ab O4').own (ab u))) (ab B4).size (by have:=ab r;omega));go_wp2_with fail;refine(ab ad).mono ?_;rintro e x5 ⟨⟨d,rfl,k2⟩,b5⟩;have O3':=ae ((ab O3).later b5 (a0a _));have O4:=ae ((ab O4').later b5 (a0a _));have B5:=ae (ai (ab B4) b5);have x:=ae ((ab K1).later b5);have K2:=ae k2;have bs:=ae (lW (ab x) (ab K2));have L:=(ab x).size;have M:=(ab K2).size;have E:Hid ((c++d).size=38):=by show _=_;rw[a2c,L,M]
 have bk:Hid ((c++d).all (·.oneCell')=true):=by show _=true;rw[Array.all_append,(ab x).one,(ab K2).one];rfl
 have F:Hid ((x5.alloc (.cells j5 204)).there x5.heap.size 0 38):=ij x5 j5 _ 38 rfl;have j:Hid (Below x5.heap.size x5 ((x5.alloc (.cells j5 204)).setCells x5.heap.size 0 (c++d).toList)):=below_setCells (a0a _) _ _ _ ((a0c _ _).alloc (a0a _) _);have bb:Hid (((x5.alloc (.cells j5 204)).setCells x5.heap.size 0 (c++d).toList).rangeAt x5.heap.size 0 (c++d).toList):=World.rangeAt_setCells_same (x5.alloc (.cells j5 204)) x5.heap.size 0 (c++d).toList (by rw[a1W,ab E];exact ab F);have bc:Hid (x5.heap.size<((x5.alloc (.cells j5 204)).setCells x5.heap.size 0 (c++d).toList).heap.size):=by show _<_;rw[size_setCells];simp
 unfold j5 at F j bb bc;clear L M k2 b5 K1 O3 O4' B4 ad;go_wp2_with (first
  | (refine jH rfl (.tmp 21) (.tmp 23) rfl c d rfl rfl (ab bs) ?_)
  | (refine wpList_store_mid rfl 204 (.tmp 5) (.tmp 24) rfl x5.heap.size 0 (c++d) rfl rfl (by rw[ab E];exact ab F) (by rw[ab E];exact Tryz.infoBooks) (ab bk) ?_;generalize cv:World.setCells _ x5.heap.size 0 (c++d).toList=x6 at *;clear cv F))
 have a4:=ai (ab B5) (ab j);have f:Hid (∀W,Below x6.heap.size x6 W->W.rangeAt x5.heap.size 0 (c++d).toList):=fun W h=>jT (ab bb) h (ab bc);have a5:Below x6.heap.size x6 x6.drew:=(a0c _ x6).drew;have cu:(prog.info? 204).map (·.size)=some (c++d).size:=by rw[ab E];exact Tryz.infoBooks
 have B6:=ae a4;have O36:=ae ((ab O3').later (ab j) (a0a _));have O46:=ae ((ab O4).later (ab j) (a0a _));have bn:Hid (dL x6 w.heap.size (bT T) (cz T) (c++d)):=⟨c,d,rfl,(ab x).later (ab j),(ab K2).later (ab j)⟩;clear a4 O3' O4 x K2 j B5;refine wp_region_held_drew (S:=fun W=>W.rangeAt x5.heap.size 0 (c++d).toList) ba (ab f _ a5) (fun hS=>?_);refine af 1 (.slice (some ⟨g2,0,none⟩) nL c2) rfl (by kernel_rfl) (fun _ _ _ h=>h) rfl (?_) hS ?_
 . intro W a7;go_simp
 refine af 2 (.slice (some ⟨g3,0,none⟩) nD c3) rfl (by kernel_rfl) (fun _ _ _ h=>h) rfl (?_) hS ?_
 . intro W a7;go_simp
 refine wpAnyH_take (i:=4) (v:=.agg (c++d)) rfl (by kernel_rfl) (by kernel_rfl) (by kernel_rfl) (fun _ _ _ h=>h) (dk (by rfl) 204 (.tmp 5) rfl x5.heap.size 0 rfl (c++d) _ (fun _ h=>h) a3g rfl cu) hS ?_;refine af 5 (.string s) rfl (by kernel_rfl) (fun _ _ _ h=>h) rfl (?_) hS ?_
 . intro W a7;go_simp
 refine ag 0 (by kernel_rfl) rfl fun K b=>?_;go_simp;go_at_call 139;refine(j7 2 _).mono ?_;rintro e x7 ⟨rfl,ac⟩;have g:Below x6.heap.size x6 x7:=by rw[ac];exact a5.alloc (by simp) _
 have a6:Pcs x7 x6.heap.size (.slice (some ⟨x6.heap.size,0,none⟩) 2 2) [(1,1),(2,2)]:=by
  rw[ac];exact a05 x6.drew #[.int .i64 1,.int .i64 1,.int .i64 2,.int .i64 2] 2 (a0a _) (by unfold maxLen;omega) rfl
 have a0:=ae (xX g2 g3 nL c2 nD c3 w.heap.size (bT T) (cz T) x7 (ab q) (ab u) ((ab O36).later g (a0a _)) ((ab O46).later g (a0a _)) (ab p).1 (ab p).2 (ab r).1 (ab r).2 (ir T (ab a)) (jR T (ab a)) ((dT.later (ab HO) (ab B6)).later g));refine Shut.out b _ _ (ab f _ g) (fun cc=>?_);clear b K ac;refine ag 3 (by kernel_rfl) rfl fun K b=>?_;go_simp;go_at_call 148;refine(ab a0).mono ?_;rintro e x8 ⟨v8,rfl,Z,b8⟩;obtain⟨n8,hn8⟩:∃n,(fQ (bT T) (cz T)).length=n:=⟨_,rfl⟩;obtain⟨a8,c8,rfl⟩:=Z.formN hn8;have z:Below x6.heap.size x6 x8:=ai g b8;have I:=a6.later b8 (a0a _);have J:Pcs x8 x6.heap.size (.slice a8 n8 c8) (fQ (bT T) (cz T)):=pu Z g.size;have Q:=ae (uE s w.heap.size (bT T) (cz T) (c++d) x8 (ab HS) ((ab bn).later z) (by have:=ab p;have:=ab q;omega) (by have:=ab r;have:=ab u;omega) (by have:=ab p;have:=ab q;omega) (by rw[ab HT];exact fun t ht=>mt T (ab a) (ab U) t ht));rw[ab HT]at Q;refine Shut.out b _ _ (ab f _ z) (fun cg=>?_);clear b K a6 Z b8 a0 g cc;refine ag 6 (by kernel_rfl) rfl fun K b=>?_;go_simp;go_at_call 141;refine(ab Q).mono ?_;rintro e x9 ⟨v9,rfl,aa,b9⟩;obtain⟨n9,hn9⟩:∃n,(T.flatMap (pcT (bT T) (cz T))++[pcS (bT T) 256]).length=n:=⟨_,rfl⟩;obtain⟨a9,c9,rfl⟩:=aa.formN hn9;have A:Below x6.heap.size x6 x9:=ai z b9;have p7:=I.later b9 (a0a _);have p8:=J.later b9 (a0a _);have p9:Pcs x9 x6.heap.size (.slice a9 n9 c9) (T.flatMap (pcT (bT T) (cz T))++[pcS (bT T) 256]):=pu aa z.size;refine Shut.out b _ _ (ab f _ A) (fun ch=>?_);clear b K I J aa b9 Q z cg;have V:=GX T (ab a) (ab U);have Y:=Fc T (ab a) (ab U);have X:(kJ T).length<=4000:=by
  have:=Y;unfold lOk at this;simp only[a0n,a0w]at this;exact this.2
 have HC:=ae (xl (.slice (some ⟨x6.heap.size,0,none⟩) 2 2) (.slice a8 n8 c8) (.slice a9 n9 c9) [(1,1),(2,2)] (fQ (bT T) (cz T)) (T.flatMap (pcT (bT T) (cz T))++[pcS (bT T) 256]) x6.heap.size x9 p7 p8 p9 (by have G:=X;rw[←V]at G;simp only[a0j]at G ⊢;omega));rw[V]at HC;have H:Below x6.heap.size x6 (x9.alloc (.cells #[.slice (some ⟨x6.heap.size,0,none⟩) 2 2,.slice a8 n8 c8,.slice a9 n9 c9] 182)):=A.alloc A.size _;have a1:=ae (a0b Y X);clear p7 p8 p9 V Y X hn8 hn9;refine ag 7 (by kernel_rfl) rfl fun K b=>?_;go_simp;refine Shut.out b _ _ (ab f _ H) (fun co=>?_);clear b K;refine ag 8 (by kernel_rfl) rfl fun K b=>?_;go_simp;go_at_call 147;refine(ab HC).mono ?_;rintro e x11 ⟨v11,rfl,B,b6⟩;have y:=ai A b6;obtain⟨a11,ca,rfl⟩:=B.form;refine Shut.out b _ _ (ab f _ y) (fun cp=>?_);clear b K;have an:=ae (fR a11 ca (kJ T) x11 B.row (by have:=(ab a1).2;omega));rw[gx (ab a1).1]at an;refine ag 9 (by kernel_rfl) rfl fun K b=>?_;go_simp;go_at_call 137;refine(ab an).mono ?_;rintro e x12 ⟨rfl,b7⟩;have o:=ai y b7;refine Shut.out b _ _ (ab f _ o) (fun cr=>?_);clear b K;refine ag 10 (by kernel_rfl) rfl fun K b=>?_;go_simp;refine Shut.out b _ _ (ab f _ o) (fun cs=>?_);clear b K;refine wpAnyH_done (by kernel_rfl) ?_ _;have bl:=ae (ai (ab B6) o);clear o y H A hS ch co cp cr cs B;generalize hR:gF (kJ T)=R at *
 clear hR;go_wp2;go_ret;exact⟨by rw[ab b0];rfl,ab bl⟩
theorem AV{base cap:Nat}(j:l.length=n)(h:am w base (.slice a n cap) l):iM w w.heap.size a l:=by
 refine⟨h.rowN j,fun k x ex=>?_⟩;subst ex;rcases h.2 with⟨e,_⟩|⟨g,b,f,e,i,d,_⟩
 . cases e
 . simp only[a0J,a0l]at e;obtain⟨rfl,_⟩:=e;refine⟨by have:=dn d;show g≠_;omega,fun c fr=>?_⟩;show w.heap[g]?≠_;rw[d];intro e;cases e
theorem Gl{base cap:Nat}{l:List Tk}(j:l.length=n)(h:dY w base (.slice a n cap) l):qX w w.heap.size a l:=by
 refine⟨h.rowN j,fun k x ex=>?_⟩;subst ex;rcases h.2 with⟨e,_⟩|⟨g,b,f,e,i,d,_⟩
 . cases e
 . simp only[a0J,a0l]at e;obtain⟨rfl,_⟩:=e;refine⟨by have:=dn d;show g≠_;omega,fun c fr=>?_⟩;show w.heap[g]?≠_;rw[d];intro e;cases e
theorem vT(g:Nat)(n:Nat)(l:List Int)(w:World)(d:l.length=n)(h:aZ w (some ⟨g,0,none⟩) l)(a:1<=n)(c:n<=300)(b:okC l)(f:us l<=300) :
  Calls prog 127 #[.slice (some ⟨g,0,none⟩) n n,.int .i64 15] w fun e w'=>(∃v,e = .returned v/\am w' w.heap.size v (db 15 l))/\Below w.heap.size w w':=
 wg (some ⟨g,0,none⟩) n n 14 l w d h a c b (by rw[fj];have h2:=A9;omega) (by omega)
theorem Gq(s:ByteArray)(w:World)(hs:s.size<=300) :
  Ds 94 #[.string s] w (.string ⟨(uy s).toArray⟩):=by
 obtain⟨T,hT⟩:∃T,bJ s.data.toList 0=T:=⟨_,rfl⟩;have a:Hid (T.length<=300):=by show _<=_;rw[←hT];exact kQ s hs
 have u:Hid (∀t∈T,okT t=true):=by rw[←hT];exact iu s
 have aa:Hid (uy s=gF (kJ T)):=by show uy s=_;unfold uy;rw[hT]
 have c:=ae (pd s w (by omega));rw[hT]at c;clear hs hT;obtain⟨tn,htn⟩:∃tn,T.length=tn:=⟨_,rfl⟩;have l:=ae htn;have I:Hid (tn<=300):=by show _<=_;rw[←htn];exact ab a
 clear htn;go_enter func94,ntmps94;go_wp2_with fail;refine(ab c).mono ?_;rintro e x1 ⟨v1,rfl,o1,b1⟩;obtain⟨a1,c1,rfl⟩:=o1.formN (ab l);have B:=ae (xV a1 c1 tn T x1 (ab l) (o1.rowN (ab l)) (ab I) (ab u));have O1:=ae o1;have B1:=ae b1;clear o1 b1 c;go_wp2_with fail;refine(ab B).mono ?_;rintro e x2 ⟨⟨gl,gd,rfl,o2,o3⟩,b2⟩;have O1':=ae (dR (ab O1) b2);have B2:=ae (ai (ab B1) b2);have D:=ae (vT gl 286 (fN T) x2 (eZ T) (o2.rowN (eZ T)) (by omega) (by omega) (xY T (ab a)) (by have:=(xZ T).2;omega));have O3:=ae (o3.mono (ab B1).size);have y:Hid (w.heap.size<=x2.heap.size):=(ab B2).size;clear o2 o3 b2 B O1 B1;go_wp2_with fail;refine(ab D).mono ?_;rintro e x3 ⟨⟨v3,rfl,o4⟩,b3⟩;have d:=(J4 T (ab a)).1;obtain⟨a3,c3,rfl⟩:=o4.formN d;obtain⟨g3,rfl⟩:=o4.somes (by omega);have q:=ae (tT g3 0 c3 286 257 (db 15 (fN T)) x3 d (fun i hi=>by rw[a0G];exact(o4.at d hi).1) o4.cap.1 (by omega) (by omega));have e2:d9 (db 15 (fN T)) 257 286=(bT T).length:=by unfold bT;rw[iz,d]
 rw[e2]at q;have O4:Hid (am x3 w.heap.size (.slice (some ⟨g3,0,none⟩) (bT T).length c3) (bT T)):=by
  have Q:=o4.cut (m:=(bT T).length) d (by have:=kI T (ab a);omega) (by omega);have e3:(db 15 (fN T)).take (bT T).length=bT T:=by rw[←e2];unfold bT nC;rw[d]
  rw[e3]at Q;exact Q.mono (ab y)
 have O1:=ae (dR (ab O1') b3);have O3':=ae ((ab O3).later b3 (a0a _));have B3:=ae (ai (ab B2) b3);have b:=ae (kI T (ab a));obtain⟨nL,hnL⟩:∃n,(bT T).length=n:=⟨_,rfl⟩;rw[hnL]at q O4 b;have j:=ae hnL;clear hnL e2 d o4 b3 D O3 B2 O1' y;go_wp2_with fail;refine(ab q).mono ?_;rintro e x4 ⟨rfl,U⟩;rw[U];clear U x4 q;have E:=ae (vT gd 30 (cn T) x3 (fq T) ((ab O3').rowN (fq T)) (by omega) (by omega) (sZ T (ab a)) (by have:=(s9 T).2;omega));go_wp2_with fail;refine(ab E).mono ?_;rintro e x4 ⟨⟨v4,rfl,o5⟩,b4⟩;have f:=(zg T (ab a)).1;obtain⟨a4,c4,rfl⟩:=o5.formN f;obtain⟨g4,rfl⟩:=o5.somes (by omega);have r:=ae (tT g4 0 c4 30 1 (db 15 (cn T)) x4 f (fun i hi=>by rw[a0G];exact(o5.at f hi).1) o5.cap.1 (by omega) (by omega));have e2:d9 (db 15 (cn T)) 1 30=(cz T).length:=by unfold cz;rw[iz,f]
 rw[e2]at r;have O5:Hid (am x4 w.heap.size (.slice (some ⟨g4,0,none⟩) (cz T).length c4) (cz T)):=by
  have Q:=o5.cut (m:=(cz T).length) f (by have:=ms T (ab a);omega) (by omega);have e3:(db 15 (cn T)).take (cz T).length=cz T:=by rw[←e2];unfold cz nC;rw[f]
  rw[e3]at Q;exact Q.mono (ab B3).size
 have O1':=ae (dR (ab O1) b4);have O4':=ae ((ab O4).later b4 (a0a _));have B4:=ae (ai (ab B3) b4);have g:=ae (ms T (ab a));obtain⟨nD,hnD⟩:∃n,(cz T).length=n:=⟨_,rfl⟩;rw[hnD]at r O5 g;have k:=ae hnD;clear hnD e2 f o5 b4 E O4 O1 O3' B3;go_wp2_with fail;refine(ab r).mono ?_;rintro e x5 ⟨rfl,V⟩;rw[V];clear V x5 r;have h0:Hid (jI (x4.alloc (.cells #[.slice none 0 0,.int .i64 0,.int .i64 0] 173)) x4.heap.size (0,0)):=ym x4 173;have o:Below x4.heap.size x4 (x4.alloc (.cells #[.slice none 0 0,.int .i64 0,.int .i64 0] 173)):=(a0c _ _).alloc (a0a _) _;have RL:Hid (iM (x4.alloc (.cells #[.slice none 0 0,.int .i64 0,.int .i64 0] 173)) x4.heap.size (some ⟨g3,0,none⟩) (bT T)):=(AV (ab j) (ab O4')).below o;have RD:Hid (iM (x4.alloc (.cells #[.slice none 0 0,.int .i64 0,.int .i64 0] 173)) x4.heap.size (some ⟨g4,0,none⟩) (cz T)):=(AV (ab k) (ab O5)).below o;have RT:Hid (qX (x4.alloc (.cells #[.slice none 0 0,.int .i64 0,.int .i64 0] 173)) x4.heap.size a1 T):=(Gl (ab l) (ab O1')).keep (bH o);have C:Hid (KB x4.heap.size x4 (x4.alloc (.cells #[.slice none 0 0,.int .i64 0,.int .i64 0] 173))):=(KB.refl _ _).below o (a0a _);clear o O1' O4' O5;go_wp2_with fail;refine(fg _ _ 1 1 _ (ab h0) (by decide) (by show(0:Nat)<=_;omega)).mono ?_;rintro e x6 ⟨rfl,o6,W⟩;have H6:=ae (a0b o6 ((ab C).trans W));have L:=ae ((ab RL).keep W.2);have J:=ae ((ab RD).keep W.2);have N:=ae ((ab RT).keep W.2);clear o6 W h0 C RL RD RT;go_wp2_with fail;refine(fg _ _ 2 2 _ (ab H6).1 (by decide) (by show(1:Nat)<=_;omega)).mono ?_;rintro e x7 ⟨rfl,o7,X⟩;have H7:=ae (a0b o7 ((ab H6).2.trans X));have A:=ae ((ab L).keep X.2);have z:=ae ((ab J).keep X.2);have O:=ae ((ab N).keep X.2);clear o7 X H6 L J N;have F:=ae (Gz x4.heap.size (aX (aX (0,0) [(1,1)]) [(2,2)]) (some ⟨g3,0,none⟩) (some ⟨g4,0,none⟩) c3 nL c4 nD (bT T) (cz T) x7 (ab H7).1 (ab A).1 (ab z).1 (ab j) (ab k) (ab b).1 (ab b).2 (ab g).1 (ab g).2 (ir T (ab a)) (jR T (ab a)) (by show(3:Nat)<=1000;omega));go_wp2_with fail;refine(ab F).mono ?_;rintro e x8 ⟨rfl,o8,Z⟩;have G:Hid (aX (aX (aX (0,0) [(1,1)]) [(2,2)]) (fQ (bT T) (cz T))=aX (0,0) ([(1,1),(2,2)]++fQ (bT T) (cz T))):=by
  show _=_;rw[←bj,←bj];rfl
 rw[ab G]at o8;have M:=(ab A).keep Z.2;have K:=(ab z).keep Z.2;have P:=(ab O).keep Z.2;have K8:=ae ((ab H7).2.trans Z);have p:=BL (ir T (ab a)) (jR T (ab a)) (by rw[ab j];exact(ab b).1) (by rw[ab j];exact(ab b).2) (by rw[ab k];exact(ab g).1) (by rw[ab k];exact(ab g).2);have S:(aX (0,0) ([(1,1),(2,2)]++fQ (bT T) (cz T))).2<=10000:=by
  have h1:=dO (0,0) ([(1,1),(2,2)]++fQ (bT T) (cz T)) (by
   intro x hx;rcases a0T.1 hx with h|h
   . simp at h;rcases h with rfl|rfl<;>simp
   . have h3:=p.1;unfold bw at h3;have:=a1a.1 h3 x h;exact(aS.1 this).1.2)
  rw[a0j]at h1;have:=p.2;simp only[a0D,a0S]at h1;omega
 have c:=ae (rK x4.heap.size _ a1 (some ⟨g3,0,none⟩) (some ⟨g4,0,none⟩) c1 tn c3 nL c4 nD T (bT T) (cz T) x8 o8 P M K (ab l) (ab j) (ab k) (by have:=ab b;omega) (by have:=ab g;omega) (dK (ir T (ab a))) (dK (jR T (ab a))) (by have:=ab b;omega) (by have:=ab I;omega) S (fun t ht=>⟨ab u t ht,mt T (ab a) (ab u) t ht⟩));have H:Hid (aX (aX (0,0) ([(1,1),(2,2)]++fQ (bT T) (cz T))) (T.flatMap (dP (bT T) (cz T))++[pcM (bT T) 256])=cH (kJ T)):=by
  show aX _ _=_;rw[←bj,a0L];rfl
 rw[ab H]at c;have Hm:Hid ((cH (kJ T)).2<=90000):=by
  show _<=_;rw[←ab H,bj];have h1:=lc (bT T) (cz T) T (aX (0,0) ([(1,1),(2,2)]++fQ (bT T) (cz T))) (dK (ir T (ab a))) (dK (jR T (ab a))) (fun t ht=>mt T (ab a) (ab u) t ht);have h2:=dO (aX (aX (0,0) ([(1,1),(2,2)]++fQ (bT T) (cz T))) (T.flatMap (dP (bT T) (cz T)))) [pcM (bT T) 256] (fun x hx=>by simp only[a0U,a1C,a1q]at hx;subst hx;have:=(dK (ir T (ab a)) 256 (by have:=ab j;have:=ab b;omega)).1.2;show(bT T).getD 256 0<=16;omega);have h3:=ab a;simp only[a0D,a0S]at h2;omega
 clear o8 Z M K P p S F A z O H7 G;go_wp2_with fail;refine(ab c).mono ?_;rintro e x9 ⟨rfl,o9,k9⟩;have K9:=ae ((ab K8).trans k9).1;have O9:=ae o9;clear o9 k9 c K8;go_wp2_with fail;refine(lG _ _ _ _ (ab O9) (ab Hm)).mono ?_;rintro e x10 ⟨rfl,h7,b7⟩;obtain⟨_,v,Th,Y⟩:=h7;have e8:8*(((cH (kJ T)).2+7)/8)/8=((cH (kJ T)).2+7)/8:=by omega
 rw[e8]at Y;have Y':Bys x10 x4.heap.size v (gF (kJ T)):=Y;have ad:=kY Y';have HB:=ae ((ab K9).trans b7);obtain⟨k0,k1,k2,f0,f1,f2,ac⟩:=Th;clear Y Y' e8 k1 k2 b7 O9;generalize hR:gF (kJ T)=R at *
 clear hR;go_wp2;go_ret;exact⟨by rw[ab aa];rfl,ai (ab B4) (ab HB)⟩
def mu(s:ByteArray):List UInt8:=if s.size<=300 then uy s else []
theorem tB(s:ByteArray)(w:World)(d:s.size<=1048576)(b:dT w) :
  Ds 110 #[.string s] w (.string ⟨(mu s).toArray⟩):=by
 by_cases h:s.size<=300
 . have a:Hid (mu s=uy s):=a0e h;rw[ab a];exact zR s w h b
 .
  have c:(300:Int)<(s.size:Int):=by omega
  have a:Hid (mu s=[]):=a0d h;clear h b;go_enter func110,ntmps110;go_wp2;go_ret;exact⟨by rw[ab a];rfl,a0c _ _⟩
end Go.Proofs.YtchidddpplangaaGreatDoor
