/- Of what the proof is made: 13 texts, one behind the other. -/
import Derived.Test.YtchidddpplangaaGreatDoorM26
import Derived.Test.YtchidddpplangaaGreatDoorM34
import Derived.Test.YtchidddpplangaaGreatDoorTo2
import Derived.Deep.RegionHeld3
import Derived.Deep.DeepCutAuto
import Derived.Test.YtchidddpplangaaGreatDoorM20
import Derived.Test.YtchidddpplangaaGreatDoorM22
import Derived.Test.YtchidddpplangaaGreatDoorM3
import Derived.Test.YtchidddpplangaaGreatDoorM12
import Derived.Test.YtchidddpplangaaGreatDoorM29
import Derived.Test.YtchidddpplangaaGreatDoorM11
import Derived.Test.YtchidddpplangaaGreatDoorM25
import Derived.Test.YtchidddpplangaaGreatDoorM13
import Derived.Test.YtchidddpplangaaGreatDoorM14
set_option maxRecDepth 100000
set_option linter.unusedSimpArgs false
set_option linter.unusedVariables false
set_option maxHeartbeats 12800000
namespace Go.Proofs.YtchidddpplangaaGreatDoor
open Go.Proofs.Tryz
open Go.RowKit Corb
variable {D L l:List Int}{a:Option Addr}{b k n:Nat}{w w':World}
def qK(w:World)(b:Nat)(a:Option Addr)(l:List Tk):Prop:=BC w a l/\(0<l.length->∀x,a=some x->x.block≠b/\∀cur fr,w.heap[x.block]?≠some (.cells cur 5 fr))
theorem qK.keep{l:List Tk}(h:qK w b a l)(k:bS b w w'):qK w' b a l:=by
 by_cases c:0<l.length
 .
  obtain⟨g,o,e,j,m⟩:=h.1 c;obtain⟨f,h2⟩:=h.2 c _ e;have hb:=k.2 g j f h2;refine⟨fun _=>⟨g,o,e,a0m j k.1,fun i n=>?_⟩,fun _ x ex=>?_⟩
  . obtain⟨c0,c1,c2⟩:=m i n;exact⟨by rw[←c0];exact World.cell?_of_block (w:=w) hb,by rw[←c1];exact World.cell?_of_block (w:=w) hb,by rw[←c2];exact World.cell?_of_block (w:=w) hb⟩
  .
   have:x=⟨g,o,none⟩:=by rw[ex]at e;exact a1m e
   subst this;exact⟨f,fun d fr=>by rw[hb];exact h2 d fr⟩
 . exact⟨fun h=>absurd h c,fun h=>absurd h c⟩
theorem FI{base cap:Nat}{l:List Tk}(k:l.length=n)(h:dS w base (.slice a n cap) l)(hb:b<base):qK w b a l:=by
 refine⟨h.rowN k,fun m x ex=>?_⟩;subst ex;rcases h.2 with⟨e,_⟩|⟨g,c,f,e,i,j,_⟩
 . cases e
 . simp only[a0J,a0l]at e;obtain⟨rfl,_⟩:=e;refine⟨by show g≠b;omega,fun d fr=>?_⟩;show w.heap[g]?≠_;rw[j];intro e;cases e
def dL(L D:List Int)(t:Tk):List (Int×Int):=
 if isB t then [pcM L t.1.toNat]
 else [pcM L (257+fnd 3 4 t.2.1.toNat 27),((t.2.1.toNat:Int)-((stF 3 4 (fnd 3 4 t.2.1.toNat 27)).1:Int),((stF 3 4 (fnd 3 4 t.2.1.toNat 27)).2:Nat)),pcM D (fnd 1 2 t.2.2.toNat 29),((t.2.2.toNat:Int)-((stF 1 2 (fnd 1 2 t.2.2.toNat 29)).1:Int),((stF 1 2 (fnd 1 2 t.2.2.toNat 29)).2:Nat))]
def RR(W:World)(b:Nat)(L D:List Int)(T:List Tk)(a a2 va vb vl vk at_:Option Addr):Prop:=
 (iz W b a L/\iz W b a2 D)/\(iz W b va (aT L 15).2/\iz W b vb (aT D 15).2)/\(iz W b vl jH/\iz W b vk jB)/\qK W b at_ T
theorem RR.keep{W W':World}{T:List Tk}{a2 va vb vl vk at_:Option Addr}(h:RR W b L D T a a2 va vb vl vk at_)(c:bS b W W'):RR W' b L D T a a2 va vb vl vk at_:=
 ⟨⟨h.1.1.keep c,h.1.2.keep c⟩,⟨h.2.1.1.keep c,h.2.1.2.keep c⟩,⟨h.2.2.1.1.keep c,h.2.2.1.2.keep c⟩,h.2.2.2.keep c⟩
def lT(l:List Int):Prop:=∀k,k<l.length->(0<=l.getD k 0/\l.getD k 0<=15)/\(0<=(aT l 15).2.getD k 0/\(aT l 15).2.getD k 0<65536)
theorem bF(h:Below w.heap.size w w'):bS b w w':=⟨h.size,fun k a _ _=>h.block k a⟩
theorem lK{g:Nat}{cs:Array Value}{t:TypeId}(d:bS b w w')(h:w.heap[g]?=some (Obj.cells cs t))(c:g≠b)(f:t≠5):w'.heap[g]?=some (Obj.cells cs t):=by
 refine(d.2 g (dh h) c (fun a fr=>?_)).trans h;rw[h];intro e;cases e
 exact f rfl
theorem iW(h:iz w b a l)(f:k<l.length):∃g o,a=some ⟨g,o,none⟩/\g<w.heap.size/\w.cell? ⟨g,o+k,none⟩=some (.int .i64 (l.getD k 0)):=by
 obtain⟨g,o,e,d,c⟩:=h.1 (by omega);exact⟨g,o,e,d,c k f⟩
theorem Az(y:Nat)(a:3<=y)(b:y<=60):pOk ((y:Int)-((stF 3 4 (fnd 3 4 y 27)).1:Int)) ((stF 3 4 (fnd 3 4 y 27)).2:Nat)=true:=by
 have:(List.range 61).all (fun y=>decide (y<3) || pOk ((y:Int)-((stF 3 4 (fnd 3 4 y 27)).1:Int)) ((stF 3 4 (fnd 3 4 y 27)).2:Nat))=true:=by decide +kernel
 have:=a09.1 this y (List.mem_range.2 (by omega));simp only[a1A,a0y]at this;rcases this with h|h
 . omega
 . exact h
theorem Ay(z:Nat)(a:1<=z)(b:z<=250):pOk ((z:Int)-((stF 1 2 (fnd 1 2 z 29)).1:Int)) ((stF 1 2 (fnd 1 2 z 29)).2:Nat)=true:=by
 have:(List.range 251).all (fun z=>decide (z<1) || pOk ((z:Int)-((stF 1 2 (fnd 1 2 z 29)).1:Int)) ((stF 1 2 (fnd 1 2 z 29)).2:Nat))=true:=by decide +kernel
 have:=a09.1 this z (List.mem_range.2 (by omega));simp only[a1A,a0y]at this;rcases this with h|h
 . omega
 . exact h
theorem dK(p:Nat×Nat)(l:List (Int×Int))(h:∀x∈l,x.2<=16):(aV p l).2<=p.2+16*l.length:=by
 unfold aV nX;induction l generalizing p with
 | nil=>simp[iD]
 | cons x r ih=>
  have b:=h x (by simp);have h2:=ih (p.1+x.1.toNat*2 ^ p.2,p.2+x.2.toNat) (fun y a=>h y (by simp[a]));simp only[a0H,iD,a0E]at *
  omega
theorem vW(L D:List Int)(t:Tk)(gL:lT L)(gD:lT D)(a:fO L D t):(∀x∈dL L D t,x.2<=16)/\(dL L D t).length<=4:=by
 unfold dL;unfold fO at a
 split
 . rename_i h;rw[a0e h]at a;refine⟨fun x b=>?_,by simp⟩;simp only[a0Z,a1D,a1q]at b;subst b;have:=(gL _ a).1.2;show L.getD _ 0<=16;omega
 .
  rename_i h;rw[a0d h]at a;refine⟨fun x b=>?_,by simp⟩;simp only[a0Z,a1D,a1q]at b;have s1:=qy (L:=3) (G:=4) (k:=fnd 3 4 t.2.1.toNat 27) (by omega) (by omega) (by omega) (by have:=gG 3 4 t.2.1.toNat 27;omega);have s2:=qy (L:=1) (G:=2) (k:=fnd 1 2 t.2.2.toNat 29) (by omega) (by omega) (by omega) (by have:=gG 1 2 t.2.2.toNat 29;omega);rcases b with rfl|rfl|rfl|rfl
  . have:=(gL _ a.1).1.2;show L.getD _ 0<=16;omega
  . show((_:Nat):Int)<=16;omega
  . have:=(gD _ a.2).1.2;show D.getD _ 0<=16;omega
  . show((_:Nat):Int)<=16;omega
theorem kT(L D:List Int)(T:List Tk)(p:Nat×Nat)(gL:lT L)(gD:lT D)(a:∀t∈T,fO L D t):(aV p (T.flatMap (dL L D))).2<=p.2+64*T.length:=by
 induction T generalizing p with
 | nil=>simp[aV,nX,iD]
 | cons t r ih=>
  rw[a0T,bi];obtain⟨b,h2⟩:=vW L D t gL gD (a t (by simp));have d:=dK p (dL L D t) b;have e:=ih (aV p (dL L D t)) (fun x c=>a x (by simp[c]));simp only[a0E];omega
theorem qh(a:Option Addr)(cap n:Nat)(l:List Int)(w:World)(d:l.length=n)(h:aY w a l)(c:n<=300) :
  Calls prog 164 #[.slice a n cap] w fun e w'=>(∃g,e = .returned (.slice (some ⟨g,0,none⟩) n n)/\am w' w.heap.size (.slice (some ⟨g,0,none⟩) n n) (aT l 15).2)/\Below w.heap.size w w':=
 (dR a cap n l w d h c).mono fun _ _ ⟨b,f,hb⟩=>⟨⟨_,b,f⟩,hb⟩
theorem nU(w:World):Calls prog 166 #[] w fun e w'=>(∃g,e = .returned (.slice (some ⟨g,0,none⟩) 28 28)/\am w' w.heap.size (.slice (some ⟨g,0,none⟩) 28 28) ri)/\Below w.heap.size w w':=
 (iU w).mono fun _ _ ⟨a,b,hb⟩=>⟨⟨_,a,b⟩,hb⟩
theorem nE(w:World):Calls prog 167 #[] w fun e w'=>(∃g,e = .returned (.slice (some ⟨g,0,none⟩) 30 30)/\am w' w.heap.size (.slice (some ⟨g,0,none⟩) 30 30) qL)/\Below w.heap.size w w':=
 (iR w).mono fun _ _ ⟨a,b,hb⟩=>⟨⟨_,a,b⟩,hb⟩
theorem fj:jH.length=28:=kb _ _ _
theorem eZ:jB.length=30:=kb _ _ _
theorem rx(b:Nat)(p:Nat×Nat)(ta a a2:Option Addr)(tcap tn cap n X n2:Nat)(T:List Tk)(L D:List Int)(w:World)(ho:jy w b p)(hT:qK w b ta T)(hL:iz w b a L)(hD:iz w b a2 D)
  (eg:T.length=tn) (hn:L.length=n) (d5:D.length=n2) (d6:n<=300) (d7:n2<=300) (gL:lT L) (gD:lT D) (ba:256<n) (fb:(tn:Int)<=300) (hp:p.2<=10000)
  (ed:∀t∈T,okT t=true/\fO L D t) :
  Calls prog 121 #[.pointer (some ⟨b,0,none⟩),.slice ta tn tcap,.slice a n cap,.slice a2 n2 X] w fun e w'=>e = .returned (.tuple #[])/\jy w' b (aV p (T.flatMap (dL L D)++[pcM L 256]))/\KB b w w':=by
 have Z:b<w.heap.size:=Out.lt ho;have bc:prog.follows .mixedOrders=true:=by kernel_rfl
 have HT:=ae hT;have HO:=ae ho;have HL:=ae hL;have HD:=ae hD;have V:=ae eg;have F:=ae hn;have B:=ae d5;have a7:=ae d6;have dv:=ae d7;have s:=ae gL;have U:=ae gD;have M:=ae ba;have Hp:=ae hp;have b9:=ae ed;clear hT ho hL hD eg hn d5 d6 d7 gL gD ba hp ed;go_enter func121,ntmps121;go_wp2_with fail;refine(qh a cap n L _ (ab F) (ab HL).1 (ab a7)).mono ?_;rintro e x1 ⟨⟨g1,rfl,o1⟩,b1⟩;have N1:=ae (fg ((bw L 15).trans (ab F)) o1 Z);have B1:=ae b1;clear o1 b1;go_wp2_with fail;refine(qh a2 X n2 D _ (ab B) ((ab HD).below (ab B1)).1 (ab dv)).mono ?_;rintro e x2 ⟨⟨g2,rfl,o2⟩,b2⟩;have N2:=ae (fg ((bw D 15).trans (ab B)) o2 (a0m Z (ab B1).size));have N1':=ae ((ab N1).below b2);have B2:=ae (ai (ab B1) b2);clear o2 b2 N1 B1;go_wp2_with fail;refine(nU _).mono ?_;rintro e x3 ⟨⟨g3,rfl,o3⟩,b3⟩;have R3:=ae (o3.rowN rfl);have B3:=ae (ai (ab B2) b3);have N1:=ae ((ab N1').below b3);have N2':=ae ((ab N2).below b3);clear o3 b3 B2 N1' N2;go_wp2_with fail;refine(jk _ 28 _ (ab R3)).mono ?_;rintro e x4 ⟨v4,rfl,o4,b4⟩;obtain⟨a4,c4,rfl⟩:=o4.formN fj;have N4:=ae (fg fj o4 (a0m Z (ab B3).size));have B4:=ae (ai (ab B3) b4);have N1':=ae ((ab N1).below b4);have N2:=ae ((ab N2').below b4);clear o4 b4 B3 N1 N2' R3;go_wp2_with fail;refine(nE _).mono ?_;rintro e x5 ⟨⟨g5,rfl,o5⟩,b5⟩;have R5:=ae (o5.rowN rfl);have B5:=ae (ai (ab B4) b5);have N1:=ae ((ab N1').below b5);have N2':=ae ((ab N2).below b5);have N4':=ae ((ab N4).below b5);clear o5 b5 B4 N1' N2 N4;go_wp2_with fail;refine(jj _ 30 _ (ab R5)).mono ?_;rintro e x6 ⟨v6,rfl,o6,b6⟩;obtain⟨a6,c6,rfl⟩:=o6.formN eZ;have N6:=ae (fg eZ o6 (a0m Z (ab B5).size));have B6:=ae (ai (ab B5) b6);have dq:Hid (RR x6 b L D T a a2 (some ⟨g1,0,none⟩) (some ⟨g2,0,none⟩) a4 a6 ta):=
  ⟨⟨(ab HL).below (ab B6),(ab HD).below (ab B6)⟩,⟨(ab N1).below b6,(ab N2').below b6⟩,⟨(ab N4').below b6,ab N6⟩,(ab HT).keep (bF (ab B6))⟩
 have c7:Hid (jy x6 b (aV p ((T.take 0).flatMap (dL L D)))):=Out.kept (ab HO) (ab B6);have cs:Hid (KB b w x6):=(KB.refl b w).below (ab B6) (a0z Z);clear o6 b6 B5 N1 N2' N4' N6 R5 HT HO HL HD B6;go_wp2_with fail
 go_loopw [12,13,14] (fun i _ _ wr=>∃k:Nat,k<=tn/\i = .int .i64 k/\jy wr b (aV p ((T.take k).flatMap (dL L D)))/\RR wr b L D T a a2 (some ⟨g1,0,none⟩) (some ⟨g2,0,none⟩) a4 a6 ta/\KB b w wr) (fun i _ _ _=>tn-(intOf i).toNat)
 case atStart=>exact⟨0,a0g _,rfl,ab c7,ab dq,ab cs⟩
 case round=>
  obtain⟨k,hk,rfl,ho,cp,d4⟩:=hrel;clear c7 dq cs;have HO:=ae ho;have a5:=ae cp;have bl:=ae d4;have HK:=ae hk;have d3:Hid (b<wr.heap.size):=Out.lt ho;clear ho d4 hk;by_cases co:k<tn
  .
   have e7:(k:Int)<(tn:Int):=by omega
   obtain⟨g,o,rfl,hg,hc⟩:=cp.2.2.2.1 (by rw[ab V];omega);obtain⟨c0,c1,c2⟩:=hc k (by rw[ab V];exact co);have ca:Hid ((T.take (k+1)).flatMap (dL L D)=(T.take k).flatMap (dL L D)++dL L D (T.getD k k0)):=by
    show(T.take (k+1)).flatMap (dL L D)=_;rw[DD T k (by rw[ab V];exact co)];simp
   obtain⟨A,G⟩:=ab b9 (T.getD k k0) (by simp[List.getD,show k<T.length by rw[ab V];exact co]);have q:Hid ((aV p ((T.take k).flatMap (dL L D))).2<=80000):=by
    show _<=_;have h1:=kT L D (T.take k) p (ab s) (ab U) (fun t ht=>(ab b9 t (a2a ht)).2);have h2:(T.take k).length<=k:=List.length_take_le _ _;have h3:=ab Hp;omega
   clear hc cp;generalize T.getD k k0=t at *
   have O:Hid (aV p ((T.take (k+1)).flatMap (dL L D))=aV (aV p ((T.take k).flatMap (dL L D))) (dL L D t)):=by
    show aV p _=_;rw[ab ca,bi]
   generalize aV p ((T.take k).flatMap (dL L D))=P at *
   have a8:Below wr.heap.size wr (wr.alloc (.cells #[.int .i64 t.1,.int .i64 t.2.1,.int .i64 t.2.2] 229)):=(a0c _ _).alloc (a0a _) _;have a1:Hid (jy (wr.alloc (.cells #[.int .i64 t.1,.int .i64 t.2.1,.int .i64 t.2.2] 229)) b P):=Out.kept (ab HO) a8;have m:=ae ((ab a5).keep (bF a8));have N:=ae ((ab bl).below a8 (a0z (ab d3)));have bd:=ae (alloc_at wr (.cells #[.int .i64 t.1,.int .i64 t.2.1,.int .i64 t.2.2] 229));clear a8 HO a5 bl;cases Y:isB t
   .
    have hK:isK t=true:=by unfold okT at A;rw[Y]at A;simpa using A
    obtain⟨y0,y1,z0,z1⟩:=tp hK;have eh:t.1=0:=by unfold isK at hK;simp only[a0o,a0y]at hK;exact hK.1.1
    have v:Hid (257+fnd 3 4 t.2.1.toNat 27<n/\fnd 1 2 t.2.2.toNat 29<n2):=by
     have:=G;unfold fO at this;rw[a0d (by simp[Y]),ab F,ab B]at this;exact this
    have a3:Hid (dL L D t=[pcM L (257+fnd 3 4 t.2.1.toNat 27),((t.2.1.toNat:Int)-((stF 3 4 (fnd 3 4 t.2.1.toNat 27)).1:Int),((stF 3 4 (fnd 3 4 t.2.1.toNat 27)).2:Nat)),pcM D (fnd 1 2 t.2.2.toNat 29),((t.2.2.toNat:Int)-((stF 1 2 (fnd 1 2 t.2.2.toNat 29)).1:Int),((stF 1 2 (fnd 1 2 t.2.2.toNat 29)).2:Nat))]):=by
     show dL L D t=_;unfold dL;rw[a0d (by simp[Y])]
    have hy:t.2.1=((t.2.1.toNat:Nat):Int):=by omega
    have hz:t.2.2=((t.2.2.toNat:Nat):Int):=by omega
    have J:3<=t.2.1.toNat/\t.2.1.toNat<=60:=by omega
    have K:1<=t.2.2.toNat/\t.2.2.toNat<=250:=by omega
    have Eok1:=ae (Az t.2.1.toNat J.1 J.2);have Eok2:=ae (Ay t.2.2.toNat K.1 K.2);have Sy1:=ae (zN t.2.1.toNat J.1 J.2);have Sy2:=ae (ym t.2.2.toNat K.1 K.2);have e4:=gG 3 4 t.2.1.toNat 27;have e5:=gG 1 2 t.2.2.toNat 29;have At1:=ae (zL (fnd 3 4 t.2.1.toNat 27) (by omega));have At2:=ae (yj (fnd 1 2 t.2.2.toNat 29) (by omega));have ej:=ae (zM (fnd 3 4 t.2.1.toNat 27) (by omega));have ek:=ae (yl (fnd 1 2 t.2.2.toNat 29) (by omega));generalize stF 3 4 (fnd 3 4 t.2.1.toNat 27)=E at *
    generalize stF 1 2 (fnd 1 2 t.2.2.toNat 29)=E' at *
    generalize fnd 3 4 t.2.1.toNat 27=f at *
    generalize fnd 1 2 t.2.2.toNat 29=f' at *
    clear Y hK A G;obtain⟨tx,ty,tz⟩:=t;simp only at eh y0 y1 z0 z1 hy hz J K c0 c1 c2 m N a1 bd a3 Eok1 Eok2 Sy1 Sy2 O;generalize ty.toNat=y at *
    generalize tz.toNat=z at *
    subst eh hy hz;have fa:(f:Int)<28:=by omega
    have e6:(f':Int)<30:=by omega
    have ac:Hid (f<28):=by show f<28;omega
    have ad:Hid (f'<30):=by show f'<30;omega
    have eu:=aQ.1 (ab Eok1);have ev:=aQ.1 (ab Eok2);have e8:=bH ((y:Int)-(E.1:Int)) (by omega) (by omega);have e9:=bH ((z:Int)-(E'.1:Int)) (by omega) (by omega);clear eu ev e4 e5 J K;obtain⟨gl,ol,rfl,e3,e1⟩:=iW (ab m).2.2.1.1 (by rw[fj];exact ab ac);obtain⟨gk,ok,rfl,e2,e0⟩:=iW (ab m).2.2.1.2 (by rw[eZ];exact ab ad);have c5:=ae (fun W (hR:iz W b (some ⟨gl,ol,none⟩) jH)=>mU (some ⟨gl,ol,none⟩) c4 28 jH (y:Int) W fj hR.1 (by omega) (by omega));have cy:=ae (fun W (hR:iz W b (some ⟨gk,ok,none⟩) jB)=>mU (some ⟨gk,ok,none⟩) c6 30 jB (z:Int) W eZ hR.1 (by omega) (by omega));rw[ab Sy1]at c5;rw[ab Sy2]at cy;have al:Hid (wr.heap.size≠b):=by show _≠_;have:=ab d3;omega
    clear e1 e0 e3 e2;go_wp2_with fail;refine(ab c5 _ (ab m).2.2.1.1).mono ?_;rintro e w7 ⟨rfl,a0⟩;rw[a0];clear a0;have eI:(257:Int)+(f:Int)=((257+f:Nat):Int):=by omega
    have j:=ae (pp b P a (some ⟨g1,0,none⟩) cap n n (257+f) L _ (ab a1) (ab F) (ab m).1.1.1 (ab m).2.1.1.1 (ab v).1 (ab a7) ((ab s) _ (by rw[ab F];exact(ab v).1)).1 ((ab s) _ (by rw[ab F];exact(ab v).1)).2 (by have:=ab q;omega));rw[←eI]at j;clear eI;go_wp2_with fail;refine(ab j).mono ?_;rintro e x7 ⟨rfl,h7,k7⟩;have bs:=ae h7;have b7:=ae ((ab m).keep k7.2);have cu:=ae ((ab N).trans k7);have be:=ae (lK k7.2 (ab bd) (ab al) (by decide));have d0:Hid ((aV P [pcM L (257+f)]).2<=80100):=by
     show _<=_;have h1:=dK P [pcM L (257+f)] (fun x hx=>by simp only[a0Z,a1D,a1q]at hx;subst hx;have:=((ab s) (257+f) (by rw[ab F];exact(ab v).1)).1.2;show L.getD _ 0<=16;omega);have h2:=ab q;simp only[a0E,a0S]at h1;omega
    have H:Hid (∀W,bS b x7 W->W.cell? ⟨wr.heap.size,1,none⟩=some (.int .i64 (y:Nat))/\W.cell? ⟨gl,ol+f,none⟩=some (.int .i64 (E.1:Nat))):=by
     intro W hW;refine⟨bq (lK hW (ab be) (ab al) (by decide)) 1,?_⟩;obtain⟨g',o',e',_,aa⟩:=iW ((ab b7).2.2.1.1.keep hW) (k:=f) (by rw[fj];exact ab ac);simp only[a0l,a0B,a0O]at e';obtain⟨rfl,rfl⟩:=e';rw[ab At1]at aa;exact aa
    have dd:=ae (fun W (hW:jy W b (aV P [pcM L (257+f)]))=>eT b (aV P [pcM L (257+f)]) ((y:Int)-(E.1:Int)) (E.2:Nat) W hW (ab Eok1) (by have:=ab d0;omega));clear h7 k7 j a1 m N bd;go_wp2_with fail;have cc:Below x7.heap.size x7 x7.drew:=(a0c _ x7).drew;go_cut[] (fun wx=>jy wx b (aV (aV P [pcM L (257+f)]) [((y:Int)-(E.1:Int),(E.2:Nat))])/\KB b x7 wx)
    case first=>
     refine wp_region_held_drew (S:=fun W=>W.cell? ⟨wr.heap.size,1,none⟩=some (.int .i64 (y:Nat))/\W.cell? ⟨gl,ol+f,none⟩=some (.int .i64 (E.1:Nat))) bc (ab H _ (bF cc)) (fun u=>?_);refine af 0 (.pointer (some ⟨b,0,none⟩)) rfl (by kernel_rfl) (fun _ _ _ h=>h) rfl (?_) u ?_
     . intro W c;obtain⟨s0,s1⟩:=c;go_simp
     refine af 1 (.pointer (some ⟨wr.heap.size,1,none⟩)) rfl (by kernel_rfl) (fun _ _ _ h=>h) rfl (?_) u ?_
     . intro W c;obtain⟨s0,s1⟩:=c;go_simp
     refine af 2 (.int .i64 (y:Nat)) rfl (by kernel_rfl) (fun _ _ _ h=>h) rfl (?_) u ?_
     . intro W c;obtain⟨s0,s1⟩:=c;go_simp
     refine af 3 (.slice (some ⟨gl,ol,none⟩) 28 c4) rfl (by kernel_rfl) (fun _ _ _ h=>h) rfl (?_) u ?_
     . intro W c;obtain⟨s0,s1⟩:=c;go_simp
     refine af 4 (.int .i64 (f:Nat)) rfl (by kernel_rfl) (fun _ _ _ h=>h) rfl (?_) u ?_
     . intro W c;obtain⟨s0,s1⟩:=c;go_simp
     refine af 5 (.pointer (some ⟨gl,ol+f,none⟩)) rfl (by kernel_rfl) (fun _ _ _ h=>h) rfl (?_) u ?_
     . intro W c;obtain⟨s0,s1⟩:=c;go_simp
     refine af 6 (.int .i64 (E.1:Nat)) rfl (by kernel_rfl) (fun _ _ _ h=>h) rfl (?_) u ?_
     . intro W c;obtain⟨s0,s1⟩:=c;go_simp
     refine af 7 (.int .i64 ((y:Int)-(E.1:Int))) rfl (by kernel_rfl) (fun _ _ _ h=>h) rfl (?_) u ?_
     . intro W c;obtain⟨s0,s1⟩:=c;go_simp
     refine af 9 (.int .i64 (f:Nat)) rfl (by kernel_rfl) (fun _ _ _ h=>h) rfl (?_) u ?_
     . intro W c;obtain⟨s0,s1⟩:=c;go_simp
     refine ag 8 (by kernel_rfl) rfl fun C d=>?_;go_simp;go_at_call 166;refine(nU _).mono ?_;rintro e x8 ⟨⟨g8,rfl,o8⟩,b8⟩;have l:Below x7.heap.size x7 x8:=ai cc b8;have cg:=(o8.at rfl (ab ac)).1;rw[ab ej]at cg;have b0:=ae (Out.kept (ab bs) l);clear o8 b8;refine Shut.out d _ _ (ab H _ (bF l)) (fun ey=>?_);clear d C;refine ag 10 (by kernel_rfl) rfl fun C d=>?_;go_simp;refine Shut.out d _ _ (ab H _ (bF l)) (fun _=>?_);clear d C;refine ag 11 (by kernel_rfl) rfl fun C d=>?_;go_simp;refine Shut.out d _ _ (ab H _ (bF l)) (fun _=>?_);clear d C;refine ag 12 (by kernel_rfl) rfl fun C d=>?_;go_simp;go_at_call 119;refine(ab dd _ (ab b0)).mono ?_;rintro e x9 ⟨rfl,h9,k9⟩;have I:=ae (a0b h9 (((KB.refl b x7).below l (a0z (Out.lt (ab bs)))).trans k9));refine Shut.out d _ _ (ab H _ ((bF l).trans k9.2)) (fun _=>?_);clear d C h9 k9;refine wpAnyH_done (by kernel_rfl) ?_ _;go_wp2_with fail
     go_meet
     case rel=>exact ab I
    case rest=>
     obtain⟨d8,a9⟩:=hcut;have c8:=ae d8;have Q:=ae ((ab b7).keep a9.2);have cv:=ae ((ab cu).trans a9);have bk:=ae (lK a9.2 (ab be) (ab al) (by decide));have d1:Hid ((aV (aV P [pcM L (257+f)]) [((y:Int)-(E.1:Int),((E.2:Nat):Int))]).2<=80200):=by
      show _<=_;have h1:=dK (aV P [pcM L (257+f)]) [((y:Int)-(E.1:Int),((E.2:Nat):Int))] (fun x hx=>by simp only[a0Z,a1D,a1q]at hx;subst hx;exact(aQ.1 (ab Eok1)).1.2);have h2:=ab d0;simp only[a0E,a0S]at h1;omega
     have HE:Hid (∀r,aV P (pcM L (257+f) :: ((y:Int)-(E.1:Int),((E.2:Nat):Int)) :: r)=aV (aV (aV P [pcM L (257+f)]) [((y:Int)-(E.1:Int),((E.2:Nat):Int))]) r):=fun r=>by
      show aV P _=_;rw[←bi,←bi];rfl
     generalize aV (aV P [pcM L (257+f)]) [((y:Int)-(E.1:Int),((E.2:Nat):Int))]=P2 at *
     have bb:=bq (ab bk) 2;simp at bb;clear d8 a9 bs b7 cu be H dd cc;go_wp2_with fail;refine(ab cy _ (ab Q).2.2.1.2).mono ?_;rintro e w7 ⟨rfl,a0⟩;rw[a0];clear a0;have j:=ae (pp b P2 a2 (some ⟨g2,0,none⟩) X n2 n2 f' D _ (ab c8) (ab B) (ab Q).1.2.1 (ab Q).2.1.2.1 (ab v).2 (ab dv) ((ab U) _ (by rw[ab B];exact(ab v).2)).1 ((ab U) _ (by rw[ab B];exact(ab v).2)).2 (by have:=ab d1;omega));go_wp2_with fail;refine(ab j).mono ?_;rintro e xa ⟨rfl,ha,ka⟩;have c9:=ae ha;have ds:=ae ((ab Q).keep ka.2);have em:=ae ((ab cv).trans ka);have el:=ae (lK ka.2 (ab bk) (ab al) (by decide));have en:Hid ((aV P2 [pcM D f']).2<=80300):=by
      show _<=_;have h1:=dK P2 [pcM D f'] (fun x hx=>by simp only[a0Z,a1D,a1q]at hx;subst hx;have:=((ab U) f' (by rw[ab B];exact(ab v).2)).1.2;show D.getD _ 0<=16;omega);have h2:=ab d1;simp only[a0E,a0S]at h1;omega
     have R:Hid (∀W,bS b xa W->W.cell? ⟨wr.heap.size,2,none⟩=some (.int .i64 (z:Nat))/\W.cell? ⟨gk,ok+f',none⟩=some (.int .i64 (E'.1:Nat))):=by
      intro W hW;refine⟨bq (lK hW (ab el) (ab al) (by decide)) 2,?_⟩;obtain⟨g',o',e',_,aa⟩:=iW ((ab ds).2.2.1.2.keep hW) (k:=f') (by rw[eZ];exact ab ad);simp only[a0l,a0B,a0O]at e';obtain⟨rfl,rfl⟩:=e';rw[ab At2]at aa;exact aa
     have dl:=ae (fun W (hW:jy W b (aV P2 [pcM D f']))=>eT b (aV P2 [pcM D f']) ((z:Int)-(E'.1:Int)) (E'.2:Nat) W hW (ab Eok2) (by have:=ab en;omega));have cr:Hid (aV (aV P2 [pcM D f']) [((z:Int)-(E'.1:Int),((E'.2:Nat):Int))]=aV P2 [pcM D f',((z:Int)-(E'.1:Int),((E'.2:Nat):Int))]):=(bi P2 [pcM D f'] _).symm;clear ha ka j c8 Q cv bk bb;go_wp2_with fail;have d2:Below xa.heap.size xa xa.drew:=(a0c _ xa).drew;refine wp_region_held_drew (S:=fun W=>W.cell? ⟨wr.heap.size,2,none⟩=some (.int .i64 (z:Nat))/\W.cell? ⟨gk,ok+f',none⟩=some (.int .i64 (E'.1:Nat))) bc (ab R _ (bF d2)) (fun u=>?_);refine af 0 (.pointer (some ⟨b,0,none⟩)) rfl (by kernel_rfl) (fun _ _ _ h=>h) rfl (?_) u ?_
     . intro W c;obtain⟨s0,s1⟩:=c;go_simp
     refine af 1 (.pointer (some ⟨wr.heap.size,2,none⟩)) rfl (by kernel_rfl) (fun _ _ _ h=>h) rfl (?_) u ?_
     . intro W c;obtain⟨s0,s1⟩:=c;go_simp
     refine af 2 (.int .i64 (z:Nat)) rfl (by kernel_rfl) (fun _ _ _ h=>h) rfl (?_) u ?_
     . intro W c;obtain⟨s0,s1⟩:=c;go_simp
     refine af 3 (.slice (some ⟨gk,ok,none⟩) 30 c6) rfl (by kernel_rfl) (fun _ _ _ h=>h) rfl (?_) u ?_
     . intro W c;obtain⟨s0,s1⟩:=c;go_simp
     refine af 4 (.int .i64 (f':Nat)) rfl (by kernel_rfl) (fun _ _ _ h=>h) rfl (?_) u ?_
     . intro W c;obtain⟨s0,s1⟩:=c;go_simp
     refine af 5 (.pointer (some ⟨gk,ok+f',none⟩)) rfl (by kernel_rfl) (fun _ _ _ h=>h) rfl (?_) u ?_
     . intro W c;obtain⟨s0,s1⟩:=c;go_simp
     refine af 6 (.int .i64 (E'.1:Nat)) rfl (by kernel_rfl) (fun _ _ _ h=>h) rfl (?_) u ?_
     . intro W c;obtain⟨s0,s1⟩:=c;go_simp
     refine af 7 (.int .i64 ((z:Int)-(E'.1:Int))) rfl (by kernel_rfl) (fun _ _ _ h=>h) rfl (?_) u ?_
     . intro W c;obtain⟨s0,s1⟩:=c;go_simp
     refine af 9 (.int .i64 (f':Nat)) rfl (by kernel_rfl) (fun _ _ _ h=>h) rfl (?_) u ?_
     . intro W c;obtain⟨s0,s1⟩:=c;go_simp
     refine ag 8 (by kernel_rfl) rfl fun C d=>?_;go_simp;go_at_call 167;refine(nE _).mono ?_;rintro e x8 ⟨⟨g8,rfl,o8⟩,b8⟩;have l:Below xa.heap.size xa x8:=ai d2 b8;have cg:=(o8.at rfl (ab ad)).1;rw[ab ek]at cg;have b0:=ae (Out.kept (ab c9) l);clear o8 b8;refine Shut.out d _ _ (ab R _ (bF l)) (fun ey=>?_);clear d C;refine ag 10 (by kernel_rfl) rfl fun C d=>?_;go_simp;refine Shut.out d _ _ (ab R _ (bF l)) (fun _=>?_);clear d C;refine ag 11 (by kernel_rfl) rfl fun C d=>?_;go_simp;refine Shut.out d _ _ (ab R _ (bF l)) (fun _=>?_);clear d C;refine ag 12 (by kernel_rfl) rfl fun C d=>?_;go_simp;go_at_call 119;refine(ab dl _ (ab b0)).mono ?_;rintro e x9 ⟨rfl,h9,k9⟩;have I:=ae (a0b h9 (((KB.refl b xa).below l (a0z (Out.lt (ab c9)))).trans k9));refine Shut.out d _ _ (ab R _ ((bF l).trans k9.2)) (fun _=>?_);clear d C h9 k9;refine wpAnyH_done (by kernel_rfl) ?_ _;have HX:=ae (a0b (ab I).1 (a0b ((ab ds).keep (ab I).2.2) ((ab em).trans (ab I).2)));clear I;go_wp2;go_roundw
     case rel=>exact⟨k+1,by omega,by go_num,by rw[ab O,ab a3,ab HE,←ab cr];exact(ab HX).1,(ab HX).2.1,(ab HX).2.2⟩
     case measure=>simp[intOf];omega
   .
    obtain⟨q1,q2⟩:=qe Y;have ch:Hid (t.1.toNat<n):=by
     have:=G;unfold fO at this;rw[a0e Y,ab F]at this;exact this
    have a3:Hid (dL L D t=[pcM L t.1.toNat]):=by show dL L D t=_;unfold dL;rw[a0e Y]
    have ei:t.2.1=0:=by unfold isB at Y;simp only[a0o,a0y]at Y;exact Y.1
    have hx:t.1=((t.1.toNat:Nat):Int):=by omega
    have j:=ae (pp b P a (some ⟨g1,0,none⟩) cap n n t.1.toNat L _ (ab a1) (ab F) (ab m).1.1.1 (ab m).2.1.1.1 (ab ch) (ab a7) ((ab s) _ (by rw[ab F];exact ab ch)).1 ((ab s) _ (by rw[ab F];exact ab ch)).2 (by have:=ab q;omega));rw[←hx]at j;generalize t.1.toNat=xN at *
    clear Y A G hx;obtain⟨tx,ty,tz⟩:=t;simp only at ei q1 q2 c0 c1 c2 j m N;subst ei;go_wp2_with fail;refine(ab j).mono ?_;rintro e x7 ⟨rfl,h7,k7⟩;have HX:=ae (a0b h7 (a0b ((ab m).keep k7.2) ((ab N).trans k7)));clear h7 k7 j;go_wp2;go_roundw
    case rel=>exact⟨k+1,by omega,by go_num,by rw[ab O,ab a3];exact(ab HX).1,(ab HX).2.1,(ab HX).2.2⟩
    case measure=>simp[intOf];omega
  .
   obtain rfl:k=tn:=by have:=ab HK;omega
   have O:Hid (aV p (T.flatMap (dL L D)++[pcM L 256])=aV (aV p ((T.take k).flatMap (dL L D))) [pcM L 256]):=by
    show aV p _=_;rw[a0x (by rw[ab V];exact a0a _),bi]
   have q:Hid ((aV p ((T.take k).flatMap (dL L D))).2<=80000):=by
    show _<=_;have h1:=kT L D (T.take k) p (ab s) (ab U) (fun t ht=>(ab b9 t (a2a ht)).2);have h2:(T.take k).length<=k:=List.length_take_le _ _;have h3:=ab Hp;omega
   generalize aV p ((T.take k).flatMap (dL L D))=P at *
   have j:=ae (pp b P a (some ⟨g1,0,none⟩) cap n n 256 L _ (ab HO) (ab F) (ab a5).1.1.1 (ab a5).2.1.1.1 (ab M) (ab a7) ((ab s) _ (by rw[ab F];exact ab M)).1 ((ab s) _ (by rw[ab F];exact ab M)).2 (by have:=ab q;omega));go_wp2_with fail;refine(ab j).mono ?_;rintro e x7 ⟨rfl,h7,k7⟩;have HX:=ae (a0b h7 ((ab bl).trans k7));clear h7 k7 j;go_wp2
   go_end0
   exact⟨rfl,by rw[ab O];exact(ab HX).1,(ab HX).2⟩
theorem D6(h:ar l=true)(b:k<l.length):pOk ((aT l 15).2.getD k 0) (l.getD k 0)=true:=by
 have hb:=qd (iY h) b;rw[vt h b];by_cases a:1<=l.getD k 0
 . rw[a0e a];have:=(vq h b a).1;exact aQ.2 ⟨⟨hb.1,by omega⟩,by omega,by omega⟩
 .
  rw[a0d a];have e:l.getD k 0=0:=by omega
  rw[e];decide
theorem dF(h:ar l=true):lT l:=by
 intro k a;have hb:=qd (iY h) a;obtain⟨_,c0,c1⟩:=aQ.1 (D6 h a);refine⟨hb,c0,?_⟩;have b:p2 (l.getD k 0).toNat<=p2 15:=a0N (by omega) (by omega);have h2:p2 15=32768:=by decide
 omega
theorem na(h:ar l=true)(a:k<l.length):pcS l k=pcM l k:=by
 unfold pcS pcM;rw[D4 (D6 h a)]
theorem Kc(b:ar L=true)(c:ar D=true){t:Tk}(a:fO L D t):pcT L D t=dL L D t:=by
 unfold pcT dL;unfold fO at a
 split
 . rename_i h;rw[a0e h]at a;rw[na b a]
 . rename_i h;rw[a0d h]at a;rw[na b a.1,na c a.2]
theorem qP(c:ar L=true)(b:ar D=true)(T:List Tk)(a:∀t∈T,fO L D t):T.flatMap (pcT L D)=T.flatMap (dL L D):=by
 induction T with
 | nil=>rfl
 | cons t r ih=>rw[a0T,a0T,Kc c b (a t (by simp)),ih (fun x d=>a x (by simp[d]))]
theorem Mj(gL:lT L)(gD:lT D){t:Tk}(c:okT t=true)(a:fO L D t):bu (dL L D t)=true:=by
 unfold dL;unfold fO at a;unfold bu
 split
 . rename_i h;rw[a0e h]at a;simp only[a1Z,a2N,a2T];exact oc (gL _ a).1
 .
  rename_i h;rw[a0d h]at a;have d:isK t=true:=by unfold okT at c;simp only[a1A]at c;rcases c with b|b;exact absurd b h;exact b
  obtain⟨y0,y1,z0,z1⟩:=tp d;simp only[a1Z,a2N,a2T,a0o];exact⟨oc (gL _ a.1).1,Az _ (by omega) (by omega),oc (gD _ a.2).1,Ay _ (by omega) (by omega)⟩
theorem yY(gL:lT L)(gD:lT D)(T:List Tk)(h:∀t∈T,okT t=true/\fO L D t):bu (T.flatMap (dL L D))=true/\(T.flatMap (dL L D)).length<=4*T.length:=by
 induction T with
 | nil=>exact⟨rfl,by simp⟩
 | cons t r ih=>
  obtain⟨b,h2⟩:=ih (fun x e=>h x (by simp[e]));obtain⟨c,a⟩:=h t (by simp);have f:=(vW L D t gL gD a).2;refine⟨?_,by simp only[a0T,a0k,a0E];omega⟩;have d:=Mj gL gD c a;unfold bu at *
  rw[a0T,a1Y,d,b];rfl
theorem GT(L:List UInt8):∀n p,L.length-p<=n->∀t∈bG L p,okT t=true:=by
 intro n;induction n with
 | zero=>
  intro p b t a;rw[i7 (by omega)]at a;cases a
 | succ n ih=>
  intro p b t a;by_cases h:p<L.length
  .
   rw[lv h]at a;rcases a0Z.1 a with rfl|a
   . exact se L p
   . exact ih (p+j3 L p) (by have:=(jo L p).1;omega) t a
  . rw[i7 h]at a;cases a
theorem ib(s:ByteArray):∀t∈bG s.data.toList 0,okT t=true:=GT s.data.toList s.data.toList.length 0 (by omega)
def nr:List Int:=List.replicate 32 5
theorem jh:ar (cX 288)=true:=by decide +kernel
theorem oN:ar nr=true:=by decide +kernel
theorem km{t:Tk}(_:okT t=true):fO (cX 288) nr t:=by
 unfold fO
 split
 . rename_i hB;have:=qe hB;rw[cG];omega
 . have a:=gG 3 4 t.2.1.toNat 27;have h2:=gG 1 2 t.2.2.toNat 29;rw[cG];exact⟨by omega,by show _<(List.replicate 32 (5:Int)).length;rw[a0A];omega⟩
def kS(s:ByteArray):List (Int×Int):=[(1,1),(1,2)]++((bG s.data.toList 0).flatMap (dL (cX 288) nr)++[pcM (cX 288) 256])
theorem kH(s:ByteArray)(b:s.size<=300):(bG s.data.toList 0).length<=300:=by
 have h2:=wm s.data.toList s.data.toList.length 0 (by omega);have a:s.data.toList.length=s.size:=by simp
 omega
theorem wV(s:ByteArray)(f:s.size<=300):lOk (kS s)=true:=by
 obtain⟨b,h2⟩:=yY (dF jh) (dF oN) (bG s.data.toList 0) (fun t a=>⟨ib s t a,km (ib s t a)⟩);have g:=kH s f;have c:pOk (pcM (cX 288) 256).1 (pcM (cX 288) 256).2=true:=oc (dF jh 256 (by rw[cG];omega)).1;unfold lOk;have d:bu (kS s)=true:=by
  unfold kS;unfold bu at *
  rw[a1Y,a1Y,b];simp only[a1Z,a2N,c];decide
 have e:(kS s).length<=4000:=by unfold kS;simp only[a0k,a0E,a0S];omega
 rw[d];simpa using e
def lc(s:ByteArray):List UInt8:=gp (kS s)
theorem zs(s:ByteArray)(w:World)(p:s.size<=300) :
  Ds 93 #[.string s] w (.string ⟨(lc s).toArray⟩):=by
 have B:Hid (jy (w.alloc (.cells #[.slice none 0 0,.int .i64 0,.int .i64 0] 173)) w.heap.size (0,0)):=xH w 173;have d:Hid (KB w.heap.size w (w.alloc (.cells #[.slice none 0 0,.int .i64 0,.int .i64 0] 173))):=(KB.refl _ _).below ((a0c _ _).alloc (a0a _) _) (a0a _);have r:=ae p;have u:Hid (aV (aV (aV (0,0) [(1,1)]) [(1,2)]) ((bG s.data.toList 0).flatMap (dL (cX 288) nr)++[pcM (cX 288) 256])=cx (kS s)):=by
  show aV _ _=_;rw[←bi,←bi];rfl
 have H:Hid ((cx (kS s)).2<=90000):=by
  show _<=_;rw[←ab u,bi];have N:=kT (cX 288) nr (bG s.data.toList 0) (aV (aV (0,0) [(1,1)]) [(1,2)]) (dF jh) (dF oN) (fun t g=>km (ib s t g));have h2:=dK (aV (aV (aV (0,0) [(1,1)]) [(1,2)]) ((bG s.data.toList 0).flatMap (dL (cX 288) nr))) [pcM (cX 288) 256] (fun x D=>by simp only[a0Z,a1D,a1q]at D;subst D;have:=(dF jh 256 (by rw[cG];omega)).1.2;show(cX 288).getD 256 0<=16;omega);have O:=kH s p;have P:(aV (aV (0,0) [(1,1)]) [(1,2)]).2=3:=rfl;simp only[a0E,a0S]at h2;omega
 clear p;go_enter func93,ntmps93;go_wp2_with fail;refine(eT _ _ 1 1 _ (ab B) (by decide) (by show(0:Nat)<=_;omega)).mono ?_;rintro e x1 ⟨rfl,o1,h⟩;have m:=ae (a0b o1 ((ab d).trans h));clear o1 h B d;go_wp2_with fail;refine(eT _ _ 1 2 _ (ab m).1 (by decide) (by show(1:Nat)<=_;omega)).mono ?_;rintro e x2 ⟨rfl,o2,i⟩;have n:=ae (a0b o2 ((ab m).2.trans i));have a:Hid (w.heap.size<x2.heap.size):=Out.lt o2;clear o2 i m;go_wp2_with fail;refine(oO s _ (by have:=ab r;omega)).mono ?_;rintro e x3 ⟨v3,rfl,o3,z⟩;obtain⟨tn,htn⟩:∃tn,(bG s.data.toList 0).length=tn:=⟨_,rfl⟩;obtain⟨a3,c3,rfl⟩:=o3.formN htn;have N3:=ae (FI htn o3 (ab a));have j:=ae z;clear o3 z;go_wp2_with fail;refine(qY _).mono ?_;rintro e x4 ⟨v4,rfl,o4,o⟩;obtain⟨a4,c4,rfl⟩:=o4.formN (cG 288);have N4:=ae (fg (cG 288) o4 (a0m (ab a) (ab j).size));have N3':=ae ((ab N3).keep (bF o));have k:=ae (ai (ab j) o);clear o4 o N3 j;go_wp2_with fail;refine(qX _).mono ?_;rintro e x5 ⟨v5,rfl,o5,f⟩;have b:(List.replicate 32 (5:Int)).length=32:=a0A;obtain⟨a5,J,rfl⟩:=o5.formN b;have N5:=ae (fg b o5 (a0m (ab a) (ab k).size));have N3:=ae ((ab N3').keep (bF f));have N4':=ae ((ab N4).below f);have l:=ae (ai (ab k) f);have O5:=ae (Out.kept (ab n).1 (ab l));have y:=ae ((ab n).2.below (ab l) (a0z (ab a)));have q:Hid ((tn:Int)<=300):=by show(tn:Int)<=300;have:=kH s (ab r);omega
 have c:=ae (rx w.heap.size (aV (aV (0,0) [(1,1)]) [(1,2)]) a3 a4 a5 c3 tn c4 288 J 32 (bG s.data.toList 0) (cX 288) nr x5 (ab O5) (ab N3) (ab N4') (ab N5) htn (cG 288) b (by omega) (by omega) (dF jh) (dF oN) (by omega) (ab q) (by show(3:Nat)<=10000;omega) (fun t g=>⟨ib s t g,km (ib s t g)⟩));rw[ab u]at c;clear o5 f N3' N4 N5 k b htn;go_wp2_with fail;refine(ab c).mono ?_;rintro e x6 ⟨rfl,o6,E⟩;have I:=ae ((ab y).trans E).1;have O6:=ae o6;clear o6 E c N3 N4' O5 y l n;go_wp2_with fail;refine(ly _ _ _ _ (ab O6) (ab H)).mono ?_;rintro e x7 ⟨rfl,K,A⟩;obtain⟨_,v,T,Y⟩:=K;have e8:8*(((cx (kS s)).2+7)/8)/8=((cx (kS s)).2+7)/8:=by omega
 rw[e8]at Y;have Y':Bys x7 w.heap.size v (lc s):=Y;have M:=kR Y';have F:=ae ((ab I).trans A);obtain⟨k0,h,i,f0,f1,f2,L⟩:=T;clear Y Y' e8 h i A O6;generalize C:lc s=R at *
 have G:=ae C;clear C;go_wp2;go_ret;exact⟨by rw[ab G];rfl,ab F⟩
def lS(s:ByteArray):List UInt8:=if s.size<=300 then lc s else []
theorem Fw(s:ByteArray):[(1,1),(1,2)]++((bG s.data.toList 0).flatMap (pcT (cX 288) nr)++[pcS (cX 288) 256])=kS s:=by
 unfold kS;rw[qP jh oN _ (fun t a=>km (ib s t a)),na jh (by rw[cG];omega)]
theorem Gx{base cap:Nat}{l:List (Int×Int)}(f:l.length=n)(h:Pcs w base (.slice a n cap) l)(d:0<n):∃g,a=some ⟨g,0,none⟩/\∀(j:Nat) (u:Value),(aS l)[j]?=some u->w.cell? ((⟨g,0,none⟩:Addr).add j)=some u:=by
 rcases h.2 with⟨_,e⟩|⟨g,b,c,e,_⟩
 . omega
 . simp only[a0J]at e;obtain⟨rfl,_,rfl⟩:=e;exact⟨g,rfl,a1V h rfl⟩
theorem uU(s:ByteArray)(w:World)(I:s.size<=300) :
  Ds 109 #[.string s] w (.string ⟨(lc s).toArray⟩):=by
 obtain⟨i0,Z,N,O,P⟩:=a0p Tryz.infoPiece;have hI:¬ (300:Int)<(s.size:Int):=by omega
 have A:Hid ((w.alloc (.cells #[.int .i64 1,.int .i64 1,.int .i64 1,.int .i64 2] 185)).ownsRow w.heap.size 185 2 (.slice (some ⟨w.heap.size,0,none⟩) 2 2) 2 [.int .i64 1,.int .i64 1,.int .i64 1,.int .i64 2]):=a0Y w #[.int .i64 1,.int .i64 1,.int .i64 1,.int .i64 2] 2 (a0a _) (by unfold maxLen;omega) rfl;have y:Hid (Below w.heap.size w (w.alloc (.cells #[.int .i64 1,.int .i64 1,.int .i64 1,.int .i64 2] 185))):=(a0c _ _).alloc (a0a _) _;have Y:=ae I;have L:=ae (Fw s);have HP:Hid (qn (kS s)=lc s):=gi (wV s I);have n:Hid ((kS s).length<=4000):=by
  have:=wV s I;unfold lOk at this;simp only[a0o,a0y]at this;exact this.2
 clear I;go_enter func109,ntmps109;go_wp2_with fail;refine(jX 1 w).mono ?_;rintro e x1 ⟨rfl,k⟩;have p:=ae (show x1.ownsRow w.heap.size 185 2 (.slice (some ⟨w.heap.size,0,none⟩) 2 2) 2 [.int .i64 1,.int .i64 1,.int .i64 1,.int .i64 2] by rw[k];exact ab A);have o:=ae (show Below w.heap.size w x1 by rw[k];exact ab y);clear k A y;go_wp2_with fail;refine(lR _).mono ?_;rintro e x2 ⟨⟨C,rfl,z⟩,f⟩;have r:=ae (dN (ab p) f);have q:=ae (ai (ab o) f);have l:=ae z;clear z f p o;go_wp2_with fail;refine(un s _ (cX 288) nr C _ (ab Y) (ab l) (by rw[cG];omega) (by show(List.replicate 32 (5:Int)).length<=300;rw[a0A];omega) (by rw[cG];omega) (fun t ht=>km (ib s t ht))).mono ?_;rintro e x3 ⟨v,rfl,i,h⟩;have x:=ae (dN (ab r) h);have u:=ae (ai (ab q) h);clear h r q l;generalize B:(bG s.data.toList 0).flatMap (pcT (cX 288) nr)++[pcS (cX 288) 256]=R at *
 have M:0<R.length:=by rw[←B];simp
 obtain⟨m,hm⟩:∃m,R.length=m:=⟨_,rfl⟩;obtain⟨va,vc,rfl⟩:∃a cap,v = .slice a m cap:=by
  rcases i.2 with⟨_,h0⟩|⟨g,cap,_,e,_⟩
  . omega
  . exact⟨_,cap,by rw[←hm];exact e⟩
 obtain⟨g3,rfl,G⟩:=Gx hm i (by omega);have K:=ae G;have S:=ae hm;have T:Hid (2+m<=maxLen/\(2+m)*16<=140737488355328):=by
  show _/\_;have U:=ab n;rw[←ab L,a0k,hm]at U;unfold maxLen;simp only[a0E,a0S]at U;omega
 have F:=(ab u).size;clear B M i G hm;go_wp2_with (at_builtin;refine a0r _ rfl _ _ 182 rfl w.heap.size 185 i0 (.agg #[.int .i64 0,.int .i64 0]) 2 16 a1p Z N O P rfl (by decide) (.slice (some ⟨w.heap.size,0,none⟩) 2 2) _ _ rfl (ab x) ⟨g3,0,none⟩ m vc (aS R) rfl (by rw[lk,ab S]) (ab K) (gQ R) (ab T).1 (ab T).2 F ?_;intro v' x4 c b H;clear H);have W:([.int .i64 1,.int .i64 1,.int .i64 1,.int .i64 2]:List Value)++aS R=aS (kS s):=by rw[←ab L,ef];rfl
 have V:2+m=(kS s).length:=by rw[←ab L,a0k,ab S];rfl
 rw[W,V]at c;have d:Pcs x4 w.heap.size v' (kS s):=c;obtain⟨a4,c4,rfl⟩:=d.form;have D:Below w.heap.size w x4:=(ab u).grown b F (fun j hj=>(a0w (ab x) j hj).1);refine(fH a4 c4 (kS s) _ d.row (by have:=ab n;omega)).mono ?_;rintro e x5 ⟨rfl,E⟩;rw[ab HP];have J:=ae (ai D E);clear W V c d D E b;generalize B:lc s=Q at *
 have X:=ae B;clear B;go_wp2;go_ret;exact⟨by rw[ab X];rfl,ab J⟩
theorem pU(s:ByteArray)(w:World)(c:s.size<=1048576) :
  Ds 109 #[.string s] w (.string ⟨(lS s).toArray⟩):=by
 by_cases h:s.size<=300
 . have a:Hid (lS s=lc s):=a0e h;rw[ab a];exact uU s w h
 .
  have b:(300:Int)<(s.size:Int):=by omega
  have a:Hid (lS s=[]):=a0d h;clear h;go_enter func109,ntmps109;go_wp2;go_ret;exact⟨by rw[ab a];rfl,a0c _ _⟩
def byS(s:ByteArray):ByteArray:=⟨(jr s.data.toList).toArray⟩
def byF(s:ByteArray):ByteArray:=⟨(lS s).toArray⟩
theorem yz(s:ByteArray)(h:¬ s.size<=300):byS s=⟨#[]⟩:=by
 have:jr s.data.toList=[]:=by unfold jr;rw[a0d (by rw[jO];exact h)]
 unfold byS;rw[this]
theorem yw(s:ByteArray)(h:¬ s.size<=300):byF s=⟨#[]⟩:=by unfold byF lS;rw[a0d h]
def inc(o:List Int)(k:Nat):List Int:=o.set k (o.getD k 0+1)
def fJ(o:List Int)(s:List Nat):List Int:=s.foldl inc o
theorem iT(o:List Int)(k:Nat):(inc o k).length=o.length:=by simp[inc]
theorem d9(o:List Int)(s:List Nat):(fJ o s).length=o.length:=by
 induction s generalizing o with
 | nil=>rfl
 | cons x s ih=>show(fJ (inc o x) s).length=_;rw[ih,iT]
theorem gK(o:List Int)(s:List Nat)(x:Nat):fJ o (s++[x])=inc (fJ o s) x:=by simp[fJ]
theorem kY(o:List Int)(k j:Nat):(inc o k).getD j 0=o.getD j 0+(if j=k/\k<o.length then 1 else 0):=by
 unfold inc;simp only[List.getD_eq_getElem?_getD,List.getElem?_set];by_cases h:k=j
 .
  subst h;by_cases a:k<o.length
  . simp[a]
  . simp[a]
 . have:¬ j=k:=fun e=>h e.symm;simp[h,this]
theorem kj(o:List Int)(s:List Nat)(j:Nat):(fJ o s).getD j 0=o.getD j 0+(if j<o.length then(s.count j:Int)else 0):=by
 induction s generalizing o with
 | nil=>simp[fJ]
 | cons x s ih=>
  show(fJ (inc o x) s).getD j 0=_;rw[ih,kY,iT,List.count_cons];by_cases h:j=x
  .
   subst h;by_cases a:j<o.length
   . simp[a];omega
   . simp[a]
  .
   have:(x == j)=false:=by simp;exact fun e=>h e.symm
   simp[h,this]
theorem F5{a b:List Int}(d:a.length=b.length)(h:∀j,j<a.length->a.getD j 0=b.getD j 0):a=b:=by
 apply a2G d;intro i c h2;have:=h i c;simpa[List.getD,c,h2]using this
theorem gZ(n j:Nat):(List.replicate n (0:Int)).getD j 0=0:=by
 by_cases h:j<n<;>simp[List.getD,h]
theorem xY   (hk : k < l.length) (h : 0 < l.getD k 0) : 1 ≤ us l := by
  induction l generalizing k with
  | nil => simp at hk
  | cons b l ih =>
    simp only [us, a0H, a0M] at ih ⊢
    cases k with
    | zero => have : 0 < b := by simpa using h
              rw [a0e this]; omega
    | succ k => have := ih (k := k) (by simpa using hk) (by simpa using h); omega
theorem EK(h:us l=0)(k:Nat)(a:k<l.length):¬ 0<l.getD k 0:=fun b=>by have:=xY a b;omega
def iB(t:Tk):Nat:=if isB t then t.1.toNat else 257+fnd 3 4 t.2.1.toNat 27
def er(t:Tk):List Nat:=if isB t then []else [fnd 1 2 t.2.2.toNat 29]
theorem L4{t:Tk}(_:okT t=true):iB t<286:=by
 unfold iB
 split
 . rename_i hB;have:=qe hB;omega
 . have:=gG 3 4 t.2.1.toNat 27;omega
theorem IG{t:Tk} : ∀x∈er t,x<30:=by
 unfold er;intro x a
 split at a
 . simp at a
 . have:=gG 1 2 t.2.2.toNat 29;simp at a;omega
def fE(T:List Tk):List Int:=inc (fJ (List.replicate 286 0) (T.map iB)) 256
def fp(T:List Tk):List Int:=fJ (List.replicate 30 0) (T.flatMap er)
def cb(T:List Tk):List Int:=if us (fp T)=0 then inc (fp T) 0 else fp T
theorem eO(T:List Tk):(fE T).length=286:=by unfold fE;rw[iT,d9,a0A]
theorem fe(T:List Tk):(fp T).length=30:=by unfold fp;rw[d9,a0A]
theorem ff(T:List Tk):(cb T).length=30:=by unfold cb;split;rw[iT,fe];exact fe T
theorem oR(T:List Tk)(j:Nat)(a:j<286):(fE T).getD j 0=((T.map iB).count j:Int)+(if j=256 then 1 else 0):=by
 unfold fE;rw[kY,kj,d9,a0A,gZ,a0e a];by_cases h:j=256<;>simp[h]
theorem pJ(T:List Tk)(j:Nat)(a:j<30):(fp T).getD j 0=((T.flatMap er).count j:Int):=by
 unfold fp;rw[kj,a0A,gZ,a0e a];simp
theorem CI(T:List Tk):fJ (inc (List.replicate 286 0) 256) (T.map iB)=fE T:=by
 apply F5
 . rw[d9,iT,eO,a0A]
 . intro j a;rw[d9,iT,a0A]at a;rw[oR T j a,kj,kY,iT,a0A,gZ,a0e a];by_cases h:j=256<;>simp[h];omega
theorem sQ(T:List Tk):(T.flatMap er).length<=T.length:=by
 induction T with
 | nil=>simp
 | cons t r ih=>
  have:(er t).length<=1:=by unfold er;split<;>simp
  simp only[a0T,a0k,a0E];omega
theorem xy(T:List Tk)(c:T.length<=300):okC (fE T):=by
 intro i a;rw[eO]at a;rw[oR T i a];have b:(T.map iB).count i<=(T.map iB).length:=a3h;rw[a0K]at b
 split<;>omega
theorem IF(T:List Tk)(c:T.length<=300):∀i,i<30->0<=(fp T).getD i 0/\(fp T).getD i 0<=300:=by
 intro i a;rw[pJ T i a];have b:(T.flatMap er).count i<=(T.flatMap er).length:=a3h;have h2:=sQ T;omega
theorem sM(T:List Tk)(b:T.length<=300):okC (cb T):=by
 intro i a;rw[ff]at a;have:=IF T b i a;unfold cb
 split
 . rw[kY];split<;>omega
 . omega
theorem xz(T:List Tk):1<=us (fE T)/\us (fE T)<=286:=by
 refine⟨xY (k:=256) (by rw[eO];omega) ?_,by have:=rD (fE T);rw[eO]at this;exact this⟩;rw[oR T 256 (by omega),a0e rfl];omega
theorem sN(T:List Tk):1<=us (cb T)/\us (cb T)<=30:=by
 refine⟨?_,by have:=rD (cb T);rw[ff]at this;exact this⟩;unfold cb
 split
 . rename_i h;refine xY (k:=0) (by rw[iT,fe];omega) ?_;rw[kY,pJ T 0 (by omega),fe,a0e (by omega)];omega
 . omega
theorem Fe(T:List Tk)(j:Nat)(h:0<(fp T).getD j 0):0<(cb T).getD j 0:=by
 unfold cb
 split
 . rw[kY];split<;>omega
 . exact h
def dU(l:List Int)(least:Nat):Nat->Nat
 | 0=>0
 | n+1=>if least<n+1/\l.getD n 0=0 then dU l least n else n+1
def nh(l:List Int)(least:Nat):List Int:=l.take (dU l least l.length)
theorem pH{least:Nat}(h:least<n+1/\l.getD n 0=0):dU l least (n+1)=dU l least n:=by simp only[dU];rw[a0e h]
theorem mN{least:Nat}(h:¬ (least<n/\l.getD (n-1) 0=0)):dU l least n=n:=by
 cases n with
 | zero=>rfl
 | succ n=>rw[a3E]at h;simp only[dU];rw[a0d h]
theorem rU(l:List Int)(least n:Nat):dU l least n<=n:=by
 induction n with
 | zero=>exact a0a _
 | succ n ih=>simp only[dU];split<;>omega
theorem sK (l : List Int) (least n : Nat) (h : least ≤ n) : least ≤ dU l least n := by
  induction n with
  | zero => exact h
  | succ n ih => simp only [dU]; split
                 . exact ih (by omega)
                 . exact h
theorem vu(l:List Int)(least n j:Nat)(a:dU l least n<=j)(h2:j<n):l.getD j 0=0:=by
 induction n with
 | zero=>omega
 | succ n ih=>
  by_cases b:least<n+1/\l.getD n 0=0
  .
   rw[pH b]at a;by_cases e:j=n
   . subst e;exact b.2
   . exact ih a (by omega)
  . simp only[dU]at a;rw[a0d b]at a;omega
theorem ii(l:List Int)(least:Nat):(nh l least).length=dU l least l.length:=by
 unfold nh;rw[a0v];have:=rU l least l.length;omega
theorem KM(l:List Int)(c j:Nat)(h:j<c):(l.take c).getD j 0=l.getD j 0:=by
 simp[List.getD,h]
theorem yH(l:List Int)(least j:Nat)(h:j<l.length):(nh l least).getD j 0=l.getD j 0:=by
 by_cases a:j<dU l least l.length
 . exact KM l _ j a
 .
  rw[vu l least l.length j (by omega) h];have:(nh l least).length<=j:=by rw[ii];omega
  simp[List.getD,this]
theorem Hi(h:∀x∈l,x=0):kr l=0/\us l=0:=by
 induction l with
 | nil=>exact⟨rfl,rfl⟩
 | cons b l ih=>
  obtain⟨a,h2⟩:=ih (fun x c=>h x (by simp[c]));have hb:b=0:=h b (by simp);subst hb;simp only[kr,us,a0H,a0M]at a h2 ⊢;rw[a,h2];exact⟨rfl,rfl⟩
theorem IE(l:List Int)(least:Nat):kr (nh l least)=kr l/\us (nh l least)=us l:=by
 have h:∀x∈l.drop (dU l least l.length),x=0:=by
  intro x c;obtain⟨i,b,rfl⟩:=List.mem_iff_getElem.1 c;rw[List.getElem_drop];rw[a1b]at b;have:=vu l least l.length (dU l least l.length+i) (by omega) (by omega);have a:dU l least l.length+i<l.length:=by omega
  simpa[List.getD,a]using this
 obtain⟨d,h2⟩:=Hi h;have e:l=nh l least++l.drop (dU l least l.length):=(a1H _ _).symm;have f:kr l=kr (nh l least)+kr (l.drop (dU l least l.length)):=by
  conv=>lhs;rw[e]
  simp[kr]
 have g:us l=us (nh l least)+us (l.drop (dU l least l.length)):=by
  conv=>lhs;rw[e]
  simp[us]
 omega
theorem tJ(least:Nat)(h:ar l=true):ar (nh l least)=true:=by
 obtain⟨b,h2⟩:=IE l least;unfold ar lx at h ⊢;rw[b,h2];simp only[a0o,a0y]at h ⊢;obtain⟨⟨a,hb⟩,c⟩:=h;refine⟨⟨?_,by rw[ii];have:=rU l least l.length;omega⟩,c⟩;unfold inL at a ⊢;rw[a09]at a ⊢;intro x d;exact a x (a2a d)
def bQ(T:List Tk):List Int:=nh (cW 15 (fE T)) 257
def cm(T:List Tk):List Int:=nh (cW 15 (cb T)) 1
theorem Al:p2 14=16384:=by decide
theorem Nx:p2 6=64:=by decide
theorem Ju(T:List Tk)(a:T.length<=300):(cW 15 (fE T)).length=286/\ar (cW 15 (fE T))=true/\∀i,i<286->0<=(cW 15 (fE T)).getD i 0/\(cW 15 (fE T)).getD i 0<=15/\(0<(cW 15 (fE T)).getD i 0<->0<(fE T).getD i 0):=by
 have b:=xz T;have h:=tM (m:=14) (xy T a) (by rw[eO];omega) (by rw[eV];omega) (by rw[eV];have h2:=Al;omega) (by omega);rw[eO]at h;exact h
theorem yK(T:List Tk)(a:T.length<=300):(cW 15 (cb T)).length=30/\ar (cW 15 (cb T))=true/\∀i,i<30->0<=(cW 15 (cb T)).getD i 0/\(cW 15 (cb T)).getD i 0<=15/\(0<(cW 15 (cb T)).getD i 0<->0<(cb T).getD i 0):=by
 have b:=sN T;have h:=tM (m:=14) (sM T a) (by rw[ff];omega) (by rw[eV];omega) (by rw[eV];have h2:=Al;omega) (by omega);rw[ff]at h;exact h
theorem kz(T:List Tk)(b:T.length<=300):257<=(bQ T).length/\(bQ T).length<=286:=by
 obtain⟨a,_,_⟩:=Ju T b;unfold bQ;rw[ii,a];exact⟨sK _ _ _ (by omega),rU _ _ _⟩
theorem mb(T:List Tk)(b:T.length<=300):1<=(cm T).length/\(cm T).length<=30:=by
 obtain⟨a,_,_⟩:=yK T b;unfold cm;rw[ii,a];exact⟨sK _ _ _ (by omega),rU _ _ _⟩
theorem ia(T:List Tk)(a:T.length<=300):ar (bQ T)=true:=tJ 257 (Ju T a).2.1
theorem jI(T:List Tk)(a:T.length<=300):ar (cm T)=true:=tJ 1 (yK T a).2.1
theorem Ce{j:Nat}(h:0<l.getD j 0):j<l.length:=by
 rcases a1o j l.length with a|a
 . exact a
 . simp[List.getD,a]at h
theorem J4(T:List Tk)(d:T.length<=300)(k:Nat)(b:k=256∨k∈T.map iB)(a:k<286):0<(bQ T).getD k 0:=by
 obtain⟨e,_,c⟩:=Ju T d;unfold bQ;rw[yH _ _ _ (by omega)];refine(c k a).2.2.2 ?_;rw[oR T k a];rcases b with rfl|b
 . rw[a0e rfl];omega
 .
  have:=List.count_pos_iff.2 b
  split<;>omega
theorem JZ(T:List Tk)(c:T.length<=300)(k:Nat)(d:k∈T.flatMap er)(a:k<30):0<(cm T).getD k 0:=by
 obtain⟨e,_,b⟩:=yK T c;unfold cm;rw[yH _ _ _ (by omega)];refine(b k a).2.2.2 (Fe T k ?_);rw[pJ T k a];have:=List.count_pos_iff.2 d;omega
theorem Mh(T:List Tk)(c:T.length<=300)(a:∀t∈T,okT t=true)(t:Tk)(b:t∈T):0<(bQ T).getD (iB t) 0/\∀k∈er t,0<(cm T).getD k 0:=by
 refine⟨J4 T c _ (.inr (a2W b)) (L4 (a t b)),fun k d=>JZ T c k ?_ (IG k d)⟩;exact List.mem_flatMap.2 ⟨t,b,d⟩
theorem me(T:List Tk)(c:T.length<=300)(b:∀t∈T,okT t=true)(t:Tk)(d:t∈T):fO (bQ T) (cm T) t:=by
 obtain⟨a,h2⟩:=Mh T c b t d;unfold fO;unfold iB at a;unfold er at h2
 split
 . rename_i h;rw[a0e h]at a;exact Ce a
 . rename_i h;rw[a0d h]at a h2;exact⟨Ce a,Ce (h2 _ (by simp))⟩
def nG(A:List Int):List Int:=fJ (List.replicate 19 0) (A.map Int.toNat)
def aP(A:List Int):List Int:=cW 7 (nG A)
theorem fB(A:List Int):(nG A).length=19:=by unfold nG;rw[d9,a0A]
theorem yD(A:List Int)(j:Nat)(a:j<19):(nG A).getD j 0=((A.map Int.toNat).count j:Int):=by
 unfold nG;rw[kj,a0A,gZ,a0e a];simp
theorem wJ(A:List Int)(c:A.length<=400):okC (nG A):=by
 intro i a;rw[fB]at a;rw[yD A i a];have b:(A.map Int.toNat).count i<=(A.map Int.toNat).length:=a3h;rw[a0K]at b;omega
theorem wK(A:List Int)(a:0<A.length)(b:∀x∈A,0<=x/\x<=15):1<=us (nG A)/\us (nG A)<=19:=by
 refine⟨?_,by have:=rD (nG A);rw[fB]at this;exact this⟩;have c:=b A[0] (a2i a);refine xY (k:=(A[0]).toNat) (by rw[fB];omega) ?_;rw[yD A _ (by omega)];have:=List.count_pos_iff.2 (a2W (f:=Int.toNat) (a2i a));omega
theorem Cx(A:List Int)(a:0<A.length)(b:A.length<=400)(c:∀x∈A,0<=x/\x<=15):(aP A).length=19/\ar (aP A)=true/\∀i,i<19->0<=(aP A).getD i 0/\(aP A).getD i 0<=7/\(0<(aP A).getD i 0<->0<(nG A).getD i 0):=by
 have d:=wK A a c;have h:=tM (m:=6) (wJ A b) (by rw[fB];omega) (by rw[eV];omega) (by rw[eV];have h2:=Nx;omega) (by omega);rw[fB]at h;exact h
def fG(L D:List Int):List (Int×Int):=
 [((L.length:Int)-257,5),((D.length:Int)-1,5),(15,4)]++(bT.map (fun i=>((aP (L++D)).getD i 0,(3:Int)))++(L++D).map (fun x=>pcM (aP (L++D)) x.toNat))
def kA(T:List Tk):List (Int×Int):=[(1,1),(2,2)]++(fG (bQ T) (cm T)++(T.flatMap (dL (bQ T) (cm T))++[pcM (bQ T) 256]))
theorem mW(h:ar l=true):∀x∈l,0<=x/\x<=15:=by
 intro x b;obtain⟨i,a,rfl⟩:=List.mem_iff_getElem.1 b;have:=qd (iY h) a;simpa[List.getD,a]using this
theorem A9(g:ar L=true)(f:ar D=true)(l0:257<=L.length)(l1:L.length<=286)(m:1<=D.length)(n:D.length<=30):bu (fG L D)=true/\(fG L D).length<=338:=by
 have c:∀x∈L++D,0<=x/\x<=15:=by
  intro x b;rcases a0U.1 b with h|h
  . exact mW g x h
  . exact mW f x h
 obtain⟨d,h2,e⟩:=Cx (L++D) (by rw[a0k];omega) (by rw[a0k];omega) c;refine⟨?_,?_⟩
 .
  unfold fG bu;rw[a1Y,a1Y];simp only[a0o];refine⟨?_,?_,?_⟩
  .
   simp only[a1Z,a2N,a2T,a0o];refine⟨aQ.2 ⟨by omega,by omega,?_⟩,aQ.2 ⟨by omega,by omega,?_⟩,by decide⟩
   .
    have:p2 (5:Int).toNat=32:=by decide
    rw[this];omega
   .
    have:p2 (5:Int).toNat=32:=by decide
    rw[this];omega
  .
   rw[a09];intro x b;obtain⟨i,j,rfl⟩:=a2J.1 b;have a:i<19:=by
    have:∀i∈bT,i<19:=by decide
    exact this i j
   have:=e i a;refine aQ.2 ⟨by omega,this.1,?_⟩;have:p2 (3:Int).toNat=8:=by decide
   rw[this];omega
  . rw[a09];intro x b;obtain⟨y,k,rfl⟩:=a2J.1 b;have l:=c y k;exact oc (qd (iY h2) (by rw[d];omega))
 . unfold fG;simp only[a0k,a0K,a0E,a0S];have:bT.length=19:=rfl;omega
theorem Ev(T:List Tk)(a:T.length<=300)(b:∀t∈T,okT t=true):lOk (kA T)=true:=by
 have gL:=dF (ia T a);have gD:=dF (jI T a);obtain⟨l0,l1⟩:=kz T a;obtain⟨d,e⟩:=mb T a;obtain⟨f,h2⟩:=yY gL gD T (fun t c=>⟨b t c,me T a b t c⟩);obtain⟨t1,t2⟩:=A9 (ia T a) (jI T a) l0 l1 d e;have g:pOk (pcM (bQ T) 256).1 (pcM (bQ T) 256).2=true:=oc (gL 256 (by omega)).1;unfold lOk;have h:bu (kA T)=true:=by
  unfold kA;unfold bu at *
  rw[a1Y,a1Y,a1Y,f,t1];simp only[a1Z,a2N,g];decide
 have i:(kA T).length<=4000:=by unfold kA;simp only[a0k,a0E,a0S];omega
 rw[h];simpa using i
def uh(s:ByteArray):List UInt8:=gp (kA (bG s.data.toList 0))
theorem qZ(g o:Nat)(cap n least:Nat)(l:List Int)(w:World)(G:l.length=n)(h:∀i,i<n->w.cell? ⟨g,o+i,none⟩=some (.int .i64 (l.getD i 0)))(v:n<=cap)(E:n<=300)(D:least<=n) :
  Calls prog 143 #[.slice (some ⟨g,o,none⟩) n cap,.int .i64 (least:Nat)] w fun e w'=>e = .returned (.slice (some ⟨g,o,none⟩) (dU l least n) cap)/\w'=w:=by
 have A:(n:Int)<=(cap:Int):=by omega
 have F:(n:Int)<=300:=by omega
 have H:=ae h;clear h G v E D;go_enter func143,ntmps143;go_wp2
 go_loop [5] (fun x=>∃k:Nat,k<=n/\x = .int .i64 k/\dU l least n=dU l least k) (fun x=>(intOf x).toNat)
 case atStart=>exact⟨n,a0a _,rfl,rfl⟩
 case round=>
  obtain⟨k,q,rfl,c⟩:=hrel;have f:=ae c;have p:=ae q;have C:(k:Int)<=(n:Int):=by omega
  clear c q;by_cases b:least<k
  .
   have r:decide ((least:Int)<(k:Int))=true:=a0u (by omega);have d:(least:Int)<(k:Int):=by omega
   obtain⟨j,hj⟩:∃j,k=j+1:=⟨k-1,by omega⟩;subst hj;have z:=ab H j (by have:=ab p;omega);have J:=ae (fun h=>pH (l:=l) (least:=least) (n:=j) h);have I:=ae (fun h=>mN (l:=l) (least:=least) (n:=j+1) h);have B:(j:Int)<(n:Int):=by omega
   generalize s:l.getD j 0=y at *
   have u:=ae s;clear s;by_cases m:y=0
   .
    subst m;have a:Hid (dU l least n=dU l least j):=(ab f).trans (ab J ⟨b,rfl⟩);have t:Hid (j<=n):=by show j<=n;have:=ab p;omega
    clear b;go_wp2
    go_round
    case rel=>exact⟨j,ab t,by go_num,ab a⟩
    case measure=>simp[intOf]
   .
    have K:(y == 0)=false:=by simpa using m
    have a:Hid (dU l least n=j+1):=(ab f).trans (ab I (by rw[a3E,ab u];exact fun h=>m h.2));clear b;go_wp2;go_ret;exact⟨by rw[ab a];rfl,rfl⟩
  .
   have d:¬ (least:Int)<(k:Int):=by omega
   have a:Hid (dU l least n=k):=(ab f).trans (mN (fun h=>b h.1));clear b;go_wp2;go_ret;exact⟨by rw[ab a];rfl,rfl⟩
theorem tE(g o:Nat)(cap n least:Nat)(l:List Int)(w:World)(G:l.length=n)(h:∀i,i<n->w.cell? ⟨g,o+i,none⟩=some (.int .i64 (l.getD i 0)))(v:n<=cap)(E:n<=300)(D:least<=n) :
  Calls prog 126 #[.slice (some ⟨g,o,none⟩) n cap,.int .i64 (least:Nat)] w fun e w'=>e = .returned (.slice (some ⟨g,o,none⟩) (dU l least n) cap)/\w'=w:=by
 have A:(n:Int)<=(cap:Int):=by omega
 have F:(n:Int)<=300:=by omega
 have H:=ae h;clear h G v E D;go_enter func126,ntmps126;go_wp2
 go_loop [5] (fun x=>∃k:Nat,k<=n/\x = .int .i64 k/\dU l least n=dU l least k) (fun x=>(intOf x).toNat)
 case atStart=>exact⟨n,a0a _,rfl,rfl⟩
 case round=>
  obtain⟨k,q,rfl,c⟩:=hrel;have f:=ae c;have p:=ae q;have C:(k:Int)<=(n:Int):=by omega
  clear c q;by_cases b:least<k
  .
   have r:decide ((least:Int)<(k:Int))=true:=a0u (by omega);have d:(least:Int)<(k:Int):=by omega
   obtain⟨j,hj⟩:∃j,k=j+1:=⟨k-1,by omega⟩;subst hj;have z:=ab H j (by have:=ab p;omega);have J:=ae (fun h=>pH (l:=l) (least:=least) (n:=j) h);have I:=ae (fun h=>mN (l:=l) (least:=least) (n:=j+1) h);have B:(j:Int)<(n:Int):=by omega
   generalize s:l.getD j 0=y at *
   have u:=ae s;clear s;by_cases m:y=0
   .
    subst m;have a:Hid (dU l least n=dU l least j):=(ab f).trans (ab J ⟨b,rfl⟩);have t:Hid (j<=n):=by show j<=n;have:=ab p;omega
    clear b;go_wp2
    go_round
    case rel=>exact⟨j,ab t,by go_num,ab a⟩
    case measure=>simp[intOf]
   .
    have K:(y == 0)=false:=by simpa using m
    have a:Hid (dU l least n=j+1):=(ab f).trans (ab I (by rw[a3E,ab u];exact fun h=>m h.2));clear b;go_wp2;go_ret;exact⟨by rw[ab a];rfl,rfl⟩
  .
   have d:¬ (least:Int)<(k:Int):=by omega
   have a:Hid (dU l least n=k):=(ab f).trans (mN (fun h=>b h.1));clear b;go_wp2;go_ret;exact⟨by rw[ab a];rfl,rfl⟩
theorem Tryz.infoLenK:(prog.info? 268).map (·.size)=some 19:=by kernel_rfl
theorem zE(a:Option Addr)(cap n base:Nat)(l:List Int)(w:World)(b:l.length=n)(h:ck w base a l)(g:base<=w.heap.size)(f:n<=300) :
  Calls prog 193 #[.slice a n cap] w fun e w'=>(∃C,e = .returned (.agg C)/\bJ w' base l C)/\Below w.heap.size w w':=by
 refine(Bkx.codeBook_any Bkx.bkN (.inr (.inr rfl)) a cap n l w b h.1 f).mono ?_;rintro e w' ⟨vs,C,rfl,d,c,h2,hb⟩;obtain⟨q,sc,rfl⟩:=h2.form;subst b;exact⟨⟨C,rfl,a,cap,_,_,q,sc,d,h.later hb,(bE (bw l 15) (c.own (bw l 15))).mono (by omega),(bE rfl h2).mono (by omega)⟩,hb⟩
theorem Cv(k:Nat)(l:List Int)(C:Array Value)(base:Nat)(w:World)(d:bJ w base l C)(f:k<l.length)(g:l.length<=300) :
  Ds 195 #[.agg C,.int .i64 (k:Int)] w (.agg #[.int .i64 (btI ((aT l 15).2.getD k 0) (l.getD k 0)),.int .i64 (l.getD k 0)]):=by
 obtain⟨a,cap,ac,b,q,sc,e,c,h2,h⟩:=d;exact Bkx.bookPut_any Bkx.bkN (.inr (.inr rfl)) a ac cap l.length b k _ _ C l (aT l 15).2 w e rfl (bw l 15) c.1 h2.1 f g
def sr(w:World)(b base:Nat)(l:List Int)(C:Array Value):Prop:=bJ w base l C/\w.rangeAt b 0 C.toList/\b<w.heap.size
theorem sr.later{base:Nat}{C:Array Value}(h:sr w b base l C)(hb:Below w.heap.size w w'):sr w' b base l C:=
 ⟨h.1.later hb,jK h.2.1 hb h.2.2,a0m h.2.2 hb.size⟩
theorem AZ(k b base:Nat)(l:List Int)(C:Array Value)(w:World)(d:sr w b base l C)(h:k<l.length)(i:l.length<=300) :
  Ds 194 #[.int .i64 (k:Int),.pointer (some ⟨b,0,none⟩)] w (.agg #[.int .i64 (pcS l k).1,.int .i64 (pcS l k).2]):=by
 have c:Below w.heap.size w (w.alloc (.cells #[.int .i64 0,.int .i64 0] 185)):=(a0c _ _).alloc (a0a _) _;have j:=ae c;have m:=ae (d.later c).2.1;have n:=ae d.1.size;have HP:=ae (Cv k l C base _ (d.later c).1 h i);have f:Hid (pcS l k=(btI ((aT l 15).2.getD k 0) (l.getD k 0),l.getD k 0)):=rfl;generalize btI ((aT l 15).2.getD k 0) (l.getD k 0)=u at *
 generalize l.getD k 0=v at *
 clear d h i c;go_enter func194,ntmps194;go_wp2_with (first
  | (refine bh rfl 268 (.tmp 1) rfl b 0 rfl C _ (ab m) a28 rfl (by rw[ab n];exact Tryz.infoLenK) ?_)
  | (go_at_call 195;refine(ab HP).mono ?_;rintro e x1 ⟨rfl,a⟩;have g:=ts a;obtain⟨m0,m1,_⟩:=da g;obtain⟨n0,n1⟩:=mT g))
 have o:=qf g (.int .i64 u) (.int .i64 v);obtain⟨p,q,_⟩:=da o;refine a0F (v:=.agg #[.int .i64 u,.int .i64 v]) (by simp[results,results194,go_sem,p,q]) rfl ⟨by rw[ab f],?_⟩;exact ah (ah (ai (ab j) a) (a0a _) _) (a0a _) _
def iK(l:List Int)(t:List Int):List (Int×Int):=t.map fun x=>pcS l x.toNat
theorem Cz(l t:List Int)(k:Nat)(h:k<t.length):iK l (t.take (k+1))=iK l (t.take k)++[pcS l (t.getD k 0).toNat]:=by
 unfold iK;rw[bX t k h,a0I];rfl
theorem Fh(a:Option Addr)(cap n b base:Nat)(t l:List Int)(C:Array Value)(w:World)(P:t.length=n)(h:aY w a t)(O:n<=1000)(L:sr w b base l C)(N:l.length<=300)(m:∀i,i<t.length->0<=t.getD i 0/\t.getD i 0<(l.length:Int)) :
  Calls prog 129 #[.slice a n cap,.func (.func 194) #[] #[.pointer (some ⟨b,0,none⟩)]] w fun e w'=>∃v,e = .returned v/\Pcs w' w.heap.size v (iK l t)/\Below w.heap.size w w':=by
 have aa:(n:Int)<=1000:=by omega
 have A:=ae P;have V:=ae O;have U:=ae N;have Q:=ae m;have S:=ae L;clear P O m N L;obtain⟨i0,hi,I,J,K⟩:=a0p Tryz.infoPiece;go_enter func129,ntmps129;go_wp2_with fail
 go_loopw [5,7,10] (fun o _ i wr=>∃k:Nat,k<=n/\i = .int .i64 k/\Pcs wr w.heap.size o (iK l (t.take k))/\Below w.heap.size w wr) (fun _ _ i _=>n-(intOf i).toNat)
 case atStart=>exact⟨0,a0g _,rfl,a04 _ _ _ _,a0c _ _⟩
 case round=>
  obtain⟨k,M,rfl,hq,c⟩:=hrel;have Z:=c.size;by_cases x:k<n
  .
   obtain⟨g,o,rfl,hg,B⟩:=(h.later c) (by rw[ab A];omega);have c0:=B k (by rw[ab A];exact x);have F:=ae (Cz l t k (by rw[ab A];exact x));have H:Hid ((iK l (t.take k)).length=k):=by show(iK l (t.take k)).length=k;unfold iK;have:=ab A;simp;omega
   obtain⟨y0,y1⟩:=ab Q k (by rw[ab A];exact x);have T:=ae M;clear B M h;generalize t.getD k 0=y at *
   obtain⟨q,rfl⟩:=a0s y0;rw[a0t]at F;have HP:=ae (AZ q b base l C wr ((ab S).later c) (by omega) (ab U));generalize Y:pcS l q=R at *
   clear Y;obtain⟨W,X⟩:=R;go_wp2_with fail;refine(ab HP).mono ?_;rintro e x1 ⟨rfl,u⟩;have z:=Pcs.later hq u (a0a _);have d:=ai c u;have p:=d.size;have j:Hid ((iK l (t.take k)).length+1<=maxLen/\((iK l (t.take k)).length+1)*16<=140737488355328):=by
    show _/\_;rw[ab H];have:=ab V;unfold maxLen;omega
   clear hq c u HP;go_wp2_with (at_builtin;refine a0r _ rfl _ _ 182 rfl w.heap.size 185 i0 (.agg #[.int .i64 0,.int .i64 0]) 2 16 a1p hi I J K rfl (by decide) _ _ _ rfl (a0j z _) ⟨x1.heap.size,0,none⟩ 1 1 [.int .i64 W,.int .i64 X] rfl rfl (sg x1 _ _ _) (sf _ _) (ab j).1 (ab j).2 (an p _) ?_;intro v' x2 s f D;clear D);have G:=aB (v:=u5) f z (a0a _) p d;have E:=mj s;rw[←ab F]at E;clear s f z;go_wp2;go_roundw
   case rel=>exact⟨k+1,by have:=ab T;omega,by go_num,E,G⟩
   case measure=>simp[intOf];omega
  . have r:t.take k=t:=a0x (by rw[ab A];omega);rw[r]at hq;obtain⟨va,vc,rfl⟩:=hq.form;clear r h;go_wp2;go_ret;exact⟨_,rfl,hq,c⟩
end Go.Proofs.YtchidddpplangaaGreatDoor
namespace Go.Proofs.YtchidddpplangaaGreatDoor
open Go.Proofs.Tryz
open Go.RowKit Go.Shelf Corb
variable {W W' w:World}{b g n n₀:Nat}{l:List Int}{r10 r11:Option Nat}{r4 r5:Option (Nat×Value)}{s:ByteArray}{v:Value}
attribute [local go_sem] Oper.semAt_some
theorem po{F:Fence}{P:Program}{ops:Array Oper}{o:Oper}{a:Act}{K:Act->World->Prop}{Q:Exit->Act->World->Prop}{E:Prop}
  (B:o.guard=none) (l c:Operand) (t:TypeId) (b:o.op=Op.makeSlice t l c)
  (base:Nat) (e:TypeId) (i:TypeInfo) (z:Value) (size:Nat) (r:P.underlying t=some (.slice e)) (h2:P.info? e=some i) (s:i.zero=some z) (u:i.size=size)
  (j h:IntKind) (L C:Int) (k:Nat) (D:a.eval l = .int j L) (A:a.eval c = .int h C) (y:L=(k:Int)) (v:C=(k:Int)) (m:i.bytes*k<=281474976710656) (p:k<=maxLen) (q:base<=w.heap.size)
  (x:∀g w',w.heap.size=g->w'.ownsRow base e size (.slice (some ⟨g,0,none⟩) k k) k (madeCells z.cells (k*size)).toList->w.grownBy w' none->K (a.put o.dst (.slice (some ⟨g,0,none⟩) k k)) w') :
  if Region.wanted o (yielded ops a.tmps)=true then Oper.wpIn F n P o a w K Q else E:=by
 have G:Region.wanted o (yielded ops a.tmps)=true:=by simp[Region.wanted,B]
 rw[a0e G];obtain⟨w',d,H,I⟩:=run_make_full (P:=P) w base t e i z size r h2 s u j h k m p q;subst y;subst v;unfold Oper.wpIn;refine⟨?_,?_⟩
 . simp[Oper.about,b]
 . rw[Oper.semAt_plain F _ _ (by rw[b];intro c f;cases f)];simp[execOp,b,D,A,d,Result.andThen];exact x _ w' rfl H I
theorem zp{β:Type}(n₀:Nat)(v:Value)(f:β->List Int):Own (fun(b:β) W=>am W n₀ v (f b)):=fun b X _ row e j a=>by
 refine a1M e j ?_;rcases e.2 with⟨rfl,_⟩|⟨g,cap,h,rfl,_,c,_⟩
 . exact .inl rfl
 .
  refine .inr fun e'=>?_;obtain⟨o,d,i⟩:=a g e'.symm;rw[show X.heap[g]?=_ from c]at d;cases d
  cases i
def Sts(n₀:Nat)(w W:World)(r10 r11:Option Nat)(r4 r5:Option (Nat×Value)):Prop:=
 Below n₀ w W/\(∀g,r10=some g->am W n₀ (.slice (some ⟨g,0,none⟩) 286 286) (List.replicate 286 0))/\(∀g,r11=some g->am W n₀ (.slice (some ⟨g,0,none⟩) 30 30) (List.replicate 30 0)) /\
 (∀b v,r4=some (b,v)->n₀<=b/\Boxed W b 137 v)/\(∀b v,r5=some (b,v)->n₀<=b/\Boxed W b 137 v)/\(∀g g',r10=some g->r11=some g'->g≠g')/\(∀b v b' v',r4=some (b,v)->r5=some (b',v')->b≠b')/\n₀<=W.heap.size
theorem fQ(h:W.grownBy W' none):Below W.heap.size W W':=(a0c _ _).grown h (a0a _) (fun j a=>by cases a)
theorem Sts.later(h:Sts n₀ w W r10 r11 r4 r5)(hb:Below W.heap.size W W'):Sts n₀ w W' r10 r11 r4 r5:=by
 obtain⟨f,i,h2,a,c,j,k,d⟩:=h;exact⟨f.trans (hb.mono d),fun g e=>(i g e).later hb (a0a _),fun g e=>(h2 g e).later hb (a0a _),fun b v e=>⟨(a b v e).1,Boxed.later (a b v e).2 hb⟩,fun b v e=>⟨(c b v e).1,Boxed.later (c b v e).2 hb⟩,j,k,a0C d hb.size⟩
theorem Sts.make10(h:Sts n₀ w W none r11 r4 r5)(k:W.grownBy W' none)(a:W.heap.size=g)(l:am W' n₀ (.slice (some ⟨g,0,none⟩) 286 286) (List.replicate 286 0)):Sts n₀ w W' (some g) r11 r4 r5:=by
 subst a;have b:∀g,r11=some g->g<W.heap.size:=fun g e=>(h.2.2.1 g e).below.2;obtain⟨c,m,h2,d,f,n,i,j⟩:=h.later (fQ k);exact⟨c,fun g e=>by cases e;exact l,h2,d,f,fun g g' e e'=>by cases e;have:=b g' e';omega,i,j⟩
theorem Sts.make11(h:Sts n₀ w W r10 none r4 r5)(l:W.grownBy W' none)(a:W.heap.size=g)(m:am W' n₀ (.slice (some ⟨g,0,none⟩) 30 30) (List.replicate 30 0)):Sts n₀ w W' r10 (some g) r4 r5:=by
 subst a;have b:∀g,r10=some g->g<W.heap.size:=fun g e=>(h.2.1 g e).below.2;obtain⟨c,d,h2,f,i,n,j,k⟩:=h.later (fQ l);exact⟨c,d,fun g e=>by cases e;exact m,f,i,fun g g' e e'=>by cases e';have:=b g e;omega,j,k⟩
theorem Sts.box4(h:Sts n₀ w W r10 r11 none r5)(v:Value):Sts n₀ w (W.alloc (.cells #[v] 137)) r10 r11 (some (W.heap.size,v)) r5:=by
 have a:∀b v,r5=some (b,v)->b<W.heap.size:=fun b v e=>(h.2.2.2.2.1 b v e).2.lt;have j:=h.2.2.2.2.2.2.2;obtain⟨c,d,h2,k,f,g,l,i⟩:=h.later ((a0c _ W).alloc (a0a _) (.cells #[v] 137));exact⟨c,d,h2,fun b u e=>by cases e;exact⟨j,Boxed.new _ _ _⟩,f,g,fun b u b' u' e e'=>by cases e;have:=a b' u' e';omega,i⟩
theorem Sts.box5(h:Sts n₀ w W r10 r11 r4 none)(v:Value):Sts n₀ w (W.alloc (.cells #[v] 137)) r10 r11 r4 (some (W.heap.size,v)):=by
 have a:∀b v,r4=some (b,v)->b<W.heap.size:=fun b v e=>(h.2.2.2.1 b v e).2.lt;have j:=h.2.2.2.2.2.2.2;obtain⟨c,d,h2,f,k,g,l,i⟩:=h.later ((a0c _ W).alloc (a0a _) (.cells #[v] 137));exact⟨c,d,h2,f,fun b u e=>by cases e;exact⟨j,Boxed.new _ _ _⟩,g,fun b u b' u' e e'=>by cases e';have:=a b u e;omega,i⟩
theorem cn(h:Boxed W b 137 v)(a:am W n₀ (.slice (some ⟨g,0,none⟩) n n) l):b≠g:=by
 intro e;exact h.not_row (by decide) a (by rw[e];rfl)
theorem lp(h:Boxed W b 9 v)(a:am W n₀ (.slice (some ⟨g,0,none⟩) n n) l):b≠g:=by
 intro e;exact h.not_row (by decide) a (by rw[e];rfl)
theorem cR{B o:Nat}{t:TypeId}(h:Boxed W B t v)(a:B≠b)(u:Value):Boxed (W.setCell ⟨b,o,none⟩ u) B t v:=(a0P _ _ _ B a).trans h
theorem vY{D:Nat}{r:Option (List Deferred)}(h:W.heap[D]?=some (.deferred r))(c:am W n₀ (.slice (some ⟨g,0,none⟩) n n) l):D≠g:=by
 rintro rfl;rcases c.2 with⟨e,_⟩|⟨g,cap,b,e,_,a,_⟩
 . cases e
 . simp only[a0J,a0l,a0B,a0O]at e;rw[←e.1]at a;rw[h]at a;cases a
theorem Mc(l:List Int):bK l l.length=0<->us l=0:=by
 have d:∀k,0<=bK l k:=by
  intro k;induction k with
  | zero=>exact a29 _
  | succ k ih=>simp only[bK];split<;>omega
 constructor
 .
  intro h;rcases a2q (us l)with a|a
  . exact a
  .
   exfalso;have:∃k,k<l.length/\0<l.getD k 0:=by
    clear h d;induction l with
    | nil=>simp[us]at a
    | cons b l ih=>
     by_cases hb:0<b
     . exact⟨0,by simp,by simpa using hb⟩
     . obtain⟨k,c,d⟩:=ih (by simp only[us,a0H,a0M,a0d hb]at a;simpa[us]using a);exact⟨k+1,by simpa using c,by simpa using d⟩
   obtain⟨k,c,d⟩:=this;have:=Eo l l.length k c;omega
 .
  intro h;have:∀k,k<=l.length->bK l k=0:=by
   intro k;induction k with
   | zero=>exact fun _=>rfl
   | succ k ih=>
    intro c;have a:=EK h k (by omega);simp only[bK];rw[ih (by omega),a0d a]
  exact this _ (a0a _)
theorem Sts.put4(h:Sts n₀ w W r10 r11 (some (b,v)) r5)(u:Value):Sts n₀ w (W.setCell ⟨b,0,none⟩ u) r10 r11 (some (b,u)) r5:=by
 obtain⟨i,c,h2,j,d,k,f,l⟩:=h;have hb:=j b v rfl;exact⟨ah i hb.1 u,fun g e=>(c g e).setOther (cn hb.2 (c g e)) u,fun g e=>(h2 g e).setOther (cn hb.2 (h2 g e)) u,fun b' v' e=>by cases e;exact⟨hb.1,hb.2.set u⟩,fun b' v' e=>⟨(d b' v' e).1,(d b' v' e).2.other (f b v b' v' rfl e).symm u⟩,k,fun b' v' a v'' e e'=>by cases e;exact f b v a v'' rfl e',by simpa using l⟩
theorem Sts.put5(h:Sts n₀ w W r10 r11 r4 (some (b,v)))(u:Value):Sts n₀ w (W.setCell ⟨b,0,none⟩ u) r10 r11 r4 (some (b,u)):=by
 obtain⟨i,a,h2,c,j,k,d,l⟩:=h;have hb:=j b v rfl;exact⟨ah i hb.1 u,fun g e=>(a g e).setOther (cn hb.2 (a g e)) u,fun g e=>(h2 g e).setOther (cn hb.2 (h2 g e)) u,fun b' v' e=>⟨(c b' v' e).1,(c b' v' e).2.other (d b' v' b v e rfl) u⟩,fun b' v' e=>by cases e;exact⟨hb.1,hb.2.set u⟩,k,fun b' v' f v'' e e'=>by cases e';exact d b' v' b v e rfl,by simpa using l⟩
theorem Sts.fill4(h:Sts n₀ w W (some g) r11 (some (b,v)) r5):Sts n₀ w (W.setCell ⟨b,0,none⟩ (.slice (some ⟨g,0,none⟩) 286 286)) (some g) r11 (some (b,.slice (some ⟨g,0,none⟩) 286 286)) r5:=h.put4 _
theorem Sts.fill5(h:Sts n₀ w W r10 (some g) r4 (some (b,v))):Sts n₀ w (W.setCell ⟨b,0,none⟩ (.slice (some ⟨g,0,none⟩) 30 30)) r10 (some g) r4 (some (b,.slice (some ⟨g,0,none⟩) 30 30)):=h.put5 _
def jY{s:ByteArray}(pre:List (TkS s)):List Int:=fJ (List.replicate 286 0) ((pre.map Subtype.val).map iB)
def cF{s:ByteArray}(pre:List (TkS s)):List Int:=fJ (List.replicate 30 0) ((pre.map Subtype.val).flatMap er)
theorem lY(pre:List (TkS s)):(jY pre).length=286:=by unfold jY;rw[d9,a0A]
theorem kg(pre:List (TkS s)):(cF pre).length=30:=by unfold cF;rw[d9,a0A]
theorem CJ(pre:List (TkS s))(x:TkS s)(h:isB x.1=true):jY (pre++[x])=inc (jY pre) x.1.1.toNat:=by
 unfold jY;rw[a0I,a0I,a2t,a2t,gK];have:iB x.1=x.1.1.toNat:=by unfold iB;rw[a0e h]
 rw[this]
theorem CO(pre:List (TkS s))(x:TkS s)(h:isB x.1=false):jY (pre++[x])=inc (jY pre) (257+fnd 3 4 x.1.2.1.toNat 27):=by
 unfold jY;rw[a0I,a0I,a2t,a2t,gK];have:iB x.1=257+fnd 3 4 x.1.2.1.toNat 27:=by unfold iB;rw[a0d (by simp[h])]
 rw[this]
theorem yM(pre:List (TkS s))(x:TkS s)(h:isB x.1=true):cF (pre++[x])=cF pre:=by
 unfold cF;rw[a0I,a2n,a2t];have:[x.1].flatMap er=[]:=by simp[er,h]
 rw[this,a1a]
theorem yN(pre:List (TkS s))(x:TkS s)(h:isB x.1=false):cF (pre++[x])=inc (cF pre) (fnd 1 2 x.1.2.2.toNat 29):=by
 unfold cF;rw[a0I,a2n,a2t];have:[x.1].flatMap er=[fnd 1 2 x.1.2.2.toNat 29]:=by simp[er,h]
 rw[this,gK]
theorem oL(n:Nat)(l:List Nat)(k:Nat):0<=(fJ (List.replicate n 0) l).getD k 0/\(fJ (List.replicate n 0) l).getD k 0<=(l.length:Int):=by
 rw[kj,gZ];have:l.count k<=l.length:=a3h
 split<;>omega
theorem xA(pre:List (TkS s))(k:Nat):0<=(jY pre).getD k 0/\(jY pre).getD k 0<=(pre.length:Int):=by
 have:=oL 286 ((pre.map Subtype.val).map iB) k;rw[a0K,a0K]at this;exact this
theorem sO(pre:List (TkS s))(k:Nat):0<=(cF pre).getD k 0/\(cF pre).getD k 0<=(pre.length:Int):=by
 have a:=oL 30 ((pre.map Subtype.val).flatMap er) k;have h2:=sQ (pre.map Subtype.val);rw[a0K]at h2;exact⟨a.1,by have:=a.2;unfold cF;omega⟩
theorem rJ(s:ByteArray)(w:World)(a:s.size<=300)  :
  Calls prog 142 #[.string s] w fun e w'=>(∃gl gd,e = .returned (.tuple #[.slice (some ⟨gl,0,none⟩) 286 286,.slice (some ⟨gd,0,none⟩) 30 30])/\am w' w.heap.size (.slice (some ⟨gl,0,none⟩) 286 286) (fE (bG s.data.toList 0))/\am w' w.heap.size (.slice (some ⟨gd,0,none⟩) 30 30) (cb (bG s.data.toList 0)))/\Below w.heap.size w w':=by
 obtain⟨i0,hi,b6,b8,b9⟩:=a0p Tryz.infoInt;have eh:(s.size:Int)<=300:=by omega
 have c7:prog.follows .mixedOrders=true:=by kernel_rfl
 refine(callsIn_wide (n:=6)).1 ?_;refine callsIn_of_wp_marks func142 rfl trivial ?_ rfl;simp only[ntmps142,a2E,a0E,a0S,Nat.reduceAdd,Nat.reduceSub,Array.replicate_succ,Array.replicate_zero,List.push_toArray,List.append_toArray,a1u,a17]
 gi_wp2
 rename_i Q' K hKr
 suffices U:∀(gl gd P O:Nat) (W:World),Sts w.heap.size w W (some gl) (some gd) (some (P,.slice (some ⟨gl,0,none⟩) 286 286)) (some (O,.slice (some ⟨gd,0,none⟩) 30 30)) ->
   K { tmps:=#[.string s,undef,.slice none 0 0,.slice none 0 0,.pointer (some ⟨P,0,none⟩),.pointer (some ⟨O,0,none⟩),undef,undef,undef,undef,.slice (some ⟨gl,0,none⟩) 286 286,.slice (some ⟨gd,0,none⟩) 30 30,undef,undef,undef,undef,undef,undef,undef,undef,undef,undef,undef,undef,undef,undef,undef,undef,undef,undef,undef,undef,undef,undef,undef,undef,undef,undef,undef,undef,undef,undef,undef,undef,undef,undef,undef,undef,undef,undef,undef,undef,undef,undef,undef,undef,undef,undef,undef],defers:=[] } W by
  clear hKr;have a1:Sts w.heap.size w w.drew none none none none:=⟨(a0c _ _).drew,nofun,nofun,nofun,nofun,nofun,nofun,a0a _⟩;refine wpIn_region_any c7 ?_;change wpAnyIn _ _ _ _ _ _ _ _ _ (World.drew _);generalize w.drew=W at a1 ⊢;have a:=a1;clear a1;repeat' first
   | exact AllReadyIn.nil
   | refine AllReadyIn.cons rfl (fun K1 b=>?_) ?_
   | (refine po rfl _ _ 137 rfl w.heap.size 3 i0 (.int .i64 0) 1 a0D hi b6 b8 .i64 .i64 286 286 286 rfl rfl rfl rfl (by rw[b9];omega) (by unfold maxLen;omega) a.2.2.2.2.2.2.2 ?_;intro g W hg ho J;have a:=a.make10 J hg (cU ho);refine b _ _ ?_;clear b K1 ho J hg)
   | (refine po rfl _ _ 137 rfl w.heap.size 3 i0 (.int .i64 0) 1 a0D hi b6 b8 .i64 .i64 30 30 30 rfl rfl rfl rfl (by rw[b9];omega) (by unfold maxLen;omega) a.2.2.2.2.2.2.2 ?_;intro g W hg ho J;have a:=a.make11 J hg (cU ho);refine b _ _ ?_;clear b K1 ho J hg)
   | (refine fV 4 rfl ?_;have a:=a.box4 (.slice none 0 0);go_simp;refine b _ _ ?_;clear b K1;generalize W.alloc (.cells #[.slice none 0 0] 137)=V at a ⊢;generalize W.heap.size=g at a ⊢;revert V;intro W a)
   | (refine fV 5 rfl ?_;have a:=a.box5 (.slice none 0 0);go_simp;refine b _ _ ?_;clear b K1;generalize W.alloc (.cells #[.slice none 0 0] 137)=V at a ⊢;generalize W.heap.size=g at a ⊢;revert V;intro W a)
   | (refine Il (Op.store 137 (.tmp 4) (.tmp 10)) rfl ?_;have hc:=(a.2.2.2.1 _ _ rfl).2.cell;have hf:=(a.2.2.2.1 _ _ rfl).2.frozen;have a:=a.fill4;go_simp;refine b _ _ ?_;clear b K1 hc hf;revert a;generalize W.setCell ⟨_,0,none⟩ _=V;intro a;revert V;intro W a)
   | (refine Il (Op.store 137 (.tmp 5) (.tmp 11)) rfl ?_;have hc:=(a.2.2.2.2.1 _ _ rfl).2.cell;have hf:=(a.2.2.2.2.1 _ _ rfl).2.frozen;have a:=a.fill5;go_simp;refine b _ _ ?_;clear b K1 hc hf;revert a;generalize W.setCell ⟨_,0,none⟩ _=V;intro a;revert V;intro W a)
   | (refine wpAnyIn_done (by decide +kernel) ?_ _;exact U _ _ _ _ _ a)
   | refine wpAnyIn_ready (rs:=[0,1,2,3]) (by decide +kernel) (by simp) ?_
   | refine wpAnyIn_ready (rs:=[1,2,3]) (by decide +kernel) (by simp) ?_
   | refine wpAnyIn_ready (rs:=[2,3]) (by decide +kernel) (by simp) ?_
   | refine wpAnyIn_ready (rs:=[3]) (by decide +kernel) (by simp) ?_
   | refine wpAnyIn_ready (rs:=[4]) (by decide +kernel) (by simp) ?_
   | refine wpAnyIn_ready (rs:=[5]) (by decide +kernel) (by simp) ?_
   | refine wpAnyIn_ready (rs:=[2]) (by decide +kernel) (by simp) ?_
   | refine wpAnyIn_ready (rs:=[1,3]) (by decide +kernel) (by simp) ?_
   | refine wpAnyIn_ready (rs:=[1,4]) (by decide +kernel) (by simp) ?_
   | refine wpAnyIn_ready (rs:=[1]) (by decide +kernel) (by simp) ?_
   | refine wpAnyIn_ready (rs:=[1,2]) (by decide +kernel) (by simp) ?_
   | refine wpAnyIn_ready (rs:=[0,2,3]) (by decide +kernel) (by simp) ?_
   | refine wpAnyIn_ready (rs:=[0,3]) (by decide +kernel) (by simp) ?_
   | refine wpAnyIn_ready (rs:=[0]) (by decide +kernel) (by simp) ?_
   | refine wpAnyIn_ready (rs:=[0,2]) (by decide +kernel) (by simp) ?_
   | refine wpAnyIn_ready (rs:=[0,1,3]) (by decide +kernel) (by simp) ?_
   | refine wpAnyIn_ready (rs:=[0,1]) (by decide +kernel) (by simp) ?_
   | refine wpAnyIn_ready (rs:=[0,1,2]) (by decide +kernel) (by simp) ?_
 intro gl gd P O W m;refine hKr _ _ ?_;clear hKr;have c5:=m.2.1 gl rfl;have cu:=m.2.2.1 gd rfl;obtain⟨dq,x40⟩:=m.2.2.2.1 P _ rfl;obtain⟨ds,x50⟩:=m.2.2.2.2.1 O _ rfl;have H:gl≠gd:=m.2.2.2.2.2.1 gl gd rfl rfl;have dv:P≠O:=m.2.2.2.2.2.2.1 P _ O _ rfl rfl;have co:=m.1;have c8:=m.2.2.2.2.2.2.2;clear m
 gi_wp2_with (refine⟨trivial,?_⟩;gi_at_call 182;refine(callsIn_wide.2 (oX s _)).mono ?_;rintro e w' ⟨rfl,rfl⟩)
 have bN:=Boxed.new W 9 (.string s);have hA:Below W.heap.size W (W.alloc (.cells #[.string s] 9)):=(a0c _ W).alloc (a0a _) _;have lb4:P<W.heap.size:=x40.lt;have lb5:O<W.heap.size:=x50.lt;refine wpIn_rangeFunc_ownG rfl (by omega) (gf:=212) (lb:=#[.pointer (some ⟨W.heap.size,0,none⟩)]) rfl trivial (enters_of func212 (by kernel_rfl) rfl)
  (rz 5 (by omega) W.heap.size s (by omega) _ bN) Eh (fun W l o o' _ h1 h2 _=>Eg W l o o' h1 h2) (a0c _ _) (fun _=>rfl)
  (fun(pre:List (TkS s)) X=>((((am X w.heap.size (.slice (some ⟨gl,0,none⟩) 286 286) (jY pre)/\am X w.heap.size (.slice (some ⟨gd,0,none⟩) 30 30) (cF pre))/\Boxed X P 137 (.slice (some ⟨gl,0,none⟩) 286 286))/\Boxed X O 137 (.slice (some ⟨gd,0,none⟩) 30 30))/\Below w.heap.size w X)/\Boxed X W.heap.size 9 (.string s))
  (fun _ _ _=>False)
  (OwnFrom.and (OwnFrom.and (OwnFrom.and (OwnFrom.and (OwnFrom.and (Own.from (zp _ _ jY) _) (Own.from (zp _ _ cF) _)) (Own.from (boxed_own _ _ _) _)) (Own.from (boxed_own _ _ _) _)) (ownFrom_below (a0a _) (by simp;omega))) (Own.from (boxed_own _ _ _) _))
  (fun _ _ _ _ _ a _ _=>a)
  ⟨⟨⟨⟨⟨c5.later hA (a0a _),cu.later hA (a0a _)⟩,Boxed.later x40 hA⟩,Boxed.later x50 hA⟩,co.trans (hA.mono c8)⟩,bN⟩
  (fun x=>{ tmps:=#[.string s,undef,.slice none 0 0,.slice none 0 0,.pointer (some ⟨P,0,none⟩),.pointer (some ⟨O,0,none⟩),fu x.1,undef,undef,undef,.slice (some ⟨gl,0,none⟩) 286 286,.slice (some ⟨gd,0,none⟩) 30 30,.string s,.func (.func 212) #[] #[.pointer (some ⟨W.heap.size,0,none⟩)],fu x.1,undef,undef,undef,undef,undef,undef,undef,undef,undef,undef,undef,undef,undef,undef,undef,undef,undef,undef,undef,undef,undef,undef,undef,undef,undef,undef,undef,undef,undef,undef,undef,undef,undef,undef,undef,undef,undef,undef,undef,undef,undef,undef,undef,undef],defers:=[] }) ?assign ?body ?done ?stop
 case assign=>
  intro l x W K U
  gi_wp2
  exact U
 case body=>
  rintro l pre x X ⟨⟨⟨⟨⟨d,hd⟩,x4⟩,x5⟩,hB⟩,B⟩ b0;have cr:=x4.cell;have cs:=x5.cell;have u:=lY pre;have t:=kg pre;have m1:=kN;have m2:=mD;have m3:=kM;cases hb:isB x.1
  .
   have hk:isK x.1=true:=by have:=x.2.1;unfold okT at this;rw[hb]at this;simpa using this
   obtain⟨q1,q2,q3,q4⟩:=tp hk;have f1:x.1.2.1=((x.1.2.1.toNat:Nat):Int):=by omega
   have f2:x.1.2.2=((x.1.2.2.toNat:Nat):Int):=by omega
   have e2:fu x.1 = .iface 259 (.agg #[.int .i64 ((x.1.2.1.toNat:Nat):Int),.int .i64 ((x.1.2.2.toNat:Nat):Int)]):=by rw[←f1,←f2];exact ou hk
   have f:=CO pre x hb;have N:=yN pre x hb;have b1:=xA pre (257+fnd 3 4 x.1.2.1.toNat 27);have b2:=sO pre (fnd 1 2 x.1.2.2.toNat 29);have ca:=ae (fun W=>Ax x.1.2.1.toNat x.1.2.2.toNat W (by omega) (by omega) (by omega) (by omega));have k1:=gG 3 4 x.1.2.1.toNat 27;have k2:=gG 1 2 x.1.2.2.toNat 29;rw[e2];generalize x.1.2.1.toNat=y at *
   generalize x.1.2.2.toNat=z at *
   generalize fnd 3 4 y 27=p at *
   generalize fnd 1 2 z 29=q at *
   have I:=d.at u (show 257+p<286 by omega);generalize A:(jY pre).getD (257+p) 0=ya at *
   generalize T:(cF pre).getD q 0=za at *
   have ed:(257:Int)+(p:Int)<286:=by omega
   have eg:(q:Int)<30:=by omega
   have b5:ya<=300:=by omega
   have ei:za<=300:=by omega
   have b4:0<=ya:=by omega
   have b7:0<=za:=by omega
   have E:=cn x4 d;have r:=cn x5 d;have Y:=cn x4 hd;have aa:=cn x5 hd;have HX:Hid (∀Z,Below X.heap.size X Z->am Z w.heap.size (.slice (some ⟨gl,0,none⟩) 286 286) (jY pre)/\am Z w.heap.size (.slice (some ⟨gd,0,none⟩) 30 30) (cF pre)/\Boxed Z P 137 (.slice (some ⟨gl,0,none⟩) 286 286)/\Boxed Z O 137 (.slice (some ⟨gd,0,none⟩) 30 30)/\Boxed Z W.heap.size 9 (.string s)):=fun Z h=>⟨d.later h (a0a _),hd.later h (a0a _),Boxed.later x4 h,Boxed.later x5 h,Boxed.later B h⟩;have d6:=d.below.2;have d5:=hd.below.2;have Q:=ae (a0b (show 257+p<286 by omega) (show q<30 by omega));have H1:=ae f;have H2:=ae N;have a5:=ae A;have a6:=ae T;have HB:=ae hB;have cg:=ae (a0b E (a0b r (a0b Y aa)));have ch:=hB.size;have dl:=B.lt;clear f N A T b1 b2 k1 k2 q1 q2 q3 q4 f1 f2 e2 I d hd x4 x5 B b0 hB
   gi_wp2_with (refine⟨trivial,?_⟩;gi_at_call 185;refine(CallsIn.inRound l (callsIn_wide.2 (ab ca _))).mono ?_;rintro e X1 ⟨rfl,bk⟩;have C:Below X.heap.size X X1:=ai ((a0c _ X).alloc (a0a _) _) bk;have c9:=C.size;have hZ:Hid (∀v,Below X.heap.size X (X1.alloc (.cells v 261))):=fun v=>C.alloc c9 _;have z1:=fun v=>(ab HX _ (ab hZ v)).2.2.1.cell;have z2:=fun v=>(ab HX _ (ab hZ v)).2.2.2.1.cell;have z3:=fun v=>((ab HX _ (ab hZ v)).1.at (lY pre) (ab Q).1).1;have z4:=fun v=>((ab HX _ (ab hZ v)).1.at (lY pre) (ab Q).1).2.1;have z5:=fun v=>((ab HX _ (ab hZ v)).2.1.at (kg pre) (ab Q).2).1;have z6:=fun v=>((ab HX _ (ab hZ v)).2.1.at (kg pre) (ab Q).2).2.1;rw[ab a5]at z3;rw[ab a6]at z5;have n1:¬ X1.heap.size=gl:=(by omega);have n2:¬ gl=X1.heap.size:=(by omega);have n3:¬ gd=gl:=(fun e=>H e.symm);have dd:=ae C;clear bk C)
   refine(fun Z (al:Below X.heap.size X Z)=>?_:∀Z,Below X.heap.size X Z->ownPostG _ _ _ _ _ _ _ _ ((Z.setCell ⟨gl,257+p,none⟩ (.int .i64 (ya+1))).setCell ⟨gd,q,none⟩ (.int .i64 (za+1)))) _ (ab hZ _);obtain⟨d,hd,x4,x5,B⟩:=ab HX Z al;obtain⟨e4,e5,e6,e7⟩:=ab cg;have e8:=lp B d;have e9:=lp B hd;have c6:am ((Z.setCell ⟨gl,257+p,none⟩ (.int .i64 (ya+1))).setCell ⟨gd,q,none⟩ (.int .i64 (za+1))) w.heap.size (.slice (some ⟨gl,0,none⟩) 286 286) (jY (pre++[x])):=by
    have:=d.put (j:=257+p) (lY pre) (ya+1);rw[ab H1];unfold inc;rw[ab a5];exact this.setOther H.symm _
   have cv:am ((Z.setCell ⟨gl,257+p,none⟩ (.int .i64 (ya+1))).setCell ⟨gd,q,none⟩ (.int .i64 (za+1))) w.heap.size (.slice (some ⟨gd,0,none⟩) 30 30) (cF (pre++[x])):=by
    have:=(hd.setOther (g':=gl) (o:=257+p) H (.int .i64 (ya+1))).put (j:=q) (kg pre) (za+1);rw[ab H2];unfold inc;rw[ab a6];exact this
   exact⟨(((KeepsOthers.of_grownBy (eH al) (fun _ _ e=>by cases e)).trans (KeepsOthers.setCell _ _ _)).trans (KeepsOthers.setCell _ _ _)).from _,fun _=>cR (cR B e8 _) e9 _,⟨⟨⟨⟨⟨c6,cv⟩,cR (cR x4 e4 _) e6 _⟩,cR (cR x5 e5 _) e7 _⟩,ah (ah ((ab HB).trans (al.mono ch)) d.below.1 _) hd.below.1 _⟩,cR (cR B e8 _) e9 _⟩⟩
  .
   obtain⟨q1,q2⟩:=qe hb;have f1:x.1.1=((x.1.1.toNat:Nat):Int):=by omega
   have e2:fu x.1 = .iface 257 (.int .u8 ((x.1.1.toNat:Nat):Int)):=by rw[←f1];exact lu hb
   have f:=CJ pre x hb;have N:=yM pre x hb;have b1:=xA pre x.1.1.toNat
   rw[e2];generalize x.1.1.toNat=k at *
   have I:=d.at u (show k<286 by omega);generalize A:(jY pre).getD k 0=ya at *
   have d7:(k:Int)<286:=by omega
   have b5:ya<=300:=by omega
   have b4:0<=ya:=by omega
   have R:Hid (am (X.setCell ⟨gl,k,none⟩ (.int .i64 (ya+1))) w.heap.size (.slice (some ⟨gl,0,none⟩) 286 286) (jY (pre++[x]))):=by
    have:=d.put (j:=k) u (ya+1);rw[f];unfold inc;rw[A];exact this
   have G:Hid (am (X.setCell ⟨gl,k,none⟩ (.int .i64 (ya+1))) w.heap.size (.slice (some ⟨gd,0,none⟩) 30 30) (cF (pre++[x]))):=by
    rw[N];exact hd.setOther H _
   have E:=cn x4 d;have r:=cn x5 d;obtain⟨c1,c2,c3,c4⟩:=I;clear f N A b1 b0 q1 q2 f1 e2
   gi_wp2
   exact⟨(KeepsOthers.setCell _ _ _).from _,fun _=>cR B (lp B d) _,⟨⟨⟨⟨⟨ab R,ab G⟩,cR x4 E _⟩,cR x5 r _⟩,ah hB c3 _⟩,cR B (lp B d) _⟩⟩
 case done=>
  rintro D ys X hD S ⟨⟨⟨⟨⟨d,hd⟩,x4⟩,x5⟩,hB⟩,B⟩ U;have cr:=x4.cell;have cs:=x5.cell;have u:=lY ys;have t:=kg ys;have bs:=AY s a S;have b1:=xA ys 256;have b2:=sO ys 0;have hL:jY ys=fJ (List.replicate 286 0) ((bG s.data.toList 0).map iB):=by unfold jY;rw[S]
  have ba:cF ys=fp (bG s.data.toList 0):=by unfold cF fp;rw[S]
  have be:inc (jY ys) 256=fE (bG s.data.toList 0):=by unfold fE;rw[hL]
  have I:=d.at u (show 256<286 by omega);have E:=cn x4 d;have r:=cn x5 d;have Y:=cn x5 hd;have aa:=cn x4 hd;have cp:D≠gl:=fun e=>by subst e;exact vY U d rfl
  have a9:D≠gd:=fun e=>by subst e;exact vY U hd rfl
  have bb:w.heap.size<=D:=by simp at hD;omega
  have ej:(cF ys).getD 0 0<=300:=by omega
  have L:∀i,i<(cF ys).length->0<=(cF ys).getD i 0:=fun i _=>(sO ys i).1;generalize A:(jY ys).getD 256 0=ya at *
  have b5:ya<=300:=by omega
  have b4:0<=ya:=by omega
  have R:am (X.setCell ⟨gl,256,none⟩ (.int .i64 (ya+1))) w.heap.size (.slice (some ⟨gl,0,none⟩) 286 286) (fE (bG s.data.toList 0)):=by
   have:=d.put (j:=256) u (ya+1);rw[←be];unfold inc;rw[A];exact this
  have G:am (X.setCell ⟨gl,256,none⟩ (.int .i64 (ya+1))) w.heap.size (.slice (some ⟨gd,0,none⟩) 30 30) (cF ys):=hd.setOther H _;have b3:=cR (o:=256) x5 r (.int .i64 (ya+1));have d0:=b3.cell;have bc:(X.setCell ⟨gl,256,none⟩ (.int .i64 (ya+1))).heap[D]?=some (.deferred (some [])):=(a0P _ _ _ D cp).trans U;have a8:Below w.heap.size w (X.setCell ⟨gl,256,none⟩ (.int .i64 (ya+1))):=ah hB d.below.1 _;obtain⟨c1,c2,c3,c4⟩:=I;have HM:=ae (tV (some ⟨gd,0,none⟩) 30 30 (cF ys) (X.setCell ⟨gl,256,none⟩ (.int .i64 (ya+1))) t (G.rowN t) (by omega) (by omega) L);have ac:=ae (Mc (cF ys));rw[t]at ac;have a4:=ae R;have a3:=ae G;have F:=ae bc;have a2:=ae a8;have cy:=G.at t (show 0<30 by omega);obtain⟨d1,d2,d3,d4⟩:=cy;have a7:=ae ba;have cc:=ae t;clear d hd x4 x5 B hB U S hL be b1 R G bc a8 b3 ba t L bs u c3 c4;by_cases hu:us (cF ys)=0
  .
   have a0:Hid (bK (cF ys) 30=0):=(ab ac).2 hu;rw[ab a0]at HM;generalize T:(cF ys).getD 0 0=za at *
   have b7:0<=za:=b2.1
   gi_wp2_with (refine⟨trivial,?_⟩;gi_at_call 186;refine(callsIn_wide.2 (ab HM)).mono ?_;rintro e x1 ⟨rfl,f⟩;rw[f];clear f)
   gi_region
   gi_wp2
   refine⟨by simp,.inl ⟨_,_,rfl,run_takeDeferred ((a0P _ _ _ D a9).trans (ab F)),?_⟩⟩;have ad:((X.setCell ⟨gl,256,none⟩ (.int .i64 (ya+1))).setCell ⟨gd,0,none⟩ (.int .i64 (za+1))).heap[D]?=some (.deferred (some [])):=(a0P _ _ _ D a9).trans (ab F);refine⟨_,results_tmp2 rfl _ _ _,⟨gl,gd,rfl,?_,?_⟩,?_⟩
   . exact ownsRow_putObj (show am _ _ _ _ from(ab a4).setOther H.symm _) (.deferred none) ad rfl
   .
    have e1:cb (bG s.data.toList 0)=inc (cF ys) 0:=by
     unfold cb;rw[←ab a7,a0e hu]
    rw[e1];refine ownsRow_putObj (show am _ _ _ _ from ?_) (.deferred none) ad rfl;unfold inc;rw[T];exact(ab a3).put (j:=0) (ab cc) (za+1)
   . exact(ah (ab a2) d3 _).drew.trans (belowK_b (w:=w) (a0a _) (World.drew _) D _ _ bb ad rfl rfl)
  .
   have a0:Hid (¬ bK (cF ys) 30=0):=fun h=>hu ((ab ac).1 h);have d8:(bK (cF ys) 30 == 0)=false:=by have:=ab a0;simpa using this
   generalize bK (cF ys) 30=M at *
   gi_wp2_with (refine⟨trivial,?_⟩;gi_at_call 186;refine(callsIn_wide.2 (ab HM)).mono ?_;rintro e x1 ⟨rfl,f⟩;rw[f];clear f)
   gi_region
   gi_wp2
   refine⟨by simp,.inl ⟨_,_,rfl,run_takeDeferred (ab F),?_⟩⟩;refine⟨_,results_tmp2 rfl _ _ _,⟨gl,gd,rfl,?_,?_⟩,?_⟩
   . exact ownsRow_putObj (ab a4) (.deferred none) (ab F) rfl
   .
    have e1:cb (bG s.data.toList 0)=cF ys:=by
     unfold cb;rw[←ab a7,a0d hu]
    rw[e1];exact ownsRow_putObj (ab a3) (.deferred none) (ab F) rfl
   . exact(ab a2).drew.trans (belowK_b (w:=w) (a0a _) (World.drew _) D _ _ bb (ab F) rfl rfl)
 case stop=>
  rintro D c pre W _ _ h _;exact h.elim
end Go.Proofs.YtchidddpplangaaGreatDoor
namespace Go.Proofs.YtchidddpplangaaGreatDoor
open Go.Proofs.Tryz
open Go.RowKit Corb
variable {A D l:List Int}{B c4 c6 g4 g6 gd gl n:Nat}{W w:World}{a:Option Addr}
theorem Nn(h:okC l):inC l=true:=by
 unfold inC;rw[a09];intro x b;obtain⟨i,a,rfl⟩:=List.mem_iff_getElem.1 b;have:=h i a;rw[show l.getD i 0=l[i] by simp[List.getD,a]]at this;exact az.2 this
theorem tL{m:Nat}(a:okC l)(b:l.length<=300)(c:1<=us l)(d:us l<=p2 m)(e:m<=14):jG l ((m:Int)+1)=cW ((m:Int)+1) l:=by
 unfold jG;rw[a0e];unfold vQ;simp only[a0o,a0y];refine⟨⟨⟨b,az.2 (by omega)⟩,Nn a⟩,az.2 ?_⟩;rw[show((m:Int)+1).toNat=m+1 by omega,xI];omega
theorem L9(T:List Tk)(b:T.length<=300):jG (fE T) 15=cW 15 (fE T):=by
 have a:=xz T;have h2:=Al;exact tL (m:=14) (xy T b) (by rw[eO];omega) a.1 (by omega) (by omega)
theorem IH(T:List Tk)(b:T.length<=300):jG (cb T) 15=cW 15 (cb T):=by
 have a:=sN T;have h2:=Al;exact tL (m:=14) (sM T b) (by rw[ff];omega) a.1 (by omega) (by omega)
theorem GD(A:List Int)(a:0<A.length)(c:A.length<=400)(d:∀x∈A,0<=x/\x<=15):jG (nG A) 7=aP A:=by
 have b:=wK A a d;have h2:=Nx;exact tL (m:=6) (wJ A c) (by rw[fB];omega) b.1 (by omega) (by omega)
theorem am.cut{base m cap:Nat}(j:l.length=n)(h:am w base (.slice a n cap) l)(p:m<=n)(k:0<n):am w base (.slice a m cap) (l.take m):=by
 subst j;rcases h.2 with⟨_,e⟩|⟨g,c,b,e,hb,i,o,h2,d,f⟩
 . omega
 .
  simp only[a0J]at e;obtain⟨rfl,_,rfl⟩:=e;refine⟨by simp,.inr ⟨g,cap,b,by rw[a0v];congr 1;omega,hb,i,by rw[a0v];omega,h2,d,?_⟩⟩;rw[a0v,List.map_take,←f,a3e]
  congr 1
  omega
theorem pa{base base' size:Nat}{e:TypeId}{v:Value}{xs:List Value}(h:w.ownsRow base e size v n xs)(hb:base'<=base):w.ownsRow base' e size v n xs:=
 ⟨h.1,h.2.imp id fun⟨g,c,u,e,a,r⟩=>⟨g,c,u,e,a0C hb a,r⟩⟩
theorem am.cap{base cap g:Nat}(h:am w base (.slice (some ⟨g,0,none⟩) n cap) l):n<=cap/\cap<=maxLen:=by
 rcases h.2 with⟨e,_⟩|⟨g',a,b,e,hb,i,c,h2,d,f⟩
 . cases e
 . simp only[a0J]at e;obtain⟨_,rfl,rfl⟩:=e;exact⟨c,h2⟩
def cN(L D:List Int):List (Int×Int):=[((L.length:Int)-257,5),((D.length:Int)-1,5),(15,4)]
def eQ(l:List Int)(k:Nat):List (Int×Int):=(bT.take k).map fun i=>(l.getD i 0,(3:Int))
theorem vT(l:List Int)(k:Nat)(h:k<19):eQ l (k+1)=eQ l k++[(l.getD (bT.getD k 0) 0,3)]:=by
 unfold eQ;have a:k<bT.length:=h;rw[a1e a,a0I];simp[List.getD,a]
theorem uf(l:List Int)(k:Nat)(h:k<=19):(eQ l k).length=k:=by unfold eQ;have:bT.length=19:=rfl;simp;omega
theorem DL(L D:List Int)(h:ar (aP (L++D))=true)(a:(aP (L++D)).length=19)(b:∀x∈L++D,0<=x/\x<=15):cN L D++eQ (aP (L++D)) 19++iK (aP (L++D)) (L++D)=fG L D:=by
 unfold fG cN eQ iK;rw[a0L]
 congr 2
 apply List.map_congr_left;intro x c;have:=b x c;exact na h (by rw[a];omega)
theorem E6{b base:Nat}{C:Array Value}(h:sr w b base l C):∃a cap,w.cell? ⟨b,0,none⟩=some (.slice a l.length cap)/\aY w a l:=by
 obtain⟨⟨a,cap,ac,f,q,sc,e,c,h2,g⟩,d,_⟩:=h;refine⟨a,cap,?_,c.1⟩;have:=d 0 (.slice a l.length cap) (by rw[e];rfl);simpa using this
def pE:Array Value:=#[Value.slice none 0 0,Value.slice none 0 0,Value.int .i64 0,Value.int .i64 0,Value.int .i64 0,Value.int .i64 0,Value.int .i64 0,Value.int .i64 0,Value.int .i64 0,Value.int .i64 0,Value.int .i64 0,Value.int .i64 0,Value.int .i64 0,Value.int .i64 0,Value.int .i64 0,Value.int .i64 0,Value.int .i64 0,Value.int .i64 0,Value.slice none 0 0]
theorem BS(gL gD nL b nD a base:Nat)(L D:List Int)(w:World)(n:L.length=nL)(m:D.length=nD)(j:am w base (.slice (some ⟨gL,0,none⟩) nL b) L)(h:am w base (.slice (some ⟨gD,0,none⟩) nD a) D)(o:nL+nD<=1000) :
  Calls prog 181 #[.slice (some ⟨w.heap.size,0,none⟩) 2 2] (w.alloc (.cells #[.slice (some ⟨gL,0,none⟩) nL b,.slice (some ⟨gD,0,none⟩) nD a] 137)) fun e w'=>∃v,e = .returned v/\am w' w.heap.size v (L++D)/\Below w.heap.size w w':=by
 have d:Below w.heap.size w (w.alloc (.cells #[.slice (some ⟨gL,0,none⟩) nL b,.slice (some ⟨gD,0,none⟩) nD a] 137)):=(a0c _ _).alloc (a0a _) _;have k:iO (w.alloc (.cells #[.slice (some ⟨gL,0,none⟩) nL b,.slice (some ⟨gD,0,none⟩) nD a] 137)) w.heap.size base [(.slice (some ⟨gL,0,none⟩) nL b,L.map (Value.int .i64)),(.slice (some ⟨gD,0,none⟩) nD a,D.map (Value.int .i64))]:=by
  intro i l
  match i,l with
  | 0,_=>exact⟨by simp,_,j.later d (a0a _),a1k .i64 _⟩
  | 1,_=>exact⟨by simp,_,h.later d (a0a _),a1k .i64 _⟩
 have c:aM [(Value.slice (some ⟨gL,0,none⟩) nL b,L.map (Value.int .i64)),(.slice (some ⟨gD,0,none⟩) nD a,D.map (Value.int .i64))]=(L++D).length:=by simp[aM,cj]
 refine(pF w.heap.size base 2 2 _ _ rfl (by omega) (by omega) k (by rw[c,a0k];omega)).mono ?_;rintro e x5 ⟨v,rfl,g,hb⟩;refine⟨v,rfl,?_,ai d hb⟩;have f:de [(Value.slice (some ⟨gL,0,none⟩) nL b,L.map (Value.int .i64)),(.slice (some ⟨gD,0,none⟩) nD a,D.map (Value.int .i64))]=(L++D).map (Value.int .i64):=by
  simp only[de,a0T,a2s,a0I,a1a]
 rw[c,f]at g;exact am.mono (base:=(w.alloc (.cells #[.slice (some ⟨gL,0,none⟩) nL b,.slice (some ⟨gD,0,none⟩) nD a] 137)).heap.size) g (by simp)
theorem xw(gL gD nL cL nD cD base:Nat)(L D:List Int)(w:World)(O:L.length=nL)(N:D.length=nD)(hL:am w base (.slice (some ⟨gL,0,none⟩) nL cL) L)(hD:am w base (.slice (some ⟨gD,0,none⟩) nD cD) D)
  (l0:257<=nL) (l1:nL<=286) (d0:1<=nD) (d1:nD<=30) (kL:ar L=true) (kD:ar D=true) (hO:dH w) :
  Calls prog 148 #[.slice (some ⟨gL,0,none⟩) nL cL,.slice (some ⟨gD,0,none⟩) nD cD] w fun e w'=>∃v,e = .returned v/\Pcs w' w.heap.size v (fG L D)/\Below w.heap.size w w':=by
 obtain⟨i0,hi,cs,cu,cv⟩:=a0p Tryz.infoInt;obtain⟨j0,hj,bs,b0,b6⟩:=a0p Tryz.infoPiece;have Z:Hid (∀x∈L++D,0<=x/\x<=15):=by
  intro x hx;rcases a0U.1 hx with h|h
  . exact mW kL x h
  . exact mW kD x h
 obtain⟨nA,hnA⟩:∃nA,(L++D).length=nA:=⟨_,rfl⟩;have bc:nA=nL+nD:=by rw[←hnA,a0k,O,N]
 have r:=ae (Cx (L++D) (by omega) (by omega) (ab Z));have HS:=ae (GD (L++D) (by omega) (by omega) (ab Z));have HT:=ae (DL L D (ab r).2.1 (ab r).1 (ab Z));have Q:=ae (BS gL gD nL cL nD cD base L D w O N hL hD (by omega));have HB:Hid (cN L D=[((nL:Int)-257,5),((nD:Int)-1,5),(15,4)]):=by show cN L D=_;unfold cN;rw[O,N]
 have nLI:(nL:Int)<=286:=by omega
 have nDI:(nD:Int)<=30:=by omega
 have nLI0:(257:Int)<=(nL:Int):=by omega
 have nDI0:(1:Int)<=(nD:Int):=by omega
 have nAI:(nA:Int)<=316:=by omega
 have B:Hid (1<=nA/\nA<=316):=by show _/\_;omega
 have HO:=ae hO;clear hL hD kL kD l0 l1 d0 d1 O N bc hO;generalize cg:L++D=A at *
 have f:=ae hnA;clear hnA cg;go_enter func148,ntmps148;go_wp2_with fail;refine(ab Q).mono ?_;rintro e x1 ⟨v1,rfl,o1,b1⟩;obtain⟨a1,c1,rfl⟩:=o1.formN (ab f);obtain⟨g1,rfl⟩:=o1.somes (by have:=ab f;have:=ab B;omega);have O1:=ae o1;have S:=ae b1;clear o1 b1 Q
 go_wp2_with (at_make;refine a1y _ rfl _ _ 137 rfl w.heap.size 3 i0 (.int .i64 0) 1 a0D hi cs cu .i64 .i64 _ _ 19 rfl rfl rfl rfl (by rw[cv];omega) (by unfold maxLen;omega) (ab S).size ?_;intro x2 d b);have a9:=(ab O1).below.2;obtain⟨gC,hgC⟩:∃gC,x1.heap.size=gC:=⟨_,rfl⟩;have b2:=fQ b;have o2:=cU d;rw[hgC]at d o2 a9;have M:=ai (ab S) b2;have o1:=(ab O1).later b2 (a0a _);have cp:gC≠g1:=by omega
 rw[hgC];clear d b b2 O1 S hgC a9
 go_loopw [8,20] (fun _ i wr=>∃k:Nat,k<=nA/\i = .int .i64 k/\am wr w.heap.size (.slice (some ⟨g1,0,none⟩) nA c1) A/\am wr w.heap.size (.slice (some ⟨gC,0,none⟩) 19 19) (fJ (List.replicate 19 0) ((A.take k).map Int.toNat))/\Below w.heap.size w wr) (fun _ i _=>nA-(intOf i).toNat)
 case atStart=>exact⟨0,a0g _,rfl,o1,o2,M⟩
 case round=>
  obtain⟨k,hk,rfl,E,n,a⟩:=hrel;clear o1 o2 M;by_cases l:k<nA
  .
   obtain⟨c0,_,_,_⟩:=E.at (ab f) l;have ba:A.getD k 0∈A:=by have:=ab f;simp[List.getD,show k<A.length by omega]
   have K:=ab Z _ ba;have J:Hid ((A.take (k+1)).map Int.toNat=(A.take k).map Int.toNat++[(A.getD k 0).toNat]):=by
    show _=_;rw[bX A k (by rw[ab f];exact l),a0I];rfl
   have V:(fJ (List.replicate 19 0) ((A.take k).map Int.toNat)).length=19:=by rw[d9,a0A]
   obtain⟨y,hy⟩:=a0s K.1;rw[hy]at J c0 K;rw[a0t]at J;have hb:=oL 19 ((A.take k).map Int.toNat) y;have p:((A.take k).map Int.toNat).length<=nA:=by simp;omega
   obtain⟨d0,d1,d2,d3⟩:=n.at (j:=y) V (by omega);have hP:=n.put (j:=y) V ((fJ (List.replicate 19 0) ((A.take k).map Int.toNat)).getD y 0+1);have a5:Hid (∀u,am (wr.setCell ⟨gC,y,none⟩ u) w.heap.size (.slice (some ⟨g1,0,none⟩) nA c1) A/\Below w.heap.size w (wr.setCell ⟨gC,y,none⟩ u)):=fun u=>⟨E.setOther cp u,ah a d2 u⟩;have HP:Hid (am (wr.setCell ⟨gC,y,none⟩ (.int .i64 ((fJ (List.replicate 19 0) ((A.take k).map Int.toNat)).getD y 0+1))) w.heap.size (.slice (some ⟨gC,0,none⟩) 19 19) (fJ (List.replicate 19 0) ((A.take (k+1)).map Int.toNat))):=by
    show am _ _ _ _;rw[ab J,gK];exact hP
   generalize (fJ (List.replicate 19 0) ((A.take k).map Int.toNat)).getD y 0=z at *
   have dd:(y:Int)<19:=by omega
   have dl:z<=400:=by have:=ab B;omega
   have c5:0<=z:=hb.1;have Hk:=ae hk;clear hP n E a p hb K hy ba hk V d2 d3;go_wp2;go_roundw
   case rel=>exact⟨k+1,by have:=ab Hk;omega,by go_num,(ab a5 _).1,ab HP,(ab a5 _).2⟩
   case measure=>simp[intOf];omega
  .
   have bb:A.take k=A:=a0x (by rw[ab f];omega);rw[bb]at n;have a2:am wr w.heap.size (.slice (some ⟨gC,0,none⟩) 19 19) (nG A):=n;have HL:=ae (jg (some ⟨gC,0,none⟩) 19 19 (nG A) 7 wr (fB A) (a2.rowN (fB A)) (by omega));rw[ab HS]at HL;have O1:=ae E;have S:=ae a;clear bb n a2 E a;go_wp2_with fail;refine(ab HL).mono ?_;rintro e x3 ⟨⟨v3,rfl,o3⟩,b3⟩;obtain⟨a3,c3,rfl⟩:=o3.formN (ab r).1;have O1':=ae ((ab O1).later b3 (a0a _));have B3:=ae (ai (ab S) b3);have ac:=ae (zE a3 c3 19 w.heap.size (aP A) x3 (ab r).1 ((bE (ab r).1 (o3.own (ab r).1)).mono (ab S).size) (ab B3).size (by omega));clear o3 b3 HL O1 S;go_wp2_with fail;refine(ab ac).mono ?_;rintro e x4 ⟨⟨C,rfl,k4⟩,b4⟩;have O1:=ae ((ab O1').later b4 (a0a _));have B4:=ae (ai (ab B3) b4);have K4:=ae k4;have T:=ae k4.size;have ad:=ae k4.one;clear k4 b4 ac O1' B3;have b5:Below x4.heap.size x4 ((x4.alloc (.cells pE 268)).setCells x4.heap.size 0 C.toList):=below_setCells (a0a _) _ _ _ ((a0c _ _).alloc (a0a _) _);have Y:(x4.alloc (.cells pE 268)).there x4.heap.size 0 19:=gV x4 pE _ 19 rfl;have bl:=World.rangeAt_setCells_same (x4.alloc (.cells pE 268)) x4.heap.size 0 C.toList (by rw[a1W,ab T];exact Y);have m:sr ((x4.alloc (.cells pE 268)).setCells x4.heap.size 0 C.toList) x4.heap.size w.heap.size (aP A) C:=⟨(ab K4).later b5,bl,by rw[size_setCells];simp⟩;have U:=ae Y;have s:=ae b5;have aa:=ae m;unfold pE at U s aa;clear b5 Y bl m K4;go_wp2_with (first
    | (refine wpList_store_mid rfl 268 (.tmp 9) (.tmp 33) rfl x4.heap.size 0 C rfl rfl (by rw[ab T];exact ab U) (by rw[ab T];exact Tryz.infoLenK) (ab ad) ?_;generalize cr:World.setCells _ x4.heap.size 0 C.toList=x5 at *;clear cr U)
    | (refine bh rfl 271 (.global 1) rfl 1 0 rfl Gj _ (dH.later (dH.later (dH.later (ab HO) (ab B4)) (ab s)) ((a0c _ _).alloc (a0a _) _)).1 underlying271 rfl Tryz.infoOrd ?_))
   have be:Pcs (x5.alloc (.cells #[.int .i64 ((nL:Int)-256-1),.int .i64 5,.int .i64 ((nD:Int)-1),.int .i64 5,.int .i64 15,.int .i64 4] 185)) x5.heap.size (.slice (some ⟨x5.heap.size,0,none⟩) 3 3) (cN L D++eQ (aP A) 0):=by
    have e0:cN L D++eQ (aP A) 0=[((nL:Int)-256-1,5),((nD:Int)-1,5),(15,4)]:=by rw[ab HB];simp only[eQ,a3P,a19,a1a];congr 2;omega
    rw[e0];exact a0Y x5 #[.int .i64 ((nL:Int)-256-1),.int .i64 5,.int .i64 ((nD:Int)-1),.int .i64 5,.int .i64 15,.int .i64 4] 3 (a0a _) (by unfold maxLen;omega) rfl
   have a0:Below x5.heap.size x5 (x5.alloc (.cells #[.int .i64 ((nL:Int)-256-1),.int .i64 5,.int .i64 ((nD:Int)-1),.int .i64 5,.int .i64 15,.int .i64 4] 185)):=(a0c _ _).alloc (a0a _) _;have O5:=ae ((ab O1).later (ab s) (a0a _));have B5:=ae (ai (ab B4) (ab s));generalize x5.alloc (.cells #[.int .i64 ((nL:Int)-256-1),.int .i64 5,.int .i64 ((nD:Int)-1),.int .i64 5,.int .i64 15,.int .i64 4] 185)=x6 at *
   generalize x4.heap.size=b9 at *
   clear s B4 O1
   go_loopw [10,12,46] (fun o _ i wr=>∃j:Nat,j<=19/\i = .int .i64 j/\Pcs wr x5.heap.size o (cN L D++eQ (aP A) j)/\Below x5.heap.size x5 wr) (fun _ _ i _=>19-(intOf i).toNat)
   case atStart=>exact⟨0,by omega,rfl,be,a0⟩
   case round=>
    obtain⟨j,F,rfl,hp,a⟩:=hrel;clear be a0 x6;have m:=(ab aa).later a;have p:Hid ((cN L D++eQ (aP A) j).length=3+j):=by show _=_;rw[a0k,uf _ _ F];rfl
    have a6:=a.size;by_cases l:j<19
    .
     have c7:=Gk j l;have W:=xG j l;have J:Hid (cN L D++eQ (aP A) (j+1)=(cN L D++eQ (aP A) j)++[((aP A).getD (bT.getD j 0) 0,3)]):=by show _=_;rw[vT (aP A) j l,a0L]
     obtain⟨a7,cy,co,a4⟩:=E6 m;rw[(ab r).1]at co;obtain⟨g7,o7,rfl,c6,a8⟩:=a4 (by rw[(ab r).1];omega);have d7:=a8 (bT.getD j 0) (by rw[(ab r).1];exact W);have K:=(ab r).2.2 (bT.getD j 0) W;generalize (aP A).getD (bT.getD j 0) 0=y at *
     generalize bT.getD j 0=q at *
     have c9:(q:Int)<19:=by omega
     have c8:(j:Int)<19:=by omega
     have H:Hid ((cN L D++eQ (aP A) j).length+1<=maxLen/\((cN L D++eQ (aP A) j).length+1)*16<=140737488355328):=by
      show _/\_;rw[ab p];unfold maxLen;omega
     have Hj:=ae l;clear m a8 W a4 K F l;go_wp2_with (at_builtin;refine a0r _ rfl _ _ 182 rfl x5.heap.size 185 j0 (.agg #[.int .i64 0,.int .i64 0]) 2 16 a1p hj bs b0 b6 rfl (by decide) _ _ _ rfl (a0j hp _) ⟨wr.heap.size,0,none⟩ 1 1 [.int .i64 y,.int .i64 3] rfl rfl (sg wr _ _ _) (sf _ _) (ab H).1 (ab H).2 (an a6 _) ?_;intro v' x2 d b I;clear I);have M:=aB (v:=u10) b hp (a0a _) a6 a;have bk:=mj d;rw[←ab J]at bk;exact⟨⟨j+1,by have:=ab Hj;omega,by go_num,bk,M⟩,by have:=ab Hj;simp[intOf];omega⟩
    .
     obtain rfl:j=19:=by omega
     have t:=ae (Fh (some ⟨g1,0,none⟩) c1 nA b9 w.heap.size A (aP A) C wr (ab f) (((ab O5).later a (a0a _)).rowN (ab f)) (by have:=ab B;omega) m (by rw[(ab r).1];omega) (fun i hi=>by rw[(ab r).1];have:=ab Z (A.getD i 0) (by simp[List.getD,hi]);omega));obtain⟨ga,ca,rfl⟩:∃ga ca,u10 = .slice (some ⟨ga,0,none⟩) 22 ca:=by
      obtain⟨g,c,e⟩:=uj hp (by rw[ab p];omega);rw[ab p]at e;exact⟨g,c,e⟩
     have HP:=ae hp;have P:=ae a;clear hp a m l F;go_wp2_with fail;refine(ab t).mono ?_;rintro e x7 ⟨v7,rfl,X,b7⟩;have G:Hid ((iK (aP A) A).length=nA):=by show _=_;unfold iK;rw[a0K];exact ab f
     obtain⟨ga7,ca7,rfl⟩:∃ga ca,v7 = .slice (some ⟨ga,0,none⟩) nA ca:=by
      obtain⟨g,c,e⟩:=uj X (by rw[ab G];have:=ab B;omega);rw[ab G]at e;exact⟨g,c,e⟩
     have cc:=ae (X.newsN (ab G));have al:=ae (dN (ab HP) b7);have R:x5.heap.size<=x7.heap.size:=a0C (ab P).size b7.size;have b8:=ae (ai (ab P) b7);have bd:Hid ((cN L D++eQ (aP A) 19).length+nA<=maxLen/\((cN L D++eQ (aP A) 19).length+nA)*16<=140737488355328):=by
      show _/\_;rw[ab p];have:=ab B;unfold maxLen;omega
     clear X b7 t;go_wp2_with (at_builtin;refine a0r _ rfl _ _ 182 rfl x5.heap.size 185 j0 (.agg #[.int .i64 0,.int .i64 0]) 2 16 a1p hj bs b0 b6 rfl (by decide) _ _ _ rfl (ab al) ⟨ga7,0,none⟩ nA ca7 (aS (iK (aP A) A)) rfl (by rw[lk,ab G]) (ab cc) (gQ _) (ab bd).1 (ab bd).2 R ?_;intro v' x8 d b I;clear I);go_ret;have ch:Below x5.heap.size x5 x8:=(ab b8).grown b R (fun j hj=>(a0w (ab al) j hj).1);refine⟨_,rfl,?_,ai (ab B5) ch⟩;rw[←ab HT];have h9:Pcs x8 x5.heap.size v' ((cN L D++eQ (aP A) 19)++iK (aP A) A):=by
      show World.ownsRow _ _ _ _ _ _ _;rw[ef,a0k,ab G];exact d
     exact pa h9 (ab B5).size
def iA(T:List Tk)(k:Nat):List Int:=fJ (inc (List.replicate 286 0) 256) ((T.take k).map iB)
def fN(T:List Tk)(k:Nat):List Int:=fJ (List.replicate 30 0) ((T.take k).flatMap er)
theorem oS(T:List Tk)(k:Nat):(iA T k).length=286:=by unfold iA;rw[d9,iT,a0A]
theorem vv(T:List Tk)(k:Nat):(fN T k).length=30:=by unfold fN;rw[d9,a0A]
theorem oq(T:List Tk)(k:Nat)(h:k<T.length):T.take (k+1)=T.take k++[T.getD k k0]:=by
 rw[a1e h]
 congr 1
 simp[List.getD,h]
theorem F7(T:List Tk)(k:Nat)(h:k<T.length):iA T (k+1)=inc (iA T k) (iB (T.getD k k0)):=by
 unfold iA;rw[oq T k h,a0I,a2t,gK]
theorem F8(T:List Tk):iA T 0=(List.replicate 286 (0:Int)).set 256 1:=by
 unfold iA inc;rw[a3P,gZ];rfl
theorem Lx(T:List Tk)(k:Nat)(h:k<T.length)(hb:isB (T.getD k k0)=true):fN T (k+1)=fN T k:=by
 unfold fN;rw[oq T k h,a2n];have:[T.getD k k0].flatMap er=[]:=by simp only[a0T,a2s,a1a];unfold er;rw[a0e hb]
 rw[this,a1a]
theorem Ly(T:List Tk)(k:Nat)(h:k<T.length)(hb:isB (T.getD k k0)=false):fN T (k+1)=inc (fN T k) (fnd 1 2 (T.getD k k0).2.2.toNat 29):=by
 unfold fN;rw[oq T k h,a2n];have:[T.getD k k0].flatMap er=[fnd 1 2 (T.getD k k0).2.2.toNat 29]:=by simp only[a0T,a2s,a1a];unfold er;rw[a0d (by rw[hb];exact Bool.false_ne_true)]
 rw[this,gK]
theorem Ek(T:List Tk)(k j:Nat)(a:k<=300):0<=(iA T k).getD j 0/\(iA T k).getD j 0<=301:=by
 unfold iA;rw[kj,kY,gZ];have:((T.take k).map iB).count j<=((T.take k).map iB).length:=a3h;rw[a0K,a0v]at this
 split<;>split<;>omega
theorem yL(T:List Tk)(k j:Nat)(b:k<=300):0<=(fN T k).getD j 0/\(fN T k).getD j 0<=300:=by
 have a:=oL 30 ((T.take k).flatMap er) j;have h2:=sQ (T.take k);rw[a0v]at h2;unfold fN;omega
theorem Ji{t:Tk}(h:isB t=true):t.2.1=0:=by unfold isB at h;simp only[a0o,a0y]at h;exact h.1
def rH(w W:World)(B gl gd g4 c4 g6 c6:Nat)(A D:List Int):Prop:=
 (am W w.heap.size (.slice (some ⟨gl,0,none⟩) 286 286) A/\am W w.heap.size (.slice (some ⟨gd,0,none⟩) 30 30) D)/\(am W B (.slice (some ⟨g4,0,none⟩) 28 c4) jH/\am W B (.slice (some ⟨g6,0,none⟩) 30 c6) jB)/\Below w.heap.size w W/\gl≠gd/\gl<B/\gd<B
theorem rH.drew(h:rH w W B gl gd g4 c4 g6 c6 A D):rH w W.drew B gl gd g4 c4 g6 c6 A D:=⟨h.1,h.2.1,h.2.2.1.drew,h.2.2.2⟩
theorem rH.putL(h:rH w W B gl gd g4 c4 g6 c6 A D)(i:A.length=286)(j:Nat)(x:Int):rH w (W.setCell ⟨gl,j,none⟩ (.int .i64 x)) B gl gd g4 c4 g6 c6 (A.set j x) D:=by
 obtain⟨⟨a,h2⟩,⟨b,c⟩,e,d,f,g⟩:=h;have e3:=b.below.1;have e4:=c.below.1;exact⟨⟨a.put i x,h2.setOther d _⟩,⟨b.setOther (by omega) _,c.setOther (by omega) _⟩,ah e a.below.1 _,d,f,g⟩
theorem rH.putD(h:rH w W B gl gd g4 c4 g6 c6 A D)(i:D.length=30)(j:Nat)(x:Int):rH w (W.setCell ⟨gd,j,none⟩ (.int .i64 x)) B gl gd g4 c4 g6 c6 A (D.set j x):=by
 obtain⟨⟨d,h2⟩,⟨a,b⟩,e,c,f,g⟩:=h;have e3:=a.below.1;have e4:=b.below.1;exact⟨⟨d.setOther c.symm _,h2.put i x⟩,⟨a.setOther (by omega) _,b.setOther (by omega) _⟩,ah e h2.below.1 _,c,f,g⟩
theorem xt(ta:Option Addr)(tcap tn:Nat)(T:List Tk)(w:World)(aa:T.length=tn)(hT:BC w ta T)(Z:tn<=300)(V:∀t∈T,okT t=true) :
  Calls prog 125 #[.slice ta tn tcap] w fun e w'=>(∃gl gd,e = .returned (.tuple #[.slice (some ⟨gl,0,none⟩) 286 286,.slice (some ⟨gd,0,none⟩) 30 30])/\am w' w.heap.size (.slice (some ⟨gl,0,none⟩) 286 286) (fE T)/\am w' w.heap.size (.slice (some ⟨gd,0,none⟩) 30 30) (cb T))/\Below w.heap.size w w':=by
 obtain⟨i0,hi,ac,ad,al⟩:=a0p Tryz.infoInt;have u:=ae aa;have HT:=ae hT;have L:=ae Z;have a2:=ae V;have bk:(tn:Int)<=300:=by omega
 clear aa hT Z V;go_enter func125,ntmps125;go_wp2_with (first
  | (at_make;refine a1y _ rfl _ _ 137 rfl w.heap.size 3 i0 (.int .i64 0) 1 a0D hi ac ad .i64 .i64 _ _ 286 rfl rfl rfl rfl (by rw[al];omega) (by unfold maxLen;omega) (a0a _) ?_;intro x1 R O;have m:=fQ O;have o1:=cU R;clear O R)
  | (at_make;refine a1y _ rfl _ _ 137 rfl w.heap.size 3 i0 (.int .i64 0) 1 a0D hi ac ad .i64 .i64 _ _ 30 rfl rfl rfl rfl (by rw[al];omega) (by unfold maxLen;omega) m.size ?_;intro x2 S P;have n:=fQ P;have o2:=cU S;clear P S))
 have lt1:=o1.below.2;have O1:=ae (o1.later n (a0a _));have O2:=ae o2;have B2:=ae (ai m n);have lt2:=o2.below.2;obtain⟨gl,hgl⟩:∃g,w.heap.size=g:=⟨_,rfl⟩;obtain⟨gd,hgd⟩:∃g,x1.heap.size=g:=⟨_,rfl⟩;have a5:gl≠gd:=by omega
 have v:gl<x2.heap.size:=by omega
 have x:gd<x2.heap.size:=by omega
 rw[hgd]at O2;have K:Hid (am x2 w.heap.size (.slice (some ⟨gl,0,none⟩) 286 286) (List.replicate 286 0)):=by show am _ _ _ _;have:=ab O1;rw[hgl]at this ⊢;exact this
 rw[hgd];have eg:Value.slice (some ⟨w.heap.size,0,none⟩) 286 286 = .slice (some ⟨gl,0,none⟩) 286 286:=by rw[hgl]
 rw[eg];clear o1 o2 m n lt1 lt2 O1 eg hgl hgd;refine(nU _).mono ?_;rintro e x3 ⟨⟨g3,rfl,o3⟩,b3⟩;have R3:=ae (o3.rowN rfl);have B3:=ae b3;clear o3 b3;go_wp2_with fail;refine(jk _ 28 _ (ab R3)).mono ?_;rintro e x4 ⟨v4,rfl,o4,b4⟩;obtain⟨a4,c4,rfl⟩:=o4.formN fj;obtain⟨g4,rfl⟩:=o4.somes (by rw[fj];omega);have O4:=ae (o4.mono (ab B3).size);have B4:=ae (ai (ab B3) b4);clear o4 b4 B3 R3;go_wp2_with fail;refine(nE _).mono ?_;rintro e x5 ⟨⟨g5,rfl,o5⟩,b5⟩;have R5:=ae (o5.rowN rfl);have B5:=ae (ai (ab B4) b5);have O4':=ae ((ab O4).later b5 (a0a _));clear o5 b5 O4;go_wp2_with fail;refine(jj _ 30 _ (ab R5)).mono ?_;rintro e x6 ⟨v6,rfl,o6,b6⟩;obtain⟨a6,c6,rfl⟩:=o6.formN eZ;obtain⟨g6,rfl⟩:=o6.somes (by rw[eZ];omega);have X:=(ab B5).size;have O4:am x6 x2.heap.size (.slice (some ⟨g4,0,none⟩) 28 c4) jH:=(ab O4').later b6 (a0a _);have O6:am x6 x2.heap.size (.slice (some ⟨g6,0,none⟩) 30 c6) jB:=o6.mono X;have B6:=ai (ab B5) b6;have E:rH w x6 x2.heap.size gl gd g4 c4 g6 c6 (List.replicate 286 0) (List.replicate 30 0):=⟨⟨(ab K).later B6 (a0a _),(ab O2).later B6 (a0a _)⟩,⟨O4,O6⟩,ai (ab B2) B6,a5,v,x⟩;have F:=E.putL (a0A ..) 256 1;have e1:(List.replicate 286 (0:Int)).set 256 1=iA T 0:=(F8 T).symm;rw[e1]at F;have M:rH w (x6.setCell ⟨gl,256,none⟩ (.int .i64 1)) x2.heap.size gl gd g4 c4 g6 c6 (iA T 0) (fN T 0):=F;obtain⟨f1,f2,_,_⟩:=E.1.1.at (j:=256) (a0A ..) (by omega);clear E F e1 O4 O6 B6 b6 o6 K O2 B2 B4 O4' X R5 B5 v x;generalize x2.heap.size=B at *
 go_wp2_with fail
 go_loopw [8,9] (fun i _ wr=>∃k:Nat,k<=tn/\i = .int .i64 k/\rH w wr B gl gd g4 c4 g6 c6 (iA T k) (fN T k)) (fun i _ _=>tn-(intOf i).toNat)
 case atStart=>exact⟨0,a0g _,rfl,M⟩
 case round=>
  obtain⟨k,hk,rfl,l⟩:=hrel;clear M f1 f2;by_cases H:k<tn
  .
   obtain⟨g,o,rfl,hg,N⟩:=(ab HT) (by rw[ab u];omega);obtain⟨c0,c1,c2⟩:=N k (by rw[ab u];exact H);have d0:=(l.2.2.1.cell (p:=⟨g,o+k*3,none⟩) hg).trans c0;have d1:=(l.2.2.1.cell (p:=⟨g,o+k*3+1,none⟩) hg).trans c1;have d2:=(l.2.2.1.cell (p:=⟨g,o+k*3+2,none⟩) hg).trans c2;have a3:g≠gl:=by have:=l.1.1.below.1;omega
   clear c0 c1 c2;have c:k<T.length:=by rw[ab u];exact H
   have Y:=ab a2 (T.getD k k0) (by simp[List.getD,c]);have f:=ae (F7 T k c);have a:k<=300:=by have:=ab L;omega
   have Hk:=ae H;clear N;cases hb:isB (T.getD k k0)
   .
    have hK:isK (T.getD k k0)=true:=by unfold okT at Y;rw[hb]at Y;simpa using Y
    obtain⟨q1,q2,q3,q4⟩:=tp hK;have r:=ae (Ly T k c hb);have e2:iB (T.getD k k0)=257+fnd 3 4 (T.getD k k0).2.1.toNat 27:=by unfold iB;rw[a0d (by rw[hb];exact Bool.false_ne_true)]
    rw[e2]at f;obtain⟨y,hy⟩:=a0s (show 0<=(T.getD k k0).2.1 by omega);obtain⟨z,A⟩:=a0s (show 0<=(T.getD k k0).2.2 by omega);rw[hy]at d1 q1 q2 f;rw[A]at d2 q3 q4 r;rw[a0t]at f r;have C:=ae (fun W (h:aY W (some ⟨g4,0,none⟩) jH)=>mU (some ⟨g4,0,none⟩) c4 28 jH (y:Int) W fj h (by omega) (by omega));have D:=ae (fun W (h:aY W (some ⟨g6,0,none⟩) jB)=>mU (some ⟨g6,0,none⟩) c6 30 jB (z:Int) W eZ h (by omega) (by omega));rw[zN y (by omega) (by omega)]at C;rw[ym z (by omega) (by omega)]at D;have k1:=gG 3 4 y 27;have k2:=gG 1 2 z 29;clear hb hK c e2 hy A Y;generalize fnd 3 4 y 27=p at *
    generalize fnd 1 2 z 29=q at *
    have m:=Ek T k (257+p) a;have n:=yL T k q a;obtain⟨m1,m2,_,_⟩:=l.1.1.at (j:=257+p) (oS T k) (by omega);have d:=l.putL (oS T k) (257+p) ((iA T k).getD (257+p) 0+1);have el:(iA T k).set (257+p) ((iA T k).getD (257+p) 0+1)=iA T (k+1):=(ab f).symm;rw[el]at d;generalize (iA T k).getD (257+p) 0=ya at *
    obtain⟨m3,m4,_,_⟩:=d.1.2.at (j:=q) (vv T k) (by omega);have G:=d.putD (vv T k) q ((fN T k).getD q 0+1);have ed:(fN T k).set q ((fN T k).getD q 0+1)=fN T (k+1):=(ab r).symm;rw[ed]at G;generalize (fN T k).getD q 0=za at *
    have R1:=ae (ab C wr (l.2.1.1.rowN fj));have R2:=ae (ab D _ (d.2.1.2.rowN eZ));have bc:(wr.setCell ⟨gl,257+p,none⟩ (.int .i64 (ya+1))).cell? ⟨g,o+k*3+2,none⟩=some (.int .i64 (z:Int)):=by
     rw[World.cell?_setCell_other _ _ _ _ (by intro e;simp only[a0B]at e;exact a3 e.1.symm)];exact d2
    have a1:=ae G;have bd:(257:Int)+(p:Int)<286:=by omega
    have be:(q:Int)<30:=by omega
    have a9:ya<=301:=m.2;have bs:za<=300:=n.2;have a8:0<=ya:=m.1;have bb:0<=za:=n.1;have y0':¬ (y:Int)=0:=by omega
    clear l d G el ed m n k1 k2 q1 q2 q3 q4 C D a;go_wp2_with fail;refine(ab R1).mono ?_;rintro e x7 ⟨rfl,b⟩;rw[b];clear b x7;go_wp2_with fail;refine(ab R2).mono ?_;rintro e x7 ⟨rfl,b⟩;rw[b];clear b x7;go_wp2;go_roundw
    case rel=>exact⟨k+1,by have:=ab Hk;omega,by go_num,ab a1⟩
    case measure=>have:=ab Hk;simp[intOf];omega
   .
    obtain⟨q1,q2⟩:=qe hb;have A:=Ji hb;have r:=ae (Lx T k c hb);have e2:iB (T.getD k k0)=(T.getD k k0).1.toNat:=by unfold iB;rw[a0e hb]
    rw[e2]at f;obtain⟨y,hy⟩:=a0s q1;rw[hy]at d0 q2 f;rw[A]at d1;rw[a0t]at f;clear hb c e2 hy A Y d2 q1;have m:=Ek T k y a;obtain⟨m1,m2,_,_⟩:=l.1.1.at (j:=y) (oS T k) (by omega);have d:=l.drew.putL (oS T k) y ((iA T k).getD y 0+1);have el:(iA T k).set y ((iA T k).getD y 0+1)=iA T (k+1):=(ab f).symm;rw[el,←ab r]at d;generalize (iA T k).getD y 0=ya at *
    have a0:=ae d;have a9:ya<=301:=m.2;have a8:0<=ya:=m.1;have bl:(y:Int)<286:=by omega
    clear l d el m a q2;go_wp2
    go_region
    go_wp2;go_roundw
    case rel=>exact⟨k+1,by have:=ab Hk;omega,by go_num,ab a0⟩
    case measure=>have:=ab Hk;simp[intOf];omega
  .
   have c:T.take k=T:=a0x (by rw[ab u];omega);have Q:k<=300:=by have:=ab L;omega
   have eL:iA T k=fE T:=by unfold iA;rw[c];exact CI T
   have eD:fN T k=fp T:=by unfold fN fp;rw[c]
   have n:=yL T k 0 Q;rw[eL,eD]at l;rw[eD]at n;have HU:=ae (tC (some ⟨gd,0,none⟩) 30 30 (fp T) wr (fe T) (l.1.2.rowN (fe T)) (by omega));obtain⟨m1,m2,_,_⟩:=l.1.2.at (j:=0) (fe T) (by omega);have I:=ae l;clear l c Q eL eD;by_cases J:us (fp T)=0
   .
    have A:(fp T).getD 0 0=0:=by have:=EK J 0 (by rw[fe];omega);omega
    have s:=ae ((ab I).putD (fe T) 0 1);have e1:(fp T).set 0 1=cb T:=by unfold cb;rw[a0e J];unfold inc;rw[A];rfl
    rw[e1]at s;rw[J]at HU;clear e1 A n I J;go_wp2_with fail;refine(ab HU).mono ?_;rintro e x7 ⟨rfl,b⟩;rw[b];clear b x7;go_wp2
    go_ret2
    exact⟨⟨gl,gd,rfl,(ab s).1.1,(ab s).1.2⟩,(ab s).2.2.1⟩
   .
    have e1:fp T=cb T:=by unfold cb;rw[a0d J]
    have a7:((us (fp T):Nat):Int)≠0:=by omega
    have ba:(((us (fp T):Nat):Int) == 0)=false:=by simpa using a7
    rw[e1]at I;clear e1 n J;generalize us (fp T)=U at *
    go_wp2_with fail;refine(ab HU).mono ?_;rintro e x7 ⟨rfl,b⟩;rw[b];clear b x7;go_wp2
    go_ret2
    exact⟨⟨gl,gd,rfl,(ab I).1.1,(ab I).1.2⟩,(ab I).2.2.1⟩
theorem vI{g o:Nat}(c:∀i,i<l.length->w.cell? ⟨g,o+i,none⟩=some (.int .i64 (l.getD i 0))):∀j u,(l.map (Value.int .i64))[j]?=some u->w.cell? ((⟨g,o,none⟩:Addr).add j)=some u:=by
 intro j u d;have b:j<l.length:=by have:=(List.getElem?_eq_some_iff.1 d).1;simpa using this
 have a:(⟨g,o,none⟩:Addr).add j=⟨g,o+j,none⟩:=by unfold Addr.add;split<;>simp_all
 rw[a,c j b,←d];simp[List.getD,b]
def ko(l:List Int)(t:List Int):List (Int×Int):=t.map fun x=>pcM l x.toNat
theorem Cy(l t:List Int)(k:Nat)(h:k<t.length):ko l (t.take (k+1))=ko l (t.take k)++[pcM l (t.getD k 0).toNat]:=by
 unfold ko;rw[bX t k h,a0I];rfl
theorem Oe(L D:List Int):cN L D++(eQ (aP (L++D)) 19++ko (aP (L++D)) (L++D))=fG L D:=rfl
def LR(W:World)(b:Nat)(A l:List Int)(gA g7 gc:Option Addr):Prop:=iz W b gA A/\iz W b g7 l/\iz W b gc (aT l 15).2
theorem LR.keep{W':World}{b:Nat}{gA g7 gc:Option Addr}(h:LR W b A l gA g7 gc)(a:bS b W W'):LR W' b A l gA g7 gc:=⟨h.1.keep a,h.2.1.keep a,h.2.2.keep a⟩
theorem FY(b:Nat)(p:Nat×Nat)(a aD:Option Addr)(cL nL cD nD:Nat)(L D:List Int)(w:World)(ho:jy w b p)(hL:aY w a L)(hD:aY w aD D)(a2:L.length=nL)(a1:D.length=nD)
  (l0:257<=nL) (l1:nL<=286) (d0:1<=nD) (d1:nD<=30) (kL:ar L=true) (kD:ar D=true) (hp:p.2<=1000) :
  Calls prog 128 #[.pointer (some ⟨b,0,none⟩),.slice a nL cL,.slice aD nD cD] w fun e w'=>e = .returned (.tuple #[])/\jy w' b (aV p (fG L D))/\KB b w w':=by
 obtain⟨i0,hi,bk,bl,bs⟩:=a0p Tryz.infoInt;have ac:b<w.heap.size:=Out.lt ho;have HA:Hid (∀x∈L++D,0<=x/\x<=15):=by
  intro x F;rcases a0U.1 F with h|h
  . exact mW kL x h
  . exact mW kD x h
 obtain⟨nA,hnA⟩:∃nA,(L++D).length=nA:=⟨_,rfl⟩;have d5:nA=nL+nD:=by rw[←hnA,a0k,a2,a1]
 have K:=ae (Cx (L++D) (by omega) (by omega) (ab HA));have HQ:=ae (Oe L D);have HU:=ae (wK (L++D) (by omega) (ab HA));have d7:=ae (wJ (L++D) (by omega));have HB:Hid (cN L D=[((nL:Int)-257,5),((nD:Int)-1,5),(15,4)]):=by show cN L D=_;unfold cN;rw[a2,a1]
 have b1:Hid (pOk ((nL:Int)-257) 5=true/\pOk ((nD:Int)-1) 5=true):=by
  have:p2 (5:Int).toNat=32:=by decide
  exact⟨aQ.2 ⟨by omega,by omega,by rw[this];omega⟩,aQ.2 ⟨by omega,by omega,by rw[this];omega⟩⟩
 obtain⟨g,o,rfl,hg,c7⟩:=hL (by omega);obtain⟨g',o',rfl,c8,a5⟩:=hD (by omega);have O:Below w.heap.size w (w.alloc (.cells #[] 3)):=(a0c _ _).alloc (a0a _) _;have bb:World.ownsRow (w.alloc (.cells #[] 3)) w.heap.size 3 1 (.slice (some ⟨w.heap.size,0,none⟩) 0 0) 0 []:=a0Y w #[] 0 (a0a _) (by unfold maxLen;omega) rfl;have T:=ae (vI (w:=w.alloc (.cells #[] 3)) (g:=g) (o:=o) (l:=L) (fun i hi=>by rw[O.cell (p:=⟨g,o+i,none⟩) hg];exact c7 i hi));have E:Hid (∀W,Below w.heap.size w W->∀j u,(D.map (Value.int .i64))[j]?=some u->W.cell? ((⟨g',o',none⟩:Addr).add j)=some u):=fun W hW=>vI (fun i hi=>by rw[hW.cell (p:=⟨g',o'+i,none⟩) c8];exact a5 i hi);have d3:Hid ((L.map (Value.int .i64)).length=nL*1):=by show _=_;simp[a2]
 have d2:Hid ((D.map (Value.int .i64)).length=nD*1):=by show _=_;simp[a1]
 have R:Hid ((0+nL<=maxLen/\(0+nL)*8<=140737488355328)/\(0+nL+nD<=maxLen/\(0+nL+nD)*8<=140737488355328)):=by show(_/\_)/\_/\_;unfold maxLen;omega
 have nLI:(nL:Int)<=286:=by omega
 have nDI:(nD:Int)<=30:=by omega
 have nLI0:(257:Int)<=(nL:Int):=by omega
 have nDI0:(1:Int)<=(nD:Int):=by omega
 have nAI:(nA:Int)<=316:=by omega
 have aa:Hid (1<=nA/\nA<=316/\nA=nL+nD):=by show _/\_;omega
 have HO:=ae ho;have Hp:=ae hp;clear hL hD kL kD l0 l1 d0 d1 a2 a1 d5 ho hp c7 a5 hg c8;generalize co:L++D=A at *
 have b0:Hid (L.map (Value.int .i64)++D.map (Value.int .i64)=A.map (Value.int .i64)):=by show _=_;rw[←co,a0I]
 have m:=ae hnA;clear hnA co;go_enter func128,ntmps128;go_wp2_with (first
  | (at_builtin;refine a0r _ rfl _ _ 137 rfl w.heap.size 3 i0 (.int .i64 0) 1 8 a0D hi bk bl bs rfl (by decide) _ _ _ rfl bb ⟨g,o,none⟩ nL cL (L.map (Value.int .i64)) rfl (ab d3) (ab T) (a1k .i64 _) (ab R).1.1 (ab R).1.2 O.size ?_;intro v1 x1 s t U;clear U;have Q:Below w.heap.size w x1:=O.grown t O.size (fun j hj=>(a0w bb j hj).1))
  | (at_builtin;refine a0r _ rfl _ _ 137 rfl w.heap.size 3 i0 (.int .i64 0) 1 8 a0D hi bk bl bs rfl (by decide) _ _ _ rfl s ⟨g',o',none⟩ nD cD (D.map (Value.int .i64)) rfl (ab d2) (ab E _ Q) (a1k .i64 _) (ab R).2.1 (ab R).2.2 Q.size ?_;intro v2 x2 X B U;clear U;have a9:Below w.heap.size w x2:=Q.grown B Q.size (fun j hj=>(a0w s j hj).1))
  | (at_make;refine a1y _ rfl _ _ 137 rfl w.heap.size 3 i0 (.int .i64 0) 1 a0D hi bk bl .i64 .i64 _ _ 19 rfl rfl rfl rfl (by rw[bs];omega) (by unfold maxLen;omega) a9.size ?_;intro x3 Y C))
 have N:am x2 w.heap.size v2 A:=by
  show World.ownsRow _ _ _ _ _ A.length _;rw[ab m,(ab aa).2.2,←ab b0];simpa using X
 obtain⟨aA,cA,rfl⟩:=N.formN (ab m);obtain⟨gA,rfl⟩:=N.somes (by have:=ab m;have:=ab aa;omega);have c9:=N.below.2;obtain⟨gC,hgC⟩:∃gC,x2.heap.size=gC:=⟨_,rfl⟩;have b3:=fQ C;have o2:=cU Y;rw[hgC]at o2 c9;have c6:=ai a9 b3;have o1:=N.later b3 (a0a _);have ei:gC≠gA:=by omega
 rw[hgC];clear s X Y t B C b3 hgC c9 O Q a9 bb T E d3 d2 R b0 N
 go_loopw [8] (fun i wr=>∃k:Nat,k<=nA/\i = .int .i64 k/\am wr w.heap.size (.slice (some ⟨gA,0,none⟩) nA cA) A/\am wr w.heap.size (.slice (some ⟨gC,0,none⟩) 19 19) (fJ (List.replicate 19 0) ((A.take k).map Int.toNat))/\Below w.heap.size w wr) (fun i _=>nA-(intOf i).toNat)
 case atStart=>exact⟨0,a0g _,rfl,o1,o2,c6⟩
 case round=>
  obtain⟨k,hk,rfl,M,H,r⟩:=hrel;clear o1 o2 c6;by_cases c:k<nA
  .
   obtain⟨c0,_,_,_⟩:=M.at (ab m) c;have dl:A.getD k 0∈A:=by have:=ab m;simp[List.getD,show k<A.length by omega]
   have n:=ab HA _ dl;have f:Hid ((A.take (k+1)).map Int.toNat=(A.take k).map Int.toNat++[(A.getD k 0).toNat]):=by
    show _=_;rw[bX A k (by rw[ab m];exact c),a0I];rfl
   have bd:(fJ (List.replicate 19 0) ((A.take k).map Int.toNat)).length=19:=by rw[d9,a0A]
   obtain⟨y,hy⟩:=a0s n.1;rw[hy]at f c0 n;rw[a0t]at f;have hb:=oL 19 ((A.take k).map Int.toNat) y;have eh:((A.take k).map Int.toNat).length<=nA:=by simp;omega
   obtain⟨e0,e1,e2,e3⟩:=H.at (j:=y) bd (by omega);have hP:=am.put (w:=wr.drew) (j:=y) bd H ((fJ (List.replicate 19 0) ((A.take k).map Int.toNat)).getD y 0+1);have cy:Hid (∀u,am (wr.drew.setCell ⟨gC,y,none⟩ u) w.heap.size (.slice (some ⟨gA,0,none⟩) nA cA) A/\Below w.heap.size w (wr.drew.setCell ⟨gC,y,none⟩ u)):=fun u=>⟨am.setOther (w:=wr.drew) M ei u,ah r.drew e2 u⟩;have HP:Hid (am (wr.drew.setCell ⟨gC,y,none⟩ (.int .i64 ((fJ (List.replicate 19 0) ((A.take k).map Int.toNat)).getD y 0+1))) w.heap.size (.slice (some ⟨gC,0,none⟩) 19 19) (fJ (List.replicate 19 0) ((A.take (k+1)).map Int.toNat))):=by
    show am _ _ _ _;rw[ab f,gK];exact hP
   generalize (fJ (List.replicate 19 0) ((A.take k).map Int.toNat)).getD y 0=z at *
   have em:(y:Int)<19:=by omega
   have en:z<=400:=by have:=ab aa;omega
   have ek:0<=z:=hb.1;have Hk:=ae hk;clear hP H M r eh hb n hy dl hk bd e2 e3;go_wp2
   go_region
   go_wp2;go_roundw
   case rel=>exact⟨k+1,by have:=ab Hk;omega,by go_num,(ab cy _).1,ab HP,(ab cy _).2⟩
   case measure=>simp[intOf];omega
  .
   have dv:A.take k=A:=a0x (by rw[ab m];omega);rw[dv]at H;have cp:am wr w.heap.size (.slice (some ⟨gC,0,none⟩) 19 19) (nG A):=H;have HL:Hid (Calls prog 127 #[.slice (some ⟨gC,0,none⟩) 19 19,.int .i64 7] wr fun e w'=>(∃v,e = .returned v/\am w' wr.heap.size v (aP A))/\Below wr.heap.size wr w'):=vL (some ⟨gC,0,none⟩) 19 19 6 (nG A) wr (fB A) (cp.rowN (fB A)) (by omega) (by omega) (ab d7) (by rw[eV];have h2:=Nx;have:=(ab HU).2;omega) (by omega);have ej:=r.size;have O1:=ae M;have B1:=ae r;clear dv H cp M r;go_wp2_with fail;refine(ab HL).mono ?_;rintro e x3 ⟨⟨v3,rfl,o3⟩,b3⟩;obtain⟨a3,c3,rfl⟩:=o3.formN (ab K).1;obtain⟨g3,rfl⟩:=o3.somes (by rw[(ab K).1];omega);have O1':=ae ((ab O1).later b3 (a0a _));have B3:=ae (ai (ab B1) b3);have O3:=ae (o3.mono ej);clear o3 b3 HL O1 B1;go_wp2_with fail;refine(qh (some ⟨g3,0,none⟩) c3 19 (aP A) x3 (ab K).1 ((ab O3).rowN (ab K).1) (by omega)).mono ?_;rintro e x4 ⟨⟨g4,rfl,o4⟩,b4⟩;have hR:LR x4 b A (aP A) (some ⟨gA,0,none⟩) (some ⟨g3,0,none⟩) (some ⟨g4,0,none⟩):=⟨fg (ab m) ((ab O1').later b4 (a0a _)) ac,fg (ab K).1 ((ab O3).later b4 (a0a _)) ac,fg ((bw _ 15).trans (ab K).1) (o4.mono (ab B3).size) ac⟩;have ba:=ai (ab B3) b4;have cu:jy x4 b p:=Out.kept (ab HO) ba;have cr:KB b w x4:=(KB.refl b w).below ba (a0z ac);have HR:=ae hR;have b7:=ae cu;have b2:=ae cr;clear hR o4 b4 ba cu cr O1' O3 B3;go_wp2_with fail;refine(eT b p ((nL:Int)-257) 5 x4 (ab b7) (ab b1).1 (by have:=ab Hp;omega)).mono ?_;rintro e x5 ⟨rfl,o5,k5⟩;have b9:=ae o5;have cc:=ae ((ab HR).keep k5.2);have b5:=ae ((ab b2).trans k5);have q5:=dK p [((nL:Int)-257,5)] (by intro x F;simp at F;subst F;simp);clear o5 k5 b7 HR b2;go_wp2_with fail;refine(eT b _ ((nD:Int)-1) 5 x5 (ab b9) (ab b1).2 (by have:=ab Hp;simp only[a0E,a0S]at q5;omega)).mono ?_;rintro e x6 ⟨rfl,o6,k6⟩;rw[←bi]at o6;have ca:=ae o6;have cg:=ae ((ab cc).keep k6.2);have b6:=ae ((ab b5).trans k6);have q6:=dK p ([((nL:Int)-257,5)]++[((nD:Int)-1,5)]) (by intro x F;simp at F;rcases F with rfl|rfl<;>simp);clear o6 k6 b9 cc b5;go_wp2_with fail;refine(eT b _ 15 4 x6 (ab ca) (by decide) (by have:=ab Hp;simp only[a0E,a0S,a0k]at q6;omega)).mono ?_;rintro e x7 ⟨rfl,o7,k7⟩;rw[←bi]at o7;have o7':jy x7 b (aV p (cN L D++eQ (aP A) 0)):=by rw[ab HB];exact o7
   have c5:=(ab cg).keep k7.2;have cs:=(ab b6).trans k7;clear o7 k7 ca cg b6 q5 q6;go_wp2_with fail;have ed:=ae (dF (ab K).2.1);have ch:Hid (∀l:List (Int×Int),(∀x∈l,x.2<=16)->l.length<=400->(aV p (cN L D++l)).2<=100000):=by
    intro l h1 h2;have h3:=dK p (cN L D++l) (by
     intro x F;rcases a0U.1 F with h|h
     . rw[ab HB]at h;simp at h;rcases h with rfl|rfl|rfl<;>simp
     . exact h1 x h)
    rw[a0k]at h3;have h4:(cN L D).length=3:=rfl;have:=ab Hp;omega
   go_loopw [11] (fun i wr=>∃j:Nat,j<=19/\i = .int .i64 j/\jy wr b (aV p (cN L D++eQ (aP A) j))/\LR wr b A (aP A) (some ⟨gA,0,none⟩) (some ⟨g3,0,none⟩) (some ⟨g4,0,none⟩)/\KB b w wr) (fun i _=>19-(intOf i).toNat)
   case atStart=>exact⟨0,by omega,rfl,o7',c5,cs⟩
   case round=>
    obtain⟨j,S,rfl,I,a4,a0⟩:=hrel;clear o7' c5 cs;by_cases c:j<19
    .
     have f:Hid (aV p (cN L D++eQ (aP A) (j+1))=aV (aV p (cN L D++eQ (aP A) j)) [((aP A).getD (bT.getD j 0) 0,3)]):=by show _=_;rw[vT (aP A) j c,←a0L,bi]
     have be:=xG j c;have d:=ab ch (eQ (aP A) j) (by intro x F;unfold eQ at F;obtain⟨i,_,rfl⟩:=a2J.1 F;simp) (by rw[uf _ _ S];omega);have n:=(ab K).2.2 (bT.getD j 0) be;have d6:=zZ j c;have d4:=Out.lt I;have HJ:=ae (a0b c (a0b I (a0b a4 a0)));have eg:(j:Int)<19:=by omega
     clear I a4 a0 S;generalize aV p (cN L D++eQ (aP A) j)=P at *
     go_wp2_with fail;refine(zt wr).mono ?_;rintro e x8 ⟨⟨g8,rfl,o8⟩,b8⟩;obtain⟨d8,_,_,_⟩:=o8.at (j:=j) Aa c;rw[d6]at d8;have Z:=(ab HJ).2.2.1.keep (bF b8);have a8:jy x8 b P:=Out.kept (ab HJ).2.1 b8;have a6:=(ab HJ).2.2.2.below b8 (a0z d4);obtain⟨g,o,e,_,dd⟩:=iW Z.2.1 (k:=bT.getD j 0) (by rw[(ab K).1];exact be);cases e
     rw[a0G]at dd;have cv:pOk ((aP A).getD (bT.getD j 0) 0) 3=true:=by
      have:p2 (3:Int).toNat=8:=by decide
      exact aQ.2 ⟨by omega,n.1,by rw[this];omega⟩
     generalize (aP A).getD (bT.getD j 0) 0=y at *
     generalize bT.getD j 0=q at *
     have el:(q:Int)<19:=by omega
     have HX:=ae (a0b Z a6);have G:=ae (eT b P y 3 x8 a8 cv d);have Hj:=ae (ab HJ).1;clear o8 b8 Z a8 a6 HJ be n d6 d cv c;go_wp2_with fail;refine(ab G).mono ?_;rintro e x9 ⟨rfl,o9,k9⟩;rw[←ab f]at o9;have HY:=ae (a0b o9 (a0b ((ab HX).1.keep k9.2) ((ab HX).2.trans k9)));clear o9 k9 HX G d8 dd f;go_wp2;go_roundw
     case rel=>exact⟨j+1,by have:=ab Hj;omega,by go_num,(ab HY).1,(ab HY).2.1,(ab HY).2.2⟩
     case measure=>have:=ab Hj;simp[intOf];omega
    .
     have dq:j=19:=by omega
     have eg:¬ (j:Int)<19:=by omega
     rw[dq]at I;have a7:jy wr b (aV p (cN L D++(eQ (aP A) 19++ko (aP A) (A.take 0)))):=by
      have e0:eQ (aP A) 19++ko (aP A) (A.take 0)=eQ (aP A) 19:=by unfold ko;rw[a3P,a19,a1a]
      rw[e0];exact I
     clear I c S dq;go_wp2_with fail
     go_loopw [12] (fun i wr=>∃j:Nat,j<=nA/\i = .int .i64 j/\jy wr b (aV p (cN L D++(eQ (aP A) 19++ko (aP A) (A.take j))))/\LR wr b A (aP A) (some ⟨gA,0,none⟩) (some ⟨g3,0,none⟩) (some ⟨g4,0,none⟩)/\KB b w wr) (fun i _=>nA-(intOf i).toNat)
     case atStart=>exact⟨0,by omega,rfl,a7,a4,a0⟩
     case round=>
      obtain⟨j,hj,rfl,V,J,al⟩:=hrel;clear a7 a4 a0;by_cases c:j<nA
      .
       have ad:j<A.length:=by rw[ab m];exact c
       have f:Hid (aV p (cN L D++(eQ (aP A) 19++ko (aP A) (A.take (j+1))))=aV (aV p (cN L D++(eQ (aP A) 19++ko (aP A) (A.take j)))) [pcM (aP A) (A.getD j 0).toNat]):=by show _=_;rw[Cy (aP A) A j ad,←bi,a0L,a0L]
       have d:=ab ch (eQ (aP A) 19++ko (aP A) (A.take j)) (by
        intro x F;rcases a0U.1 F with h|h
        . unfold eQ at h;obtain⟨i,_,rfl⟩:=a2J.1 h;simp
        . unfold ko at h;obtain⟨y,hy,rfl⟩:=a2J.1 h;have h1:=ab HA y (a2a hy);have h2:=(ab K).2.2 y.toNat (by omega);show(aP A).getD y.toNat 0<=16;omega) (by rw[a0k,uf _ _ (a0a _)];unfold ko;rw[a0K,a0v];have:=ab aa;omega)
       have n:=ab HA (A.getD j 0) (by simp[List.getD,ad]);obtain⟨g,o,e,_,dd⟩:=iW J.1 (k:=j) ad;cases e
       rw[a0G]at dd;obtain⟨q,hq⟩:=a0s n.1;rw[hq]at dd n f;rw[a0t]at f;have bc:=ab ed q (by rw[(ab K).1];omega);have G:=ae (pp b _ (some ⟨g3,0,none⟩) (some ⟨g4,0,none⟩) c3 19 19 q (aP A) wr V (ab K).1 J.2.1.1 J.2.2.1 (by omega) (by omega) bc.1 bc.2 d);rw[←ab f]at G;have HX:=ae (a0b J al);have Hj:=ae c;clear V J al hj c ad f d n hq bc;go_wp2_with fail;refine(ab G).mono ?_;rintro e x9 ⟨rfl,o9,k9⟩;have HY:=ae (a0b o9 (a0b ((ab HX).1.keep k9.2) ((ab HX).2.trans k9)));clear o9 k9 HX G dd;go_wp2;go_roundw
       case rel=>exact⟨j+1,by have:=ab Hj;omega,by go_num,(ab HY).1,(ab HY).2.1,(ab HY).2.2⟩
       case measure=>have:=ab Hj;simp[intOf];omega
      .
       have ds:A.take j=A:=a0x (by rw[ab m];omega);rw[ds,ab HQ]at V;have HY:=ae (a0b V al);clear V J al ds;go_wp2
       go_end0
       exact⟨rfl,(ab HY).1,(ab HY).2⟩
theorem Gm(T:List Tk)(a:T.length<=300)(b:∀t∈T,okT t=true):[(1,1),(2,2)]++(fG (bQ T) (cm T)++(T.flatMap (pcT (bQ T) (cm T))++[pcS (bQ T) 256]))=kA T:=by
 unfold kA;rw[qP (ia T a) (jI T a) _ (fun t c=>me T a b t c),na (ia T a) (by have:=(kz T a).1;omega)]
theorem wL(v1 v2 v3:Value)(A B C:List (Int×Int))(base:Nat)(w:World)(f:Pcs w base v1 A)(h2:Pcs w base v2 B)(g:Pcs w base v3 C)(k:A.length+(B.length+C.length)<=4000) :
  Calls prog 147 #[.slice (some ⟨w.heap.size,0,none⟩) 3 3] (w.alloc (.cells #[v1,v2,v3] 182)) fun e w'=>∃v,e = .returned v/\Pcs w' w.heap.size v (A++(B++C))/\Below w.heap.size w w':=by
 have a:Below w.heap.size w (w.alloc (.cells #[v1,v2,v3] 182)):=(a0c _ _).alloc (a0a _) _;have h:gz (w.alloc (.cells #[v1,v2,v3] 182)) w.heap.size base [(v1,aS A),(v2,aS B),(v3,aS C)]:=by
  intro i j
  match i,j with
  | 0,_=>exact⟨by simp,_,f.later a (a0a _),gQ _⟩
  | 1,_=>exact⟨by simp,_,h2.later a (a0a _),gQ _⟩
  | 2,_=>exact⟨by simp,_,g.later a (a0a _),gQ _⟩
 have b:aK [(v1,aS A),(v2,aS B),(v3,aS C)]=(A++(B++C)).length:=by
  simp only[aK,bR,a0H,a19,a0M,a3H,lk,a0k];omega
 refine(yE w.heap.size base 3 3 _ _ rfl (by omega) (by omega) h (by rw[b,a0k,a0k];omega)).mono ?_;rintro e x5 ⟨v,rfl,d,hb⟩;refine⟨v,rfl,?_,ai a hb⟩;have c:dY [(v1,aS A),(v2,aS B),(v3,aS C)]=aS (A++(B++C)):=by
  simp only[dY,a0T,a2s,ef,a1a]
 rw[b,c]at d;exact pa (base:=(w.alloc (.cells #[v1,v2,v3] 182)).heap.size) d (by simp)
theorem zm(s:ByteArray)(w:World)(hs:s.size<=300)(hO:dH w) :
  Ds 110 #[.string s] w (.string ⟨(uh s).toArray⟩):=by
 have hI:¬ (300:Int)<(s.size:Int):=by omega
 have bb:prog.follows .mixedOrders=true:=by kernel_rfl
 have HS:=ae hs;have HO:=ae hO;have N:=ae (rJ s w hs);obtain⟨T,hT⟩:∃T,bG s.data.toList 0=T:=⟨_,rfl⟩;have a:Hid (T.length<=300):=by show _<=_;rw[←hT];exact kH s hs
 have U:Hid (∀t∈T,okT t=true):=by rw[←hT];exact ib s
 have b7:Hid (uh s=gp (kA T)):=by show uh s=_;unfold uh;rw[hT]
 have HT:=ae hT;rw[hT]at N;clear hs hO hT;go_enter func110,ntmps110;go_wp2_with fail;refine(ab N).mono ?_;rintro e x1 ⟨⟨gl,gd,rfl,o1,o2⟩,b1⟩;have O:=ae (jg (some ⟨gl,0,none⟩) 286 286 (fE T) 15 x1 (eO T) (o1.rowN (eO T)) (by omega));rw[L9 T (ab a)]at O;have O2:=ae o2;have B1:=ae b1;clear o1 o2 b1 N;go_wp2_with fail;refine(ab O).mono ?_;rintro e x2 ⟨⟨v2,rfl,o3⟩,b2⟩;have k:=(Ju T (ab a)).1;obtain⟨a2,c2,rfl⟩:=o3.formN k;obtain⟨g2,rfl⟩:=o3.somes (by omega);have C:=ae (qZ g2 0 c2 286 257 (cW 15 (fE T)) x2 k (fun i hi=>by rw[a0G];exact(o3.at k hi).1) o3.cap.1 (by omega) (by omega));have e2:dU (cW 15 (fE T)) 257 286=(bQ T).length:=by unfold bQ;rw[ii,k]
 rw[e2]at C;have O3:Hid (am x2 w.heap.size (.slice (some ⟨g2,0,none⟩) (bQ T).length c2) (bQ T)):=by
  have G:=o3.cut (m:=(bQ T).length) k (by have:=kz T (ab a);omega) (by omega);have e3:(cW 15 (fE T)).take (bQ T).length=bQ T:=by rw[←e2];unfold bQ nh;rw[k]
  rw[e3]at G;exact G.mono (ab B1).size
 have O2':=ae ((ab O2).later b2 (a0a _));have B2:=ae (ai (ab B1) b2);have p:=ae (kz T (ab a));obtain⟨nL,hnL⟩:∃n,(bQ T).length=n:=⟨_,rfl⟩;rw[hnL]at C O3 p;have q:=ae hnL;clear hnL e2 k o3 b2 O O2 B1;have P:=ae (jg (some ⟨gd,0,none⟩) 30 30 (cb T) 15 x2 (ff T) ((ab O2').rowN (ff T)) (by omega));rw[IH T (ab a)]at P;clear O2';go_wp2_with fail;refine(ab C).mono ?_;rintro e x3 ⟨rfl,be⟩;rw[be];clear be x3 C;go_wp2_with fail;refine(ab P).mono ?_;rintro e x3 ⟨⟨v3,rfl,o4⟩,b3⟩;have l:=(yK T (ab a)).1;obtain⟨a3,c3,rfl⟩:=o4.formN l;obtain⟨g3,rfl⟩:=o4.somes (by omega);have D:=ae (qZ g3 0 c3 30 1 (cW 15 (cb T)) x3 l (fun i hi=>by rw[a0G];exact(o4.at l hi).1) o4.cap.1 (by omega) (by omega));have e2:dU (cW 15 (cb T)) 1 30=(cm T).length:=by unfold cm;rw[ii,l]
 rw[e2]at D;have O4:Hid (am x3 w.heap.size (.slice (some ⟨g3,0,none⟩) (cm T).length c3) (cm T)):=by
  have G:=o4.cut (m:=(cm T).length) l (by have:=mb T (ab a);omega) (by omega);have e3:(cW 15 (cb T)).take (cm T).length=cm T:=by rw[←e2];unfold cm nh;rw[l]
  rw[e3]at G;exact G.mono (ab B2).size
 have O3':=ae ((ab O3).later b3 (a0a _));have B3:=ae (ai (ab B2) b3);have r:=ae (mb T (ab a));obtain⟨nD,hnD⟩:∃n,(cm T).length=n:=⟨_,rfl⟩;rw[hnD]at D O4 r;have u:=ae hnD;clear hnD e2 l o4 b3 P O3 B2;go_wp2_with fail;refine(ab D).mono ?_;rintro e x4 ⟨rfl,bk⟩;rw[bk];clear bk x4 D;have al:=ae (rh (some ⟨g2,0,none⟩) c2 nL w.heap.size (bQ T) x3 (ab q) (bE (ab q) ((ab O3').own (ab q))) (ab B3).size (by have:=ab p;omega));go_wp2_with fail;refine(ab al).mono ?_;rintro e x4 ⟨⟨c,rfl,k1⟩,b4⟩;have O3:=ae ((ab O3').later b4 (a0a _));have O4':=ae ((ab O4).later b4 (a0a _));have B4:=ae (ai (ab B3) b4);have K1:=ae k1;clear k1 b4 al O3' O4 B3;have ad:=ae (oE (some ⟨g3,0,none⟩) c3 nD w.heap.size (cm T) x4 (ab u) (bE (ab u) ((ab O4').own (ab u))) (ab B4).size (by have:=ab r;omega));go_wp2_with fail;refine(ab ad).mono ?_;rintro e x5 ⟨⟨d,rfl,k2⟩,b5⟩;have O3':=ae ((ab O3).later b5 (a0a _));have O4:=ae ((ab O4').later b5 (a0a _));have B5:=ae (ai (ab B4) b5);have x:=ae ((ab K1).later b5);have K2:=ae k2;have b6:=ae (lN (ab x) (ab K2));have L:=(ab x).size;have M:=(ab K2).size;have E:Hid ((c++d).size=38):=by show _=_;rw[a2l,L,M]
 have bl:Hid ((c++d).all (·.oneCell')=true):=by show _=true;rw[Array.all_append,(ab x).one,(ab K2).one];rfl
 have F:Hid ((x5.alloc (.cells jV 204)).there x5.heap.size 0 38):=gV x5 jV _ 38 rfl;have j:Hid (Below x5.heap.size x5 ((x5.alloc (.cells jV 204)).setCells x5.heap.size 0 (c++d).toList)):=below_setCells (a0a _) _ _ _ ((a0c _ _).alloc (a0a _) _);have bc:Hid (((x5.alloc (.cells jV 204)).setCells x5.heap.size 0 (c++d).toList).rangeAt x5.heap.size 0 (c++d).toList):=World.rangeAt_setCells_same (x5.alloc (.cells jV 204)) x5.heap.size 0 (c++d).toList (by rw[a1W,ab E];exact ab F);have bd:Hid (x5.heap.size<((x5.alloc (.cells jV 204)).setCells x5.heap.size 0 (c++d).toList).heap.size):=by show _<_;rw[size_setCells];simp
 unfold jV at F j bc bd;clear L M k2 b5 K1 O3 O4' B4 ad;go_wp2_with (first
  | (refine jw rfl (.tmp 21) (.tmp 23) rfl c d rfl rfl (ab b6) ?_)
  | (refine wpList_store_mid rfl 204 (.tmp 5) (.tmp 24) rfl x5.heap.size 0 (c++d) rfl rfl (by rw[ab E];exact ab F) (by rw[ab E];exact Tryz.infoBooks) (ab bl) ?_;generalize c5:World.setCells _ x5.heap.size 0 (c++d).toList=x6 at *;clear c5 F))
 have a5:=ai (ab B5) (ab j);have f:Hid (∀W,Below x6.heap.size x6 W->W.rangeAt x5.heap.size 0 (c++d).toList):=fun W h=>jK (ab bc) h (ab bd);have a6:Below x6.heap.size x6 x6.drew:=(a0c _ x6).drew;have cy:(prog.info? 204).map (·.size)=some (c++d).size:=by rw[ab E];exact Tryz.infoBooks
 have B6:=ae a5;have O36:=ae ((ab O3').later (ab j) (a0a _));have O46:=ae ((ab O4).later (ab j) (a0a _));have b0:Hid (dG x6 w.heap.size (bQ T) (cm T) (c++d)):=⟨c,d,rfl,(ab x).later (ab j),(ab K2).later (ab j)⟩;clear a5 O3' O4 x K2 j B5;refine wp_region_held_drew (S:=fun W=>W.rangeAt x5.heap.size 0 (c++d).toList) bb (ab f _ a6) (fun hS=>?_);refine af 1 (.slice (some ⟨g2,0,none⟩) nL c2) rfl (by kernel_rfl) (fun _ _ _ h=>h) rfl (?_) hS ?_
 . intro W ba;go_simp
 refine af 2 (.slice (some ⟨g3,0,none⟩) nD c3) rfl (by kernel_rfl) (fun _ _ _ h=>h) rfl (?_) hS ?_
 . intro W ba;go_simp
 refine wpAnyH_take (i:=4) (v:=.agg (c++d)) rfl (by kernel_rfl) (by kernel_rfl) (by kernel_rfl) (fun _ _ _ h=>h) (df (by rfl) 204 (.tmp 5) rfl x5.heap.size 0 rfl (c++d) _ (fun _ h=>h) a3g rfl cy) hS ?_;refine af 5 (.string s) rfl (by kernel_rfl) (fun _ _ _ h=>h) rfl (?_) hS ?_
 . intro W ba;go_simp
 refine ag 0 (by kernel_rfl) rfl fun K b=>?_;go_simp;go_at_call 139;refine(jX 2 _).mono ?_;rintro e x7 ⟨rfl,ac⟩;have g:Below x6.heap.size x6 x7:=by rw[ac];exact a6.alloc (by simp) _
 have a7:Pcs x7 x6.heap.size (.slice (some ⟨x6.heap.size,0,none⟩) 2 2) [(1,1),(2,2)]:=by
  rw[ac];exact a0Y x6.drew #[.int .i64 1,.int .i64 1,.int .i64 2,.int .i64 2] 2 (a0a _) (by unfold maxLen;omega) rfl
 have a1:=ae (xw g2 g3 nL c2 nD c3 w.heap.size (bQ T) (cm T) x7 (ab q) (ab u) ((ab O36).later g (a0a _)) ((ab O46).later g (a0a _)) (ab p).1 (ab p).2 (ab r).1 (ab r).2 (ia T (ab a)) (jI T (ab a)) ((dH.later (ab HO) (ab B6)).later g));refine Shut.out b _ _ (ab f _ g) (fun ch=>?_);clear b K ac;refine ag 3 (by kernel_rfl) rfl fun K b=>?_;go_simp;go_at_call 148;refine(ab a1).mono ?_;rintro e x8 ⟨v8,rfl,Z,b8⟩;obtain⟨n8,hn8⟩:∃n,(fG (bQ T) (cm T)).length=n:=⟨_,rfl⟩;obtain⟨a8,c8,rfl⟩:=Z.formN hn8;have z:Below x6.heap.size x6 x8:=ai g b8;have I:=a7.later b8 (a0a _);have J:Pcs x8 x6.heap.size (.slice a8 n8 c8) (fG (bQ T) (cm T)):=pa Z g.size;have Q:=ae (un s w.heap.size (bQ T) (cm T) (c++d) x8 (ab HS) ((ab b0).later z) (by have:=ab p;have:=ab q;omega) (by have:=ab r;have:=ab u;omega) (by have:=ab p;have:=ab q;omega) (by rw[ab HT];exact fun t ht=>me T (ab a) (ab U) t ht));rw[ab HT]at Q;refine Shut.out b _ _ (ab f _ z) (fun co=>?_);clear b K a7 Z b8 a1 g ch;refine ag 6 (by kernel_rfl) rfl fun K b=>?_;go_simp;go_at_call 141;refine(ab Q).mono ?_;rintro e x9 ⟨v9,rfl,aa,b9⟩;obtain⟨n9,hn9⟩:∃n,(T.flatMap (pcT (bQ T) (cm T))++[pcS (bQ T) 256]).length=n:=⟨_,rfl⟩;obtain⟨a9,c9,rfl⟩:=aa.formN hn9;have A:Below x6.heap.size x6 x9:=ai z b9;have p7:=I.later b9 (a0a _);have p8:=J.later b9 (a0a _);have p9:Pcs x9 x6.heap.size (.slice a9 n9 c9) (T.flatMap (pcT (bQ T) (cm T))++[pcS (bQ T) 256]):=pa aa z.size;refine Shut.out b _ _ (ab f _ A) (fun cp=>?_);clear b K I J aa b9 Q z co;have V:=Gm T (ab a) (ab U);have Y:=Ev T (ab a) (ab U);have X:(kA T).length<=4000:=by
  have:=Y;unfold lOk at this;simp only[a0o,a0y]at this;exact this.2
 have HC:=ae (wL (.slice (some ⟨x6.heap.size,0,none⟩) 2 2) (.slice a8 n8 c8) (.slice a9 n9 c9) [(1,1),(2,2)] (fG (bQ T) (cm T)) (T.flatMap (pcT (bQ T) (cm T))++[pcS (bQ T) 256]) x6.heap.size x9 p7 p8 p9 (by have G:=X;rw[←V]at G;simp only[a0k]at G ⊢;omega));rw[V]at HC;have H:Below x6.heap.size x6 (x9.alloc (.cells #[.slice (some ⟨x6.heap.size,0,none⟩) 2 2,.slice a8 n8 c8,.slice a9 n9 c9] 182)):=A.alloc A.size _;have a4:=ae (a0b Y X);clear p7 p8 p9 V Y X hn8 hn9;refine ag 7 (by kernel_rfl) rfl fun K b=>?_;go_simp;refine Shut.out b _ _ (ab f _ H) (fun cr=>?_);clear b K;refine ag 8 (by kernel_rfl) rfl fun K b=>?_;go_simp;go_at_call 147;refine(ab HC).mono ?_;rintro e x11 ⟨v11,rfl,B,ca⟩;have y:=ai A ca;obtain⟨a11,cg,rfl⟩:=B.form;refine Shut.out b _ _ (ab f _ y) (fun cs=>?_);clear b K;have a0:=ae (fH a11 cg (kA T) x11 B.row (by have:=(ab a4).2;omega));rw[gi (ab a4).1]at a0;refine ag 9 (by kernel_rfl) rfl fun K b=>?_;go_simp;go_at_call 137;refine(ab a0).mono ?_;rintro e x12 ⟨rfl,cc⟩;have o:=ai y cc;refine Shut.out b _ _ (ab f _ o) (fun cu=>?_);clear b K;refine ag 10 (by kernel_rfl) rfl fun K b=>?_;go_simp;refine Shut.out b _ _ (ab f _ o) (fun cv=>?_);clear b K;refine wpAnyH_done (by kernel_rfl) ?_ _;have bs:=ae (ai (ab B6) o);clear o y H A hS cp cr cs cu cv B;generalize hR:gp (kA T)=R at *
 clear hR;go_wp2;go_ret;exact⟨by rw[ab b7];rfl,ab bs⟩
theorem Ai{base cap:Nat}(j:l.length=n)(h:am w base (.slice a n cap) l):iz w w.heap.size a l:=by
 refine⟨h.rowN j,fun k x ex=>?_⟩;subst ex;rcases h.2 with⟨e,_⟩|⟨g,b,f,e,i,d,_⟩
 . cases e
 . simp only[a0J,a0l]at e;obtain⟨rfl,_⟩:=e;refine⟨by have:=dh d;show g≠_;omega,fun c fr=>?_⟩;show w.heap[g]?≠_;rw[d];intro e;cases e
theorem FH{base cap:Nat}{l:List Tk}(j:l.length=n)(h:dS w base (.slice a n cap) l):qK w w.heap.size a l:=by
 refine⟨h.rowN j,fun k x ex=>?_⟩;subst ex;rcases h.2 with⟨e,_⟩|⟨g,b,f,e,i,d,_⟩
 . cases e
 . simp only[a0J,a0l]at e;obtain⟨rfl,_⟩:=e;refine⟨by have:=dh d;show g≠_;omega,fun c fr=>?_⟩;show w.heap[g]?≠_;rw[d];intro e;cases e
theorem vB(g:Nat)(n:Nat)(l:List Int)(w:World)(d:l.length=n)(h:aY w (some ⟨g,0,none⟩) l)(a:1<=n)(c:n<=300)(b:okC l)(f:us l<=300) :
  Calls prog 127 #[.slice (some ⟨g,0,none⟩) n n,.int .i64 15] w fun e w'=>(∃v,e = .returned v/\am w' w.heap.size v (cW 15 l))/\Below w.heap.size w w':=
 vL (some ⟨g,0,none⟩) n n 14 l w d h a c b (by rw[eV];have h2:=Al;omega) (by omega)
theorem FM(s:ByteArray)(w:World)(hs:s.size<=300) :
  Ds 94 #[.string s] w (.string ⟨(uh s).toArray⟩):=by
 obtain⟨T,hT⟩:∃T,bG s.data.toList 0=T:=⟨_,rfl⟩;have a:Hid (T.length<=300):=by show _<=_;rw[←hT];exact kH s hs
 have u:Hid (∀t∈T,okT t=true):=by rw[←hT];exact ib s
 have aa:Hid (uh s=gp (kA T)):=by show uh s=_;unfold uh;rw[hT]
 have c:=ae (oO s w (by omega));rw[hT]at c;clear hs hT;obtain⟨tn,htn⟩:∃tn,T.length=tn:=⟨_,rfl⟩;have l:=ae htn;have I:Hid (tn<=300):=by show _<=_;rw[←htn];exact ab a
 clear htn;go_enter func94,ntmps94;go_wp2_with fail;refine(ab c).mono ?_;rintro e x1 ⟨v1,rfl,o1,b1⟩;obtain⟨a1,c1,rfl⟩:=o1.formN (ab l);have B:=ae (xt a1 c1 tn T x1 (ab l) (o1.rowN (ab l)) (ab I) (ab u));have O1:=ae o1;have B1:=ae b1;clear o1 b1 c;go_wp2_with fail;refine(ab B).mono ?_;rintro e x2 ⟨⟨gl,gd,rfl,o2,o3⟩,b2⟩;have O1':=ae (dN (ab O1) b2);have B2:=ae (ai (ab B1) b2);have D:=ae (vB gl 286 (fE T) x2 (eO T) (o2.rowN (eO T)) (by omega) (by omega) (xy T (ab a)) (by have:=(xz T).2;omega));have O3:=ae (o3.mono (ab B1).size);have y:Hid (w.heap.size<=x2.heap.size):=(ab B2).size;clear o2 o3 b2 B O1 B1;go_wp2_with fail;refine(ab D).mono ?_;rintro e x3 ⟨⟨v3,rfl,o4⟩,b3⟩;have d:=(Ju T (ab a)).1;obtain⟨a3,c3,rfl⟩:=o4.formN d;obtain⟨g3,rfl⟩:=o4.somes (by omega);have q:=ae (tE g3 0 c3 286 257 (cW 15 (fE T)) x3 d (fun i hi=>by rw[a0G];exact(o4.at d hi).1) o4.cap.1 (by omega) (by omega));have e2:dU (cW 15 (fE T)) 257 286=(bQ T).length:=by unfold bQ;rw[ii,d]
 rw[e2]at q;have O4:Hid (am x3 w.heap.size (.slice (some ⟨g3,0,none⟩) (bQ T).length c3) (bQ T)):=by
  have Q:=o4.cut (m:=(bQ T).length) d (by have:=kz T (ab a);omega) (by omega);have e3:(cW 15 (fE T)).take (bQ T).length=bQ T:=by rw[←e2];unfold bQ nh;rw[d]
  rw[e3]at Q;exact Q.mono (ab y)
 have O1:=ae (dN (ab O1') b3);have O3':=ae ((ab O3).later b3 (a0a _));have B3:=ae (ai (ab B2) b3);have b:=ae (kz T (ab a));obtain⟨nL,hnL⟩:∃n,(bQ T).length=n:=⟨_,rfl⟩;rw[hnL]at q O4 b;have j:=ae hnL;clear hnL e2 d o4 b3 D O3 B2 O1' y;go_wp2_with fail;refine(ab q).mono ?_;rintro e x4 ⟨rfl,U⟩;rw[U];clear U x4 q;have E:=ae (vB gd 30 (cb T) x3 (ff T) ((ab O3').rowN (ff T)) (by omega) (by omega) (sM T (ab a)) (by have:=(sN T).2;omega));go_wp2_with fail;refine(ab E).mono ?_;rintro e x4 ⟨⟨v4,rfl,o5⟩,b4⟩;have f:=(yK T (ab a)).1;obtain⟨a4,c4,rfl⟩:=o5.formN f;obtain⟨g4,rfl⟩:=o5.somes (by omega);have r:=ae (tE g4 0 c4 30 1 (cW 15 (cb T)) x4 f (fun i hi=>by rw[a0G];exact(o5.at f hi).1) o5.cap.1 (by omega) (by omega));have e2:dU (cW 15 (cb T)) 1 30=(cm T).length:=by unfold cm;rw[ii,f]
 rw[e2]at r;have O5:Hid (am x4 w.heap.size (.slice (some ⟨g4,0,none⟩) (cm T).length c4) (cm T)):=by
  have Q:=o5.cut (m:=(cm T).length) f (by have:=mb T (ab a);omega) (by omega);have e3:(cW 15 (cb T)).take (cm T).length=cm T:=by rw[←e2];unfold cm nh;rw[f]
  rw[e3]at Q;exact Q.mono (ab B3).size
 have O1':=ae (dN (ab O1) b4);have O4':=ae ((ab O4).later b4 (a0a _));have B4:=ae (ai (ab B3) b4);have g:=ae (mb T (ab a));obtain⟨nD,hnD⟩:∃n,(cm T).length=n:=⟨_,rfl⟩;rw[hnD]at r O5 g;have k:=ae hnD;clear hnD e2 f o5 b4 E O4 O1 O3' B3;go_wp2_with fail;refine(ab r).mono ?_;rintro e x5 ⟨rfl,V⟩;rw[V];clear V x5 r;have h0:Hid (jy (x4.alloc (.cells #[.slice none 0 0,.int .i64 0,.int .i64 0] 173)) x4.heap.size (0,0)):=xH x4 173;have o:Below x4.heap.size x4 (x4.alloc (.cells #[.slice none 0 0,.int .i64 0,.int .i64 0] 173)):=(a0c _ _).alloc (a0a _) _;have RL:Hid (iz (x4.alloc (.cells #[.slice none 0 0,.int .i64 0,.int .i64 0] 173)) x4.heap.size (some ⟨g3,0,none⟩) (bQ T)):=(Ai (ab j) (ab O4')).below o;have RD:Hid (iz (x4.alloc (.cells #[.slice none 0 0,.int .i64 0,.int .i64 0] 173)) x4.heap.size (some ⟨g4,0,none⟩) (cm T)):=(Ai (ab k) (ab O5)).below o;have RT:Hid (qK (x4.alloc (.cells #[.slice none 0 0,.int .i64 0,.int .i64 0] 173)) x4.heap.size a1 T):=(FH (ab l) (ab O1')).keep (bF o);have C:Hid (KB x4.heap.size x4 (x4.alloc (.cells #[.slice none 0 0,.int .i64 0,.int .i64 0] 173))):=(KB.refl _ _).below o (a0a _);clear o O1' O4' O5;go_wp2_with fail;refine(eT _ _ 1 1 _ (ab h0) (by decide) (by show(0:Nat)<=_;omega)).mono ?_;rintro e x6 ⟨rfl,o6,W⟩;have H6:=ae (a0b o6 ((ab C).trans W));have L:=ae ((ab RL).keep W.2);have J:=ae ((ab RD).keep W.2);have N:=ae ((ab RT).keep W.2);clear o6 W h0 C RL RD RT;go_wp2_with fail;refine(eT _ _ 2 2 _ (ab H6).1 (by decide) (by show(1:Nat)<=_;omega)).mono ?_;rintro e x7 ⟨rfl,o7,X⟩;have H7:=ae (a0b o7 ((ab H6).2.trans X));have A:=ae ((ab L).keep X.2);have z:=ae ((ab J).keep X.2);have O:=ae ((ab N).keep X.2);clear o7 X H6 L J N;have F:=ae (FY x4.heap.size (aV (aV (0,0) [(1,1)]) [(2,2)]) (some ⟨g3,0,none⟩) (some ⟨g4,0,none⟩) c3 nL c4 nD (bQ T) (cm T) x7 (ab H7).1 (ab A).1 (ab z).1 (ab j) (ab k) (ab b).1 (ab b).2 (ab g).1 (ab g).2 (ia T (ab a)) (jI T (ab a)) (by show(3:Nat)<=1000;omega));go_wp2_with fail;refine(ab F).mono ?_;rintro e x8 ⟨rfl,o8,Z⟩;have G:Hid (aV (aV (aV (0,0) [(1,1)]) [(2,2)]) (fG (bQ T) (cm T))=aV (0,0) ([(1,1),(2,2)]++fG (bQ T) (cm T))):=by
  show _=_;rw[←bi,←bi];rfl
 rw[ab G]at o8;have M:=(ab A).keep Z.2;have K:=(ab z).keep Z.2;have P:=(ab O).keep Z.2;have K8:=ae ((ab H7).2.trans Z);have p:=A9 (ia T (ab a)) (jI T (ab a)) (by rw[ab j];exact(ab b).1) (by rw[ab j];exact(ab b).2) (by rw[ab k];exact(ab g).1) (by rw[ab k];exact(ab g).2);have S:(aV (0,0) ([(1,1),(2,2)]++fG (bQ T) (cm T))).2<=10000:=by
  have h1:=dK (0,0) ([(1,1),(2,2)]++fG (bQ T) (cm T)) (by
   intro x hx;rcases a0U.1 hx with h|h
   . simp at h;rcases h with rfl|rfl<;>simp
   . have h3:=p.1;unfold bu at h3;have:=a09.1 h3 x h;exact(aQ.1 this).1.2)
  rw[a0k]at h1;have:=p.2;simp only[a0E,a0S]at h1;omega
 have c:=ae (rx x4.heap.size _ a1 (some ⟨g3,0,none⟩) (some ⟨g4,0,none⟩) c1 tn c3 nL c4 nD T (bQ T) (cm T) x8 o8 P M K (ab l) (ab j) (ab k) (by have:=ab b;omega) (by have:=ab g;omega) (dF (ia T (ab a))) (dF (jI T (ab a))) (by have:=ab b;omega) (by have:=ab I;omega) S (fun t ht=>⟨ab u t ht,me T (ab a) (ab u) t ht⟩));have H:Hid (aV (aV (0,0) ([(1,1),(2,2)]++fG (bQ T) (cm T))) (T.flatMap (dL (bQ T) (cm T))++[pcM (bQ T) 256])=cx (kA T)):=by
  show aV _ _=_;rw[←bi,a0L];rfl
 rw[ab H]at c;have Hm:Hid ((cx (kA T)).2<=90000):=by
  show _<=_;rw[←ab H,bi];have h1:=kT (bQ T) (cm T) T (aV (0,0) ([(1,1),(2,2)]++fG (bQ T) (cm T))) (dF (ia T (ab a))) (dF (jI T (ab a))) (fun t ht=>me T (ab a) (ab u) t ht);have h2:=dK (aV (aV (0,0) ([(1,1),(2,2)]++fG (bQ T) (cm T))) (T.flatMap (dL (bQ T) (cm T)))) [pcM (bQ T) 256] (fun x hx=>by simp only[a0Z,a1D,a1q]at hx;subst hx;have:=(dF (ia T (ab a)) 256 (by have:=ab j;have:=ab b;omega)).1.2;show(bQ T).getD 256 0<=16;omega);have h3:=ab a;simp only[a0E,a0S]at h2;omega
 clear o8 Z M K P p S F A z O H7 G;go_wp2_with fail;refine(ab c).mono ?_;rintro e x9 ⟨rfl,o9,k9⟩;have K9:=ae ((ab K8).trans k9).1;have O9:=ae o9;clear o9 k9 c K8;go_wp2_with fail;refine(ly _ _ _ _ (ab O9) (ab Hm)).mono ?_;rintro e x10 ⟨rfl,h7,b7⟩;obtain⟨_,v,Th,Y⟩:=h7;have e8:8*(((cx (kA T)).2+7)/8)/8=((cx (kA T)).2+7)/8:=by omega
 rw[e8]at Y;have Y':Bys x10 x4.heap.size v (gp (kA T)):=Y;have ad:=kR Y';have HB:=ae ((ab K9).trans b7);obtain⟨k0,k1,k2,f0,f1,f2,ac⟩:=Th;clear Y Y' e8 k1 k2 b7 O9;generalize hR:gp (kA T)=R at *
 clear hR;go_wp2;go_ret;exact⟨by rw[ab aa];rfl,ai (ab B4) (ab HB)⟩
def mf(s:ByteArray):List UInt8:=if s.size<=300 then uh s else []
theorem td(s:ByteArray)(w:World)(d:s.size<=1048576)(b:dH w) :
  Ds 110 #[.string s] w (.string ⟨(mf s).toArray⟩):=by
 by_cases h:s.size<=300
 . have a:Hid (mf s=uh s):=a0e h;rw[ab a];exact zm s w h b
 .
  have c:(300:Int)<(s.size:Int):=by omega
  have a:Hid (mf s=[]):=a0d h;clear h b;go_enter func110,ntmps110;go_wp2;go_ret;exact⟨by rw[ab a];rfl,a0c _ _⟩
end Go.Proofs.YtchidddpplangaaGreatDoor
