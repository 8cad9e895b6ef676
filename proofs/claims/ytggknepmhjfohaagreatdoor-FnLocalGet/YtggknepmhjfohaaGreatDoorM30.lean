/- Of what the proof is made: 13 texts, one behind the other. -/
import Derived.Test.YtggknepmhjfohaaGreatDoorM25
import Derived.Test.YtggknepmhjfohaaGreatDoorM29
import Derived.Test.YtggknepmhjfohaaGreatDoorM11
import Derived.Deep.RegionHeld3
import Derived.Deep.DeepCutAuto
import Derived.Test.YtggknepmhjfohaaGreatDoorM20
import Derived.Test.YtggknepmhjfohaaGreatDoorM21
import Derived.Test.YtggknepmhjfohaaGreatDoorM3
import Derived.Test.YtggknepmhjfohaaGreatDoorM12
import Derived.Test.YtggknepmhjfohaaGreatDoorM27
import Derived.Test.YtggknepmhjfohaaGreatDoorM24
import Derived.Test.YtggknepmhjfohaaGreatDoorM14
import Derived.Test.YtggknepmhjfohaaGreatDoorM13
set_option maxRecDepth 100000
set_option linter.unusedSimpArgs false
set_option linter.unusedVariables false
set_option maxHeartbeats 12800000
namespace Go.Proofs.YtggknepmhjfohaaGreatDoor
open Go.Proofs.Tryz
open Go.RowKit Corb
variable {D L l:List Int}{a:Option Addr}{b k n:Nat}{w w':World}
def ql(w:World)(b:Nat)(a:Option Addr)(l:List Tk):Prop:=Aj w a l/\(0<l.length->∀x,a=some x->x.block≠b/\∀cur fr,w.heap[x.block]?≠some (.cells cur 5 fr))
theorem ql.keep{l:List Tk}(h:ql w b a l)(k:bX b w w'):ql w' b a l:=by
 by_cases c:0<l.length
 .
  obtain⟨g,o,e,j,m⟩:=h.1 c;obtain⟨f,h2⟩:=h.2 c _ e;have hb:=k.2 g j f h2;refine⟨fun _=>⟨g,o,e,a0k j k.1,fun i n=>?_⟩,fun _ x ex=>?_⟩
  . obtain⟨c0,c1,c2⟩:=m i n;exact⟨by rw[←c0];exact World.cell?_of_block (w:=w) hb,by rw[←c1];exact World.cell?_of_block (w:=w) hb,by rw[←c2];exact World.cell?_of_block (w:=w) hb⟩
  .
   have:x=⟨g,o,none⟩:=by rw[ex]at e;exact a1N e
   subst this;exact⟨f,fun d fr=>by rw[hb];exact h2 d fr⟩
 . exact⟨fun h=>absurd h c,fun h=>absurd h c⟩
theorem Et{base cap:Nat}{l:List Tk}(k:l.length=n)(h:dN w base (.slice a n cap) l)(hb:b<base):ql w b a l:=by
 refine⟨h.rowN k,fun m x ex=>?_⟩;subst ex;rcases h.2 with⟨e,_⟩|⟨g,c,f,e,i,j,_⟩
 . cases e
 . simp only[a0K,a0i]at e;obtain⟨rfl,_⟩:=e;refine⟨by show g≠b;omega,fun d fr=>?_⟩;show w.heap[g]?≠_;rw[j];intro e;cases e
def ct(L D:List Int)(t:Tk):List (Int×Int):=
 if isB t then [pcM L t.1.toNat]
 else [pcM L (257+fnd 3 4 t.2.1.toNat 27),((t.2.1.toNat:Int)-((stF 3 4 (fnd 3 4 t.2.1.toNat 27)).1:Int),((stF 3 4 (fnd 3 4 t.2.1.toNat 27)).2:Nat)),pcM D (fnd 1 2 t.2.2.toNat 29),((t.2.2.toNat:Int)-((stF 1 2 (fnd 1 2 t.2.2.toNat 29)).1:Int),((stF 1 2 (fnd 1 2 t.2.2.toNat 29)).2:Nat))]
def RR(W:World)(b:Nat)(L D:List Int)(T:List Tk)(a a2 va vb vl vk at_:Option Addr):Prop:=
 (im W b a L/\im W b a2 D)/\(im W b va (aT L 15).2/\im W b vb (aT D 15).2)/\(im W b vl jo/\im W b vk jh)/\ql W b at_ T
theorem RR.keep{W W':World}{T:List Tk}{a2 va vb vl vk at_:Option Addr}(h:RR W b L D T a a2 va vb vl vk at_)(c:bX b W W'):RR W' b L D T a a2 va vb vl vk at_:=
 ⟨⟨h.1.1.keep c,h.1.2.keep c⟩,⟨h.2.1.1.keep c,h.2.1.2.keep c⟩,⟨h.2.2.1.1.keep c,h.2.2.1.2.keep c⟩,h.2.2.2.keep c⟩
def lB(l:List Int):Prop:=∀k,k<l.length->(0<=l.getD k 0/\l.getD k 0<=15)/\(0<=(aT l 15).2.getD k 0/\(aT l 15).2.getD k 0<65536)
theorem bJ(h:Below w.heap.size w w'):bX b w w':=⟨h.size,fun k a _ _=>h.block k a⟩
theorem lv{g:Nat}{a:Array Value}{t:TypeId}(f:bX b w w')(h:w.heap[g]?=some (Obj.cells a t))(d:g≠b)(i:t≠5):w'.heap[g]?=some (Obj.cells a t):=by
 refine(f.2 g (dn h) d (fun c fr=>?_)).trans h;rw[h];intro e;cases e
 exact i rfl
theorem iL(h:im w b a l)(f:k<l.length):∃g o,a=some ⟨g,o,none⟩/\g<w.heap.size/\w.cell? ⟨g,o+k,none⟩=some (.int .i64 (l.getD k 0)):=by
 obtain⟨g,o,e,d,c⟩:=h.1 (by omega);exact⟨g,o,e,d,c k f⟩
theorem zF(y:Nat)(a:3<=y)(b:y<=60):pOk ((y:Int)-((stF 3 4 (fnd 3 4 y 27)).1:Int)) ((stF 3 4 (fnd 3 4 y 27)).2:Nat)=true:=by
 have:(List.range 61).all (fun y=>decide (y<3) || pOk ((y:Int)-((stF 3 4 (fnd 3 4 y 27)).1:Int)) ((stF 3 4 (fnd 3 4 y 27)).2:Nat))=true:=by decide +kernel
 have:=a1m.1 this y (List.mem_range.2 (by omega));simp only[a1h,a0u]at this;rcases this with h|h
 . omega
 . exact h
theorem zE(z:Nat)(a:1<=z)(b:z<=250):pOk ((z:Int)-((stF 1 2 (fnd 1 2 z 29)).1:Int)) ((stF 1 2 (fnd 1 2 z 29)).2:Nat)=true:=by
 have:(List.range 251).all (fun z=>decide (z<1) || pOk ((z:Int)-((stF 1 2 (fnd 1 2 z 29)).1:Int)) ((stF 1 2 (fnd 1 2 z 29)).2:Nat))=true:=by decide +kernel
 have:=a1m.1 this z (List.mem_range.2 (by omega));simp only[a1h,a0u]at this;rcases this with h|h
 . omega
 . exact h
theorem dH(p:Nat×Nat)(l:List (Int×Int))(h:∀x∈l,x.2<=16):(aV p l).2<=p.2+16*l.length:=by
 unfold aV mM;induction l generalizing p with
 | nil=>simp[ig]
 | cons x r ih=>
  have b:=h x (by simp);have h2:=ih (p.1+x.1.toNat*2 ^ p.2,p.2+x.2.toNat) (fun y a=>h y (by simp[a]));simp only[a0B,ig,a0E]at *
  omega
theorem vd(L D:List Int)(t:Tk)(gL:lB L)(gD:lB D)(a:fx L D t):(∀x∈ct L D t,x.2<=16)/\(ct L D t).length<=4:=by
 unfold ct;unfold fx at a
 split
 . rename_i h;rw[a0d h]at a;refine⟨fun x b=>?_,by simp⟩;simp only[a08,a2b,a1U]at b;subst b;have:=(gL _ a).1.2;show L.getD _ 0<=16;omega
 .
  rename_i h;rw[a0e h]at a;refine⟨fun x b=>?_,by simp⟩;simp only[a08,a2b,a1U]at b;have s1:=qd (L:=3) (G:=4) (k:=fnd 3 4 t.2.1.toNat 27) (by omega) (by omega) (by omega) (by have:=f9 3 4 t.2.1.toNat 27;omega);have s2:=qd (L:=1) (G:=2) (k:=fnd 1 2 t.2.2.toNat 29) (by omega) (by omega) (by omega) (by have:=f9 1 2 t.2.2.toNat 29;omega);rcases b with rfl|rfl|rfl|rfl
  . have:=(gL _ a.1).1.2;show L.getD _ 0<=16;omega
  . show((_:Nat):Int)<=16;omega
  . have:=(gD _ a.2).1.2;show D.getD _ 0<=16;omega
  . show((_:Nat):Int)<=16;omega
theorem kB(L D:List Int)(T:List Tk)(p:Nat×Nat)(gL:lB L)(gD:lB D)(a:∀t∈T,fx L D t):(aV p (T.flatMap (ct L D))).2<=p.2+64*T.length:=by
 induction T generalizing p with
 | nil=>simp[aV,mM,ig]
 | cons t r ih=>
  rw[a06,bi];obtain⟨b,h2⟩:=vd L D t gL gD (a t (by simp));have d:=dH p (ct L D t) b;have e:=ih (aV p (ct L D t)) (fun x c=>a x (by simp[c]));simp only[a0E];omega
theorem pJ(a:Option Addr)(cap n:Nat)(l:List Int)(w:World)(d:l.length=n)(h:bp w a l)(c:n<=300) :
  Calls prog 172 #[.slice a n cap] w fun e w'=>(∃g,e = .returned (.slice (some ⟨g,0,none⟩) n n)/\ak w' w.heap.size (.slice (some ⟨g,0,none⟩) n n) (aT l 15).2)/\Below w.heap.size w w':=
 (dM a cap n l w d h c).mono fun _ _ ⟨b,f,hb⟩=>⟨⟨_,b,f⟩,hb⟩
theorem np(w:World):Calls prog 174 #[] w fun e w'=>(∃g,e = .returned (.slice (some ⟨g,0,none⟩) 28 28)/\ak w' w.heap.size (.slice (some ⟨g,0,none⟩) 28 28) qD)/\Below w.heap.size w w':=
 (iI w).mono fun _ _ ⟨a,b,hb⟩=>⟨⟨_,a,b⟩,hb⟩
theorem mZ(w:World):Calls prog 175 #[] w fun e w'=>(∃g,e = .returned (.slice (some ⟨g,0,none⟩) 30 30)/\ak w' w.heap.size (.slice (some ⟨g,0,none⟩) 30 30) qm)/\Below w.heap.size w w':=
 (iE w).mono fun _ _ ⟨a,b,hb⟩=>⟨⟨_,a,b⟩,hb⟩
theorem eV:jo.length=28:=jR _ _ _
theorem eO:jh.length=30:=jR _ _ _
theorem qN(b:Nat)(p:Nat×Nat)(ta a a2:Option Addr)(tcap tn cap n X n2:Nat)(T:List Tk)(L D:List Int)(w:World)(ho:jf w b p)(hT:ql w b ta T)(hL:im w b a L)(hD:im w b a2 D)
  (eb:T.length=tn) (hn:L.length=n) (d3:D.length=n2) (d4:n<=300) (d5:n2<=300) (gL:lB L) (gD:lB D) (a7:256<n) (fb:(tn:Int)<=300) (hp:p.2<=10000)
  (d8:∀t∈T,okT t=true/\fx L D t) :
  Calls prog 136 #[.pointer (some ⟨b,0,none⟩),.slice ta tn tcap,.slice a n cap,.slice a2 n2 X] w fun e w'=>e = .returned (.tuple #[])/\jf w' b (aV p (T.flatMap (ct L D)++[pcM L 256]))/\KB b w w':=by
 have Z:b<w.heap.size:=Out.lt ho;have a9:prog.follows .mixedOrders=true:=by kernel_rfl
 have HT:=af hT;have HO:=af ho;have HL:=af hL;have HD:=af hD;have V:=af eb;have F:=af hn;have B:=af d3;have a1:=af d4;have dq:=af d5;have s:=af gL;have U:=af gD;have M:=af a7;have Hp:=af hp;have b0:=af d8;clear hT ho hL hD eb hn d3 d4 d5 gL gD a7 hp d8;go_enter func136,ntmps136;go_wp2_with fail;refine(pJ a cap n L _ (ae F) (ae HL).1 (ae a1)).mono ?_;rintro e x1 ⟨⟨g1,rfl,o1⟩,b1⟩;have N1:=af (eT ((bz L 15).trans (ae F)) o1 Z);have B1:=af b1;clear o1 b1;go_wp2_with fail;refine(pJ a2 X n2 D _ (ae B) ((ae HD).below (ae B1)).1 (ae dq)).mono ?_;rintro e x2 ⟨⟨g2,rfl,o2⟩,b2⟩;have N2:=af (eT ((bz D 15).trans (ae B)) o2 (a0k Z (ae B1).size));have N1':=af ((ae N1).below b2);have B2:=af (ap (ae B1) b2);clear o2 b2 N1 B1;go_wp2_with fail;refine(np _).mono ?_;rintro e x3 ⟨⟨g3,rfl,o3⟩,b3⟩;have R3:=af (o3.rowN rfl);have B3:=af (ap (ae B2) b3);have N1:=af ((ae N1').below b3);have N2':=af ((ae N2).below b3);clear o3 b3 B2 N1' N2;go_wp2_with fail;refine(iV _ 28 _ (ae R3)).mono ?_;rintro e x4 ⟨v4,rfl,o4,b4⟩;obtain⟨a4,c4,rfl⟩:=o4.formN eV;have N4:=af (eT eV o4 (a0k Z (ae B3).size));have B4:=af (ap (ae B3) b4);have N1':=af ((ae N1).below b4);have N2:=af ((ae N2').below b4);clear o4 b4 B3 N1 N2' R3;go_wp2_with fail;refine(mZ _).mono ?_;rintro e x5 ⟨⟨g5,rfl,o5⟩,b5⟩;have R5:=af (o5.rowN rfl);have B5:=af (ap (ae B4) b5);have N1:=af ((ae N1').below b5);have N2':=af ((ae N2).below b5);have N4':=af ((ae N4).below b5);clear o5 b5 B4 N1' N2 N4;go_wp2_with fail;refine(iU _ 30 _ (ae R5)).mono ?_;rintro e x6 ⟨v6,rfl,o6,b6⟩;obtain⟨a6,c6,rfl⟩:=o6.formN eO;have N6:=af (eT eO o6 (a0k Z (ae B5).size));have B6:=af (ap (ae B5) b6);have dd:Hid (RR x6 b L D T a a2 (some ⟨g1,0,none⟩) (some ⟨g2,0,none⟩) a4 a6 ta):=
  ⟨⟨(ae HL).below (ae B6),(ae HD).below (ae B6)⟩,⟨(ae N1).below b6,(ae N2').below b6⟩,⟨(ae N4').below b6,ae N6⟩,(ae HT).keep (bJ (ae B6))⟩
 have cy:Hid (jf x6 b (aV p ((T.take 0).flatMap (ct L D)))):=Out.kept (ae HO) (ae B6);have cp:Hid (KB b w x6):=(KB.refl b w).below (ae B6) (a0s Z);clear o6 b6 B5 N1 N2' N4' N6 R5 HT HO HL HD B6;go_wp2_with fail
 go_loopw [12,13,14] (fun i _ _ wr=>∃k:Nat,k<=tn/\i = .int .i64 k/\jf wr b (aV p ((T.take k).flatMap (ct L D)))/\RR wr b L D T a a2 (some ⟨g1,0,none⟩) (some ⟨g2,0,none⟩) a4 a6 ta/\KB b w wr) (fun i _ _ _=>tn-(intOf i).toNat)
 case atStart=>exact⟨0,a0g _,rfl,ae cy,ae dd,ae cp⟩
 case round=>
  obtain⟨k,hk,rfl,ho,ch,d2⟩:=hrel;clear cy dd cp;have HO:=af ho;have a0:=af ch;have bd:=af d2;have HK:=af hk;have d1:Hid (b<wr.heap.size):=Out.lt ho;clear ho d2 hk;by_cases cg:k<tn
  .
   have e7:(k:Int)<(tn:Int):=by omega
   obtain⟨g,o,rfl,hg,hc⟩:=ch.2.2.2.1 (by rw[ae V];omega);obtain⟨c0,c1,c2⟩:=hc k (by rw[ae V];exact cg);have b7:Hid ((T.take (k+1)).flatMap (ct L D)=(T.take k).flatMap (ct L D)++ct L D (T.getD k k0)):=by
    show(T.take (k+1)).flatMap (ct L D)=_;rw[Cm T k (by rw[ae V];exact cg)];simp
   obtain⟨A,G⟩:=ae b0 (T.getD k k0) (by simp[List.getD,show k<T.length by rw[ae V];exact cg]);have q:Hid ((aV p ((T.take k).flatMap (ct L D))).2<=80000):=by
    show _<=_;have h1:=kB L D (T.take k) p (ae s) (ae U) (fun t ht=>(ae b0 t (a15 ht)).2);have h2:(T.take k).length<=k:=List.length_take_le _ _;have h3:=ae Hp;omega
   clear hc ch;generalize T.getD k k0=t at *
   have O:Hid (aV p ((T.take (k+1)).flatMap (ct L D))=aV (aV p ((T.take k).flatMap (ct L D))) (ct L D t)):=by
    show aV p _=_;rw[ae b7,bi]
   generalize aV p ((T.take k).flatMap (ct L D))=P at *
   have a3:Below wr.heap.size wr (wr.alloc (.cells #[.int .i64 t.1,.int .i64 t.2.1,.int .i64 t.2.2] 226)):=(a0c _ _).alloc (a0a _) _;have an:Hid (jf (wr.alloc (.cells #[.int .i64 t.1,.int .i64 t.2.1,.int .i64 t.2.2] 226)) b P):=Out.kept (ae HO) a3;have m:=af ((ae a0).keep (bJ a3));have N:=af ((ae bd).below a3 (a0s (ae d1)));have ba:=af (alloc_at wr (.cells #[.int .i64 t.1,.int .i64 t.2.1,.int .i64 t.2.2] 226));clear a3 HO a0 bd;cases Y:isB t
   .
    have hK:isK t=true:=by unfold okT at A;rw[Y]at A;simpa using A
    obtain⟨y0,y1,z0,z1⟩:=sB hK;have ed:t.1=0:=by unfold isK at hK;simp only[a0l,a0u]at hK;exact hK.1.1
    have v:Hid (257+fnd 3 4 t.2.1.toNat 27<n/\fnd 1 2 t.2.2.toNat 29<n2):=by
     have:=G;unfold fx at this;rw[a0e (by simp[Y]),ae F,ae B]at this;exact this
    have ao:Hid (ct L D t=[pcM L (257+fnd 3 4 t.2.1.toNat 27),((t.2.1.toNat:Int)-((stF 3 4 (fnd 3 4 t.2.1.toNat 27)).1:Int),((stF 3 4 (fnd 3 4 t.2.1.toNat 27)).2:Nat)),pcM D (fnd 1 2 t.2.2.toNat 29),((t.2.2.toNat:Int)-((stF 1 2 (fnd 1 2 t.2.2.toNat 29)).1:Int),((stF 1 2 (fnd 1 2 t.2.2.toNat 29)).2:Nat))]):=by
     show ct L D t=_;unfold ct;rw[a0e (by simp[Y])]
    have hy:t.2.1=((t.2.1.toNat:Nat):Int):=by omega
    have hz:t.2.2=((t.2.2.toNat:Nat):Int):=by omega
    have J:3<=t.2.1.toNat/\t.2.1.toNat<=60:=by omega
    have K:1<=t.2.2.toNat/\t.2.2.toNat<=250:=by omega
    have Eok1:=af (zF t.2.1.toNat J.1 J.2);have Eok2:=af (zE t.2.2.toNat K.1 K.2);have Sy1:=af (yT t.2.1.toNat J.1 J.2);have Sy2:=af (w8 t.2.2.toNat K.1 K.2);have e4:=f9 3 4 t.2.1.toNat 27;have e5:=f9 1 2 t.2.2.toNat 29;have At1:=af (yR (fnd 3 4 t.2.1.toNat 27) (by omega));have At2:=af (wX (fnd 1 2 t.2.2.toNat 29) (by omega));have eh:=af (yS (fnd 3 4 t.2.1.toNat 27) (by omega));have ei:=af (wZ (fnd 1 2 t.2.2.toNat 29) (by omega));generalize stF 3 4 (fnd 3 4 t.2.1.toNat 27)=E at *
    generalize stF 1 2 (fnd 1 2 t.2.2.toNat 29)=E' at *
    generalize fnd 3 4 t.2.1.toNat 27=f at *
    generalize fnd 1 2 t.2.2.toNat 29=f' at *
    clear Y hK A G;obtain⟨tx,ty,tz⟩:=t;simp only at ed y0 y1 z0 z1 hy hz J K c0 c1 c2 m N an ba ao Eok1 Eok2 Sy1 Sy2 O;generalize ty.toNat=y at *
    generalize tz.toNat=z at *
    subst ed hy hz;have fa:(f:Int)<28:=by omega
    have e6:(f':Int)<30:=by omega
    have ab:Hid (f<28):=by show f<28;omega
    have ac:Hid (f'<30):=by show f'<30;omega
    have em:=aP.1 (ae Eok1);have et:=aP.1 (ae Eok2);have e8:=bF ((y:Int)-(E.1:Int)) (by omega) (by omega);have e9:=bF ((z:Int)-(E'.1:Int)) (by omega) (by omega);clear em et e4 e5 J K;obtain⟨gl,ol,rfl,e3,e1⟩:=iL (ae m).2.2.1.1 (by rw[eV];exact ae ab);obtain⟨gk,ok,rfl,e2,e0⟩:=iL (ae m).2.2.1.2 (by rw[eO];exact ae ac);have cv:=af (fun W (hR:im W b (some ⟨gl,ol,none⟩) jo)=>my (some ⟨gl,ol,none⟩) c4 28 jo (y:Int) W eV hR.1 (by omega) (by omega));have cu:=af (fun W (hR:im W b (some ⟨gk,ok,none⟩) jh)=>my (some ⟨gk,ok,none⟩) c6 30 jh (z:Int) W eO hR.1 (by omega) (by omega));rw[ae Sy1]at cv;rw[ae Sy2]at cu;have ad:Hid (wr.heap.size≠b):=by show _≠_;have:=ae d1;omega
    clear e1 e0 e3 e2;go_wp2_with fail;refine(ae cv _ (ae m).2.2.1.1).mono ?_;rintro e w7 ⟨rfl,al⟩;rw[al];clear al;have eI:(257:Int)+(f:Int)=((257+f:Nat):Int):=by omega
    have j:=af (oR b P a (some ⟨g1,0,none⟩) cap n n (257+f) L _ (ae an) (ae F) (ae m).1.1.1 (ae m).2.1.1.1 (ae v).1 (ae a1) ((ae s) _ (by rw[ae F];exact(ae v).1)).1 ((ae s) _ (by rw[ae F];exact(ae v).1)).2 (by have:=ae q;omega));rw[←eI]at j;clear eI;go_wp2_with fail;refine(ae j).mono ?_;rintro e x7 ⟨rfl,h7,k7⟩;have bk:=af h7;have bs:=af ((ae m).keep k7.2);have cr:=af ((ae N).trans k7);have bb:=af (lv k7.2 (ae ba) (ae ad) (by decide));have ds:Hid ((aV P [pcM L (257+f)]).2<=80100):=by
     show _<=_;have h1:=dH P [pcM L (257+f)] (fun x hx=>by simp only[a08,a2b,a1U]at hx;subst hx;have:=((ae s) (257+f) (by rw[ae F];exact(ae v).1)).1.2;show L.getD _ 0<=16;omega);have h2:=ae q;simp only[a0E,a00]at h1;omega
    have H:Hid (∀W,bX b x7 W->W.cell? ⟨wr.heap.size,1,none⟩=some (.int .i64 (y:Nat))/\W.cell? ⟨gl,ol+f,none⟩=some (.int .i64 (E.1:Nat))):=by
     intro W hW;refine⟨bq (lv hW (ae bb) (ae ad) (by decide)) 1,?_⟩;obtain⟨g',o',e',_,aa⟩:=iL ((ae bs).2.2.1.1.keep hW) (k:=f) (by rw[eV];exact ae ab);simp only[a0i,a0A,a0V]at e';obtain⟨rfl,rfl⟩:=e';rw[ae At1]at aa;exact aa
    have c8:=af (fun W (hW:jf W b (aV P [pcM L (257+f)]))=>ew b (aV P [pcM L (257+f)]) ((y:Int)-(E.1:Int)) (E.2:Nat) W hW (ae Eok1) (by have:=ae ds;omega));clear h7 k7 j an m N ba;go_wp2_with fail;have b9:Below x7.heap.size x7 x7.drew:=(a0c _ x7).drew;go_cut[] (fun wx=>jf wx b (aV (aV P [pcM L (257+f)]) [((y:Int)-(E.1:Int),(E.2:Nat))])/\KB b x7 wx)
    case first=>
     refine wp_region_held_drew (S:=fun W=>W.cell? ⟨wr.heap.size,1,none⟩=some (.int .i64 (y:Nat))/\W.cell? ⟨gl,ol+f,none⟩=some (.int .i64 (E.1:Nat))) a9 (ae H _ (bJ b9)) (fun u=>?_);refine ag 0 (.pointer (some ⟨b,0,none⟩)) rfl (by kernel_rfl) (fun _ _ _ h=>h) rfl (?_) u ?_
     . intro W c;obtain⟨s0,s1⟩:=c;go_simp
     refine ag 1 (.pointer (some ⟨wr.heap.size,1,none⟩)) rfl (by kernel_rfl) (fun _ _ _ h=>h) rfl (?_) u ?_
     . intro W c;obtain⟨s0,s1⟩:=c;go_simp
     refine ag 2 (.int .i64 (y:Nat)) rfl (by kernel_rfl) (fun _ _ _ h=>h) rfl (?_) u ?_
     . intro W c;obtain⟨s0,s1⟩:=c;go_simp
     refine ag 3 (.slice (some ⟨gl,ol,none⟩) 28 c4) rfl (by kernel_rfl) (fun _ _ _ h=>h) rfl (?_) u ?_
     . intro W c;obtain⟨s0,s1⟩:=c;go_simp
     refine ag 4 (.int .i64 (f:Nat)) rfl (by kernel_rfl) (fun _ _ _ h=>h) rfl (?_) u ?_
     . intro W c;obtain⟨s0,s1⟩:=c;go_simp
     refine ag 5 (.pointer (some ⟨gl,ol+f,none⟩)) rfl (by kernel_rfl) (fun _ _ _ h=>h) rfl (?_) u ?_
     . intro W c;obtain⟨s0,s1⟩:=c;go_simp
     refine ag 6 (.int .i64 (E.1:Nat)) rfl (by kernel_rfl) (fun _ _ _ h=>h) rfl (?_) u ?_
     . intro W c;obtain⟨s0,s1⟩:=c;go_simp
     refine ag 7 (.int .i64 ((y:Int)-(E.1:Int))) rfl (by kernel_rfl) (fun _ _ _ h=>h) rfl (?_) u ?_
     . intro W c;obtain⟨s0,s1⟩:=c;go_simp
     refine ag 9 (.int .i64 (f:Nat)) rfl (by kernel_rfl) (fun _ _ _ h=>h) rfl (?_) u ?_
     . intro W c;obtain⟨s0,s1⟩:=c;go_simp
     refine ai 8 (by kernel_rfl) rfl fun C d=>?_;go_simp;go_at_call 174;refine(np _).mono ?_;rintro e x8 ⟨⟨g8,rfl,o8⟩,b8⟩;have l:Below x7.heap.size x7 x8:=ap b9 b8;have ca:=(o8.at rfl (ae ab)).1;rw[ae eh]at ca;have bl:=af (Out.kept (ae bk) l);clear o8 b8;refine Shut.out d _ _ (ae H _ (bJ l)) (fun ey=>?_);clear d C;refine ai 10 (by kernel_rfl) rfl fun C d=>?_;go_simp;refine Shut.out d _ _ (ae H _ (bJ l)) (fun _=>?_);clear d C;refine ai 11 (by kernel_rfl) rfl fun C d=>?_;go_simp;refine Shut.out d _ _ (ae H _ (bJ l)) (fun _=>?_);clear d C;refine ai 12 (by kernel_rfl) rfl fun C d=>?_;go_simp;go_at_call 134;refine(ae c8 _ (ae bl)).mono ?_;rintro e x9 ⟨rfl,h9,k9⟩;have I:=af (a0b h9 (((KB.refl b x7).below l (a0s (Out.lt (ae bk)))).trans k9));refine Shut.out d _ _ (ae H _ ((bJ l).trans k9.2)) (fun _=>?_);clear d C h9 k9;refine wpAnyH_done (by kernel_rfl) ?_ _;go_wp2_with fail
     go_meet
     case rel=>exact ae I
    case rest=>
     obtain⟨d7,a5⟩:=hcut;have c5:=af d7;have Q:=af ((ae bs).keep a5.2);have cs:=af ((ae cr).trans a5);have bc:=af (lv a5.2 (ae bb) (ae ad) (by decide));have dv:Hid ((aV (aV P [pcM L (257+f)]) [((y:Int)-(E.1:Int),((E.2:Nat):Int))]).2<=80200):=by
      show _<=_;have h1:=dH (aV P [pcM L (257+f)]) [((y:Int)-(E.1:Int),((E.2:Nat):Int))] (fun x hx=>by simp only[a08,a2b,a1U]at hx;subst hx;exact(aP.1 (ae Eok1)).1.2);have h2:=ae ds;simp only[a0E,a00]at h1;omega
     have HE:Hid (∀r,aV P (pcM L (257+f) :: ((y:Int)-(E.1:Int),((E.2:Nat):Int)) :: r)=aV (aV (aV P [pcM L (257+f)]) [((y:Int)-(E.1:Int),((E.2:Nat):Int))]) r):=fun r=>by
      show aV P _=_;rw[←bi,←bi];rfl
     generalize aV (aV P [pcM L (257+f)]) [((y:Int)-(E.1:Int),((E.2:Nat):Int))]=P2 at *
     have a8:=bq (ae bc) 2;simp at a8;clear d7 a5 bk bs cr bb H c8 b9;go_wp2_with fail;refine(ae cu _ (ae Q).2.2.1.2).mono ?_;rintro e w7 ⟨rfl,al⟩;rw[al];clear al;have j:=af (oR b P2 a2 (some ⟨g2,0,none⟩) X n2 n2 f' D _ (ae c5) (ae B) (ae Q).1.2.1 (ae Q).2.1.2.1 (ae v).2 (ae dq) ((ae U) _ (by rw[ae B];exact(ae v).2)).1 ((ae U) _ (by rw[ae B];exact(ae v).2)).2 (by have:=ae dv;omega));go_wp2_with fail;refine(ae j).mono ?_;rintro e xa ⟨rfl,ha,ka⟩;have c7:=af ha;have dl:=af ((ae Q).keep ka.2);have ek:=af ((ae cs).trans ka);have ej:=af (lv ka.2 (ae bc) (ae ad) (by decide));have el:Hid ((aV P2 [pcM D f']).2<=80300):=by
      show _<=_;have h1:=dH P2 [pcM D f'] (fun x hx=>by simp only[a08,a2b,a1U]at hx;subst hx;have:=((ae U) f' (by rw[ae B];exact(ae v).2)).1.2;show D.getD _ 0<=16;omega);have h2:=ae dv;simp only[a0E,a00]at h1;omega
     have R:Hid (∀W,bX b xa W->W.cell? ⟨wr.heap.size,2,none⟩=some (.int .i64 (z:Nat))/\W.cell? ⟨gk,ok+f',none⟩=some (.int .i64 (E'.1:Nat))):=by
      intro W hW;refine⟨bq (lv hW (ae ej) (ae ad) (by decide)) 2,?_⟩;obtain⟨g',o',e',_,aa⟩:=iL ((ae dl).2.2.1.2.keep hW) (k:=f') (by rw[eO];exact ae ac);simp only[a0i,a0A,a0V]at e';obtain⟨rfl,rfl⟩:=e';rw[ae At2]at aa;exact aa
     have c9:=af (fun W (hW:jf W b (aV P2 [pcM D f']))=>ew b (aV P2 [pcM D f']) ((z:Int)-(E'.1:Int)) (E'.2:Nat) W hW (ae Eok2) (by have:=ae el;omega));have co:Hid (aV (aV P2 [pcM D f']) [((z:Int)-(E'.1:Int),((E'.2:Nat):Int))]=aV P2 [pcM D f',((z:Int)-(E'.1:Int),((E'.2:Nat):Int))]):=(bi P2 [pcM D f'] _).symm;clear ha ka j c5 Q cs bc a8;go_wp2_with fail;have d0:Below xa.heap.size xa xa.drew:=(a0c _ xa).drew;refine wp_region_held_drew (S:=fun W=>W.cell? ⟨wr.heap.size,2,none⟩=some (.int .i64 (z:Nat))/\W.cell? ⟨gk,ok+f',none⟩=some (.int .i64 (E'.1:Nat))) a9 (ae R _ (bJ d0)) (fun u=>?_);refine ag 0 (.pointer (some ⟨b,0,none⟩)) rfl (by kernel_rfl) (fun _ _ _ h=>h) rfl (?_) u ?_
     . intro W c;obtain⟨s0,s1⟩:=c;go_simp
     refine ag 1 (.pointer (some ⟨wr.heap.size,2,none⟩)) rfl (by kernel_rfl) (fun _ _ _ h=>h) rfl (?_) u ?_
     . intro W c;obtain⟨s0,s1⟩:=c;go_simp
     refine ag 2 (.int .i64 (z:Nat)) rfl (by kernel_rfl) (fun _ _ _ h=>h) rfl (?_) u ?_
     . intro W c;obtain⟨s0,s1⟩:=c;go_simp
     refine ag 3 (.slice (some ⟨gk,ok,none⟩) 30 c6) rfl (by kernel_rfl) (fun _ _ _ h=>h) rfl (?_) u ?_
     . intro W c;obtain⟨s0,s1⟩:=c;go_simp
     refine ag 4 (.int .i64 (f':Nat)) rfl (by kernel_rfl) (fun _ _ _ h=>h) rfl (?_) u ?_
     . intro W c;obtain⟨s0,s1⟩:=c;go_simp
     refine ag 5 (.pointer (some ⟨gk,ok+f',none⟩)) rfl (by kernel_rfl) (fun _ _ _ h=>h) rfl (?_) u ?_
     . intro W c;obtain⟨s0,s1⟩:=c;go_simp
     refine ag 6 (.int .i64 (E'.1:Nat)) rfl (by kernel_rfl) (fun _ _ _ h=>h) rfl (?_) u ?_
     . intro W c;obtain⟨s0,s1⟩:=c;go_simp
     refine ag 7 (.int .i64 ((z:Int)-(E'.1:Int))) rfl (by kernel_rfl) (fun _ _ _ h=>h) rfl (?_) u ?_
     . intro W c;obtain⟨s0,s1⟩:=c;go_simp
     refine ag 9 (.int .i64 (f':Nat)) rfl (by kernel_rfl) (fun _ _ _ h=>h) rfl (?_) u ?_
     . intro W c;obtain⟨s0,s1⟩:=c;go_simp
     refine ai 8 (by kernel_rfl) rfl fun C d=>?_;go_simp;go_at_call 175;refine(mZ _).mono ?_;rintro e x8 ⟨⟨g8,rfl,o8⟩,b8⟩;have l:Below xa.heap.size xa x8:=ap d0 b8;have ca:=(o8.at rfl (ae ac)).1;rw[ae ei]at ca;have bl:=af (Out.kept (ae c7) l);clear o8 b8;refine Shut.out d _ _ (ae R _ (bJ l)) (fun ey=>?_);clear d C;refine ai 10 (by kernel_rfl) rfl fun C d=>?_;go_simp;refine Shut.out d _ _ (ae R _ (bJ l)) (fun _=>?_);clear d C;refine ai 11 (by kernel_rfl) rfl fun C d=>?_;go_simp;refine Shut.out d _ _ (ae R _ (bJ l)) (fun _=>?_);clear d C;refine ai 12 (by kernel_rfl) rfl fun C d=>?_;go_simp;go_at_call 134;refine(ae c9 _ (ae bl)).mono ?_;rintro e x9 ⟨rfl,h9,k9⟩;have I:=af (a0b h9 (((KB.refl b xa).below l (a0s (Out.lt (ae c7)))).trans k9));refine Shut.out d _ _ (ae R _ ((bJ l).trans k9.2)) (fun _=>?_);clear d C h9 k9;refine wpAnyH_done (by kernel_rfl) ?_ _;have HX:=af (a0b (ae I).1 (a0b ((ae dl).keep (ae I).2.2) ((ae ek).trans (ae I).2)));clear I;go_wp2;go_roundw
     case rel=>exact⟨k+1,by omega,by go_num,by rw[ae O,ae ao,ae HE,←ae co];exact(ae HX).1,(ae HX).2.1,(ae HX).2.2⟩
     case measure=>simp[intOf];omega
   .
    obtain⟨q1,q2⟩:=pF Y;have cc:Hid (t.1.toNat<n):=by
     have:=G;unfold fx at this;rw[a0d Y,ae F]at this;exact this
    have ao:Hid (ct L D t=[pcM L t.1.toNat]):=by show ct L D t=_;unfold ct;rw[a0d Y]
    have eg:t.2.1=0:=by unfold isB at Y;simp only[a0l,a0u]at Y;exact Y.1
    have hx:t.1=((t.1.toNat:Nat):Int):=by omega
    have j:=af (oR b P a (some ⟨g1,0,none⟩) cap n n t.1.toNat L _ (ae an) (ae F) (ae m).1.1.1 (ae m).2.1.1.1 (ae cc) (ae a1) ((ae s) _ (by rw[ae F];exact ae cc)).1 ((ae s) _ (by rw[ae F];exact ae cc)).2 (by have:=ae q;omega));rw[←hx]at j;generalize t.1.toNat=xN at *
    clear Y A G hx;obtain⟨tx,ty,tz⟩:=t;simp only at eg q1 q2 c0 c1 c2 j m N;subst eg;go_wp2_with fail;refine(ae j).mono ?_;rintro e x7 ⟨rfl,h7,k7⟩;have HX:=af (a0b h7 (a0b ((ae m).keep k7.2) ((ae N).trans k7)));clear h7 k7 j;go_wp2;go_roundw
    case rel=>exact⟨k+1,by omega,by go_num,by rw[ae O,ae ao];exact(ae HX).1,(ae HX).2.1,(ae HX).2.2⟩
    case measure=>simp[intOf];omega
  .
   obtain rfl:k=tn:=by have:=ae HK;omega
   have O:Hid (aV p (T.flatMap (ct L D)++[pcM L 256])=aV (aV p ((T.take k).flatMap (ct L D))) [pcM L 256]):=by
    show aV p _=_;rw[a0F (by rw[ae V];exact a0a _),bi]
   have q:Hid ((aV p ((T.take k).flatMap (ct L D))).2<=80000):=by
    show _<=_;have h1:=kB L D (T.take k) p (ae s) (ae U) (fun t ht=>(ae b0 t (a15 ht)).2);have h2:(T.take k).length<=k:=List.length_take_le _ _;have h3:=ae Hp;omega
   generalize aV p ((T.take k).flatMap (ct L D))=P at *
   have j:=af (oR b P a (some ⟨g1,0,none⟩) cap n n 256 L _ (ae HO) (ae F) (ae a0).1.1.1 (ae a0).2.1.1.1 (ae M) (ae a1) ((ae s) _ (by rw[ae F];exact ae M)).1 ((ae s) _ (by rw[ae F];exact ae M)).2 (by have:=ae q;omega));go_wp2_with fail;refine(ae j).mono ?_;rintro e x7 ⟨rfl,h7,k7⟩;have HX:=af (a0b h7 ((ae bd).trans k7));clear h7 k7 j;go_wp2
   go_end0
   exact⟨rfl,by rw[ae O];exact(ae HX).1,(ae HX).2⟩
theorem CV(h:au l=true)(b:k<l.length):pOk ((aT l 15).2.getD k 0) (l.getD k 0)=true:=by
 have hb:=lH (fN h) b;rw[uw h b];by_cases a:1<=l.getD k 0
 . rw[a0d a];have:=(pg h b a).1;exact aP.2 ⟨⟨hb.1,by omega⟩,by omega,by omega⟩
 .
  rw[a0e a];have e:l.getD k 0=0:=by omega
  rw[e];decide
theorem dC(h:au l=true):lB l:=by
 intro k a;have hb:=lH (fN h) a;obtain⟨_,c0,c1⟩:=aP.1 (CV h a);refine⟨hb,c0,?_⟩;have b:p2 (l.getD k 0).toNat<=p2 15:=a0Q (by omega) (by omega);have h2:p2 15=32768:=by decide
 omega
theorem mD(h:au l=true)(a:k<l.length):pcS l k=pcM l k:=by
 unfold pcS pcM;rw[CO (CV h a)]
theorem It(b:au L=true)(c:au D=true){t:Tk}(a:fx L D t):pcT L D t=ct L D t:=by
 unfold pcT ct;unfold fx at a
 split
 . rename_i h;rw[a0d h]at a;rw[mD b a]
 . rename_i h;rw[a0e h]at a;rw[mD b a.1,mD c a.2]
theorem qs(c:au L=true)(b:au D=true)(T:List Tk)(a:∀t∈T,fx L D t):T.flatMap (pcT L D)=T.flatMap (ct L D):=by
 induction T with
 | nil=>rfl
 | cons t r ih=>rw[a06,a06,It c b (a t (by simp)),ih (fun x d=>a x (by simp[d]))]
theorem Kx(gL:lB L)(gD:lB D){t:Tk}(c:okT t=true)(a:fx L D t):aX (ct L D t)=true:=by
 unfold ct;unfold fx at a;unfold aX
 split
 . rename_i h;rw[a0d h]at a;simp only[a1S,a2K,a2R];exact ny (gL _ a).1
 .
  rename_i h;rw[a0e h]at a;have d:isK t=true:=by unfold okT at c;simp only[a1h]at c;rcases c with b|b;exact absurd b h;exact b
  obtain⟨y0,y1,z0,z1⟩:=sB d;simp only[a1S,a2K,a2R,a0l];exact⟨ny (gL _ a.1).1,zF _ (by omega) (by omega),ny (gD _ a.2).1,zE _ (by omega) (by omega)⟩
theorem xR(gL:lB L)(gD:lB D)(T:List Tk)(h:∀t∈T,okT t=true/\fx L D t):aX (T.flatMap (ct L D))=true/\(T.flatMap (ct L D)).length<=4*T.length:=by
 induction T with
 | nil=>exact⟨rfl,by simp⟩
 | cons t r ih=>
  obtain⟨b,h2⟩:=ih (fun x e=>h x (by simp[e]));obtain⟨c,a⟩:=h t (by simp);have f:=(vd L D t gL gD a).2;refine⟨?_,by simp only[a06,a0m,a0E];omega⟩;have d:=Kx gL gD c a;unfold aX at *
  rw[a06,a1R,d,b];rfl
theorem vw(L:List UInt8):∀n p,L.length-p<=n->∀t∈bg L p,okT t=true:=by
 intro n;induction n with
 | zero=>
  intro p b t a;rw[ea (by omega)]at a;cases a
 | succ n ih=>
  intro p b t a;by_cases h:p<L.length
  .
   rw[gO h]at a;rcases a08.1 a with rfl|a
   . exact rz L p
   . exact ih (p+ii L p) (by have:=(gi L p).1;omega) t a
  . rw[ea h]at a;cases a
theorem eo(s:ByteArray):∀t∈bg s.data.toList 0,okT t=true:=vw s.data.toList s.data.toList.length 0 (by omega)
def gp:List Int:=List.replicate 32 5
theorem ia:au (bR 288)=true:=by decide +kernel
theorem lJ:au gp=true:=by decide +kernel
theorem iN{t:Tk}(_:okT t=true):fx (bR 288) gp t:=by
 unfold fx
 split
 . rename_i hB;have:=pF hB;rw[cO];omega
 . have a:=f9 3 4 t.2.1.toNat 27;have h2:=f9 1 2 t.2.2.toNat 29;rw[cO];exact⟨by omega,by show _<(List.replicate 32 (5:Int)).length;rw[a0w];omega⟩
def gw(s:ByteArray):List (Int×Int):=[(1,1),(1,2)]++((bg s.data.toList 0).flatMap (ct (bR 288) gp)++[pcM (bR 288) 256])
theorem ij(s:ByteArray)(b:s.size<=300):(bg s.data.toList 0).length<=300:=by
 have h2:=vv s.data.toList s.data.toList.length 0 (by omega);have a:s.data.toList.length=s.size:=by simp
 omega
theorem od(s:ByteArray)(f:s.size<=300):lOk (gw s)=true:=by
 obtain⟨b,h2⟩:=xR (dC ia) (dC lJ) (bg s.data.toList 0) (fun t a=>⟨eo s t a,iN (eo s t a)⟩);have g:=ij s f;have c:pOk (pcM (bR 288) 256).1 (pcM (bR 288) 256).2=true:=ny (dC ia 256 (by rw[cO];omega)).1;unfold lOk;have d:aX (gw s)=true:=by
  unfold gw;unfold aX at *
  rw[a1R,a1R,b];simp only[a1S,a2K,c];decide
 have e:(gw s).length<=4000:=by unfold gw;simp only[a0m,a0E,a00];omega
 rw[d];simpa using e
def dF(s:ByteArray):List UInt8:=cx (gw s)
theorem yA(s:ByteArray)(w:World)(p:s.size<=300) :
  CD 105 #[.string s] w (.string ⟨(dF s).toArray⟩):=by
 have B:Hid (jf (w.alloc (.cells #[.slice none 0 0,.int .i64 0,.int .i64 0] 195)) w.heap.size (0,0)):=wF w 195;have d:Hid (KB w.heap.size w (w.alloc (.cells #[.slice none 0 0,.int .i64 0,.int .i64 0] 195))):=(KB.refl _ _).below ((a0c _ _).alloc (a0a _) _) (a0a _);have r:=af p;have u:Hid (aV (aV (aV (0,0) [(1,1)]) [(1,2)]) ((bg s.data.toList 0).flatMap (ct (bR 288) gp)++[pcM (bR 288) 256])=aW (gw s)):=by
  show aV _ _=_;rw[←bi,←bi];rfl
 have H:Hid ((aW (gw s)).2<=90000):=by
  show _<=_;rw[←ae u,bi];have N:=kB (bR 288) gp (bg s.data.toList 0) (aV (aV (0,0) [(1,1)]) [(1,2)]) (dC ia) (dC lJ) (fun t g=>iN (eo s t g));have h2:=dH (aV (aV (aV (0,0) [(1,1)]) [(1,2)]) ((bg s.data.toList 0).flatMap (ct (bR 288) gp))) [pcM (bR 288) 256] (fun x D=>by simp only[a08,a2b,a1U]at D;subst D;have:=(dC ia 256 (by rw[cO];omega)).1.2;show(bR 288).getD 256 0<=16;omega);have O:=ij s p;have P:(aV (aV (0,0) [(1,1)]) [(1,2)]).2=3:=rfl;simp only[a0E,a00]at h2;omega
 clear p;go_enter func105,ntmps105;go_wp2_with fail;refine(ew _ _ 1 1 _ (ae B) (by decide) (by show(0:Nat)<=_;omega)).mono ?_;rintro e x1 ⟨rfl,o1,h⟩;have m:=af (a0b o1 ((ae d).trans h));clear o1 h B d;go_wp2_with fail;refine(ew _ _ 1 2 _ (ae m).1 (by decide) (by show(1:Nat)<=_;omega)).mono ?_;rintro e x2 ⟨rfl,o2,i⟩;have n:=af (a0b o2 ((ae m).2.trans i));have a:Hid (w.heap.size<x2.heap.size):=Out.lt o2;clear o2 i m;go_wp2_with fail;refine(oo s _ (by have:=ae r;omega)).mono ?_;rintro e x3 ⟨v3,rfl,o3,z⟩;obtain⟨tn,htn⟩:∃tn,(bg s.data.toList 0).length=tn:=⟨_,rfl⟩;obtain⟨a3,c3,rfl⟩:=o3.formN htn;have N3:=af (Et htn o3 (ae a));have j:=af z;clear o3 z;go_wp2_with fail;refine(qA _).mono ?_;rintro e x4 ⟨v4,rfl,o4,o⟩;obtain⟨a4,c4,rfl⟩:=o4.formN (cO 288);have N4:=af (eT (cO 288) o4 (a0k (ae a) (ae j).size));have N3':=af ((ae N3).keep (bJ o));have k:=af (ap (ae j) o);clear o4 o N3 j;go_wp2_with fail;refine(qz _).mono ?_;rintro e x5 ⟨v5,rfl,o5,f⟩;have b:(List.replicate 32 (5:Int)).length=32:=a0w;obtain⟨a5,J,rfl⟩:=o5.formN b;have N5:=af (eT b o5 (a0k (ae a) (ae k).size));have N3:=af ((ae N3').keep (bJ f));have N4':=af ((ae N4).below f);have l:=af (ap (ae k) f);have O5:=af (Out.kept (ae n).1 (ae l));have y:=af ((ae n).2.below (ae l) (a0s (ae a)));have q:Hid ((tn:Int)<=300):=by show(tn:Int)<=300;have:=ij s (ae r);omega
 have c:=af (qN w.heap.size (aV (aV (0,0) [(1,1)]) [(1,2)]) a3 a4 a5 c3 tn c4 288 J 32 (bg s.data.toList 0) (bR 288) gp x5 (ae O5) (ae N3) (ae N4') (ae N5) htn (cO 288) b (by omega) (by omega) (dC ia) (dC lJ) (by omega) (ae q) (by show(3:Nat)<=10000;omega) (fun t g=>⟨eo s t g,iN (eo s t g)⟩));rw[ae u]at c;clear o5 f N3' N4 N5 k b htn;go_wp2_with fail;refine(ae c).mono ?_;rintro e x6 ⟨rfl,o6,E⟩;have I:=af ((ae y).trans E).1;have O6:=af o6;clear o6 E c N3 N4' O5 y l n;go_wp2_with fail;refine(kY _ _ _ _ (ae O6) (ae H)).mono ?_;rintro e x7 ⟨rfl,K,A⟩;obtain⟨_,v,T,Y⟩:=K;have e8:8*(((aW (gw s)).2+7)/8)/8=((aW (gw s)).2+7)/8:=by omega
 rw[e8]at Y;have Y':Bys x7 w.heap.size v (dF s):=Y;have M:=kx Y';have F:=af ((ae I).trans A);obtain⟨k0,h,i,f0,f1,f2,L⟩:=T;clear Y Y' e8 h i A O6;generalize C:dF s=R at *
 have G:=af C;clear C;go_wp2;go_ret;exact⟨by rw[ae G];rfl,ae F⟩
def kA(s:ByteArray):List UInt8:=if s.size<=300 then dF s else []
theorem Ee(s:ByteArray):[(1,1),(1,2)]++((bg s.data.toList 0).flatMap (pcT (bR 288) gp)++[pcS (bR 288) 256])=gw s:=by
 unfold gw;rw[qs ia lJ _ (fun t a=>iN (eo s t a)),mD ia (by rw[cO];omega)]
theorem Fg{base cap:Nat}{l:List (Int×Int)}(f:l.length=n)(h:Pcs w base (.slice a n cap) l)(d:0<n):∃g,a=some ⟨g,0,none⟩/\∀(j:Nat) (u:Value),(aS l)[j]?=some u->w.cell? ((⟨g,0,none⟩:Addr).add j)=some u:=by
 rcases h.2 with⟨_,e⟩|⟨g,b,c,e,_⟩
 . omega
 . simp only[a0K]at e;obtain⟨rfl,_,rfl⟩:=e;exact⟨g,rfl,a1Y h rfl⟩
theorem ue(s:ByteArray)(w:World)(I:s.size<=300) :
  CD 66 #[.string s] w (.string ⟨(dF s).toArray⟩):=by
 obtain⟨i0,Z,N,O,P⟩:=a0t Tryz.infoPiece;have hI:¬ (300:Int)<(s.size:Int):=by omega
 have A:Hid ((w.alloc (.cells #[.int .i64 1,.int .i64 1,.int .i64 1,.int .i64 2] 82)).ownsRow w.heap.size 82 2 (.slice (some ⟨w.heap.size,0,none⟩) 2 2) 2 [.int .i64 1,.int .i64 1,.int .i64 1,.int .i64 2]):=a04 w #[.int .i64 1,.int .i64 1,.int .i64 1,.int .i64 2] 2 (a0a _) (by unfold maxLen;omega) rfl;have y:Hid (Below w.heap.size w (w.alloc (.cells #[.int .i64 1,.int .i64 1,.int .i64 1,.int .i64 2] 82))):=(a0c _ _).alloc (a0a _) _;have Y:=af I;have L:=af (Ee s);have HP:Hid (oG (gw s)=dF s):=dW (od s I);have n:Hid ((gw s).length<=4000):=by
  have:=od s I;unfold lOk at this;simp only[a0l,a0u]at this;exact this.2
 clear I;go_enter func66,ntmps66;go_wp2_with fail;refine(jG 1 w).mono ?_;rintro e x1 ⟨rfl,k⟩;have p:=af (show x1.ownsRow w.heap.size 82 2 (.slice (some ⟨w.heap.size,0,none⟩) 2 2) 2 [.int .i64 1,.int .i64 1,.int .i64 1,.int .i64 2] by rw[k];exact ae A);have o:=af (show Below w.heap.size w x1 by rw[k];exact ae y);clear k A y;go_wp2_with fail;refine(lA _).mono ?_;rintro e x2 ⟨⟨C,rfl,z⟩,f⟩;have r:=af (dK (ae p) f);have q:=af (ap (ae o) f);have l:=af z;clear z f p o;go_wp2_with fail;refine(tB s _ (bR 288) gp C _ (ae Y) (ae l) (by rw[cO];omega) (by show(List.replicate 32 (5:Int)).length<=300;rw[a0w];omega) (by rw[cO];omega) (fun t ht=>iN (eo s t ht))).mono ?_;rintro e x3 ⟨v,rfl,i,h⟩;have x:=af (dK (ae r) h);have u:=af (ap (ae q) h);clear h r q l;generalize B:(bg s.data.toList 0).flatMap (pcT (bR 288) gp)++[pcS (bR 288) 256]=R at *
 have M:0<R.length:=by rw[←B];simp
 obtain⟨m,hm⟩:∃m,R.length=m:=⟨_,rfl⟩;obtain⟨va,vc,rfl⟩:∃a cap,v = .slice a m cap:=by
  rcases i.2 with⟨_,h0⟩|⟨g,cap,_,e,_⟩
  . omega
  . exact⟨_,cap,by rw[←hm];exact e⟩
 obtain⟨g3,rfl,G⟩:=Fg hm i (by omega);have K:=af G;have S:=af hm;have T:Hid (2+m<=maxLen/\(2+m)*16<=140737488355328):=by
  show _/\_;have U:=ae n;rw[←ae L,a0m,hm]at U;unfold maxLen;simp only[a0E,a00]at U;omega
 have F:=(ae u).size;clear B M i G hm;go_wp2_with (at_builtin;refine a0x _ rfl _ _ 79 rfl w.heap.size 82 i0 (.agg #[.int .i64 0,.int .i64 0]) 2 16 a1s Z N O P rfl (by decide) (.slice (some ⟨w.heap.size,0,none⟩) 2 2) _ _ rfl (ae x) ⟨g3,0,none⟩ m vc (aS R) rfl (by rw[kN,ae S]) (ae K) (gG R) (ae T).1 (ae T).2 F ?_;intro v' x4 c b H;clear H);have W:([.int .i64 1,.int .i64 1,.int .i64 1,.int .i64 2]:List Value)++aS R=aS (gw s):=by rw[←ae L,d9];rfl
 have V:2+m=(gw s).length:=by rw[←ae L,a0m,ae S];rfl
 rw[W,V]at c;have d:Pcs x4 w.heap.size v' (gw s):=c;obtain⟨a4,c4,rfl⟩:=d.form;have D:Below w.heap.size w x4:=(ae u).grown b F (fun j hj=>(a0C (ae x) j hj).1);refine(fG a4 c4 (gw s) _ d.row (by have:=ae n;omega)).mono ?_;rintro e x5 ⟨rfl,E⟩;rw[ae HP];have J:=af (ap D E);clear W V c d D E b;generalize B:dF s=Q at *
 have X:=af B;clear B;go_wp2;go_ret;exact⟨by rw[ae X];rfl,ae J⟩
theorem py(s:ByteArray)(w:World)(c:s.size<=1048576) :
  CD 66 #[.string s] w (.string ⟨(kA s).toArray⟩):=by
 by_cases h:s.size<=300
 . have a:Hid (kA s=dF s):=a0d h;rw[ae a];exact ue s w h
 .
  have b:(300:Int)<(s.size:Int):=by omega
  have a:Hid (kA s=[]):=a0e h;clear h;go_enter func66,ntmps66;go_wp2;go_ret;exact⟨by rw[ae a];rfl,a0c _ _⟩
def byS(s:ByteArray):ByteArray:=⟨(fq s.data.toList).toArray⟩
def byF(s:ByteArray):ByteArray:=⟨(kA s).toArray⟩
theorem xo(s:ByteArray)(h:¬ s.size<=300):byS s=⟨#[]⟩:=by
 have:fq s.data.toList=[]:=by unfold fq;rw[a0e (by rw[iJ];exact h)]
 unfold byS;rw[this]
theorem xj(s:ByteArray)(h:¬ s.size<=300):byF s=⟨#[]⟩:=by unfold byF kA;rw[a0e h]
def inc(o:List Int)(k:Nat):List Int:=o.set k (o.getD k 0+1)
def fJ(o:List Int)(s:List Nat):List Int:=s.foldl inc o
theorem iG(o:List Int)(k:Nat):(inc o k).length=o.length:=by simp[inc]
theorem dU(o:List Int)(s:List Nat):(fJ o s).length=o.length:=by
 induction s generalizing o with
 | nil=>rfl
 | cons x s ih=>show(fJ (inc o x) s).length=_;rw[ih,iG]
theorem gB(o:List Int)(s:List Nat)(x:Nat):fJ o (s++[x])=inc (fJ o s) x:=by simp[fJ]
theorem kG(o:List Int)(k j:Nat):(inc o k).getD j 0=o.getD j 0+(if j=k/\k<o.length then 1 else 0):=by
 unfold inc;simp only[List.getD_eq_getElem?_getD,List.getElem?_set];by_cases h:k=j
 .
  subst h;by_cases a:k<o.length
  . simp[a]
  . simp[a]
 . have:¬ j=k:=fun e=>h e.symm;simp[h,this]
theorem jY(o:List Int)(s:List Nat)(j:Nat):(fJ o s).getD j 0=o.getD j 0+(if j<o.length then(s.count j:Int)else 0):=by
 induction s generalizing o with
 | nil=>simp[fJ]
 | cons x s ih=>
  show(fJ (inc o x) s).getD j 0=_;rw[ih,kG,iG,List.count_cons];by_cases h:j=x
  .
   subst h;by_cases a:j<o.length
   . simp[a];omega
   . simp[a]
  .
   have:(x == j)=false:=by simp;exact fun e=>h e.symm
   simp[h,this]
theorem EH{a b:List Int}(d:a.length=b.length)(h:∀j,j<a.length->a.getD j 0=b.getD j 0):a=b:=by
 apply a2g d;intro i c h2;have:=h i c;simpa[List.getD,c,h2]using this
theorem gQ(n j:Nat):(List.replicate n (0:Int)).getD j 0=0:=by
 by_cases h:j<n<;>simp[List.getD,h]
theorem wU   (hk : k < l.length) (h : 0 < l.getD k 0) : 1 ≤ us l := by
  induction l generalizing k with
  | nil => simp at hk
  | cons b l ih =>
    simp only [us, a0B, a0P] at ih ⊢
    cases k with
    | zero => have : 0 < b := by simpa using h
              rw [a0d this]; omega
    | succ k => have := ih (k := k) (by simpa using hk) (by simpa using h); omega
theorem DI(h:us l=0)(k:Nat)(a:k<l.length):¬ 0<l.getD k 0:=fun b=>by have:=wU a b;omega
def ie(t:Tk):Nat:=if isB t then t.1.toNat else 257+fnd 3 4 t.2.1.toNat 27
def dS(t:Tk):List Nat:=if isB t then []else [fnd 1 2 t.2.2.toNat 29]
theorem Kd{t:Tk}(_:okT t=true):ie t<286:=by
 unfold ie
 split
 . rename_i hB;have:=pF hB;omega
 . have:=f9 3 4 t.2.1.toNat 27;omega
theorem Gh{t:Tk} : ∀x∈dS t,x<30:=by
 unfold dS;intro x a
 split at a
 . simp at a
 . have:=f9 1 2 t.2.2.toNat 29;simp at a;omega
def fC(T:List Tk):List Int:=inc (fJ (List.replicate 286 0) (T.map ie)) 256
def ff(T:List Tk):List Int:=fJ (List.replicate 30 0) (T.flatMap dS)
def ck(T:List Tk):List Int:=if us (ff T)=0 then inc (ff T) 0 else ff T
theorem eu(T:List Tk):(fC T).length=286:=by unfold fC;rw[iG,dU,a0w]
theorem eQ(T:List Tk):(ff T).length=30:=by unfold ff;rw[dU,a0w]
theorem eR(T:List Tk):(ck T).length=30:=by unfold ck;split;rw[iG,eQ];exact eQ T
theorem ot(T:List Tk)(j:Nat)(a:j<286):(fC T).getD j 0=((T.map ie).count j:Int)+(if j=256 then 1 else 0):=by
 unfold fC;rw[kG,jY,dU,a0w,gQ,a0d a];by_cases h:j=256<;>simp[h]
theorem pm(T:List Tk)(j:Nat)(a:j<30):(ff T).getD j 0=((T.flatMap dS).count j:Int):=by
 unfold ff;rw[jY,a0w,gQ,a0d a];simp
theorem BA(T:List Tk):fJ (inc (List.replicate 286 0) 256) (T.map ie)=fC T:=by
 apply EH
 . rw[dU,iG,eu,a0w]
 . intro j a;rw[dU,iG,a0w]at a;rw[ot T j a,jY,kG,iG,a0w,gQ,a0d a];by_cases h:j=256<;>simp[h];omega
theorem rW(T:List Tk):(T.flatMap dS).length<=T.length:=by
 induction T with
 | nil=>simp
 | cons t r ih=>
  have:(dS t).length<=1:=by unfold dS;split<;>simp
  simp only[a06,a0m,a0E];omega
theorem wu(T:List Tk)(c:T.length<=300):okC (fC T):=by
 intro i a;rw[eu]at a;rw[ot T i a];have b:(T.map ie).count i<=(T.map ie).length:=a3c;rw[a0N]at b
 split<;>omega
theorem Gg(T:List Tk)(c:T.length<=300):∀i,i<30->0<=(ff T).getD i 0/\(ff T).getD i 0<=300:=by
 intro i a;rw[pm T i a];have b:(T.flatMap dS).count i<=(T.flatMap dS).length:=a3c;have h2:=rW T;omega
theorem rS(T:List Tk)(b:T.length<=300):okC (ck T):=by
 intro i a;rw[eR]at a;have:=Gg T b i a;unfold ck
 split
 . rw[kG];split<;>omega
 . omega
theorem wv(T:List Tk):1<=us (fC T)/\us (fC T)<=286:=by
 refine⟨wU (k:=256) (by rw[eu];omega) ?_,by have:=qS (fC T);rw[eu]at this;exact this⟩;rw[ot T 256 (by omega),a0d rfl];omega
theorem rT(T:List Tk):1<=us (ck T)/\us (ck T)<=30:=by
 refine⟨?_,by have:=qS (ck T);rw[eR]at this;exact this⟩;unfold ck
 split
 . rename_i h;refine wU (k:=0) (by rw[iG,eQ];omega) ?_;rw[kG,pm T 0 (by omega),eQ,a0d (by omega)];omega
 . omega
theorem D6(T:List Tk)(j:Nat)(h:0<(ff T).getD j 0):0<(ck T).getD j 0:=by
 unfold ck
 split
 . rw[kG];split<;>omega
 . exact h
def dO(l:List Int)(least:Nat):Nat->Nat
 | 0=>0
 | n+1=>if least<n+1/\l.getD n 0=0 then dO l least n else n+1
def mJ(l:List Int)(least:Nat):List Int:=l.take (dO l least l.length)
theorem pj{least:Nat}(h:least<n+1/\l.getD n 0=0):dO l least (n+1)=dO l least n:=by simp only[dO];rw[a0d h]
theorem mn{least:Nat}(h:¬ (least<n/\l.getD (n-1) 0=0)):dO l least n=n:=by
 cases n with
 | zero=>rfl
 | succ n=>rw[a3A]at h;simp only[dO];rw[a0e h]
theorem rl(l:List Int)(least n:Nat):dO l least n<=n:=by
 induction n with
 | zero=>exact a0a _
 | succ n ih=>simp only[dO];split<;>omega
theorem rR (l : List Int) (least n : Nat) (h : least ≤ n) : least ≤ dO l least n := by
  induction n with
  | zero => exact h
  | succ n ih => simp only [dO]; split
                 . exact ih (by omega)
                 . exact h
theorem ux(l:List Int)(least n j:Nat)(a:dO l least n<=j)(h2:j<n):l.getD j 0=0:=by
 induction n with
 | zero=>omega
 | succ n ih=>
  by_cases b:least<n+1/\l.getD n 0=0
  .
   rw[pj b]at a;by_cases e:j=n
   . subst e;exact b.2
   . exact ih a (by omega)
  . simp only[dO]at a;rw[a0e b]at a;omega
theorem gX(l:List Int)(least:Nat):(mJ l least).length=dO l least l.length:=by
 unfold mJ;rw[a0H];have:=rl l least l.length;omega
theorem Jb(l:List Int)(c j:Nat)(h:j<c):(l.take c).getD j 0=l.getD j 0:=by
 simp[List.getD,h]
theorem xB(l:List Int)(least j:Nat)(h:j<l.length):(mJ l least).getD j 0=l.getD j 0:=by
 by_cases a:j<dO l least l.length
 . exact Jb l _ j a
 .
  rw[ux l least l.length j (by omega) h];have:(mJ l least).length<=j:=by rw[gX];omega
  simp[List.getD,this]
theorem FQ(h:∀x∈l,x=0):kr l=0/\us l=0:=by
 induction l with
 | nil=>exact⟨rfl,rfl⟩
 | cons b l ih=>
  obtain⟨a,h2⟩:=ih (fun x c=>h x (by simp[c]));have hb:b=0:=h b (by simp);subst hb;simp only[kr,us,a0B,a0P]at a h2 ⊢;rw[a,h2];exact⟨rfl,rfl⟩
theorem Ge(l:List Int)(least:Nat):kr (mJ l least)=kr l/\us (mJ l least)=us l:=by
 have h:∀x∈l.drop (dO l least l.length),x=0:=by
  intro x c;obtain⟨i,b,rfl⟩:=List.mem_iff_getElem.1 c;rw[List.getElem_drop];rw[a1l]at b;have:=ux l least l.length (dO l least l.length+i) (by omega) (by omega);have a:dO l least l.length+i<l.length:=by omega
  simpa[List.getD,a]using this
 obtain⟨d,h2⟩:=FQ h;have e:l=mJ l least++l.drop (dO l least l.length):=(a2D _ _).symm;have f:kr l=kr (mJ l least)+kr (l.drop (dO l least l.length)):=by
  conv=>lhs;rw[e]
  simp[kr]
 have g:us l=us (mJ l least)+us (l.drop (dO l least l.length)):=by
  conv=>lhs;rw[e]
  simp[us]
 omega
theorem sR(least:Nat)(h:au l=true):au (mJ l least)=true:=by
 obtain⟨b,h2⟩:=Ge l least;unfold au kX at h ⊢;rw[b,h2];simp only[a0l,a0u]at h ⊢;obtain⟨⟨a,hb⟩,c⟩:=h;refine⟨⟨?_,by rw[gX];have:=rl l least l.length;omega⟩,c⟩;unfold inL at a ⊢;rw[a1m]at a ⊢;intro x d;exact a x (a15 d)
def bv(T:List Tk):List Int:=mJ (dc 15 (fC T)) 257
def cf(T:List Tk):List Int:=mJ (dc 15 (ck T)) 1
theorem zo:p2 14=16384:=by decide
theorem LJ:p2 6=64:=by decide
theorem GZ(T:List Tk)(a:T.length<=300):(dc 15 (fC T)).length=286/\au (dc 15 (fC T))=true/\∀i,i<286->0<=(dc 15 (fC T)).getD i 0/\(dc 15 (fC T)).getD i 0<=15/\(0<(dc 15 (fC T)).getD i 0<->0<(fC T).getD i 0):=by
 have b:=wv T;have h:=sU (m:=14) (wu T a) (by rw[eu];omega) (by rw[eE];omega) (by rw[eE];have h2:=zo;omega) (by omega);rw[eu]at h;exact h
theorem xE(T:List Tk)(a:T.length<=300):(dc 15 (ck T)).length=30/\au (dc 15 (ck T))=true/\∀i,i<30->0<=(dc 15 (ck T)).getD i 0/\(dc 15 (ck T)).getD i 0<=15/\(0<(dc 15 (ck T)).getD i 0<->0<(ck T).getD i 0):=by
 have b:=rT T;have h:=sU (m:=14) (rS T a) (by rw[eR];omega) (by rw[eE];omega) (by rw[eE];have h2:=zo;omega) (by omega);rw[eR]at h;exact h
theorem iY(T:List Tk)(b:T.length<=300):257<=(bv T).length/\(bv T).length<=286:=by
 obtain⟨a,_,_⟩:=GZ T b;unfold bv;rw[gX,a];exact⟨rR _ _ _ (by omega),rl _ _ _⟩
theorem j8(T:List Tk)(b:T.length<=300):1<=(cf T).length/\(cf T).length<=30:=by
 obtain⟨a,_,_⟩:=xE T b;unfold cf;rw[gX,a];exact⟨rR _ _ _ (by omega),rl _ _ _⟩
theorem fH(T:List Tk)(a:T.length<=300):au (bv T)=true:=sR 257 (GZ T a).2.1
theorem gT(T:List Tk)(a:T.length<=300):au (cf T)=true:=sR 1 (xE T a).2.1
theorem AW{j:Nat}(h:0<l.getD j 0):j<l.length:=by
 rcases a1F j l.length with a|a
 . exact a
 . simp[List.getD,a]at h
theorem zj(T:List Tk)(d:T.length<=300)(k:Nat)(b:k=256∨k∈T.map ie)(a:k<286):0<(bv T).getD k 0:=by
 obtain⟨e,_,c⟩:=GZ T d;unfold bv;rw[xB _ _ _ (by omega)];refine(c k a).2.2.2 ?_;rw[ot T k a];rcases b with rfl|b
 . rw[a0d rfl];omega
 .
  have:=List.count_pos_iff.2 b
  split<;>omega
theorem Ij(T:List Tk)(c:T.length<=300)(k:Nat)(d:k∈T.flatMap dS)(a:k<30):0<(cf T).getD k 0:=by
 obtain⟨e,_,b⟩:=xE T c;unfold cf;rw[xB _ _ _ (by omega)];refine(b k a).2.2.2 (D6 T k ?_);rw[pm T k a];have:=List.count_pos_iff.2 d;omega
theorem Dq(T:List Tk)(c:T.length<=300)(a:∀t∈T,okT t=true)(t:Tk)(b:t∈T):0<(bv T).getD (ie t) 0/\∀k∈dS t,0<(cf T).getD k 0:=by
 refine⟨zj T c _ (.inr (a2s b)) (Kd (a t b)),fun k d=>Ij T c k ?_ (Gh k d)⟩;exact List.mem_flatMap.2 ⟨t,b,d⟩
theorem lO(T:List Tk)(c:T.length<=300)(b:∀t∈T,okT t=true)(t:Tk)(d:t∈T):fx (bv T) (cf T) t:=by
 obtain⟨a,h2⟩:=Dq T c b t d;unfold fx;unfold ie at a;unfold dS at h2
 split
 . rename_i h;rw[a0d h]at a;exact AW a
 . rename_i h;rw[a0e h]at a h2;exact⟨AW a,AW (h2 _ (by simp))⟩
def nb(A:List Int):List Int:=fJ (List.replicate 19 0) (A.map Int.toNat)
def aJ(A:List Int):List Int:=dc 7 (nb A)
theorem fw(A:List Int):(nb A).length=19:=by unfold nb;rw[dU,a0w]
theorem rQ(A:List Int)(j:Nat)(a:j<19):(nb A).getD j 0=((A.map Int.toNat).count j:Int):=by
 unfold nb;rw[jY,a0w,gQ,a0d a];simp
theorem vH(A:List Int)(c:A.length<=400):okC (nb A):=by
 intro i a;rw[fw]at a;rw[rQ A i a];have b:(A.map Int.toNat).count i<=(A.map Int.toNat).length:=a3c;rw[a0N]at b;omega
theorem vI(A:List Int)(a:0<A.length)(b:∀x∈A,0<=x/\x<=15):1<=us (nb A)/\us (nb A)<=19:=by
 refine⟨?_,by have:=qS (nb A);rw[fw]at this;exact this⟩;have c:=b A[0] (a2r a);refine wU (k:=(A[0]).toNat) (by rw[fw];omega) ?_;rw[rQ A _ (by omega)];have:=List.count_pos_iff.2 (a2s (f:=Int.toNat) (a2r a));omega
theorem sQ(A:List Int)(a:0<A.length)(b:A.length<=400)(c:∀x∈A,0<=x/\x<=15):(aJ A).length=19/\au (aJ A)=true/\∀i,i<19->0<=(aJ A).getD i 0/\(aJ A).getD i 0<=7/\(0<(aJ A).getD i 0<->0<(nb A).getD i 0):=by
 have d:=vI A a c;have h:=sU (m:=6) (vH A b) (by rw[fw];omega) (by rw[eE];omega) (by rw[eE];have h2:=LJ;omega) (by omega);rw[fw]at h;exact h
theorem EC(A:List Int)(c:0<A.length)(d:A.length<=400)(a:∀x∈A,0<=x/\x<=15)(x:Int)(b:x∈A):0<(aJ A).getD x.toNat 0:=by
 have e:=a x b;refine((sQ A c d a).2.2 x.toNat (by omega)).2.2.2 ?_;rw[rQ A _ (by omega)];have:=List.count_pos_iff.2 (a2s (f:=Int.toNat) b);omega
def cW(L D:List Int):List (Int×Int):=
 [((L.length:Int)-257,5),((D.length:Int)-1,5),(15,4)]++(br.map (fun i=>((aJ (L++D)).getD i 0,(3:Int)))++(L++D).map (fun x=>pcM (aJ (L++D)) x.toNat))
def ir(T:List Tk):List (Int×Int):=[(1,1),(2,2)]++(cW (bv T) (cf T)++(T.flatMap (ct (bv T) (cf T))++[pcM (bv T) 256]))
theorem jm(h:au l=true):∀x∈l,0<=x/\x<=15:=by
 intro x b;obtain⟨i,a,rfl⟩:=List.mem_iff_getElem.1 b;have:=lH (fN h) a;simpa[List.getD,a]using this
theorem zW(g:au L=true)(f:au D=true)(l0:257<=L.length)(l1:L.length<=286)(m:1<=D.length)(n:D.length<=30):aX (cW L D)=true/\(cW L D).length<=338:=by
 have c:∀x∈L++D,0<=x/\x<=15:=by
  intro x b;rcases a0X.1 b with h|h
  . exact jm g x h
  . exact jm f x h
 obtain⟨d,h2,e⟩:=sQ (L++D) (by rw[a0m];omega) (by rw[a0m];omega) c;refine⟨?_,?_⟩
 .
  unfold cW aX;rw[a1R,a1R];simp only[a0l];refine⟨?_,?_,?_⟩
  .
   simp only[a1S,a2K,a2R,a0l];refine⟨aP.2 ⟨by omega,by omega,?_⟩,aP.2 ⟨by omega,by omega,?_⟩,by decide⟩
   .
    have:p2 (5:Int).toNat=32:=by decide
    rw[this];omega
   .
    have:p2 (5:Int).toNat=32:=by decide
    rw[this];omega
  .
   rw[a1m];intro x b;obtain⟨i,j,rfl⟩:=a2C.1 b;have a:i<19:=by
    have:∀i∈br,i<19:=by decide
    exact this i j
   have:=e i a;refine aP.2 ⟨by omega,this.1,?_⟩;have:p2 (3:Int).toNat=8:=by decide
   rw[this];omega
  . rw[a1m];intro x b;obtain⟨y,k,rfl⟩:=a2C.1 b;have l:=c y k;exact ny (lH (fN h2) (by rw[d];omega))
 . unfold cW;simp only[a0m,a0N,a0E,a00];have:br.length=19:=rfl;omega
theorem ru(T:List Tk)(a:T.length<=300)(b:∀t∈T,okT t=true):lOk (ir T)=true:=by
 have gL:=dC (fH T a);have gD:=dC (gT T a);obtain⟨l0,l1⟩:=iY T a;obtain⟨d,e⟩:=j8 T a;obtain⟨f,h2⟩:=xR gL gD T (fun t c=>⟨b t c,lO T a b t c⟩);obtain⟨t1,t2⟩:=zW (fH T a) (gT T a) l0 l1 d e;have g:pOk (pcM (bv T) 256).1 (pcM (bv T) 256).2=true:=ny (gL 256 (by omega)).1;unfold lOk;have h:aX (ir T)=true:=by
  unfold ir;unfold aX at *
  rw[a1R,a1R,a1R,f,t1];simp only[a1S,a2K,g];decide
 have i:(ir T).length<=4000:=by unfold ir;simp only[a0m,a0E,a00];omega
 rw[h];simpa using i
def lm(s:ByteArray):List UInt8:=cx (ir (bg s.data.toList 0))
theorem qB(g o:Nat)(cap n least:Nat)(l:List Int)(w:World)(G:l.length=n)(h:∀i,i<n->w.cell? ⟨g,o+i,none⟩=some (.int .i64 (l.getD i 0)))(v:n<=cap)(E:n<=300)(D:least<=n) :
  Calls prog 94 #[.slice (some ⟨g,o,none⟩) n cap,.int .i64 (least:Nat)] w fun e w'=>e = .returned (.slice (some ⟨g,o,none⟩) (dO l least n) cap)/\w'=w:=by
 have A:(n:Int)<=(cap:Int):=by omega
 have F:(n:Int)<=300:=by omega
 have H:=af h;clear h G v E D;go_enter func94,ntmps94;go_wp2
 go_loop [5] (fun x=>∃k:Nat,k<=n/\x = .int .i64 k/\dO l least n=dO l least k) (fun x=>(intOf x).toNat)
 case atStart=>exact⟨n,a0a _,rfl,rfl⟩
 case round=>
  obtain⟨k,q,rfl,c⟩:=hrel;have f:=af c;have p:=af q;have C:(k:Int)<=(n:Int):=by omega
  clear c q;by_cases b:least<k
  .
   have r:decide ((least:Int)<(k:Int))=true:=a0v (by omega);have d:(least:Int)<(k:Int):=by omega
   obtain⟨j,hj⟩:∃j,k=j+1:=⟨k-1,by omega⟩;subst hj;have z:=ae H j (by have:=ae p;omega);have J:=af (fun h=>pj (l:=l) (least:=least) (n:=j) h);have I:=af (fun h=>mn (l:=l) (least:=least) (n:=j+1) h);have B:(j:Int)<(n:Int):=by omega
   generalize s:l.getD j 0=y at *
   have u:=af s;clear s;by_cases m:y=0
   .
    subst m;have a:Hid (dO l least n=dO l least j):=(ae f).trans (ae J ⟨b,rfl⟩);have t:Hid (j<=n):=by show j<=n;have:=ae p;omega
    clear b;go_wp2
    go_round
    case rel=>exact⟨j,ae t,by go_num,ae a⟩
    case measure=>simp[intOf]
   .
    have K:(y == 0)=false:=by simpa using m
    have a:Hid (dO l least n=j+1):=(ae f).trans (ae I (by rw[a3A,ae u];exact fun h=>m h.2));clear b;go_wp2;go_ret;exact⟨by rw[ae a];rfl,rfl⟩
  .
   have d:¬ (least:Int)<(k:Int):=by omega
   have a:Hid (dO l least n=k):=(ae f).trans (mn (fun h=>b h.1));clear b;go_wp2;go_ret;exact⟨by rw[ae a];rfl,rfl⟩
theorem sN(g o:Nat)(cap n least:Nat)(l:List Int)(w:World)(G:l.length=n)(h:∀i,i<n->w.cell? ⟨g,o+i,none⟩=some (.int .i64 (l.getD i 0)))(v:n<=cap)(E:n<=300)(D:least<=n) :
  Calls prog 141 #[.slice (some ⟨g,o,none⟩) n cap,.int .i64 (least:Nat)] w fun e w'=>e = .returned (.slice (some ⟨g,o,none⟩) (dO l least n) cap)/\w'=w:=by
 have A:(n:Int)<=(cap:Int):=by omega
 have F:(n:Int)<=300:=by omega
 have H:=af h;clear h G v E D;go_enter func141,ntmps141;go_wp2
 go_loop [5] (fun x=>∃k:Nat,k<=n/\x = .int .i64 k/\dO l least n=dO l least k) (fun x=>(intOf x).toNat)
 case atStart=>exact⟨n,a0a _,rfl,rfl⟩
 case round=>
  obtain⟨k,q,rfl,c⟩:=hrel;have f:=af c;have p:=af q;have C:(k:Int)<=(n:Int):=by omega
  clear c q;by_cases b:least<k
  .
   have r:decide ((least:Int)<(k:Int))=true:=a0v (by omega);have d:(least:Int)<(k:Int):=by omega
   obtain⟨j,hj⟩:∃j,k=j+1:=⟨k-1,by omega⟩;subst hj;have z:=ae H j (by have:=ae p;omega);have J:=af (fun h=>pj (l:=l) (least:=least) (n:=j) h);have I:=af (fun h=>mn (l:=l) (least:=least) (n:=j+1) h);have B:(j:Int)<(n:Int):=by omega
   generalize s:l.getD j 0=y at *
   have u:=af s;clear s;by_cases m:y=0
   .
    subst m;have a:Hid (dO l least n=dO l least j):=(ae f).trans (ae J ⟨b,rfl⟩);have t:Hid (j<=n):=by show j<=n;have:=ae p;omega
    clear b;go_wp2
    go_round
    case rel=>exact⟨j,ae t,by go_num,ae a⟩
    case measure=>simp[intOf]
   .
    have K:(y == 0)=false:=by simpa using m
    have a:Hid (dO l least n=j+1):=(ae f).trans (ae I (by rw[a3A,ae u];exact fun h=>m h.2));clear b;go_wp2;go_ret;exact⟨by rw[ae a];rfl,rfl⟩
  .
   have d:¬ (least:Int)<(k:Int):=by omega
   have a:Hid (dO l least n=k):=(ae f).trans (mn (fun h=>b h.1));clear b;go_wp2;go_ret;exact⟨by rw[ae a];rfl,rfl⟩
theorem Tryz.infoLenK:(prog.info? 186).map (·.size)=some 19:=by kernel_rfl
theorem yI(a:Option Addr)(cap n base:Nat)(l:List Int)(w:World)(b:l.length=n)(h:cz w base a l)(g:base<=w.heap.size)(f:n<=300) :
  Calls prog 126 #[.slice a n cap] w fun e w'=>(∃C,e = .returned (.agg C)/\bK w' base l C)/\Below w.heap.size w w':=by
 refine(Bkx.codeBook_any Bkx.bkN (.inr (.inr rfl)) a cap n l w b h.1 f).mono ?_;rintro e w' ⟨vs,C,rfl,d,c,h2,hb⟩;obtain⟨q,sc,rfl⟩:=h2.form;subst b;exact⟨⟨C,rfl,a,cap,_,_,q,sc,d,h.later hb,(bG (bz l 15) (c.own (bz l 15))).mono (by omega),(bG rfl h2).mono (by omega)⟩,hb⟩
theorem Bu(k:Nat)(l:List Int)(C:Array Value)(base:Nat)(w:World)(d:bK w base l C)(f:k<l.length)(g:l.length<=300) :
  CD 128 #[.agg C,.int .i64 (k:Int)] w (.agg #[.int .i64 (btI ((aT l 15).2.getD k 0) (l.getD k 0)),.int .i64 (l.getD k 0)]):=by
 obtain⟨a,cap,ac,b,q,sc,e,c,h2,h⟩:=d;exact Bkx.bookPut_any Bkx.bkN (.inr (.inr rfl)) a ac cap l.length b k _ _ C l (aT l 15).2 w e rfl (bz l 15) c.1 h2.1 f g
def rE(w:World)(b base:Nat)(l:List Int)(C:Array Value):Prop:=bK w base l C/\w.rangeAt b 0 C.toList/\b<w.heap.size
theorem rE.later{base:Nat}{C:Array Value}(h:rE w b base l C)(hb:Below w.heap.size w w'):rE w' b base l C:=
 ⟨h.1.later hb,js h.2.1 hb h.2.2,a0k h.2.2 hb.size⟩
theorem zV(k b base:Nat)(l:List Int)(C:Array Value)(w:World)(d:rE w b base l C)(h:k<l.length)(i:l.length<=300) :
  CD 127 #[.int .i64 (k:Int),.pointer (some ⟨b,0,none⟩)] w (.agg #[.int .i64 (pcS l k).1,.int .i64 (pcS l k).2]):=by
 have c:Below w.heap.size w (w.alloc (.cells #[.int .i64 0,.int .i64 0] 82)):=(a0c _ _).alloc (a0a _) _;have j:=af c;have m:=af (d.later c).2.1;have n:=af d.1.size;have HP:=af (Bu k l C base _ (d.later c).1 h i);have f:Hid (pcS l k=(btI ((aT l 15).2.getD k 0) (l.getD k 0),l.getD k 0)):=rfl;generalize btI ((aT l 15).2.getD k 0) (l.getD k 0)=u at *
 generalize l.getD k 0=v at *
 clear d h i c;go_enter func127,ntmps127;go_wp2_with (first
  | (refine bh rfl 186 (.tmp 1) rfl b 0 rfl C _ (ae m) a23 rfl (by rw[ae n];exact Tryz.infoLenK) ?_)
  | (go_at_call 128;refine(ae HP).mono ?_;rintro e x1 ⟨rfl,a⟩;have g:=sD a;obtain⟨m0,m1,_⟩:=df g;obtain⟨n0,n1⟩:=mx g))
 have o:=pG g (.int .i64 u) (.int .i64 v);obtain⟨p,q,_⟩:=df o;refine a0y (v:=.agg #[.int .i64 u,.int .i64 v]) (by simp[results,results127,go_sem,p,q]) rfl ⟨by rw[ae f],?_⟩;exact ah (ah (ap (ae j) a) (a0a _) _) (a0a _) _
def iz(l:List Int)(t:List Int):List (Int×Int):=t.map fun x=>pcS l x.toNat
theorem Bz(l t:List Int)(k:Nat)(h:k<t.length):iz l (t.take (k+1))=iz l (t.take k)++[pcS l (t.getD k 0).toNat]:=by
 unfold iz;rw[ci t k h,a0I];rfl
theorem D9(a:Option Addr)(cap n b base:Nat)(t l:List Int)(C:Array Value)(w:World)(P:t.length=n)(h:bp w a t)(O:n<=1000)(L:rE w b base l C)(N:l.length<=300)(m:∀i,i<t.length->0<=t.getD i 0/\t.getD i 0<(l.length:Int)) :
  Calls prog 52 #[.slice a n cap,.func (.func 127) #[] #[.pointer (some ⟨b,0,none⟩)]] w fun e w'=>∃v,e = .returned v/\Pcs w' w.heap.size v (iz l t)/\Below w.heap.size w w':=by
 have aa:(n:Int)<=1000:=by omega
 have A:=af P;have V:=af O;have U:=af N;have Q:=af m;have S:=af L;clear P O m N L;obtain⟨i0,hi,I,J,K⟩:=a0t Tryz.infoPiece;go_enter func52,ntmps52;go_wp2_with fail
 go_loopw [5,7,10] (fun o _ i wr=>∃k:Nat,k<=n/\i = .int .i64 k/\Pcs wr w.heap.size o (iz l (t.take k))/\Below w.heap.size w wr) (fun _ _ i _=>n-(intOf i).toNat)
 case atStart=>exact⟨0,a0g _,rfl,a05 _ _ _ _,a0c _ _⟩
 case round=>
  obtain⟨k,M,rfl,hq,c⟩:=hrel;have Z:=c.size;by_cases x:k<n
  .
   obtain⟨g,o,rfl,hg,B⟩:=(h.later c) (by rw[ae A];omega);have c0:=B k (by rw[ae A];exact x);have F:=af (Bz l t k (by rw[ae A];exact x));have H:Hid ((iz l (t.take k)).length=k):=by show(iz l (t.take k)).length=k;unfold iz;have:=ae A;simp;omega
   obtain⟨y0,y1⟩:=ae Q k (by rw[ae A];exact x);have T:=af M;clear B M h;generalize t.getD k 0=y at *
   obtain⟨q,rfl⟩:=a0n y0;rw[a0p]at F;have HP:=af (zV q b base l C wr ((ae S).later c) (by omega) (ae U));generalize Y:pcS l q=R at *
   clear Y;obtain⟨W,X⟩:=R;go_wp2_with fail;refine(ae HP).mono ?_;rintro e x1 ⟨rfl,u⟩;have z:=Pcs.later hq u (a0a _);have d:=ap c u;have p:=d.size;have j:Hid ((iz l (t.take k)).length+1<=maxLen/\((iz l (t.take k)).length+1)*16<=140737488355328):=by
    show _/\_;rw[ae H];have:=ae V;unfold maxLen;omega
   clear hq c u HP;go_wp2_with (at_builtin;refine a0x _ rfl _ _ 79 rfl w.heap.size 82 i0 (.agg #[.int .i64 0,.int .i64 0]) 2 16 a1s hi I J K rfl (by decide) _ _ _ rfl (a0r z _) ⟨x1.heap.size,0,none⟩ 1 1 [.int .i64 W,.int .i64 X] rfl rfl (rC x1 _ _ _) (rB _ _) (ae j).1 (ae j).2 (ax p _) ?_;intro v' x2 s f D;clear D);have G:=aG (v:=u5) f z (a0a _) p d;have E:=lS s;rw[←ae F]at E;clear s f z;go_wp2;go_roundw
   case rel=>exact⟨k+1,by have:=ae T;omega,by go_num,E,G⟩
   case measure=>simp[intOf];omega
  . have r:t.take k=t:=a0F (by rw[ae A];omega);rw[r]at hq;obtain⟨va,vc,rfl⟩:=hq.form;clear r h;go_wp2;go_ret;exact⟨_,rfl,hq,c⟩
end Go.Proofs.YtggknepmhjfohaaGreatDoor
namespace Go.Proofs.YtggknepmhjfohaaGreatDoor
open Go.Proofs.Tryz
open Go.RowKit Go.Shelf Corb
variable {W W' w:World}{b g n n₀:Nat}{l:List Int}{r10 r11:Option Nat}{r4 r5:Option (Nat×Value)}{s:ByteArray}{v:Value}
attribute [local go_sem] Oper.semAt_some
theorem oP{F:Fence}{P:Program}{ops:Array Oper}{o:Oper}{a:Act}{K:Act->World->Prop}{Q:Exit->Act->World->Prop}{E:Prop}
  (B:o.guard=none) (l c:Operand) (t:TypeId) (b:o.op=Op.makeSlice t l c)
  (base:Nat) (e:TypeId) (i:TypeInfo) (z:Value) (size:Nat) (r:P.underlying t=some (.slice e)) (h2:P.info? e=some i) (s:i.zero=some z) (u:i.size=size)
  (j h:IntKind) (L C:Int) (k:Nat) (D:a.eval l = .int j L) (A:a.eval c = .int h C) (y:L=(k:Int)) (v:C=(k:Int)) (m:i.bytes*k<=281474976710656) (p:k<=maxLen) (q:base<=w.heap.size)
  (x:∀g w',w.heap.size=g->w'.ownsRow base e size (.slice (some ⟨g,0,none⟩) k k) k (madeCells z.cells (k*size)).toList->w.grownBy w' none->K (a.put o.dst (.slice (some ⟨g,0,none⟩) k k)) w') :
  if Region.wanted o (yielded ops a.tmps)=true then Oper.wpIn F n P o a w K Q else E:=by
 have G:Region.wanted o (yielded ops a.tmps)=true:=by simp[Region.wanted,B]
 rw[a0d G];obtain⟨w',d,H,I⟩:=run_make_full (P:=P) w base t e i z size r h2 s u j h k m p q;subst y;subst v;unfold Oper.wpIn;refine⟨?_,?_⟩
 . simp[Oper.about,b]
 . rw[Oper.semAt_plain F _ _ (by rw[b];intro c f;cases f)];simp[execOp,b,D,A,d,Result.andThen];exact x _ w' rfl H I
theorem yo{β:Type}(n₀:Nat)(v:Value)(f:β->List Int):Own (fun(b:β) W=>ak W n₀ v (f b)):=fun b X _ row e j a=>by
 refine a12 e j ?_;rcases e.2 with⟨rfl,_⟩|⟨g,cap,h,rfl,_,c,_⟩
 . exact .inl rfl
 .
  refine .inr fun e'=>?_;obtain⟨o,d,i⟩:=a g e'.symm;rw[show X.heap[g]?=_ from c]at d;cases d
  cases i
def Sts(n₀:Nat)(w W:World)(r10 r11:Option Nat)(r4 r5:Option (Nat×Value)):Prop:=
 Below n₀ w W/\(∀g,r10=some g->ak W n₀ (.slice (some ⟨g,0,none⟩) 286 286) (List.replicate 286 0))/\(∀g,r11=some g->ak W n₀ (.slice (some ⟨g,0,none⟩) 30 30) (List.replicate 30 0)) /\
 (∀b v,r4=some (b,v)->n₀<=b/\Boxed W b 56 v)/\(∀b v,r5=some (b,v)->n₀<=b/\Boxed W b 56 v)/\(∀g g',r10=some g->r11=some g'->g≠g')/\(∀b v b' v',r4=some (b,v)->r5=some (b',v')->b≠b')/\n₀<=W.heap.size
theorem fL(h:W.grownBy W' none):Below W.heap.size W W':=(a0c _ _).grown h (a0a _) (fun j a=>by cases a)
theorem Sts.later(h:Sts n₀ w W r10 r11 r4 r5)(hb:Below W.heap.size W W'):Sts n₀ w W' r10 r11 r4 r5:=by
 obtain⟨f,i,h2,a,c,j,k,d⟩:=h;exact⟨f.trans (hb.mono d),fun g e=>(i g e).later hb (a0a _),fun g e=>(h2 g e).later hb (a0a _),fun b v e=>⟨(a b v e).1,Boxed.later (a b v e).2 hb⟩,fun b v e=>⟨(c b v e).1,Boxed.later (c b v e).2 hb⟩,j,k,a0z d hb.size⟩
theorem Sts.make10(h:Sts n₀ w W none r11 r4 r5)(k:W.grownBy W' none)(a:W.heap.size=g)(l:ak W' n₀ (.slice (some ⟨g,0,none⟩) 286 286) (List.replicate 286 0)):Sts n₀ w W' (some g) r11 r4 r5:=by
 subst a;have b:∀g,r11=some g->g<W.heap.size:=fun g e=>(h.2.2.1 g e).below.2;obtain⟨c,m,h2,d,f,n,i,j⟩:=h.later (fL k);exact⟨c,fun g e=>by cases e;exact l,h2,d,f,fun g g' e e'=>by cases e;have:=b g' e';omega,i,j⟩
theorem Sts.make11(h:Sts n₀ w W r10 none r4 r5)(l:W.grownBy W' none)(a:W.heap.size=g)(m:ak W' n₀ (.slice (some ⟨g,0,none⟩) 30 30) (List.replicate 30 0)):Sts n₀ w W' r10 (some g) r4 r5:=by
 subst a;have b:∀g,r10=some g->g<W.heap.size:=fun g e=>(h.2.1 g e).below.2;obtain⟨c,d,h2,f,i,n,j,k⟩:=h.later (fL l);exact⟨c,d,fun g e=>by cases e;exact m,f,i,fun g g' e e'=>by cases e';have:=b g e;omega,j,k⟩
theorem Sts.box4(h:Sts n₀ w W r10 r11 none r5)(v:Value):Sts n₀ w (W.alloc (.cells #[v] 56)) r10 r11 (some (W.heap.size,v)) r5:=by
 have a:∀b v,r5=some (b,v)->b<W.heap.size:=fun b v e=>(h.2.2.2.2.1 b v e).2.lt;have j:=h.2.2.2.2.2.2.2;obtain⟨c,d,h2,k,f,g,l,i⟩:=h.later ((a0c _ W).alloc (a0a _) (.cells #[v] 56));exact⟨c,d,h2,fun b u e=>by cases e;exact⟨j,Boxed.new _ _ _⟩,f,g,fun b u b' u' e e'=>by cases e;have:=a b' u' e';omega,i⟩
theorem Sts.box5(h:Sts n₀ w W r10 r11 r4 none)(v:Value):Sts n₀ w (W.alloc (.cells #[v] 56)) r10 r11 r4 (some (W.heap.size,v)):=by
 have a:∀b v,r4=some (b,v)->b<W.heap.size:=fun b v e=>(h.2.2.2.1 b v e).2.lt;have j:=h.2.2.2.2.2.2.2;obtain⟨c,d,h2,f,k,g,l,i⟩:=h.later ((a0c _ W).alloc (a0a _) (.cells #[v] 56));exact⟨c,d,h2,f,fun b u e=>by cases e;exact⟨j,Boxed.new _ _ _⟩,g,fun b u b' u' e e'=>by cases e';have:=a b u e;omega,i⟩
theorem cF(h:Boxed W b 56 v)(a:ak W n₀ (.slice (some ⟨g,0,none⟩) n n) l):b≠g:=by
 intro e;exact h.not_row (by decide) a (by rw[e];rfl)
theorem kR(h:Boxed W b 9 v)(a:ak W n₀ (.slice (some ⟨g,0,none⟩) n n) l):b≠g:=by
 intro e;exact h.not_row (by decide) a (by rw[e];rfl)
theorem cY{B o:Nat}{t:TypeId}(h:Boxed W B t v)(a:B≠b)(u:Value):Boxed (W.setCell ⟨b,o,none⟩ u) B t v:=(a0L _ _ _ B a).trans h
theorem vf{D:Nat}{r:Option (List Deferred)}(h:W.heap[D]?=some (.deferred r))(c:ak W n₀ (.slice (some ⟨g,0,none⟩) n n) l):D≠g:=by
 rintro rfl;rcases c.2 with⟨e,_⟩|⟨g,cap,b,e,_,a,_⟩
 . cases e
 . simp only[a0K,a0i,a0A,a0V]at e;rw[←e.1]at a;rw[h]at a;cases a
theorem Kl(l:List Int):bP l l.length=0<->us l=0:=by
 have d:∀k,0<=bP l k:=by
  intro k;induction k with
  | zero=>exact a2y _
  | succ k ih=>simp only[bP];split<;>omega
 constructor
 .
  intro h;rcases a2j (us l)with a|a
  . exact a
  .
   exfalso;have:∃k,k<l.length/\0<l.getD k 0:=by
    clear h d;induction l with
    | nil=>simp[us]at a
    | cons b l ih=>
     by_cases hb:0<b
     . exact⟨0,by simp,by simpa using hb⟩
     . obtain⟨k,c,d⟩:=ih (by simp only[us,a0B,a0P,a0e hb]at a;simpa[us]using a);exact⟨k+1,by simpa using c,by simpa using d⟩
   obtain⟨k,c,d⟩:=this;have:=Dj l l.length k c;omega
 .
  intro h;have:∀k,k<=l.length->bP l k=0:=by
   intro k;induction k with
   | zero=>exact fun _=>rfl
   | succ k ih=>
    intro c;have a:=DI h k (by omega);simp only[bP];rw[ih (by omega),a0e a]
  exact this _ (a0a _)
theorem Sts.put4(h:Sts n₀ w W r10 r11 (some (b,v)) r5)(u:Value):Sts n₀ w (W.setCell ⟨b,0,none⟩ u) r10 r11 (some (b,u)) r5:=by
 obtain⟨i,c,h2,j,d,k,f,l⟩:=h;have hb:=j b v rfl;exact⟨ah i hb.1 u,fun g e=>(c g e).setOther (cF hb.2 (c g e)) u,fun g e=>(h2 g e).setOther (cF hb.2 (h2 g e)) u,fun b' v' e=>by cases e;exact⟨hb.1,hb.2.set u⟩,fun b' v' e=>⟨(d b' v' e).1,(d b' v' e).2.other (f b v b' v' rfl e).symm u⟩,k,fun b' v' a v'' e e'=>by cases e;exact f b v a v'' rfl e',by simpa using l⟩
theorem Sts.put5(h:Sts n₀ w W r10 r11 r4 (some (b,v)))(u:Value):Sts n₀ w (W.setCell ⟨b,0,none⟩ u) r10 r11 r4 (some (b,u)):=by
 obtain⟨i,a,h2,c,j,k,d,l⟩:=h;have hb:=j b v rfl;exact⟨ah i hb.1 u,fun g e=>(a g e).setOther (cF hb.2 (a g e)) u,fun g e=>(h2 g e).setOther (cF hb.2 (h2 g e)) u,fun b' v' e=>⟨(c b' v' e).1,(c b' v' e).2.other (d b' v' b v e rfl) u⟩,fun b' v' e=>by cases e;exact⟨hb.1,hb.2.set u⟩,k,fun b' v' f v'' e e'=>by cases e';exact d b' v' b v e rfl,by simpa using l⟩
theorem Sts.fill4(h:Sts n₀ w W (some g) r11 (some (b,v)) r5):Sts n₀ w (W.setCell ⟨b,0,none⟩ (.slice (some ⟨g,0,none⟩) 286 286)) (some g) r11 (some (b,.slice (some ⟨g,0,none⟩) 286 286)) r5:=h.put4 _
theorem Sts.fill5(h:Sts n₀ w W r10 (some g) r4 (some (b,v))):Sts n₀ w (W.setCell ⟨b,0,none⟩ (.slice (some ⟨g,0,none⟩) 30 30)) r10 (some g) r4 (some (b,.slice (some ⟨g,0,none⟩) 30 30)):=h.put5 _
def jH{s:ByteArray}(pre:List (TkS s)):List Int:=fJ (List.replicate 286 0) ((pre.map Subtype.val).map ie)
def cN{s:ByteArray}(pre:List (TkS s)):List Int:=fJ (List.replicate 30 0) ((pre.map Subtype.val).flatMap dS)
theorem lK(pre:List (TkS s)):(jH pre).length=286:=by unfold jH;rw[dU,a0w]
theorem jV(pre:List (TkS s)):(cN pre).length=30:=by unfold cN;rw[dU,a0w]
theorem BB(pre:List (TkS s))(x:TkS s)(h:isB x.1=true):jH (pre++[x])=inc (jH pre) x.1.1.toNat:=by
 unfold jH;rw[a0I,a0I,a2l,a2l,gB];have:ie x.1=x.1.1.toNat:=by unfold ie;rw[a0d h]
 rw[this]
theorem BC(pre:List (TkS s))(x:TkS s)(h:isB x.1=false):jH (pre++[x])=inc (jH pre) (257+fnd 3 4 x.1.2.1.toNat 27):=by
 unfold jH;rw[a0I,a0I,a2l,a2l,gB];have:ie x.1=257+fnd 3 4 x.1.2.1.toNat 27:=by unfold ie;rw[a0e (by simp[h])]
 rw[this]
theorem xG(pre:List (TkS s))(x:TkS s)(h:isB x.1=true):cN (pre++[x])=cN pre:=by
 unfold cN;rw[a0I,a2E,a2l];have:[x.1].flatMap dS=[]:=by simp[dS,h]
 rw[this,a03]
theorem xH(pre:List (TkS s))(x:TkS s)(h:isB x.1=false):cN (pre++[x])=inc (cN pre) (fnd 1 2 x.1.2.2.toNat 29):=by
 unfold cN;rw[a0I,a2E,a2l];have:[x.1].flatMap dS=[fnd 1 2 x.1.2.2.toNat 29]:=by simp[dS,h]
 rw[this,gB]
theorem oj(n:Nat)(l:List Nat)(k:Nat):0<=(fJ (List.replicate n 0) l).getD k 0/\(fJ (List.replicate n 0) l).getD k 0<=(l.length:Int):=by
 rw[jY,gQ];have:l.count k<=l.length:=a3c
 split<;>omega
theorem ww(pre:List (TkS s))(k:Nat):0<=(jH pre).getD k 0/\(jH pre).getD k 0<=(pre.length:Int):=by
 have:=oj 286 ((pre.map Subtype.val).map ie) k;rw[a0N,a0N]at this;exact this
theorem rU(pre:List (TkS s))(k:Nat):0<=(cN pre).getD k 0/\(cN pre).getD k 0<=(pre.length:Int):=by
 have a:=oj 30 ((pre.map Subtype.val).flatMap dS) k;have h2:=rW (pre.map Subtype.val);rw[a0N]at h2;exact⟨a.1,by have:=a.2;unfold cN;omega⟩
theorem qX(s:ByteArray)(w:World)(a:s.size<=300)  :
  Calls prog 93 #[.string s] w fun e w'=>(∃gl gd,e = .returned (.tuple #[.slice (some ⟨gl,0,none⟩) 286 286,.slice (some ⟨gd,0,none⟩) 30 30])/\ak w' w.heap.size (.slice (some ⟨gl,0,none⟩) 286 286) (fC (bg s.data.toList 0))/\ak w' w.heap.size (.slice (some ⟨gd,0,none⟩) 30 30) (ck (bg s.data.toList 0)))/\Below w.heap.size w w':=by
 obtain⟨i0,hi,b4,b6,b7⟩:=a0t Tryz.infoInt;have ed:(s.size:Int)<=300:=by omega
 have c5:prog.follows .mixedOrders=true:=by kernel_rfl
 refine(callsIn_wide (n:=6)).1 ?_;refine callsIn_of_wp_marks func93 rfl trivial ?_ rfl;simp only[ntmps93,a2z,a0E,a00,Nat.reduceAdd,Nat.reduceSub,Array.replicate_succ,Array.replicate_zero,List.push_toArray,List.append_toArray,a1b,a1o]
 gi_wp2
 rename_i Q' K hKr
 suffices U:∀(gl gd P O:Nat) (W:World),Sts w.heap.size w W (some gl) (some gd) (some (P,.slice (some ⟨gl,0,none⟩) 286 286)) (some (O,.slice (some ⟨gd,0,none⟩) 30 30)) ->
   K { tmps:=#[.string s,undef,.slice none 0 0,.slice none 0 0,.pointer (some ⟨P,0,none⟩),.pointer (some ⟨O,0,none⟩),undef,undef,undef,undef,.slice (some ⟨gl,0,none⟩) 286 286,.slice (some ⟨gd,0,none⟩) 30 30,undef,undef,undef,undef,undef,undef,undef,undef,undef,undef,undef,undef,undef,undef,undef,undef,undef,undef,undef,undef,undef,undef,undef,undef,undef,undef,undef,undef,undef,undef,undef,undef,undef,undef,undef,undef,undef,undef,undef,undef,undef,undef,undef,undef,undef,undef,undef],defers:=[] } W by
  clear hKr;have an:Sts w.heap.size w w.drew none none none none:=⟨(a0c _ _).drew,nofun,nofun,nofun,nofun,nofun,nofun,a0a _⟩;refine wpIn_region_any c5 ?_;change wpAnyIn _ _ _ _ _ _ _ _ _ (World.drew _);generalize w.drew=W at an ⊢;have a:=an;clear an;repeat' first
   | exact AllReadyIn.nil
   | refine AllReadyIn.cons rfl (fun K1 b=>?_) ?_
   | (refine oP rfl _ _ 56 rfl w.heap.size 3 i0 (.int .i64 0) 1 a0D hi b4 b6 .i64 .i64 286 286 286 rfl rfl rfl rfl (by rw[b7];omega) (by unfold maxLen;omega) a.2.2.2.2.2.2.2 ?_;intro g W hg ho J;have a:=a.make10 J hg (cZ ho);refine b _ _ ?_;clear b K1 ho J hg)
   | (refine oP rfl _ _ 56 rfl w.heap.size 3 i0 (.int .i64 0) 1 a0D hi b4 b6 .i64 .i64 30 30 30 rfl rfl rfl rfl (by rw[b7];omega) (by unfold maxLen;omega) a.2.2.2.2.2.2.2 ?_;intro g W hg ho J;have a:=a.make11 J hg (cZ ho);refine b _ _ ?_;clear b K1 ho J hg)
   | (refine fU 4 rfl ?_;have a:=a.box4 (.slice none 0 0);go_simp;refine b _ _ ?_;clear b K1;generalize W.alloc (.cells #[.slice none 0 0] 56)=V at a ⊢;generalize W.heap.size=g at a ⊢;revert V;intro W a)
   | (refine fU 5 rfl ?_;have a:=a.box5 (.slice none 0 0);go_simp;refine b _ _ ?_;clear b K1;generalize W.alloc (.cells #[.slice none 0 0] 56)=V at a ⊢;generalize W.heap.size=g at a ⊢;revert V;intro W a)
   | (refine FW (Op.store 56 (.tmp 4) (.tmp 10)) rfl ?_;have hc:=(a.2.2.2.1 _ _ rfl).2.cell;have hf:=(a.2.2.2.1 _ _ rfl).2.frozen;have a:=a.fill4;go_simp;refine b _ _ ?_;clear b K1 hc hf;revert a;generalize W.setCell ⟨_,0,none⟩ _=V;intro a;revert V;intro W a)
   | (refine FW (Op.store 56 (.tmp 5) (.tmp 11)) rfl ?_;have hc:=(a.2.2.2.2.1 _ _ rfl).2.cell;have hf:=(a.2.2.2.2.1 _ _ rfl).2.frozen;have a:=a.fill5;go_simp;refine b _ _ ?_;clear b K1 hc hf;revert a;generalize W.setCell ⟨_,0,none⟩ _=V;intro a;revert V;intro W a)
   | (refine wpAnyIn_done (by decide +kernel) ?_ _;exact U _ _ _ _ _ a)
   | refine wpAnyIn_ready (rs:=[0,1,2,3]) (by decide +kernel) (by simp) ?_
   | refine wpAnyIn_ready (rs:=[1,2,3]) (by decide +kernel) (by simp) ?_
   | refine wpAnyIn_ready (rs:=[2,3]) (by decide +kernel) (by simp) ?_
   | refine wpAnyIn_ready (rs:=[3]) (by decide +kernel) (by simp) ?_
   | refine wpAnyIn_ready (rs:=[4]) (by decide +kernel) (by simp) ?_
   | refine wpAnyIn_ready (rs:=[5]) (by decide +kernel) (by simp) ?_
   | refine wpAnyIn_ready (rs:=[2]) (by decide +kernel) (by simp) ?_
   | refine wpAnyIn_ready (rs:=[1,3]) (by decide +kernel) (by simp) ?_
   | refine wpAnyIn_ready (rs:=[1,4]) (by decide +kernel) (by simp) ?_
   | refine wpAnyIn_ready (rs:=[1]) (by decide +kernel) (by simp) ?_
   | refine wpAnyIn_ready (rs:=[1,2]) (by decide +kernel) (by simp) ?_
   | refine wpAnyIn_ready (rs:=[0,2,3]) (by decide +kernel) (by simp) ?_
   | refine wpAnyIn_ready (rs:=[0,3]) (by decide +kernel) (by simp) ?_
   | refine wpAnyIn_ready (rs:=[0]) (by decide +kernel) (by simp) ?_
   | refine wpAnyIn_ready (rs:=[0,2]) (by decide +kernel) (by simp) ?_
   | refine wpAnyIn_ready (rs:=[0,1,3]) (by decide +kernel) (by simp) ?_
   | refine wpAnyIn_ready (rs:=[0,1]) (by decide +kernel) (by simp) ?_
   | refine wpAnyIn_ready (rs:=[0,1,2]) (by decide +kernel) (by simp) ?_
 intro gl gd P O W m;refine hKr _ _ ?_;clear hKr;have cv:=m.2.1 gl rfl;have cr:=m.2.2.1 gd rfl;obtain⟨dd,x40⟩:=m.2.2.2.1 P _ rfl;obtain⟨dl,x50⟩:=m.2.2.2.2.1 O _ rfl;have H:gl≠gd:=m.2.2.2.2.2.1 gl gd rfl rfl;have dq:P≠O:=m.2.2.2.2.2.2.1 P _ O _ rfl rfl;have cg:=m.1;have c6:=m.2.2.2.2.2.2.2;clear m
 gi_wp2_with (refine⟨trivial,?_⟩;gi_at_call 115;refine(callsIn_wide.2 (oy s _)).mono ?_;rintro e w' ⟨rfl,rfl⟩)
 have bN:=Boxed.new W 9 (.string s);have hA:Below W.heap.size W (W.alloc (.cells #[.string s] 9)):=(a0c _ W).alloc (a0a _) _;have lb4:P<W.heap.size:=x40.lt;have lb5:O<W.heap.size:=x50.lt;refine wpIn_rangeFunc_ownG rfl (by omega) (gf:=156) (lb:=#[.pointer (some ⟨W.heap.size,0,none⟩)]) rfl trivial (enters_of func156 (by kernel_rfl) rfl)
  (qP 5 (by omega) W.heap.size s (by omega) _ bN) Dc (fun W l o o' _ h1 h2 _=>Db W l o o' h1 h2) (a0c _ _) (fun _=>rfl)
  (fun(pre:List (TkS s)) X=>((((ak X w.heap.size (.slice (some ⟨gl,0,none⟩) 286 286) (jH pre)/\ak X w.heap.size (.slice (some ⟨gd,0,none⟩) 30 30) (cN pre))/\Boxed X P 56 (.slice (some ⟨gl,0,none⟩) 286 286))/\Boxed X O 56 (.slice (some ⟨gd,0,none⟩) 30 30))/\Below w.heap.size w X)/\Boxed X W.heap.size 9 (.string s))
  (fun _ _ _=>False)
  (OwnFrom.and (OwnFrom.and (OwnFrom.and (OwnFrom.and (OwnFrom.and (Own.from (yo _ _ jH) _) (Own.from (yo _ _ cN) _)) (Own.from (boxed_own _ _ _) _)) (Own.from (boxed_own _ _ _) _)) (ownFrom_below (a0a _) (by simp;omega))) (Own.from (boxed_own _ _ _) _))
  (fun _ _ _ _ _ a _ _=>a)
  ⟨⟨⟨⟨⟨cv.later hA (a0a _),cr.later hA (a0a _)⟩,Boxed.later x40 hA⟩,Boxed.later x50 hA⟩,cg.trans (hA.mono c6)⟩,bN⟩
  (fun x=>{ tmps:=#[.string s,undef,.slice none 0 0,.slice none 0 0,.pointer (some ⟨P,0,none⟩),.pointer (some ⟨O,0,none⟩),fs x.1,undef,undef,undef,.slice (some ⟨gl,0,none⟩) 286 286,.slice (some ⟨gd,0,none⟩) 30 30,.string s,.func (.func 156) #[] #[.pointer (some ⟨W.heap.size,0,none⟩)],fs x.1,undef,undef,undef,undef,undef,undef,undef,undef,undef,undef,undef,undef,undef,undef,undef,undef,undef,undef,undef,undef,undef,undef,undef,undef,undef,undef,undef,undef,undef,undef,undef,undef,undef,undef,undef,undef,undef,undef,undef,undef,undef,undef,undef,undef],defers:=[] }) ?assign ?body ?done ?stop
 case assign=>
  intro l x W K U
  gi_wp2
  exact U
 case body=>
  rintro l pre x X ⟨⟨⟨⟨⟨d,hd⟩,x4⟩,x5⟩,hB⟩,B⟩ bk;have co:=x4.cell;have cp:=x5.cell;have u:=lK pre;have t:=jV pre;have m1:=km;have m2:=mf;have m3:=kj;cases hb:isB x.1
  .
   have hk:isK x.1=true:=by have:=x.2.1;unfold okT at this;rw[hb]at this;simpa using this
   obtain⟨q1,q2,q3,q4⟩:=sB hk;have f1:x.1.2.1=((x.1.2.1.toNat:Nat):Int):=by omega
   have f2:x.1.2.2=((x.1.2.2.toNat:Nat):Int):=by omega
   have e2:fs x.1 = .iface 176 (.agg #[.int .i64 ((x.1.2.1.toNat:Nat):Int),.int .i64 ((x.1.2.2.toNat:Nat):Int)]):=by rw[←f1,←f2];exact nM hk
   have f:=BC pre x hb;have N:=xH pre x hb;have b1:=ww pre (257+fnd 3 4 x.1.2.1.toNat 27);have b2:=rU pre (fnd 1 2 x.1.2.2.toNat 29);have b8:=af (fun W=>zD x.1.2.1.toNat x.1.2.2.toNat W (by omega) (by omega) (by omega) (by omega));have k1:=f9 3 4 x.1.2.1.toNat 27;have k2:=f9 1 2 x.1.2.2.toNat 29;rw[e2];generalize x.1.2.1.toNat=y at *
   generalize x.1.2.2.toNat=z at *
   generalize fnd 3 4 y 27=p at *
   generalize fnd 1 2 z 29=q at *
   have I:=d.at u (show 257+p<286 by omega);generalize A:(jH pre).getD (257+p) 0=ya at *
   generalize T:(cN pre).getD q 0=za at *
   have d8:(257:Int)+(p:Int)<286:=by omega
   have eb:(q:Int)<30:=by omega
   have b3:ya<=300:=by omega
   have eg:za<=300:=by omega
   have b0:0<=ya:=by omega
   have b5:0<=za:=by omega
   have E:=cF x4 d;have r:=cF x5 d;have Y:=cF x4 hd;have aa:=cF x5 hd;have HX:Hid (∀Z,Below X.heap.size X Z->ak Z w.heap.size (.slice (some ⟨gl,0,none⟩) 286 286) (jH pre)/\ak Z w.heap.size (.slice (some ⟨gd,0,none⟩) 30 30) (cN pre)/\Boxed Z P 56 (.slice (some ⟨gl,0,none⟩) 286 286)/\Boxed Z O 56 (.slice (some ⟨gd,0,none⟩) 30 30)/\Boxed Z W.heap.size 9 (.string s)):=fun Z h=>⟨d.later h (a0a _),hd.later h (a0a _),Boxed.later x4 h,Boxed.later x5 h,Boxed.later B h⟩;have d0:=d.below.2;have dv:=hd.below.2;have Q:=af (a0b (show 257+p<286 by omega) (show q<30 by omega));have H1:=af f;have H2:=af N;have a2:=af A;have a3:=af T;have HB:=af hB;have ca:=af (a0b E (a0b r (a0b Y aa)));have cc:=hB.size;have c9:=B.lt;clear f N A T b1 b2 k1 k2 q1 q2 q3 q4 f1 f2 e2 I d hd x4 x5 B bk hB
   gi_wp2_with (refine⟨trivial,?_⟩;gi_at_call 118;refine(CallsIn.inRound l (callsIn_wide.2 (ae b8 _))).mono ?_;rintro e X1 ⟨rfl,bb⟩;have C:Below X.heap.size X X1:=ap ((a0c _ X).alloc (a0a _) _) bb;have c7:=C.size;have hZ:Hid (∀v,Below X.heap.size X (X1.alloc (.cells v 178))):=fun v=>C.alloc c7 _;have z1:=fun v=>(ae HX _ (ae hZ v)).2.2.1.cell;have z2:=fun v=>(ae HX _ (ae hZ v)).2.2.2.1.cell;have z3:=fun v=>((ae HX _ (ae hZ v)).1.at (lK pre) (ae Q).1).1;have z4:=fun v=>((ae HX _ (ae hZ v)).1.at (lK pre) (ae Q).1).2.1;have z5:=fun v=>((ae HX _ (ae hZ v)).2.1.at (jV pre) (ae Q).2).1;have z6:=fun v=>((ae HX _ (ae hZ v)).2.1.at (jV pre) (ae Q).2).2.1;rw[ae a2]at z3;rw[ae a3]at z5;have n1:¬ X1.heap.size=gl:=(by omega);have n2:¬ gl=X1.heap.size:=(by omega);have n3:¬ gd=gl:=(fun e=>H e.symm);have c8:=af C;clear bb C)
   refine(fun Z (ad:Below X.heap.size X Z)=>?_:∀Z,Below X.heap.size X Z->ownPostG _ _ _ _ _ _ _ _ ((Z.setCell ⟨gl,257+p,none⟩ (.int .i64 (ya+1))).setCell ⟨gd,q,none⟩ (.int .i64 (za+1)))) _ (ae hZ _);obtain⟨d,hd,x4,x5,B⟩:=ae HX Z ad;obtain⟨e4,e5,e6,e7⟩:=ae ca;have e8:=kR B d;have e9:=kR B hd;have cy:ak ((Z.setCell ⟨gl,257+p,none⟩ (.int .i64 (ya+1))).setCell ⟨gd,q,none⟩ (.int .i64 (za+1))) w.heap.size (.slice (some ⟨gl,0,none⟩) 286 286) (jH (pre++[x])):=by
    have:=d.put (j:=257+p) (lK pre) (ya+1);rw[ae H1];unfold inc;rw[ae a2];exact this.setOther H.symm _
   have cs:ak ((Z.setCell ⟨gl,257+p,none⟩ (.int .i64 (ya+1))).setCell ⟨gd,q,none⟩ (.int .i64 (za+1))) w.heap.size (.slice (some ⟨gd,0,none⟩) 30 30) (cN (pre++[x])):=by
    have:=(hd.setOther (g':=gl) (o:=257+p) H (.int .i64 (ya+1))).put (j:=q) (jV pre) (za+1);rw[ae H2];unfold inc;rw[ae a3];exact this
   exact⟨(((KeepsOthers.of_grownBy (er ad) (fun _ _ e=>by cases e)).trans (KeepsOthers.setCell _ _ _)).trans (KeepsOthers.setCell _ _ _)).from _,fun _=>cY (cY B e8 _) e9 _,⟨⟨⟨⟨⟨cy,cs⟩,cY (cY x4 e4 _) e6 _⟩,cY (cY x5 e5 _) e7 _⟩,ah (ah ((ae HB).trans (ad.mono cc)) d.below.1 _) hd.below.1 _⟩,cY (cY B e8 _) e9 _⟩⟩
  .
   obtain⟨q1,q2⟩:=pF hb;have f1:x.1.1=((x.1.1.toNat:Nat):Int):=by omega
   have e2:fs x.1 = .iface 174 (.int .u8 ((x.1.1.toNat:Nat):Int)):=by rw[←f1];exact kU hb
   have f:=BB pre x hb;have N:=xG pre x hb;have b1:=ww pre x.1.1.toNat
   rw[e2];generalize x.1.1.toNat=k at *
   have I:=d.at u (show k<286 by omega);generalize A:(jH pre).getD k 0=ya at *
   have d5:(k:Int)<286:=by omega
   have b3:ya<=300:=by omega
   have b0:0<=ya:=by omega
   have R:Hid (ak (X.setCell ⟨gl,k,none⟩ (.int .i64 (ya+1))) w.heap.size (.slice (some ⟨gl,0,none⟩) 286 286) (jH (pre++[x]))):=by
    have:=d.put (j:=k) u (ya+1);rw[f];unfold inc;rw[A];exact this
   have G:Hid (ak (X.setCell ⟨gl,k,none⟩ (.int .i64 (ya+1))) w.heap.size (.slice (some ⟨gd,0,none⟩) 30 30) (cN (pre++[x]))):=by
    rw[N];exact hd.setOther H _
   have E:=cF x4 d;have r:=cF x5 d;obtain⟨c1,c2,c3,c4⟩:=I;clear f N A b1 bk q1 q2 f1 e2
   gi_wp2
   exact⟨(KeepsOthers.setCell _ _ _).from _,fun _=>cY B (kR B d) _,⟨⟨⟨⟨⟨ae R,ae G⟩,cY x4 E _⟩,cY x5 r _⟩,ah hB c3 _⟩,cY B (kR B d) _⟩⟩
 case done=>
  rintro D ys X hD S ⟨⟨⟨⟨⟨d,hd⟩,x4⟩,x5⟩,hB⟩,B⟩ U;have co:=x4.cell;have cp:=x5.cell;have u:=lK ys;have t:=jV ys;have bc:=zU s a S;have b1:=ww ys 256;have b2:=rU ys 0;have hL:jH ys=fJ (List.replicate 286 0) ((bg s.data.toList 0).map ie):=by unfold jH;rw[S]
  have a7:cN ys=ff (bg s.data.toList 0):=by unfold cN ff;rw[S]
  have ba:inc (jH ys) 256=fC (bg s.data.toList 0):=by unfold fC;rw[hL]
  have I:=d.at u (show 256<286 by omega);have E:=cF x4 d;have r:=cF x5 d;have Y:=cF x5 hd;have aa:=cF x4 hd;have ch:D≠gl:=fun e=>by subst e;exact vf U d rfl
  have a6:D≠gd:=fun e=>by subst e;exact vf U hd rfl
  have a8:w.heap.size<=D:=by simp at hD;omega
  have eh:(cN ys).getD 0 0<=300:=by omega
  have L:∀i,i<(cN ys).length->0<=(cN ys).getD i 0:=fun i _=>(rU ys i).1;generalize A:(jH ys).getD 256 0=ya at *
  have b3:ya<=300:=by omega
  have b0:0<=ya:=by omega
  have R:ak (X.setCell ⟨gl,256,none⟩ (.int .i64 (ya+1))) w.heap.size (.slice (some ⟨gl,0,none⟩) 286 286) (fC (bg s.data.toList 0)):=by
   have:=d.put (j:=256) u (ya+1);rw[←ba];unfold inc;rw[A];exact this
  have G:ak (X.setCell ⟨gl,256,none⟩ (.int .i64 (ya+1))) w.heap.size (.slice (some ⟨gd,0,none⟩) 30 30) (cN ys):=hd.setOther H _;have bs:=cY (o:=256) x5 r (.int .i64 (ya+1));have ds:=bs.cell;have a9:(X.setCell ⟨gl,256,none⟩ (.int .i64 (ya+1))).heap[D]?=some (.deferred (some [])):=(a0L _ _ _ D ch).trans U;have a5:Below w.heap.size w (X.setCell ⟨gl,256,none⟩ (.int .i64 (ya+1))):=ah hB d.below.1 _;obtain⟨c1,c2,c3,c4⟩:=I;have HM:=af (tc (some ⟨gd,0,none⟩) 30 30 (cN ys) (X.setCell ⟨gl,256,none⟩ (.int .i64 (ya+1))) t (G.rowN t) (by omega) (by omega) L);have ab:=af (Kl (cN ys));rw[t]at ab;have a1:=af R;have a0:=af G;have F:=af a9;have ao:=af a5;have cu:=G.at t (show 0<30 by omega);obtain⟨d1,d2,d3,d4⟩:=cu;have a4:=af a7;have b9:=af t;clear d hd x4 x5 B hB U S hL ba b1 R G a9 a5 bs a7 t L bc u c3 c4;by_cases hu:us (cN ys)=0
  .
   have al:Hid (bP (cN ys) 30=0):=(ae ab).2 hu;rw[ae al]at HM;generalize T:(cN ys).getD 0 0=za at *
   have b5:0<=za:=b2.1
   gi_wp2_with (refine⟨trivial,?_⟩;gi_at_call 119;refine(callsIn_wide.2 (ae HM)).mono ?_;rintro e x1 ⟨rfl,f⟩;rw[f];clear f)
   gi_region
   gi_wp2
   refine⟨by simp,.inl ⟨_,_,rfl,run_takeDeferred ((a0L _ _ _ D a6).trans (ae F)),?_⟩⟩;have ac:((X.setCell ⟨gl,256,none⟩ (.int .i64 (ya+1))).setCell ⟨gd,0,none⟩ (.int .i64 (za+1))).heap[D]?=some (.deferred (some [])):=(a0L _ _ _ D a6).trans (ae F);refine⟨_,results_tmp2 rfl _ _ _,⟨gl,gd,rfl,?_,?_⟩,?_⟩
   . exact ownsRow_putObj (show ak _ _ _ _ from(ae a1).setOther H.symm _) (.deferred none) ac rfl
   .
    have e1:ck (bg s.data.toList 0)=inc (cN ys) 0:=by
     unfold ck;rw[←ae a4,a0d hu]
    rw[e1];refine ownsRow_putObj (show ak _ _ _ _ from ?_) (.deferred none) ac rfl;unfold inc;rw[T];exact(ae a0).put (j:=0) (ae b9) (za+1)
   . exact(ah (ae ao) d3 _).drew.trans (belowK_b (w:=w) (a0a _) (World.drew _) D _ _ a8 ac rfl rfl)
  .
   have al:Hid (¬ bP (cN ys) 30=0):=fun h=>hu ((ae ab).1 h);have d7:(bP (cN ys) 30 == 0)=false:=by have:=ae al;simpa using this
   generalize bP (cN ys) 30=M at *
   gi_wp2_with (refine⟨trivial,?_⟩;gi_at_call 119;refine(callsIn_wide.2 (ae HM)).mono ?_;rintro e x1 ⟨rfl,f⟩;rw[f];clear f)
   gi_region
   gi_wp2
   refine⟨by simp,.inl ⟨_,_,rfl,run_takeDeferred (ae F),?_⟩⟩;refine⟨_,results_tmp2 rfl _ _ _,⟨gl,gd,rfl,?_,?_⟩,?_⟩
   . exact ownsRow_putObj (ae a1) (.deferred none) (ae F) rfl
   .
    have e1:ck (bg s.data.toList 0)=cN ys:=by
     unfold ck;rw[←ae a4,a0e hu]
    rw[e1];exact ownsRow_putObj (ae a0) (.deferred none) (ae F) rfl
   . exact(ae ao).drew.trans (belowK_b (w:=w) (a0a _) (World.drew _) D _ _ a8 (ae F) rfl rfl)
 case stop=>
  rintro D c pre W _ _ h _;exact h.elim
end Go.Proofs.YtggknepmhjfohaaGreatDoor
namespace Go.Proofs.YtggknepmhjfohaaGreatDoor
open Go.Proofs.Tryz
open Go.RowKit Corb
variable {A D l:List Int}{B c4 c6 g4 g6 gd gl n:Nat}{W w:World}{a:Option Addr}
theorem Ls(h:okC l):inC l=true:=by
 unfold inC;rw[a1m];intro x b;obtain⟨i,a,rfl⟩:=List.mem_iff_getElem.1 b;have:=h i a;rw[show l.getD i 0=l[i] by simp[List.getD,a]]at this;exact aC.2 this
theorem sT{m:Nat}(a:okC l)(b:l.length<=300)(c:1<=us l)(d:us l<=p2 m)(e:m<=14):jl l ((m:Int)+1)=dc ((m:Int)+1) l:=by
 unfold jl;rw[a0d];unfold uS;simp only[a0l,a0u];refine⟨⟨⟨b,aC.2 (by omega)⟩,Ls a⟩,aC.2 ?_⟩;rw[show((m:Int)+1).toNat=m+1 by omega,wG];omega
theorem Ke(T:List Tk)(b:T.length<=300):jl (fC T) 15=dc 15 (fC T):=by
 have a:=wv T;have h2:=zo;exact sT (m:=14) (wu T b) (by rw[eu];omega) a.1 (by omega) (by omega)
theorem Gi(T:List Tk)(b:T.length<=300):jl (ck T) 15=dc 15 (ck T):=by
 have a:=rT T;have h2:=zo;exact sT (m:=14) (rS T b) (by rw[eR];omega) a.1 (by omega) (by omega)
theorem Fo(A:List Int)(a:0<A.length)(c:A.length<=400)(d:∀x∈A,0<=x/\x<=15):jl (nb A) 7=aJ A:=by
 have b:=vI A a d;have h2:=LJ;exact sT (m:=6) (vH A c) (by rw[fw];omega) b.1 (by omega) (by omega)
theorem ak.cut{base m cap:Nat}(j:l.length=n)(h:ak w base (.slice a n cap) l)(p:m<=n)(k:0<n):ak w base (.slice a m cap) (l.take m):=by
 subst j;rcases h.2 with⟨_,e⟩|⟨g,c,b,e,hb,i,o,h2,d,f⟩
 . omega
 .
  simp only[a0K]at e;obtain⟨rfl,_,rfl⟩:=e;refine⟨by simp,.inr ⟨g,cap,b,by rw[a0H];congr 1;omega,hb,i,by rw[a0H];omega,h2,d,?_⟩⟩;rw[a0H,List.map_take,←f,List.take_take]
  congr 1
  omega
theorem oD{base base' size:Nat}{e:TypeId}{v:Value}{xs:List Value}(h:w.ownsRow base e size v n xs)(hb:base'<=base):w.ownsRow base' e size v n xs:=
 ⟨h.1,h.2.imp id fun⟨g,c,u,e,a,r⟩=>⟨g,c,u,e,a0z hb a,r⟩⟩
theorem ak.cap{base cap g:Nat}(h:ak w base (.slice (some ⟨g,0,none⟩) n cap) l):n<=cap/\cap<=maxLen:=by
 rcases h.2 with⟨e,_⟩|⟨g',a,b,e,hb,i,c,h2,d,f⟩
 . cases e
 . simp only[a0K]at e;obtain⟨_,rfl,rfl⟩:=e;exact⟨c,h2⟩
def cU(L D:List Int):List (Int×Int):=[((L.length:Int)-257,5),((D.length:Int)-1,5),(15,4)]
def ev(l:List Int)(k:Nat):List (Int×Int):=(br.take k).map fun i=>(l.getD i 0,(3:Int))
theorem uV(l:List Int)(k:Nat)(h:k<19):ev l (k+1)=ev l k++[(l.getD (br.getD k 0) 0,3)]:=by
 unfold ev;have a:k<br.length:=h;rw[a1e a,a0I];simp[List.getD,a]
theorem tq(l:List Int)(k:Nat)(h:k<=19):(ev l k).length=k:=by unfold ev;have:br.length=19:=rfl;simp;omega
theorem Cs(L D:List Int)(h:au (aJ (L++D))=true)(a:(aJ (L++D)).length=19)(b:∀x∈L++D,0<=x/\x<=15):cU L D++ev (aJ (L++D)) 19++iz (aJ (L++D)) (L++D)=cW L D:=by
 unfold cW cU ev iz;rw[a0M]
 congr 2
 apply List.map_congr_left;intro x c;have:=b x c;exact mD h (by rw[a];omega)
theorem DW{b base:Nat}{C:Array Value}(h:rE w b base l C):∃a cap,w.cell? ⟨b,0,none⟩=some (.slice a l.length cap)/\bp w a l:=by
 obtain⟨⟨a,cap,ac,f,q,sc,e,c,h2,g⟩,d,_⟩:=h;refine⟨a,cap,?_,c.1⟩;have:=d 0 (.slice a l.length cap) (by rw[e];rfl);simpa using this
def pf:Array Value:=#[Value.slice none 0 0,Value.slice none 0 0,Value.int .i64 0,Value.int .i64 0,Value.int .i64 0,Value.int .i64 0,Value.int .i64 0,Value.int .i64 0,Value.int .i64 0,Value.int .i64 0,Value.int .i64 0,Value.int .i64 0,Value.int .i64 0,Value.int .i64 0,Value.int .i64 0,Value.int .i64 0,Value.int .i64 0,Value.int .i64 0,Value.slice none 0 0]
theorem AE(gL gD nL b nD a base:Nat)(L D:List Int)(w:World)(n:L.length=nL)(m:D.length=nD)(j:ak w base (.slice (some ⟨gL,0,none⟩) nL b) L)(h:ak w base (.slice (some ⟨gD,0,none⟩) nD a) D)(o:nL+nD<=1000) :
  Calls prog 114 #[.slice (some ⟨w.heap.size,0,none⟩) 2 2] (w.alloc (.cells #[.slice (some ⟨gL,0,none⟩) nL b,.slice (some ⟨gD,0,none⟩) nD a] 56)) fun e w'=>∃v,e = .returned v/\ak w' w.heap.size v (L++D)/\Below w.heap.size w w':=by
 have d:Below w.heap.size w (w.alloc (.cells #[.slice (some ⟨gL,0,none⟩) nL b,.slice (some ⟨gD,0,none⟩) nD a] 56)):=(a0c _ _).alloc (a0a _) _;have k:iC (w.alloc (.cells #[.slice (some ⟨gL,0,none⟩) nL b,.slice (some ⟨gD,0,none⟩) nD a] 56)) w.heap.size base [(.slice (some ⟨gL,0,none⟩) nL b,L.map (Value.int .i64)),(.slice (some ⟨gD,0,none⟩) nD a,D.map (Value.int .i64))]:=by
  intro i l
  match i,l with
  | 0,_=>exact⟨by simp,_,j.later d (a0a _),a1n .i64 _⟩
  | 1,_=>exact⟨by simp,_,h.later d (a0a _),a1n .i64 _⟩
 have c:aK [(Value.slice (some ⟨gL,0,none⟩) nL b,L.map (Value.int .i64)),(.slice (some ⟨gD,0,none⟩) nD a,D.map (Value.int .i64))]=(L++D).length:=by simp[aK,cw]
 refine(pi w.heap.size base 2 2 _ _ rfl (by omega) (by omega) k (by rw[c,a0m];omega)).mono ?_;rintro e x5 ⟨v,rfl,g,hb⟩;refine⟨v,rfl,?_,ap d hb⟩;have f:dk [(Value.slice (some ⟨gL,0,none⟩) nL b,L.map (Value.int .i64)),(.slice (some ⟨gD,0,none⟩) nD a,D.map (Value.int .i64))]=(L++D).map (Value.int .i64):=by
  simp only[dk,a06,a2k,a0I,a03]
 rw[c,f]at g;exact ak.mono (base:=(w.alloc (.cells #[.slice (some ⟨gL,0,none⟩) nL b,.slice (some ⟨gD,0,none⟩) nD a] 56)).heap.size) g (by simp)
theorem wo(gL gD nL cL nD cD base:Nat)(L D:List Int)(w:World)(O:L.length=nL)(N:D.length=nD)(hL:ak w base (.slice (some ⟨gL,0,none⟩) nL cL) L)(hD:ak w base (.slice (some ⟨gD,0,none⟩) nD cD) D)
  (l0:257<=nL) (l1:nL<=286) (d0:1<=nD) (d1:nD<=30) (kL:au L=true) (kD:au D=true) (hO:ec w) :
  Calls prog 99 #[.slice (some ⟨gL,0,none⟩) nL cL,.slice (some ⟨gD,0,none⟩) nD cD] w fun e w'=>∃v,e = .returned v/\Pcs w' w.heap.size v (cW L D)/\Below w.heap.size w w':=by
 obtain⟨i0,hi,cp,cr,cs⟩:=a0t Tryz.infoInt;obtain⟨j0,hj,bk,bl,bs⟩:=a0t Tryz.infoPiece;have Z:Hid (∀x∈L++D,0<=x/\x<=15):=by
  intro x hx;rcases a0X.1 hx with h|h
  . exact jm kL x h
  . exact jm kD x h
 obtain⟨nA,hnA⟩:∃nA,(L++D).length=nA:=⟨_,rfl⟩;have a9:nA=nL+nD:=by rw[←hnA,a0m,O,N]
 have r:=af (sQ (L++D) (by omega) (by omega) (ae Z));have HS:=af (Fo (L++D) (by omega) (by omega) (ae Z));have HT:=af (Cs L D (ae r).2.1 (ae r).1 (ae Z));have Q:=af (AE gL gD nL cL nD cD base L D w O N hL hD (by omega));have HB:Hid (cU L D=[((nL:Int)-257,5),((nD:Int)-1,5),(15,4)]):=by show cU L D=_;unfold cU;rw[O,N]
 have nLI:(nL:Int)<=286:=by omega
 have nDI:(nD:Int)<=30:=by omega
 have nLI0:(257:Int)<=(nL:Int):=by omega
 have nDI0:(1:Int)<=(nD:Int):=by omega
 have nAI:(nA:Int)<=316:=by omega
 have B:Hid (1<=nA/\nA<=316):=by show _/\_;omega
 have HO:=af hO;clear hL hD kL kD l0 l1 d0 d1 O N a9 hO;generalize b8:L++D=A at *
 have f:=af hnA;clear hnA b8;go_enter func99,ntmps99;go_wp2_with fail;refine(ae Q).mono ?_;rintro e x1 ⟨v1,rfl,o1,b1⟩;obtain⟨a1,c1,rfl⟩:=o1.formN (ae f);obtain⟨g1,rfl⟩:=o1.somes (by have:=ae f;have:=ae B;omega);have O1:=af o1;have S:=af b1;clear o1 b1 Q
 go_wp2_with (at_make;refine a1y _ rfl _ _ 56 rfl w.heap.size 3 i0 (.int .i64 0) 1 a0D hi cp cr .i64 .i64 _ _ 19 rfl rfl rfl rfl (by rw[cs];omega) (by unfold maxLen;omega) (ae S).size ?_;intro x2 d b);have a5:=(ae O1).below.2;obtain⟨gC,hgC⟩:∃gC,x1.heap.size=gC:=⟨_,rfl⟩;have b2:=fL b;have o2:=cZ d;rw[hgC]at d o2 a5;have M:=ap (ae S) b2;have o1:=(ae O1).later b2 (a0a _);have ch:gC≠g1:=by omega
 rw[hgC];clear d b b2 O1 S hgC a5
 go_loopw [8,20] (fun _ i wr=>∃k:Nat,k<=nA/\i = .int .i64 k/\ak wr w.heap.size (.slice (some ⟨g1,0,none⟩) nA c1) A/\ak wr w.heap.size (.slice (some ⟨gC,0,none⟩) 19 19) (fJ (List.replicate 19 0) ((A.take k).map Int.toNat))/\Below w.heap.size w wr) (fun _ i _=>nA-(intOf i).toNat)
 case atStart=>exact⟨0,a0g _,rfl,o1,o2,M⟩
 case round=>
  obtain⟨k,hk,rfl,E,n,a⟩:=hrel;clear o1 o2 M;by_cases l:k<nA
  .
   obtain⟨c0,_,_,_⟩:=E.at (ae f) l;have a6:A.getD k 0∈A:=by have:=ae f;simp[List.getD,show k<A.length by omega]
   have K:=ae Z _ a6;have J:Hid ((A.take (k+1)).map Int.toNat=(A.take k).map Int.toNat++[(A.getD k 0).toNat]):=by
    show _=_;rw[ci A k (by rw[ae f];exact l),a0I];rfl
   have V:(fJ (List.replicate 19 0) ((A.take k).map Int.toNat)).length=19:=by rw[dU,a0w]
   obtain⟨y,hy⟩:=a0n K.1;rw[hy]at J c0 K;rw[a0p]at J;have hb:=oj 19 ((A.take k).map Int.toNat) y;have p:((A.take k).map Int.toNat).length<=nA:=by simp;omega
   obtain⟨d0,d1,d2,d3⟩:=n.at (j:=y) V (by omega);have hP:=n.put (j:=y) V ((fJ (List.replicate 19 0) ((A.take k).map Int.toNat)).getD y 0+1);have a0:Hid (∀u,ak (wr.setCell ⟨gC,y,none⟩ u) w.heap.size (.slice (some ⟨g1,0,none⟩) nA c1) A/\Below w.heap.size w (wr.setCell ⟨gC,y,none⟩ u)):=fun u=>⟨E.setOther ch u,ah a d2 u⟩;have HP:Hid (ak (wr.setCell ⟨gC,y,none⟩ (.int .i64 ((fJ (List.replicate 19 0) ((A.take k).map Int.toNat)).getD y 0+1))) w.heap.size (.slice (some ⟨gC,0,none⟩) 19 19) (fJ (List.replicate 19 0) ((A.take (k+1)).map Int.toNat))):=by
    show ak _ _ _ _;rw[ae J,gB];exact hP
   generalize (fJ (List.replicate 19 0) ((A.take k).map Int.toNat)).getD y 0=z at *
   have c8:(y:Int)<19:=by omega
   have c9:z<=400:=by have:=ae B;omega
   have cv:0<=z:=hb.1;have Hk:=af hk;clear hP n E a p hb K hy a6 hk V d2 d3;go_wp2;go_roundw
   case rel=>exact⟨k+1,by have:=ae Hk;omega,by go_num,(ae a0 _).1,ae HP,(ae a0 _).2⟩
   case measure=>simp[intOf];omega
  .
   have a8:A.take k=A:=a0F (by rw[ae f];omega);rw[a8]at n;have an:ak wr w.heap.size (.slice (some ⟨gC,0,none⟩) 19 19) (nb A):=n;have HL:=af (iT (some ⟨gC,0,none⟩) 19 19 (nb A) 7 wr (fw A) (an.rowN (fw A)) (by omega));rw[ae HS]at HL;have O1:=af E;have S:=af a;clear a8 n an E a;go_wp2_with fail;refine(ae HL).mono ?_;rintro e x3 ⟨⟨v3,rfl,o3⟩,b3⟩;obtain⟨a3,c3,rfl⟩:=o3.formN (ae r).1;have O1':=af ((ae O1).later b3 (a0a _));have B3:=af (ap (ae S) b3);have ab:=af (yI a3 c3 19 w.heap.size (aJ A) x3 (ae r).1 ((bG (ae r).1 (o3.own (ae r).1)).mono (ae S).size) (ae B3).size (by omega));clear o3 b3 HL O1 S;go_wp2_with fail;refine(ae ab).mono ?_;rintro e x4 ⟨⟨C,rfl,k4⟩,b4⟩;have O1:=af ((ae O1').later b4 (a0a _));have B4:=af (ap (ae B3) b4);have K4:=af k4;have T:=af k4.size;have ac:=af k4.one;clear k4 b4 ab O1' B3;have b5:Below x4.heap.size x4 ((x4.alloc (.cells pf 186)).setCells x4.heap.size 0 C.toList):=below_setCells (a0a _) _ _ _ ((a0c _ _).alloc (a0a _) _);have Y:(x4.alloc (.cells pf 186)).there x4.heap.size 0 19:=gN x4 pf _ 19 rfl;have bc:=World.rangeAt_setCells_same (x4.alloc (.cells pf 186)) x4.heap.size 0 C.toList (by rw[a1Q,ae T];exact Y);have m:rE ((x4.alloc (.cells pf 186)).setCells x4.heap.size 0 C.toList) x4.heap.size w.heap.size (aJ A) C:=⟨(ae K4).later b5,bc,by rw[size_setCells];simp⟩;have U:=af Y;have s:=af b5;have aa:=af m;unfold pf at U s aa;clear b5 Y bc m K4;go_wp2_with (first
    | (refine wpList_store_mid rfl 186 (.tmp 9) (.tmp 33) rfl x4.heap.size 0 C rfl rfl (by rw[ae T];exact ae U) (by rw[ae T];exact Tryz.infoLenK) (ae ac) ?_;generalize co:World.setCells _ x4.heap.size 0 C.toList=x5 at *;clear co U)
    | (refine bh rfl 189 (.global 0) rfl 0 0 rfl E3 _ (ec.later (ec.later (ec.later (ae HO) (ae B4)) (ae s)) ((a0c _ _).alloc (a0a _) _)).1 underlying189 rfl Tryz.infoOrd ?_))
   have ba:Pcs (x5.alloc (.cells #[.int .i64 ((nL:Int)-256-1),.int .i64 5,.int .i64 ((nD:Int)-1),.int .i64 5,.int .i64 15,.int .i64 4] 82)) x5.heap.size (.slice (some ⟨x5.heap.size,0,none⟩) 3 3) (cU L D++ev (aJ A) 0):=by
    have e0:cU L D++ev (aJ A) 0=[((nL:Int)-256-1,5),((nD:Int)-1,5),(15,4)]:=by rw[ae HB];simp only[ev,List.take_zero,a1D,a03];congr 2;omega
    rw[e0];exact a04 x5 #[.int .i64 ((nL:Int)-256-1),.int .i64 5,.int .i64 ((nD:Int)-1),.int .i64 5,.int .i64 15,.int .i64 4] 3 (a0a _) (by unfold maxLen;omega) rfl
   have al:Below x5.heap.size x5 (x5.alloc (.cells #[.int .i64 ((nL:Int)-256-1),.int .i64 5,.int .i64 ((nD:Int)-1),.int .i64 5,.int .i64 15,.int .i64 4] 82)):=(a0c _ _).alloc (a0a _) _;have O5:=af ((ae O1).later (ae s) (a0a _));have B5:=af (ap (ae B4) (ae s));generalize x5.alloc (.cells #[.int .i64 ((nL:Int)-256-1),.int .i64 5,.int .i64 ((nD:Int)-1),.int .i64 5,.int .i64 15,.int .i64 4] 82)=x6 at *
   generalize x4.heap.size=b9 at *
   clear s B4 O1
   go_loopw [10,12,46] (fun o _ i wr=>∃j:Nat,j<=19/\i = .int .i64 j/\Pcs wr x5.heap.size o (cU L D++ev (aJ A) j)/\Below x5.heap.size x5 wr) (fun _ _ i _=>19-(intOf i).toNat)
   case atStart=>exact⟨0,by omega,rfl,ba,al⟩
   case round=>
    obtain⟨j,F,rfl,hp,a⟩:=hrel;clear ba al x6;have m:=(ae aa).later a;have p:Hid ((cU L D++ev (aJ A) j).length=3+j):=by show _=_;rw[a0m,tq _ _ F];rfl
    have a2:=a.size;by_cases l:j<19
    .
     have c5:=E4 j l;have W:=wD j l;have J:Hid (cU L D++ev (aJ A) (j+1)=(cU L D++ev (aJ A) j)++[((aJ A).getD (br.getD j 0) 0,3)]):=by show _=_;rw[uV (aJ A) j l,a0M]
     obtain⟨a7,cu,cg,ao⟩:=DW m;rw[(ae r).1]at cg;obtain⟨g7,o7,rfl,cy,a4⟩:=ao (by rw[(ae r).1];omega);have d7:=a4 (br.getD j 0) (by rw[(ae r).1];exact W);have K:=(ae r).2.2 (br.getD j 0) W;generalize (aJ A).getD (br.getD j 0) 0=y at *
     generalize br.getD j 0=q at *
     have c7:(q:Int)<19:=by omega
     have c6:(j:Int)<19:=by omega
     have H:Hid ((cU L D++ev (aJ A) j).length+1<=maxLen/\((cU L D++ev (aJ A) j).length+1)*16<=140737488355328):=by
      show _/\_;rw[ae p];unfold maxLen;omega
     have Hj:=af l;clear m a4 W ao K F l;go_wp2_with (at_builtin;refine a0x _ rfl _ _ 79 rfl x5.heap.size 82 j0 (.agg #[.int .i64 0,.int .i64 0]) 2 16 a1s hj bk bl bs rfl (by decide) _ _ _ rfl (a0r hp _) ⟨wr.heap.size,0,none⟩ 1 1 [.int .i64 y,.int .i64 3] rfl rfl (rC wr _ _ _) (rB _ _) (ae H).1 (ae H).2 (ax a2 _) ?_;intro v' x2 d b I;clear I);have M:=aG (v:=u10) b hp (a0a _) a2 a;have bb:=lS d;rw[←ae J]at bb;exact⟨⟨j+1,by have:=ae Hj;omega,by go_num,bb,M⟩,by have:=ae Hj;simp[intOf];omega⟩
    .
     obtain rfl:j=19:=by omega
     have t:=af (D9 (some ⟨g1,0,none⟩) c1 nA b9 w.heap.size A (aJ A) C wr (ae f) (((ae O5).later a (a0a _)).rowN (ae f)) (by have:=ae B;omega) m (by rw[(ae r).1];omega) (fun i hi=>by rw[(ae r).1];have:=ae Z (A.getD i 0) (by simp[List.getD,hi]);omega));obtain⟨ga,ca,rfl⟩:∃ga ca,u10 = .slice (some ⟨ga,0,none⟩) 22 ca:=by
      obtain⟨g,c,e⟩:=ts hp (by rw[ae p];omega);rw[ae p]at e;exact⟨g,c,e⟩
     have HP:=af hp;have P:=af a;clear hp a m l F;go_wp2_with fail;refine(ae t).mono ?_;rintro e x7 ⟨v7,rfl,X,b7⟩;have G:Hid ((iz (aJ A) A).length=nA):=by show _=_;unfold iz;rw[a0N];exact ae f
     obtain⟨ga7,ca7,rfl⟩:∃ga ca,v7 = .slice (some ⟨ga,0,none⟩) nA ca:=by
      obtain⟨g,c,e⟩:=ts X (by rw[ae G];have:=ae B;omega);rw[ae G]at e;exact⟨g,c,e⟩
     have b6:=af (X.newsN (ae G));have ad:=af (dK (ae HP) b7);have R:x5.heap.size<=x7.heap.size:=a0z (ae P).size b7.size;have b0:=af (ap (ae P) b7);have bd:Hid ((cU L D++ev (aJ A) 19).length+nA<=maxLen/\((cU L D++ev (aJ A) 19).length+nA)*16<=140737488355328):=by
      show _/\_;rw[ae p];have:=ae B;unfold maxLen;omega
     clear X b7 t;go_wp2_with (at_builtin;refine a0x _ rfl _ _ 79 rfl x5.heap.size 82 j0 (.agg #[.int .i64 0,.int .i64 0]) 2 16 a1s hj bk bl bs rfl (by decide) _ _ _ rfl (ae ad) ⟨ga7,0,none⟩ nA ca7 (aS (iz (aJ A) A)) rfl (by rw[kN,ae G]) (ae b6) (gG _) (ae bd).1 (ae bd).2 R ?_;intro v' x8 d b I;clear I);go_ret;have cc:Below x5.heap.size x5 x8:=(ae b0).grown b R (fun j hj=>(a0C (ae ad) j hj).1);refine⟨_,rfl,?_,ap (ae B5) cc⟩;rw[←ae HT];have h9:Pcs x8 x5.heap.size v' ((cU L D++ev (aJ A) 19)++iz (aJ A) A):=by
      show World.ownsRow _ _ _ _ _ _ _;rw[d9,a0m,ae G];exact d
     exact oD h9 (ae B5).size
def ip(T:List Tk)(k:Nat):List Int:=fJ (inc (List.replicate 286 0) 256) ((T.take k).map ie)
def fK(T:List Tk)(k:Nat):List Int:=fJ (List.replicate 30 0) ((T.take k).flatMap dS)
theorem ou(T:List Tk)(k:Nat):(ip T k).length=286:=by unfold ip;rw[dU,iG,a0w]
theorem uy(T:List Tk)(k:Nat):(fK T k).length=30:=by unfold fK;rw[dU,a0w]
theorem nJ(T:List Tk)(k:Nat)(h:k<T.length):T.take (k+1)=T.take k++[T.getD k k0]:=by
 rw[a1e h]
 congr 1
 simp[List.getD,h]
theorem EJ(T:List Tk)(k:Nat)(h:k<T.length):ip T (k+1)=inc (ip T k) (ie (T.getD k k0)):=by
 unfold ip;rw[nJ T k h,a0I,a2l,gB]
theorem EK(T:List Tk):ip T 0=(List.replicate 286 (0:Int)).set 256 1:=by
 unfold ip inc;rw[List.take_zero,gQ];rfl
theorem JM(T:List Tk)(k:Nat)(h:k<T.length)(hb:isB (T.getD k k0)=true):fK T (k+1)=fK T k:=by
 unfold fK;rw[nJ T k h,a2E];have:[T.getD k k0].flatMap dS=[]:=by simp only[a06,a2k,a03];unfold dS;rw[a0d hb]
 rw[this,a03]
theorem JN(T:List Tk)(k:Nat)(h:k<T.length)(hb:isB (T.getD k k0)=false):fK T (k+1)=inc (fK T k) (fnd 1 2 (T.getD k k0).2.2.toNat 29):=by
 unfold fK;rw[nJ T k h,a2E];have:[T.getD k k0].flatMap dS=[fnd 1 2 (T.getD k k0).2.2.toNat 29]:=by simp only[a06,a2k,a03];unfold dS;rw[a0e (by rw[hb];exact Bool.false_ne_true)]
 rw[this,gB]
theorem Dg(T:List Tk)(k j:Nat)(a:k<=300):0<=(ip T k).getD j 0/\(ip T k).getD j 0<=301:=by
 unfold ip;rw[jY,kG,gQ];have:((T.take k).map ie).count j<=((T.take k).map ie).length:=a3c;rw[a0N,a0H]at this
 split<;>split<;>omega
theorem xF(T:List Tk)(k j:Nat)(b:k<=300):0<=(fK T k).getD j 0/\(fK T k).getD j 0<=300:=by
 have a:=oj 30 ((T.take k).flatMap dS) j;have h2:=rW (T.take k);rw[a0H]at h2;unfold fK;omega
theorem GK{t:Tk}(h:isB t=true):t.2.1=0:=by unfold isB at h;simp only[a0l,a0u]at h;exact h.1
def qU(w W:World)(B gl gd g4 c4 g6 c6:Nat)(A D:List Int):Prop:=
 (ak W w.heap.size (.slice (some ⟨gl,0,none⟩) 286 286) A/\ak W w.heap.size (.slice (some ⟨gd,0,none⟩) 30 30) D)/\(ak W B (.slice (some ⟨g4,0,none⟩) 28 c4) jo/\ak W B (.slice (some ⟨g6,0,none⟩) 30 c6) jh)/\Below w.heap.size w W/\gl≠gd/\gl<B/\gd<B
theorem qU.drew(h:qU w W B gl gd g4 c4 g6 c6 A D):qU w W.drew B gl gd g4 c4 g6 c6 A D:=⟨h.1,h.2.1,h.2.2.1.drew,h.2.2.2⟩
theorem qU.putL(h:qU w W B gl gd g4 c4 g6 c6 A D)(i:A.length=286)(j:Nat)(x:Int):qU w (W.setCell ⟨gl,j,none⟩ (.int .i64 x)) B gl gd g4 c4 g6 c6 (A.set j x) D:=by
 obtain⟨⟨a,h2⟩,⟨b,c⟩,e,d,f,g⟩:=h;have e3:=b.below.1;have e4:=c.below.1;exact⟨⟨a.put i x,h2.setOther d _⟩,⟨b.setOther (by omega) _,c.setOther (by omega) _⟩,ah e a.below.1 _,d,f,g⟩
theorem qU.putD(h:qU w W B gl gd g4 c4 g6 c6 A D)(i:D.length=30)(j:Nat)(x:Int):qU w (W.setCell ⟨gd,j,none⟩ (.int .i64 x)) B gl gd g4 c4 g6 c6 A (D.set j x):=by
 obtain⟨⟨d,h2⟩,⟨a,b⟩,e,c,f,g⟩:=h;have e3:=a.below.1;have e4:=b.below.1;exact⟨⟨d.setOther c.symm _,h2.put i x⟩,⟨a.setOther (by omega) _,b.setOther (by omega) _⟩,ah e h2.below.1 _,c,f,g⟩
theorem wm(ta:Option Addr)(tcap tn:Nat)(T:List Tk)(w:World)(aa:T.length=tn)(hT:Aj w ta T)(Z:tn<=300)(V:∀t∈T,okT t=true) :
  Calls prog 140 #[.slice ta tn tcap] w fun e w'=>(∃gl gd,e = .returned (.tuple #[.slice (some ⟨gl,0,none⟩) 286 286,.slice (some ⟨gd,0,none⟩) 30 30])/\ak w' w.heap.size (.slice (some ⟨gl,0,none⟩) 286 286) (fC T)/\ak w' w.heap.size (.slice (some ⟨gd,0,none⟩) 30 30) (ck T))/\Below w.heap.size w w':=by
 obtain⟨i0,hi,ab,ac,ad⟩:=a0t Tryz.infoInt;have u:=af aa;have HT:=af hT;have L:=af Z;have ao:=af V;have bc:(tn:Int)<=300:=by omega
 clear aa hT Z V;go_enter func140,ntmps140;go_wp2_with (first
  | (at_make;refine a1y _ rfl _ _ 56 rfl w.heap.size 3 i0 (.int .i64 0) 1 a0D hi ab ac .i64 .i64 _ _ 286 rfl rfl rfl rfl (by rw[ad];omega) (by unfold maxLen;omega) (a0a _) ?_;intro x1 R O;have m:=fL O;have o1:=cZ R;clear O R)
  | (at_make;refine a1y _ rfl _ _ 56 rfl w.heap.size 3 i0 (.int .i64 0) 1 a0D hi ab ac .i64 .i64 _ _ 30 rfl rfl rfl rfl (by rw[ad];omega) (by unfold maxLen;omega) m.size ?_;intro x2 S P;have n:=fL P;have o2:=cZ S;clear P S))
 have lt1:=o1.below.2;have O1:=af (o1.later n (a0a _));have O2:=af o2;have B2:=af (ap m n);have lt2:=o2.below.2;obtain⟨gl,hgl⟩:∃g,w.heap.size=g:=⟨_,rfl⟩;obtain⟨gd,hgd⟩:∃g,x1.heap.size=g:=⟨_,rfl⟩;have a1:gl≠gd:=by omega
 have v:gl<x2.heap.size:=by omega
 have x:gd<x2.heap.size:=by omega
 rw[hgd]at O2;have K:Hid (ak x2 w.heap.size (.slice (some ⟨gl,0,none⟩) 286 286) (List.replicate 286 0)):=by show ak _ _ _ _;have:=ae O1;rw[hgl]at this ⊢;exact this
 rw[hgd];have eg:Value.slice (some ⟨w.heap.size,0,none⟩) 286 286 = .slice (some ⟨gl,0,none⟩) 286 286:=by rw[hgl]
 rw[eg];clear o1 o2 m n lt1 lt2 O1 eg hgl hgd;refine(np _).mono ?_;rintro e x3 ⟨⟨g3,rfl,o3⟩,b3⟩;have R3:=af (o3.rowN rfl);have B3:=af b3;clear o3 b3;go_wp2_with fail;refine(iV _ 28 _ (ae R3)).mono ?_;rintro e x4 ⟨v4,rfl,o4,b4⟩;obtain⟨a4,c4,rfl⟩:=o4.formN eV;obtain⟨g4,rfl⟩:=o4.somes (by rw[eV];omega);have O4:=af (o4.mono (ae B3).size);have B4:=af (ap (ae B3) b4);clear o4 b4 B3 R3;go_wp2_with fail;refine(mZ _).mono ?_;rintro e x5 ⟨⟨g5,rfl,o5⟩,b5⟩;have R5:=af (o5.rowN rfl);have B5:=af (ap (ae B4) b5);have O4':=af ((ae O4).later b5 (a0a _));clear o5 b5 O4;go_wp2_with fail;refine(iU _ 30 _ (ae R5)).mono ?_;rintro e x6 ⟨v6,rfl,o6,b6⟩;obtain⟨a6,c6,rfl⟩:=o6.formN eO;obtain⟨g6,rfl⟩:=o6.somes (by rw[eO];omega);have X:=(ae B5).size;have O4:ak x6 x2.heap.size (.slice (some ⟨g4,0,none⟩) 28 c4) jo:=(ae O4').later b6 (a0a _);have O6:ak x6 x2.heap.size (.slice (some ⟨g6,0,none⟩) 30 c6) jh:=o6.mono X;have B6:=ap (ae B5) b6;have E:qU w x6 x2.heap.size gl gd g4 c4 g6 c6 (List.replicate 286 0) (List.replicate 30 0):=⟨⟨(ae K).later B6 (a0a _),(ae O2).later B6 (a0a _)⟩,⟨O4,O6⟩,ap (ae B2) B6,a1,v,x⟩;have F:=E.putL (a0w ..) 256 1;have e1:(List.replicate 286 (0:Int)).set 256 1=ip T 0:=(EK T).symm;rw[e1]at F;have M:qU w (x6.setCell ⟨gl,256,none⟩ (.int .i64 1)) x2.heap.size gl gd g4 c4 g6 c6 (ip T 0) (fK T 0):=F;obtain⟨f1,f2,_,_⟩:=E.1.1.at (j:=256) (a0w ..) (by omega);clear E F e1 O4 O6 B6 b6 o6 K O2 B2 B4 O4' X R5 B5 v x;generalize x2.heap.size=B at *
 go_wp2_with fail
 go_loopw [8,9] (fun i _ wr=>∃k:Nat,k<=tn/\i = .int .i64 k/\qU w wr B gl gd g4 c4 g6 c6 (ip T k) (fK T k)) (fun i _ _=>tn-(intOf i).toNat)
 case atStart=>exact⟨0,a0g _,rfl,M⟩
 case round=>
  obtain⟨k,hk,rfl,l⟩:=hrel;clear M f1 f2;by_cases H:k<tn
  .
   obtain⟨g,o,rfl,hg,N⟩:=(ae HT) (by rw[ae u];omega);obtain⟨c0,c1,c2⟩:=N k (by rw[ae u];exact H);have d0:=(l.2.2.1.cell (p:=⟨g,o+k*3,none⟩) hg).trans c0;have d1:=(l.2.2.1.cell (p:=⟨g,o+k*3+1,none⟩) hg).trans c1;have d2:=(l.2.2.1.cell (p:=⟨g,o+k*3+2,none⟩) hg).trans c2;have a0:g≠gl:=by have:=l.1.1.below.1;omega
   clear c0 c1 c2;have c:k<T.length:=by rw[ae u];exact H
   have Y:=ae ao (T.getD k k0) (by simp[List.getD,c]);have f:=af (EJ T k c);have a:k<=300:=by have:=ae L;omega
   have Hk:=af H;clear N;cases hb:isB (T.getD k k0)
   .
    have hK:isK (T.getD k k0)=true:=by unfold okT at Y;rw[hb]at Y;simpa using Y
    obtain⟨q1,q2,q3,q4⟩:=sB hK;have r:=af (JN T k c hb);have e2:ie (T.getD k k0)=257+fnd 3 4 (T.getD k k0).2.1.toNat 27:=by unfold ie;rw[a0e (by rw[hb];exact Bool.false_ne_true)]
    rw[e2]at f;obtain⟨y,hy⟩:=a0n (show 0<=(T.getD k k0).2.1 by omega);obtain⟨z,A⟩:=a0n (show 0<=(T.getD k k0).2.2 by omega);rw[hy]at d1 q1 q2 f;rw[A]at d2 q3 q4 r;rw[a0p]at f r;have C:=af (fun W (h:bp W (some ⟨g4,0,none⟩) jo)=>my (some ⟨g4,0,none⟩) c4 28 jo (y:Int) W eV h (by omega) (by omega));have D:=af (fun W (h:bp W (some ⟨g6,0,none⟩) jh)=>my (some ⟨g6,0,none⟩) c6 30 jh (z:Int) W eO h (by omega) (by omega));rw[yT y (by omega) (by omega)]at C;rw[w8 z (by omega) (by omega)]at D;have k1:=f9 3 4 y 27;have k2:=f9 1 2 z 29;clear hb hK c e2 hy A Y;generalize fnd 3 4 y 27=p at *
    generalize fnd 1 2 z 29=q at *
    have m:=Dg T k (257+p) a;have n:=xF T k q a;obtain⟨m1,m2,_,_⟩:=l.1.1.at (j:=257+p) (ou T k) (by omega);have d:=l.putL (ou T k) (257+p) ((ip T k).getD (257+p) 0+1);have el:(ip T k).set (257+p) ((ip T k).getD (257+p) 0+1)=ip T (k+1):=(ae f).symm;rw[el]at d;generalize (ip T k).getD (257+p) 0=ya at *
    obtain⟨m3,m4,_,_⟩:=d.1.2.at (j:=q) (uy T k) (by omega);have G:=d.putD (uy T k) q ((fK T k).getD q 0+1);have ed:(fK T k).set q ((fK T k).getD q 0+1)=fK T (k+1):=(ae r).symm;rw[ed]at G;generalize (fK T k).getD q 0=za at *
    have R1:=af (ae C wr (l.2.1.1.rowN eV));have R2:=af (ae D _ (d.2.1.2.rowN eO));have a9:(wr.setCell ⟨gl,257+p,none⟩ (.int .i64 (ya+1))).cell? ⟨g,o+k*3+2,none⟩=some (.int .i64 (z:Int)):=by
     rw[World.cell?_setCell_other _ _ _ _ (by intro e;simp only[a0A]at e;exact a0 e.1.symm)];exact d2
    have an:=af G;have ba:(257:Int)+(p:Int)<286:=by omega
    have bb:(q:Int)<30:=by omega
    have a5:ya<=301:=m.2;have bk:za<=300:=n.2;have a3:0<=ya:=m.1;have a8:0<=za:=n.1;have y0':¬ (y:Int)=0:=by omega
    clear l d G el ed m n k1 k2 q1 q2 q3 q4 C D a;go_wp2_with fail;refine(ae R1).mono ?_;rintro e x7 ⟨rfl,b⟩;rw[b];clear b x7;go_wp2_with fail;refine(ae R2).mono ?_;rintro e x7 ⟨rfl,b⟩;rw[b];clear b x7;go_wp2;go_roundw
    case rel=>exact⟨k+1,by have:=ae Hk;omega,by go_num,ae an⟩
    case measure=>have:=ae Hk;simp[intOf];omega
   .
    obtain⟨q1,q2⟩:=pF hb;have A:=GK hb;have r:=af (JM T k c hb);have e2:ie (T.getD k k0)=(T.getD k k0).1.toNat:=by unfold ie;rw[a0d hb]
    rw[e2]at f;obtain⟨y,hy⟩:=a0n q1;rw[hy]at d0 q2 f;rw[A]at d1;rw[a0p]at f;clear hb c e2 hy A Y d2 q1;have m:=Dg T k y a;obtain⟨m1,m2,_,_⟩:=l.1.1.at (j:=y) (ou T k) (by omega);have d:=l.drew.putL (ou T k) y ((ip T k).getD y 0+1);have el:(ip T k).set y ((ip T k).getD y 0+1)=ip T (k+1):=(ae f).symm;rw[el,←ae r]at d;generalize (ip T k).getD y 0=ya at *
    have al:=af d;have a5:ya<=301:=m.2;have a3:0<=ya:=m.1;have bd:(y:Int)<286:=by omega
    clear l d el m a q2;go_wp2
    go_region
    go_wp2;go_roundw
    case rel=>exact⟨k+1,by have:=ae Hk;omega,by go_num,ae al⟩
    case measure=>have:=ae Hk;simp[intOf];omega
  .
   have c:T.take k=T:=a0F (by rw[ae u];omega);have Q:k<=300:=by have:=ae L;omega
   have eL:ip T k=fC T:=by unfold ip;rw[c];exact BA T
   have eD:fK T k=ff T:=by unfold fK ff;rw[c]
   have n:=xF T k 0 Q;rw[eL,eD]at l;rw[eD]at n;have HU:=af (sL (some ⟨gd,0,none⟩) 30 30 (ff T) wr (eQ T) (l.1.2.rowN (eQ T)) (by omega));obtain⟨m1,m2,_,_⟩:=l.1.2.at (j:=0) (eQ T) (by omega);have I:=af l;clear l c Q eL eD;by_cases J:us (ff T)=0
   .
    have A:(ff T).getD 0 0=0:=by have:=DI J 0 (by rw[eQ];omega);omega
    have s:=af ((ae I).putD (eQ T) 0 1);have e1:(ff T).set 0 1=ck T:=by unfold ck;rw[a0d J];unfold inc;rw[A];rfl
    rw[e1]at s;rw[J]at HU;clear e1 A n I J;go_wp2_with fail;refine(ae HU).mono ?_;rintro e x7 ⟨rfl,b⟩;rw[b];clear b x7;go_wp2
    go_ret2
    exact⟨⟨gl,gd,rfl,(ae s).1.1,(ae s).1.2⟩,(ae s).2.2.1⟩
   .
    have e1:ff T=ck T:=by unfold ck;rw[a0e J]
    have a2:((us (ff T):Nat):Int)≠0:=by omega
    have a7:(((us (ff T):Nat):Int) == 0)=false:=by simpa using a2
    rw[e1]at I;clear e1 n J;generalize us (ff T)=U at *
    go_wp2_with fail;refine(ae HU).mono ?_;rintro e x7 ⟨rfl,b⟩;rw[b];clear b x7;go_wp2
    go_ret2
    exact⟨⟨gl,gd,rfl,(ae I).1.1,(ae I).1.2⟩,(ae I).2.2.1⟩
theorem uK{g o:Nat}(c:∀i,i<l.length->w.cell? ⟨g,o+i,none⟩=some (.int .i64 (l.getD i 0))):∀j u,(l.map (Value.int .i64))[j]?=some u->w.cell? ((⟨g,o,none⟩:Addr).add j)=some u:=by
 intro j u d;have b:j<l.length:=by have:=(List.getElem?_eq_some_iff.1 d).1;simpa using this
 have a:(⟨g,o,none⟩:Addr).add j=⟨g,o+j,none⟩:=by unfold Addr.add;split<;>simp_all
 rw[a,c j b,←d];simp[List.getD,b]
def j6(l:List Int)(t:List Int):List (Int×Int):=t.map fun x=>pcM l x.toNat
theorem Bw(l t:List Int)(k:Nat)(h:k<t.length):j6 l (t.take (k+1))=j6 l (t.take k)++[pcM l (t.getD k 0).toNat]:=by
 unfold j6;rw[ci t k h,a0I];rfl
theorem Mk(L D:List Int):cU L D++(ev (aJ (L++D)) 19++j6 (aJ (L++D)) (L++D))=cW L D:=rfl
def LR(W:World)(b:Nat)(A l:List Int)(gA g7 gc:Option Addr):Prop:=im W b gA A/\im W b g7 l/\im W b gc (aT l 15).2
theorem LR.keep{W':World}{b:Nat}{gA g7 gc:Option Addr}(h:LR W b A l gA g7 gc)(a:bX b W W'):LR W' b A l gA g7 gc:=⟨h.1.keep a,h.2.1.keep a,h.2.2.keep a⟩
theorem ED(b:Nat)(p:Nat×Nat)(a aD:Option Addr)(cL nL cD nD:Nat)(L D:List Int)(w:World)(ho:jf w b p)(hL:bp w a L)(hD:bp w aD D)(ao:L.length=nL)(an:D.length=nD)
  (l0:257<=nL) (l1:nL<=286) (d0:1<=nD) (d1:nD<=30) (kL:au L=true) (kD:au D=true) (hp:p.2<=1000) :
  Calls prog 143 #[.pointer (some ⟨b,0,none⟩),.slice a nL cL,.slice aD nD cD] w fun e w'=>e = .returned (.tuple #[])/\jf w' b (aV p (cW L D))/\KB b w w':=by
 obtain⟨i0,hi,bc,bd,bk⟩:=a0t Tryz.infoInt;have ab:b<w.heap.size:=Out.lt ho;have HA:Hid (∀x∈L++D,0<=x/\x<=15):=by
  intro x F;rcases a0X.1 F with h|h
  . exact jm kL x h
  . exact jm kD x h
 obtain⟨nA,hnA⟩:∃nA,(L++D).length=nA:=⟨_,rfl⟩;have d3:nA=nL+nD:=by rw[←hnA,a0m,ao,an]
 have K:=af (sQ (L++D) (by omega) (by omega) (ae HA));have HQ:=af (Mk L D);have HU:=af (vI (L++D) (by omega) (ae HA));have d5:=af (vH (L++D) (by omega));have HB:Hid (cU L D=[((nL:Int)-257,5),((nD:Int)-1,5),(15,4)]):=by show cU L D=_;unfold cU;rw[ao,an]
 have bs:Hid (pOk ((nL:Int)-257) 5=true/\pOk ((nD:Int)-1) 5=true):=by
  have:p2 (5:Int).toNat=32:=by decide
  exact⟨aP.2 ⟨by omega,by omega,by rw[this];omega⟩,aP.2 ⟨by omega,by omega,by rw[this];omega⟩⟩
 obtain⟨g,o,rfl,hg,c5⟩:=hL (by omega);obtain⟨g',o',rfl,c6,a1⟩:=hD (by omega);have O:Below w.heap.size w (w.alloc (.cells #[] 3)):=(a0c _ _).alloc (a0a _) _;have a8:World.ownsRow (w.alloc (.cells #[] 3)) w.heap.size 3 1 (.slice (some ⟨w.heap.size,0,none⟩) 0 0) 0 []:=a04 w #[] 0 (a0a _) (by unfold maxLen;omega) rfl;have T:=af (uK (w:=w.alloc (.cells #[] 3)) (g:=g) (o:=o) (l:=L) (fun i hi=>by rw[O.cell (p:=⟨g,o+i,none⟩) hg];exact c5 i hi));have E:Hid (∀W,Below w.heap.size w W->∀j u,(D.map (Value.int .i64))[j]?=some u->W.cell? ((⟨g',o',none⟩:Addr).add j)=some u):=fun W hW=>uK (fun i hi=>by rw[hW.cell (p:=⟨g',o'+i,none⟩) c6];exact a1 i hi);have dv:Hid ((L.map (Value.int .i64)).length=nL*1):=by show _=_;simp[ao]
 have ds:Hid ((D.map (Value.int .i64)).length=nD*1):=by show _=_;simp[an]
 have R:Hid ((0+nL<=maxLen/\(0+nL)*8<=140737488355328)/\(0+nL+nD<=maxLen/\(0+nL+nD)*8<=140737488355328)):=by show(_/\_)/\_/\_;unfold maxLen;omega
 have nLI:(nL:Int)<=286:=by omega
 have nDI:(nD:Int)<=30:=by omega
 have nLI0:(257:Int)<=(nL:Int):=by omega
 have nDI0:(1:Int)<=(nD:Int):=by omega
 have nAI:(nA:Int)<=316:=by omega
 have aa:Hid (1<=nA/\nA<=316/\nA=nL+nD):=by show _/\_;omega
 have HO:=af ho;have Hp:=af hp;clear hL hD kL kD l0 l1 d0 d1 ao an d3 ho hp c5 a1 hg c6;generalize cg:L++D=A at *
 have bl:Hid (L.map (Value.int .i64)++D.map (Value.int .i64)=A.map (Value.int .i64)):=by show _=_;rw[←cg,a0I]
 have m:=af hnA;clear hnA cg;go_enter func143,ntmps143;go_wp2_with (first
  | (at_builtin;refine a0x _ rfl _ _ 56 rfl w.heap.size 3 i0 (.int .i64 0) 1 8 a0D hi bc bd bk rfl (by decide) _ _ _ rfl a8 ⟨g,o,none⟩ nL cL (L.map (Value.int .i64)) rfl (ae dv) (ae T) (a1n .i64 _) (ae R).1.1 (ae R).1.2 O.size ?_;intro v1 x1 s t U;clear U;have Q:Below w.heap.size w x1:=O.grown t O.size (fun j hj=>(a0C a8 j hj).1))
  | (at_builtin;refine a0x _ rfl _ _ 56 rfl w.heap.size 3 i0 (.int .i64 0) 1 8 a0D hi bc bd bk rfl (by decide) _ _ _ rfl s ⟨g',o',none⟩ nD cD (D.map (Value.int .i64)) rfl (ae ds) (ae E _ Q) (a1n .i64 _) (ae R).2.1 (ae R).2.2 Q.size ?_;intro v2 x2 X B U;clear U;have a6:Below w.heap.size w x2:=Q.grown B Q.size (fun j hj=>(a0C s j hj).1))
  | (at_make;refine a1y _ rfl _ _ 56 rfl w.heap.size 3 i0 (.int .i64 0) 1 a0D hi bc bd .i64 .i64 _ _ 19 rfl rfl rfl rfl (by rw[bk];omega) (by unfold maxLen;omega) a6.size ?_;intro x3 Y C))
 have N:ak x2 w.heap.size v2 A:=by
  show World.ownsRow _ _ _ _ _ A.length _;rw[ae m,(ae aa).2.2,←ae bl];simpa using X
 obtain⟨aA,cA,rfl⟩:=N.formN (ae m);obtain⟨gA,rfl⟩:=N.somes (by have:=ae m;have:=ae aa;omega);have c7:=N.below.2;obtain⟨gC,hgC⟩:∃gC,x2.heap.size=gC:=⟨_,rfl⟩;have b3:=fL C;have o2:=cZ Y;rw[hgC]at o2 c7;have cy:=ap a6 b3;have o1:=N.later b3 (a0a _);have eg:gC≠gA:=by omega
 rw[hgC];clear s X Y t B C b3 hgC c7 O Q a6 a8 T E dv ds R bl N
 go_loopw [8] (fun i wr=>∃k:Nat,k<=nA/\i = .int .i64 k/\ak wr w.heap.size (.slice (some ⟨gA,0,none⟩) nA cA) A/\ak wr w.heap.size (.slice (some ⟨gC,0,none⟩) 19 19) (fJ (List.replicate 19 0) ((A.take k).map Int.toNat))/\Below w.heap.size w wr) (fun i _=>nA-(intOf i).toNat)
 case atStart=>exact⟨0,a0g _,rfl,o1,o2,cy⟩
 case round=>
  obtain⟨k,hk,rfl,M,H,r⟩:=hrel;clear o1 o2 cy;by_cases c:k<nA
  .
   obtain⟨c0,_,_,_⟩:=M.at (ae m) c;have c8:A.getD k 0∈A:=by have:=ae m;simp[List.getD,show k<A.length by omega]
   have n:=ae HA _ c8;have f:Hid ((A.take (k+1)).map Int.toNat=(A.take k).map Int.toNat++[(A.getD k 0).toNat]):=by
    show _=_;rw[ci A k (by rw[ae m];exact c),a0I];rfl
   have ba:(fJ (List.replicate 19 0) ((A.take k).map Int.toNat)).length=19:=by rw[dU,a0w]
   obtain⟨y,hy⟩:=a0n n.1;rw[hy]at f c0 n;rw[a0p]at f;have hb:=oj 19 ((A.take k).map Int.toNat) y;have ed:((A.take k).map Int.toNat).length<=nA:=by simp;omega
   obtain⟨e0,e1,e2,e3⟩:=H.at (j:=y) ba (by omega);have hP:=ak.put (w:=wr.drew) (j:=y) ba H ((fJ (List.replicate 19 0) ((A.take k).map Int.toNat)).getD y 0+1);have cu:Hid (∀u,ak (wr.drew.setCell ⟨gC,y,none⟩ u) w.heap.size (.slice (some ⟨gA,0,none⟩) nA cA) A/\Below w.heap.size w (wr.drew.setCell ⟨gC,y,none⟩ u)):=fun u=>⟨ak.setOther (w:=wr.drew) M eg u,ah r.drew e2 u⟩;have HP:Hid (ak (wr.drew.setCell ⟨gC,y,none⟩ (.int .i64 ((fJ (List.replicate 19 0) ((A.take k).map Int.toNat)).getD y 0+1))) w.heap.size (.slice (some ⟨gC,0,none⟩) 19 19) (fJ (List.replicate 19 0) ((A.take (k+1)).map Int.toNat))):=by
    show ak _ _ _ _;rw[ae f,gB];exact hP
   generalize (fJ (List.replicate 19 0) ((A.take k).map Int.toNat)).getD y 0=z at *
   have ek:(y:Int)<19:=by omega
   have el:z<=400:=by have:=ae aa;omega
   have ei:0<=z:=hb.1;have Hk:=af hk;clear hP H M r ed hb n hy c8 hk ba e2 e3;go_wp2
   go_region
   go_wp2;go_roundw
   case rel=>exact⟨k+1,by have:=ae Hk;omega,by go_num,(ae cu _).1,ae HP,(ae cu _).2⟩
   case measure=>simp[intOf];omega
  .
   have dq:A.take k=A:=a0F (by rw[ae m];omega);rw[dq]at H;have ch:ak wr w.heap.size (.slice (some ⟨gC,0,none⟩) 19 19) (nb A):=H;have HL:Hid (Calls prog 142 #[.slice (some ⟨gC,0,none⟩) 19 19,.int .i64 7] wr fun e w'=>(∃v,e = .returned v/\ak w' wr.heap.size v (aJ A))/\Below wr.heap.size wr w'):=uO (some ⟨gC,0,none⟩) 19 19 6 (nb A) wr (fw A) (ch.rowN (fw A)) (by omega) (by omega) (ae d5) (by rw[eE];have h2:=LJ;have:=(ae HU).2;omega) (by omega);have eh:=r.size;have O1:=af M;have B1:=af r;clear dq H ch M r;go_wp2_with fail;refine(ae HL).mono ?_;rintro e x3 ⟨⟨v3,rfl,o3⟩,b3⟩;obtain⟨a3,c3,rfl⟩:=o3.formN (ae K).1;obtain⟨g3,rfl⟩:=o3.somes (by rw[(ae K).1];omega);have O1':=af ((ae O1).later b3 (a0a _));have B3:=af (ap (ae B1) b3);have O3:=af (o3.mono eh);clear o3 b3 HL O1 B1;go_wp2_with fail;refine(pJ (some ⟨g3,0,none⟩) c3 19 (aJ A) x3 (ae K).1 ((ae O3).rowN (ae K).1) (by omega)).mono ?_;rintro e x4 ⟨⟨g4,rfl,o4⟩,b4⟩;have hR:LR x4 b A (aJ A) (some ⟨gA,0,none⟩) (some ⟨g3,0,none⟩) (some ⟨g4,0,none⟩):=⟨eT (ae m) ((ae O1').later b4 (a0a _)) ab,eT (ae K).1 ((ae O3).later b4 (a0a _)) ab,eT ((bz _ 15).trans (ae K).1) (o4.mono (ae B3).size) ab⟩;have a7:=ap (ae B3) b4;have cr:jf x4 b p:=Out.kept (ae HO) a7;have co:KB b w x4:=(KB.refl b w).below a7 (a0s ab);have HR:=af hR;have b5:=af cr;have b0:=af co;clear hR o4 b4 a7 cr co O1' O3 B3;go_wp2_with fail;refine(ew b p ((nL:Int)-257) 5 x4 (ae b5) (ae bs).1 (by have:=ae Hp;omega)).mono ?_;rintro e x5 ⟨rfl,o5,k5⟩;have b6:=af o5;have b9:=af ((ae HR).keep k5.2);have b1:=af ((ae b0).trans k5);have q5:=dH p [((nL:Int)-257,5)] (by intro x F;simp at F;subst F;simp);clear o5 k5 b5 HR b0;go_wp2_with fail;refine(ew b _ ((nD:Int)-1) 5 x5 (ae b6) (ae bs).2 (by have:=ae Hp;simp only[a0E,a00]at q5;omega)).mono ?_;rintro e x6 ⟨rfl,o6,k6⟩;rw[←bi]at o6;have b7:=af o6;have ca:=af ((ae b9).keep k6.2);have b2:=af ((ae b1).trans k6);have q6:=dH p ([((nL:Int)-257,5)]++[((nD:Int)-1,5)]) (by intro x F;simp at F;rcases F with rfl|rfl<;>simp);clear o6 k6 b6 b9 b1;go_wp2_with fail;refine(ew b _ 15 4 x6 (ae b7) (by decide) (by have:=ae Hp;simp only[a0E,a00,a0m]at q6;omega)).mono ?_;rintro e x7 ⟨rfl,o7,k7⟩;rw[←bi]at o7;have o7':jf x7 b (aV p (cU L D++ev (aJ A) 0)):=by rw[ae HB];exact o7
   have cv:=(ae ca).keep k7.2;have cp:=(ae b2).trans k7;clear o7 k7 b7 ca b2 q5 q6;go_wp2_with fail;have d7:=af (dC (ae K).2.1);have cc:Hid (∀l:List (Int×Int),(∀x∈l,x.2<=16)->l.length<=400->(aV p (cU L D++l)).2<=100000):=by
    intro l h1 h2;have h3:=dH p (cU L D++l) (by
     intro x F;rcases a0X.1 F with h|h
     . rw[ae HB]at h;simp at h;rcases h with rfl|rfl|rfl<;>simp
     . exact h1 x h)
    rw[a0m]at h3;have h4:(cU L D).length=3:=rfl;have:=ae Hp;omega
   go_loopw [11] (fun i wr=>∃j:Nat,j<=19/\i = .int .i64 j/\jf wr b (aV p (cU L D++ev (aJ A) j))/\LR wr b A (aJ A) (some ⟨gA,0,none⟩) (some ⟨g3,0,none⟩) (some ⟨g4,0,none⟩)/\KB b w wr) (fun i _=>19-(intOf i).toNat)
   case atStart=>exact⟨0,by omega,rfl,o7',cv,cp⟩
   case round=>
    obtain⟨j,S,rfl,I,a0,al⟩:=hrel;clear o7' cv cp;by_cases c:j<19
    .
     have f:Hid (aV p (cU L D++ev (aJ A) (j+1))=aV (aV p (cU L D++ev (aJ A) j)) [((aJ A).getD (br.getD j 0) 0,3)]):=by show _=_;rw[uV (aJ A) j c,←a0M,bi]
     have bb:=wD j c;have d:=ae cc (ev (aJ A) j) (by intro x F;unfold ev at F;obtain⟨i,_,rfl⟩:=a2C.1 F;simp) (by rw[tq _ _ S];omega);have n:=(ae K).2.2 (br.getD j 0) bb;have d4:=zc j c;have d2:=Out.lt I;have HJ:=af (a0b c (a0b I (a0b a0 al)));have eb:(j:Int)<19:=by omega
     clear I a0 al S;generalize aV p (cU L D++ev (aJ A) j)=P at *
     go_wp2_with fail;refine(yB wr).mono ?_;rintro e x8 ⟨⟨g8,rfl,o8⟩,b8⟩;obtain⟨d8,_,_,_⟩:=o8.at (j:=j) zd c;rw[d4]at d8;have Z:=(ae HJ).2.2.1.keep (bJ b8);have a5:jf x8 b P:=Out.kept (ae HJ).2.1 b8;have a2:=(ae HJ).2.2.2.below b8 (a0s d2);obtain⟨g,o,e,_,dd⟩:=iL Z.2.1 (k:=br.getD j 0) (by rw[(ae K).1];exact bb);cases e
     rw[a0J]at dd;have cs:pOk ((aJ A).getD (br.getD j 0) 0) 3=true:=by
      have:p2 (3:Int).toNat=8:=by decide
      exact aP.2 ⟨by omega,n.1,by rw[this];omega⟩
     generalize (aJ A).getD (br.getD j 0) 0=y at *
     generalize br.getD j 0=q at *
     have ej:(q:Int)<19:=by omega
     have HX:=af (a0b Z a2);have G:=af (ew b P y 3 x8 a5 cs d);have Hj:=af (ae HJ).1;clear o8 b8 Z a5 a2 HJ bb n d4 d cs c;go_wp2_with fail;refine(ae G).mono ?_;rintro e x9 ⟨rfl,o9,k9⟩;rw[←ae f]at o9;have HY:=af (a0b o9 (a0b ((ae HX).1.keep k9.2) ((ae HX).2.trans k9)));clear o9 k9 HX G d8 dd f;go_wp2;go_roundw
     case rel=>exact⟨j+1,by have:=ae Hj;omega,by go_num,(ae HY).1,(ae HY).2.1,(ae HY).2.2⟩
     case measure=>have:=ae Hj;simp[intOf];omega
    .
     have c9:j=19:=by omega
     have eb:¬ (j:Int)<19:=by omega
     rw[c9]at I;have a4:jf wr b (aV p (cU L D++(ev (aJ A) 19++j6 (aJ A) (A.take 0)))):=by
      have e0:ev (aJ A) 19++j6 (aJ A) (A.take 0)=ev (aJ A) 19:=by unfold j6;rw[List.take_zero,a1D,a03]
      rw[e0];exact I
     clear I c S c9;go_wp2_with fail
     go_loopw [12] (fun i wr=>∃j:Nat,j<=nA/\i = .int .i64 j/\jf wr b (aV p (cU L D++(ev (aJ A) 19++j6 (aJ A) (A.take j))))/\LR wr b A (aJ A) (some ⟨gA,0,none⟩) (some ⟨g3,0,none⟩) (some ⟨g4,0,none⟩)/\KB b w wr) (fun i _=>nA-(intOf i).toNat)
     case atStart=>exact⟨0,by omega,rfl,a4,a0,al⟩
     case round=>
      obtain⟨j,hj,rfl,V,J,ad⟩:=hrel;clear a4 a0 al;by_cases c:j<nA
      .
       have ac:j<A.length:=by rw[ae m];exact c
       have f:Hid (aV p (cU L D++(ev (aJ A) 19++j6 (aJ A) (A.take (j+1))))=aV (aV p (cU L D++(ev (aJ A) 19++j6 (aJ A) (A.take j)))) [pcM (aJ A) (A.getD j 0).toNat]):=by show _=_;rw[Bw (aJ A) A j ac,←bi,a0M,a0M]
       have d:=ae cc (ev (aJ A) 19++j6 (aJ A) (A.take j)) (by
        intro x F;rcases a0X.1 F with h|h
        . unfold ev at h;obtain⟨i,_,rfl⟩:=a2C.1 h;simp
        . unfold j6 at h;obtain⟨y,hy,rfl⟩:=a2C.1 h;have h1:=ae HA y (a15 hy);have h2:=(ae K).2.2 y.toNat (by omega);show(aJ A).getD y.toNat 0<=16;omega) (by rw[a0m,tq _ _ (a0a _)];unfold j6;rw[a0N,a0H];have:=ae aa;omega)
       have n:=ae HA (A.getD j 0) (by simp[List.getD,ac]);obtain⟨g,o,e,_,dd⟩:=iL J.1 (k:=j) ac;cases e
       rw[a0J]at dd;obtain⟨q,hq⟩:=a0n n.1;rw[hq]at dd n f;rw[a0p]at f;have a9:=ae d7 q (by rw[(ae K).1];omega);have G:=af (oR b _ (some ⟨g3,0,none⟩) (some ⟨g4,0,none⟩) c3 19 19 q (aJ A) wr V (ae K).1 J.2.1.1 J.2.2.1 (by omega) (by omega) a9.1 a9.2 d);rw[←ae f]at G;have HX:=af (a0b J ad);have Hj:=af c;clear V J ad hj c ac f d n hq a9;go_wp2_with fail;refine(ae G).mono ?_;rintro e x9 ⟨rfl,o9,k9⟩;have HY:=af (a0b o9 (a0b ((ae HX).1.keep k9.2) ((ae HX).2.trans k9)));clear o9 k9 HX G dd;go_wp2;go_roundw
       case rel=>exact⟨j+1,by have:=ae Hj;omega,by go_num,(ae HY).1,(ae HY).2.1,(ae HY).2.2⟩
       case measure=>have:=ae Hj;simp[intOf];omega
      .
       have dl:A.take j=A:=a0F (by rw[ae m];omega);rw[dl,ae HQ]at V;have HY:=af (a0b V ad);clear V J ad dl;go_wp2
       go_end0
       exact⟨rfl,(ae HY).1,(ae HY).2⟩
theorem E5(T:List Tk)(a:T.length<=300)(b:∀t∈T,okT t=true):[(1,1),(2,2)]++(cW (bv T) (cf T)++(T.flatMap (pcT (bv T) (cf T))++[pcS (bv T) 256]))=ir T:=by
 unfold ir;rw[qs (fH T a) (gT T a) _ (fun t c=>lO T a b t c),mD (fH T a) (by have:=(iY T a).1;omega)]
theorem vJ(v1 v2 v3:Value)(A B C:List (Int×Int))(base:Nat)(w:World)(f:Pcs w base v1 A)(h2:Pcs w base v2 B)(g:Pcs w base v3 C)(k:A.length+(B.length+C.length)<=4000) :
  Calls prog 98 #[.slice (some ⟨w.heap.size,0,none⟩) 3 3] (w.alloc (.cells #[v1,v2,v3] 79)) fun e w'=>∃v,e = .returned v/\Pcs w' w.heap.size v (A++(B++C))/\Below w.heap.size w w':=by
 have a:Below w.heap.size w (w.alloc (.cells #[v1,v2,v3] 79)):=(a0c _ _).alloc (a0a _) _;have h:gt (w.alloc (.cells #[v1,v2,v3] 79)) w.heap.size base [(v1,aS A),(v2,aS B),(v3,aS C)]:=by
  intro i j
  match i,j with
  | 0,_=>exact⟨by simp,_,f.later a (a0a _),gG _⟩
  | 1,_=>exact⟨by simp,_,h2.later a (a0a _),gG _⟩
  | 2,_=>exact⟨by simp,_,g.later a (a0a _),gG _⟩
 have b:aH [(v1,aS A),(v2,aS B),(v3,aS C)]=(A++(B++C)).length:=by
  simp only[aH,bS,a0B,a1D,a0P,a3C,kN,a0m];omega
 refine(xy w.heap.size base 3 3 _ _ rfl (by omega) (by omega) h (by rw[b,a0m,a0m];omega)).mono ?_;rintro e x5 ⟨v,rfl,d,hb⟩;refine⟨v,rfl,?_,ap a hb⟩;have c:dQ [(v1,aS A),(v2,aS B),(v3,aS C)]=aS (A++(B++C)):=by
  simp only[dQ,a06,a2k,d9,a03]
 rw[b,c]at d;exact oD (base:=(w.alloc (.cells #[v1,v2,v3] 79)).heap.size) d (by simp)
theorem yl(s:ByteArray)(w:World)(hs:s.size<=300)(hO:ec w) :
  CD 67 #[.string s] w (.string ⟨(lm s).toArray⟩):=by
 have hI:¬ (300:Int)<(s.size:Int):=by omega
 have a6:prog.follows .mixedOrders=true:=by kernel_rfl
 have HS:=af hs;have HO:=af hO;have N:=af (qX s w hs);obtain⟨T,hT⟩:∃T,bg s.data.toList 0=T:=⟨_,rfl⟩;have a:Hid (T.length<=300):=by show _<=_;rw[←hT];exact ij s hs
 have U:Hid (∀t∈T,okT t=true):=by rw[←hT];exact eo s
 have b0:Hid (lm s=cx (ir T)):=by show lm s=_;unfold lm;rw[hT]
 have HT:=af hT;rw[hT]at N;clear hs hO hT;go_enter func67,ntmps67;go_wp2_with fail;refine(ae N).mono ?_;rintro e x1 ⟨⟨gl,gd,rfl,o1,o2⟩,b1⟩;have O:=af (iT (some ⟨gl,0,none⟩) 286 286 (fC T) 15 x1 (eu T) (o1.rowN (eu T)) (by omega));rw[Ke T (ae a)]at O;have O2:=af o2;have B1:=af b1;clear o1 o2 b1 N;go_wp2_with fail;refine(ae O).mono ?_;rintro e x2 ⟨⟨v2,rfl,o3⟩,b2⟩;have k:=(GZ T (ae a)).1;obtain⟨a2,c2,rfl⟩:=o3.formN k;obtain⟨g2,rfl⟩:=o3.somes (by omega);have C:=af (qB g2 0 c2 286 257 (dc 15 (fC T)) x2 k (fun i hi=>by rw[a0J];exact(o3.at k hi).1) o3.cap.1 (by omega) (by omega));have e2:dO (dc 15 (fC T)) 257 286=(bv T).length:=by unfold bv;rw[gX,k]
 rw[e2]at C;have O3:Hid (ak x2 w.heap.size (.slice (some ⟨g2,0,none⟩) (bv T).length c2) (bv T)):=by
  have G:=o3.cut (m:=(bv T).length) k (by have:=iY T (ae a);omega) (by omega);have e3:(dc 15 (fC T)).take (bv T).length=bv T:=by rw[←e2];unfold bv mJ;rw[k]
  rw[e3]at G;exact G.mono (ae B1).size
 have O2':=af ((ae O2).later b2 (a0a _));have B2:=af (ap (ae B1) b2);have p:=af (iY T (ae a));obtain⟨nL,hnL⟩:∃n,(bv T).length=n:=⟨_,rfl⟩;rw[hnL]at C O3 p;have q:=af hnL;clear hnL e2 k o3 b2 O O2 B1;have P:=af (iT (some ⟨gd,0,none⟩) 30 30 (ck T) 15 x2 (eR T) ((ae O2').rowN (eR T)) (by omega));rw[Gi T (ae a)]at P;clear O2';go_wp2_with fail;refine(ae C).mono ?_;rintro e x3 ⟨rfl,bb⟩;rw[bb];clear bb x3 C;go_wp2_with fail;refine(ae P).mono ?_;rintro e x3 ⟨⟨v3,rfl,o4⟩,b3⟩;have l:=(xE T (ae a)).1;obtain⟨a3,c3,rfl⟩:=o4.formN l;obtain⟨g3,rfl⟩:=o4.somes (by omega);have D:=af (qB g3 0 c3 30 1 (dc 15 (ck T)) x3 l (fun i hi=>by rw[a0J];exact(o4.at l hi).1) o4.cap.1 (by omega) (by omega));have e2:dO (dc 15 (ck T)) 1 30=(cf T).length:=by unfold cf;rw[gX,l]
 rw[e2]at D;have O4:Hid (ak x3 w.heap.size (.slice (some ⟨g3,0,none⟩) (cf T).length c3) (cf T)):=by
  have G:=o4.cut (m:=(cf T).length) l (by have:=j8 T (ae a);omega) (by omega);have e3:(dc 15 (ck T)).take (cf T).length=cf T:=by rw[←e2];unfold cf mJ;rw[l]
  rw[e3]at G;exact G.mono (ae B2).size
 have O3':=af ((ae O3).later b3 (a0a _));have B3:=af (ap (ae B2) b3);have r:=af (j8 T (ae a));obtain⟨nD,hnD⟩:∃n,(cf T).length=n:=⟨_,rfl⟩;rw[hnD]at D O4 r;have u:=af hnD;clear hnD e2 l o4 b3 P O3 B2;go_wp2_with fail;refine(ae D).mono ?_;rintro e x4 ⟨rfl,bc⟩;rw[bc];clear bc x4 D;have ad:=af (qC (some ⟨g2,0,none⟩) c2 nL w.heap.size (bv T) x3 (ae q) (bG (ae q) ((ae O3').own (ae q))) (ae B3).size (by have:=ae p;omega));go_wp2_with fail;refine(ae ad).mono ?_;rintro e x4 ⟨⟨c,rfl,k1⟩,b4⟩;have O3:=af ((ae O3').later b4 (a0a _));have O4':=af ((ae O4).later b4 (a0a _));have B4:=af (ap (ae B3) b4);have K1:=af k1;clear k1 b4 ad O3' O4 B3;have ac:=af (nY (some ⟨g3,0,none⟩) c3 nD w.heap.size (cf T) x4 (ae u) (bG (ae u) ((ae O4').own (ae u))) (ae B4).size (by have:=ae r;omega));go_wp2_with fail;refine(ae ac).mono ?_;rintro e x5 ⟨⟨d,rfl,k2⟩,b5⟩;have O3':=af ((ae O3).later b5 (a0a _));have O4:=af ((ae O4').later b5 (a0a _));have B5:=af (ap (ae B4) b5);have x:=af ((ae K1).later b5);have K2:=af k2;have bs:=af (lx (ae x) (ae K2));have L:=(ae x).size;have M:=(ae K2).size;have E:Hid ((c++d).size=38):=by show _=_;rw[a2f,L,M]
 have bd:Hid ((c++d).all (·.oneCell')=true):=by show _=true;rw[Array.all_append,(ae x).one,(ae K2).one];rfl
 have F:Hid ((x5.alloc (.cells jE 137)).there x5.heap.size 0 38):=gN x5 jE _ 38 rfl;have j:Hid (Below x5.heap.size x5 ((x5.alloc (.cells jE 137)).setCells x5.heap.size 0 (c++d).toList)):=below_setCells (a0a _) _ _ _ ((a0c _ _).alloc (a0a _) _);have a7:Hid (((x5.alloc (.cells jE 137)).setCells x5.heap.size 0 (c++d).toList).rangeAt x5.heap.size 0 (c++d).toList):=World.rangeAt_setCells_same (x5.alloc (.cells jE 137)) x5.heap.size 0 (c++d).toList (by rw[a1Q,ae E];exact ae F);have ba:Hid (x5.heap.size<((x5.alloc (.cells jE 137)).setCells x5.heap.size 0 (c++d).toList).heap.size):=by show _<_;rw[size_setCells];simp
 unfold jE at F j a7 ba;clear L M k2 b5 K1 O3 O4' B4 ac;go_wp2_with (first
  | (refine je rfl (.tmp 21) (.tmp 23) rfl c d rfl rfl (ae bs) ?_)
  | (refine wpList_store_mid rfl 137 (.tmp 5) (.tmp 24) rfl x5.heap.size 0 (c++d) rfl rfl (by rw[ae E];exact ae F) (by rw[ae E];exact Tryz.infoBooks) (ae bd) ?_;generalize cv:World.setCells _ x5.heap.size 0 (c++d).toList=x6 at *;clear cv F))
 have a0:=ap (ae B5) (ae j);have f:Hid (∀W,Below x6.heap.size x6 W->W.rangeAt x5.heap.size 0 (c++d).toList):=fun W h=>js (ae a7) h (ae ba);have a1:Below x6.heap.size x6 x6.drew:=(a0c _ x6).drew;have cu:(prog.info? 137).map (·.size)=some (c++d).size:=by rw[ae E];exact Tryz.infoBooks
 have B6:=af a0;have O36:=af ((ae O3').later (ae j) (a0a _));have O46:=af ((ae O4).later (ae j) (a0a _));have bl:Hid (dD x6 w.heap.size (bv T) (cf T) (c++d)):=⟨c,d,rfl,(ae x).later (ae j),(ae K2).later (ae j)⟩;clear a0 O3' O4 x K2 j B5;refine wp_region_held_drew (S:=fun W=>W.rangeAt x5.heap.size 0 (c++d).toList) a6 (ae f _ a1) (fun hS=>?_);refine ag 1 (.slice (some ⟨g2,0,none⟩) nL c2) rfl (by kernel_rfl) (fun _ _ _ h=>h) rfl (?_) hS ?_
 . intro W a5;go_simp
 refine ag 2 (.slice (some ⟨g3,0,none⟩) nD c3) rfl (by kernel_rfl) (fun _ _ _ h=>h) rfl (?_) hS ?_
 . intro W a5;go_simp
 refine wpAnyH_take (i:=4) (v:=.agg (c++d)) rfl (by kernel_rfl) (by kernel_rfl) (by kernel_rfl) (fun _ _ _ h=>h) (dm (by rfl) 137 (.tmp 5) rfl x5.heap.size 0 rfl (c++d) _ (fun _ h=>h) a3b rfl cu) hS ?_;refine ag 5 (.string s) rfl (by kernel_rfl) (fun _ _ _ h=>h) rfl (?_) hS ?_
 . intro W a5;go_simp
 refine ai 0 (by kernel_rfl) rfl fun K b=>?_;go_simp;go_at_call 89;refine(jG 2 _).mono ?_;rintro e x7 ⟨rfl,ab⟩;have g:Below x6.heap.size x6 x7:=by rw[ab];exact a1.alloc (by simp) _
 have a4:Pcs x7 x6.heap.size (.slice (some ⟨x6.heap.size,0,none⟩) 2 2) [(1,1),(2,2)]:=by
  rw[ab];exact a04 x6.drew #[.int .i64 1,.int .i64 1,.int .i64 2,.int .i64 2] 2 (a0a _) (by unfold maxLen;omega) rfl
 have an:=af (wo g2 g3 nL c2 nD c3 w.heap.size (bv T) (cf T) x7 (ae q) (ae u) ((ae O36).later g (a0a _)) ((ae O46).later g (a0a _)) (ae p).1 (ae p).2 (ae r).1 (ae r).2 (fH T (ae a)) (gT T (ae a)) ((ec.later (ae HO) (ae B6)).later g));refine Shut.out b _ _ (ae f _ g) (fun cc=>?_);clear b K ab;refine ai 3 (by kernel_rfl) rfl fun K b=>?_;go_simp;go_at_call 99;refine(ae an).mono ?_;rintro e x8 ⟨v8,rfl,Z,b8⟩;obtain⟨n8,hn8⟩:∃n,(cW (bv T) (cf T)).length=n:=⟨_,rfl⟩;obtain⟨a8,c8,rfl⟩:=Z.formN hn8;have z:Below x6.heap.size x6 x8:=ap g b8;have I:=a4.later b8 (a0a _);have J:Pcs x8 x6.heap.size (.slice a8 n8 c8) (cW (bv T) (cf T)):=oD Z g.size;have Q:=af (tB s w.heap.size (bv T) (cf T) (c++d) x8 (ae HS) ((ae bl).later z) (by have:=ae p;have:=ae q;omega) (by have:=ae r;have:=ae u;omega) (by have:=ae p;have:=ae q;omega) (by rw[ae HT];exact fun t ht=>lO T (ae a) (ae U) t ht));rw[ae HT]at Q;refine Shut.out b _ _ (ae f _ z) (fun cg=>?_);clear b K a4 Z b8 an g cc;refine ai 6 (by kernel_rfl) rfl fun K b=>?_;go_simp;go_at_call 92;refine(ae Q).mono ?_;rintro e x9 ⟨v9,rfl,aa,b9⟩;obtain⟨n9,hn9⟩:∃n,(T.flatMap (pcT (bv T) (cf T))++[pcS (bv T) 256]).length=n:=⟨_,rfl⟩;obtain⟨a9,c9,rfl⟩:=aa.formN hn9;have A:Below x6.heap.size x6 x9:=ap z b9;have p7:=I.later b9 (a0a _);have p8:=J.later b9 (a0a _);have p9:Pcs x9 x6.heap.size (.slice a9 n9 c9) (T.flatMap (pcT (bv T) (cf T))++[pcS (bv T) 256]):=oD aa z.size;refine Shut.out b _ _ (ae f _ A) (fun ch=>?_);clear b K I J aa b9 Q z cg;have V:=E5 T (ae a) (ae U);have Y:=ru T (ae a) (ae U);have X:(ir T).length<=4000:=by
  have:=Y;unfold lOk at this;simp only[a0l,a0u]at this;exact this.2
 have HC:=af (vJ (.slice (some ⟨x6.heap.size,0,none⟩) 2 2) (.slice a8 n8 c8) (.slice a9 n9 c9) [(1,1),(2,2)] (cW (bv T) (cf T)) (T.flatMap (pcT (bv T) (cf T))++[pcS (bv T) 256]) x6.heap.size x9 p7 p8 p9 (by have G:=X;rw[←V]at G;simp only[a0m]at G ⊢;omega));rw[V]at HC;have H:Below x6.heap.size x6 (x9.alloc (.cells #[.slice (some ⟨x6.heap.size,0,none⟩) 2 2,.slice a8 n8 c8,.slice a9 n9 c9] 79)):=A.alloc A.size _;have ao:=af (a0b Y X);clear p7 p8 p9 V Y X hn8 hn9;refine ai 7 (by kernel_rfl) rfl fun K b=>?_;go_simp;refine Shut.out b _ _ (ae f _ H) (fun co=>?_);clear b K;refine ai 8 (by kernel_rfl) rfl fun K b=>?_;go_simp;go_at_call 98;refine(ae HC).mono ?_;rintro e x11 ⟨v11,rfl,B,b6⟩;have y:=ap A b6;obtain⟨a11,ca,rfl⟩:=B.form;refine Shut.out b _ _ (ae f _ y) (fun cp=>?_);clear b K;have al:=af (fG a11 ca (ir T) x11 B.row (by have:=(ae ao).2;omega));rw[dW (ae ao).1]at al;refine ai 9 (by kernel_rfl) rfl fun K b=>?_;go_simp;go_at_call 90;refine(ae al).mono ?_;rintro e x12 ⟨rfl,b7⟩;have o:=ap y b7;refine Shut.out b _ _ (ae f _ o) (fun cr=>?_);clear b K;refine ai 10 (by kernel_rfl) rfl fun K b=>?_;go_simp;refine Shut.out b _ _ (ae f _ o) (fun cs=>?_);clear b K;refine wpAnyH_done (by kernel_rfl) ?_ _;have bk:=af (ap (ae B6) o);clear o y H A hS ch co cp cr cs B;generalize hR:cx (ir T)=R at *
 clear hR;go_wp2;go_ret;exact⟨by rw[ae b0];rfl,ae bk⟩
theorem zl{base cap:Nat}(j:l.length=n)(h:ak w base (.slice a n cap) l):im w w.heap.size a l:=by
 refine⟨h.rowN j,fun k x ex=>?_⟩;subst ex;rcases h.2 with⟨e,_⟩|⟨g,b,f,e,i,d,_⟩
 . cases e
 . simp only[a0K,a0i]at e;obtain⟨rfl,_⟩:=e;refine⟨by have:=dn d;show g≠_;omega,fun c fr=>?_⟩;show w.heap[g]?≠_;rw[d];intro e;cases e
theorem Es{base cap:Nat}{l:List Tk}(j:l.length=n)(h:dN w base (.slice a n cap) l):ql w w.heap.size a l:=by
 refine⟨h.rowN j,fun k x ex=>?_⟩;subst ex;rcases h.2 with⟨e,_⟩|⟨g,b,f,e,i,d,_⟩
 . cases e
 . simp only[a0K,a0i]at e;obtain⟨rfl,_⟩:=e;refine⟨by have:=dn d;show g≠_;omega,fun c fr=>?_⟩;show w.heap[g]?≠_;rw[d];intro e;cases e
theorem uC(g:Nat)(n:Nat)(l:List Int)(w:World)(d:l.length=n)(h:bp w (some ⟨g,0,none⟩) l)(a:1<=n)(c:n<=300)(b:okC l)(f:us l<=300) :
  Calls prog 142 #[.slice (some ⟨g,0,none⟩) n n,.int .i64 15] w fun e w'=>(∃v,e = .returned v/\ak w' w.heap.size v (dc 15 l))/\Below w.heap.size w w':=
 uO (some ⟨g,0,none⟩) n n 14 l w d h a c b (by rw[eE];have h2:=zo;omega) (by omega)
theorem Ew(s:ByteArray)(w:World)(hs:s.size<=300) :
  CD 106 #[.string s] w (.string ⟨(lm s).toArray⟩):=by
 obtain⟨T,hT⟩:∃T,bg s.data.toList 0=T:=⟨_,rfl⟩;have a:Hid (T.length<=300):=by show _<=_;rw[←hT];exact ij s hs
 have u:Hid (∀t∈T,okT t=true):=by rw[←hT];exact eo s
 have aa:Hid (lm s=cx (ir T)):=by show lm s=_;unfold lm;rw[hT]
 have c:=af (oo s w (by omega));rw[hT]at c;clear hs hT;obtain⟨tn,htn⟩:∃tn,T.length=tn:=⟨_,rfl⟩;have l:=af htn;have I:Hid (tn<=300):=by show _<=_;rw[←htn];exact ae a
 clear htn;go_enter func106,ntmps106;go_wp2_with fail;refine(ae c).mono ?_;rintro e x1 ⟨v1,rfl,o1,b1⟩;obtain⟨a1,c1,rfl⟩:=o1.formN (ae l);have B:=af (wm a1 c1 tn T x1 (ae l) (o1.rowN (ae l)) (ae I) (ae u));have O1:=af o1;have B1:=af b1;clear o1 b1 c;go_wp2_with fail;refine(ae B).mono ?_;rintro e x2 ⟨⟨gl,gd,rfl,o2,o3⟩,b2⟩;have O1':=af (dK (ae O1) b2);have B2:=af (ap (ae B1) b2);have D:=af (uC gl 286 (fC T) x2 (eu T) (o2.rowN (eu T)) (by omega) (by omega) (wu T (ae a)) (by have:=(wv T).2;omega));have O3:=af (o3.mono (ae B1).size);have y:Hid (w.heap.size<=x2.heap.size):=(ae B2).size;clear o2 o3 b2 B O1 B1;go_wp2_with fail;refine(ae D).mono ?_;rintro e x3 ⟨⟨v3,rfl,o4⟩,b3⟩;have d:=(GZ T (ae a)).1;obtain⟨a3,c3,rfl⟩:=o4.formN d;obtain⟨g3,rfl⟩:=o4.somes (by omega);have q:=af (sN g3 0 c3 286 257 (dc 15 (fC T)) x3 d (fun i hi=>by rw[a0J];exact(o4.at d hi).1) o4.cap.1 (by omega) (by omega));have e2:dO (dc 15 (fC T)) 257 286=(bv T).length:=by unfold bv;rw[gX,d]
 rw[e2]at q;have O4:Hid (ak x3 w.heap.size (.slice (some ⟨g3,0,none⟩) (bv T).length c3) (bv T)):=by
  have Q:=o4.cut (m:=(bv T).length) d (by have:=iY T (ae a);omega) (by omega);have e3:(dc 15 (fC T)).take (bv T).length=bv T:=by rw[←e2];unfold bv mJ;rw[d]
  rw[e3]at Q;exact Q.mono (ae y)
 have O1:=af (dK (ae O1') b3);have O3':=af ((ae O3).later b3 (a0a _));have B3:=af (ap (ae B2) b3);have b:=af (iY T (ae a));obtain⟨nL,hnL⟩:∃n,(bv T).length=n:=⟨_,rfl⟩;rw[hnL]at q O4 b;have j:=af hnL;clear hnL e2 d o4 b3 D O3 B2 O1' y;go_wp2_with fail;refine(ae q).mono ?_;rintro e x4 ⟨rfl,U⟩;rw[U];clear U x4 q;have E:=af (uC gd 30 (ck T) x3 (eR T) ((ae O3').rowN (eR T)) (by omega) (by omega) (rS T (ae a)) (by have:=(rT T).2;omega));go_wp2_with fail;refine(ae E).mono ?_;rintro e x4 ⟨⟨v4,rfl,o5⟩,b4⟩;have f:=(xE T (ae a)).1;obtain⟨a4,c4,rfl⟩:=o5.formN f;obtain⟨g4,rfl⟩:=o5.somes (by omega);have r:=af (sN g4 0 c4 30 1 (dc 15 (ck T)) x4 f (fun i hi=>by rw[a0J];exact(o5.at f hi).1) o5.cap.1 (by omega) (by omega));have e2:dO (dc 15 (ck T)) 1 30=(cf T).length:=by unfold cf;rw[gX,f]
 rw[e2]at r;have O5:Hid (ak x4 w.heap.size (.slice (some ⟨g4,0,none⟩) (cf T).length c4) (cf T)):=by
  have Q:=o5.cut (m:=(cf T).length) f (by have:=j8 T (ae a);omega) (by omega);have e3:(dc 15 (ck T)).take (cf T).length=cf T:=by rw[←e2];unfold cf mJ;rw[f]
  rw[e3]at Q;exact Q.mono (ae B3).size
 have O1':=af (dK (ae O1) b4);have O4':=af ((ae O4).later b4 (a0a _));have B4:=af (ap (ae B3) b4);have g:=af (j8 T (ae a));obtain⟨nD,hnD⟩:∃n,(cf T).length=n:=⟨_,rfl⟩;rw[hnD]at r O5 g;have k:=af hnD;clear hnD e2 f o5 b4 E O4 O1 O3' B3;go_wp2_with fail;refine(ae r).mono ?_;rintro e x5 ⟨rfl,V⟩;rw[V];clear V x5 r;have h0:Hid (jf (x4.alloc (.cells #[.slice none 0 0,.int .i64 0,.int .i64 0] 195)) x4.heap.size (0,0)):=wF x4 195;have o:Below x4.heap.size x4 (x4.alloc (.cells #[.slice none 0 0,.int .i64 0,.int .i64 0] 195)):=(a0c _ _).alloc (a0a _) _;have RL:Hid (im (x4.alloc (.cells #[.slice none 0 0,.int .i64 0,.int .i64 0] 195)) x4.heap.size (some ⟨g3,0,none⟩) (bv T)):=(zl (ae j) (ae O4')).below o;have RD:Hid (im (x4.alloc (.cells #[.slice none 0 0,.int .i64 0,.int .i64 0] 195)) x4.heap.size (some ⟨g4,0,none⟩) (cf T)):=(zl (ae k) (ae O5)).below o;have RT:Hid (ql (x4.alloc (.cells #[.slice none 0 0,.int .i64 0,.int .i64 0] 195)) x4.heap.size a1 T):=(Es (ae l) (ae O1')).keep (bJ o);have C:Hid (KB x4.heap.size x4 (x4.alloc (.cells #[.slice none 0 0,.int .i64 0,.int .i64 0] 195))):=(KB.refl _ _).below o (a0a _);clear o O1' O4' O5;go_wp2_with fail;refine(ew _ _ 1 1 _ (ae h0) (by decide) (by show(0:Nat)<=_;omega)).mono ?_;rintro e x6 ⟨rfl,o6,W⟩;have H6:=af (a0b o6 ((ae C).trans W));have L:=af ((ae RL).keep W.2);have J:=af ((ae RD).keep W.2);have N:=af ((ae RT).keep W.2);clear o6 W h0 C RL RD RT;go_wp2_with fail;refine(ew _ _ 2 2 _ (ae H6).1 (by decide) (by show(1:Nat)<=_;omega)).mono ?_;rintro e x7 ⟨rfl,o7,X⟩;have H7:=af (a0b o7 ((ae H6).2.trans X));have A:=af ((ae L).keep X.2);have z:=af ((ae J).keep X.2);have O:=af ((ae N).keep X.2);clear o7 X H6 L J N;have F:=af (ED x4.heap.size (aV (aV (0,0) [(1,1)]) [(2,2)]) (some ⟨g3,0,none⟩) (some ⟨g4,0,none⟩) c3 nL c4 nD (bv T) (cf T) x7 (ae H7).1 (ae A).1 (ae z).1 (ae j) (ae k) (ae b).1 (ae b).2 (ae g).1 (ae g).2 (fH T (ae a)) (gT T (ae a)) (by show(3:Nat)<=1000;omega));go_wp2_with fail;refine(ae F).mono ?_;rintro e x8 ⟨rfl,o8,Z⟩;have G:Hid (aV (aV (aV (0,0) [(1,1)]) [(2,2)]) (cW (bv T) (cf T))=aV (0,0) ([(1,1),(2,2)]++cW (bv T) (cf T))):=by
  show _=_;rw[←bi,←bi];rfl
 rw[ae G]at o8;have M:=(ae A).keep Z.2;have K:=(ae z).keep Z.2;have P:=(ae O).keep Z.2;have K8:=af ((ae H7).2.trans Z);have p:=zW (fH T (ae a)) (gT T (ae a)) (by rw[ae j];exact(ae b).1) (by rw[ae j];exact(ae b).2) (by rw[ae k];exact(ae g).1) (by rw[ae k];exact(ae g).2);have S:(aV (0,0) ([(1,1),(2,2)]++cW (bv T) (cf T))).2<=10000:=by
  have h1:=dH (0,0) ([(1,1),(2,2)]++cW (bv T) (cf T)) (by
   intro x hx;rcases a0X.1 hx with h|h
   . simp at h;rcases h with rfl|rfl<;>simp
   . have h3:=p.1;unfold aX at h3;have:=a1m.1 h3 x h;exact(aP.1 this).1.2)
  rw[a0m]at h1;have:=p.2;simp only[a0E,a00]at h1;omega
 have c:=af (qN x4.heap.size _ a1 (some ⟨g3,0,none⟩) (some ⟨g4,0,none⟩) c1 tn c3 nL c4 nD T (bv T) (cf T) x8 o8 P M K (ae l) (ae j) (ae k) (by have:=ae b;omega) (by have:=ae g;omega) (dC (fH T (ae a))) (dC (gT T (ae a))) (by have:=ae b;omega) (by have:=ae I;omega) S (fun t ht=>⟨ae u t ht,lO T (ae a) (ae u) t ht⟩));have H:Hid (aV (aV (0,0) ([(1,1),(2,2)]++cW (bv T) (cf T))) (T.flatMap (ct (bv T) (cf T))++[pcM (bv T) 256])=aW (ir T)):=by
  show aV _ _=_;rw[←bi,a0M];rfl
 rw[ae H]at c;have Hm:Hid ((aW (ir T)).2<=90000):=by
  show _<=_;rw[←ae H,bi];have h1:=kB (bv T) (cf T) T (aV (0,0) ([(1,1),(2,2)]++cW (bv T) (cf T))) (dC (fH T (ae a))) (dC (gT T (ae a))) (fun t ht=>lO T (ae a) (ae u) t ht);have h2:=dH (aV (aV (0,0) ([(1,1),(2,2)]++cW (bv T) (cf T))) (T.flatMap (ct (bv T) (cf T)))) [pcM (bv T) 256] (fun x hx=>by simp only[a08,a2b,a1U]at hx;subst hx;have:=(dC (fH T (ae a)) 256 (by have:=ae j;have:=ae b;omega)).1.2;show(bv T).getD 256 0<=16;omega);have h3:=ae a;simp only[a0E,a00]at h2;omega
 clear o8 Z M K P p S F A z O H7 G;go_wp2_with fail;refine(ae c).mono ?_;rintro e x9 ⟨rfl,o9,k9⟩;have K9:=af ((ae K8).trans k9).1;have O9:=af o9;clear o9 k9 c K8;go_wp2_with fail;refine(kY _ _ _ _ (ae O9) (ae Hm)).mono ?_;rintro e x10 ⟨rfl,h7,b7⟩;obtain⟨_,v,Th,Y⟩:=h7;have e8:8*(((aW (ir T)).2+7)/8)/8=((aW (ir T)).2+7)/8:=by omega
 rw[e8]at Y;have Y':Bys x10 x4.heap.size v (cx (ir T)):=Y;have ac:=kx Y';have HB:=af ((ae K9).trans b7);obtain⟨k0,k1,k2,f0,f1,f2,ab⟩:=Th;clear Y Y' e8 k1 k2 b7 O9;generalize hR:cx (ir T)=R at *
 clear hR;go_wp2;go_ret;exact⟨by rw[ae aa];rfl,ap (ae B4) (ae HB)⟩
def kM(s:ByteArray):List UInt8:=if s.size<=300 then lm s else []
theorem su(s:ByteArray)(w:World)(d:s.size<=1048576)(b:ec w) :
  CD 67 #[.string s] w (.string ⟨(kM s).toArray⟩):=by
 by_cases h:s.size<=300
 . have a:Hid (kM s=lm s):=a0d h;rw[ae a];exact yl s w h b
 .
  have c:(300:Int)<(s.size:Int):=by omega
  have a:Hid (kM s=[]):=a0e h;clear h b;go_enter func67,ntmps67;go_wp2;go_ret;exact⟨by rw[ae a];rfl,a0c _ _⟩
end Go.Proofs.YtggknepmhjfohaaGreatDoor
