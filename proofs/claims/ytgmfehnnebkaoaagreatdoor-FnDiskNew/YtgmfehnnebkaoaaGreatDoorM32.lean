/- Of what the proof is made: 13 texts, one behind the other. -/
import Derived.Test.YtgmfehnnebkaoaaGreatDoorM26
import Derived.Test.YtgmfehnnebkaoaaGreatDoorM31
import Derived.Test.YtgmfehnnebkaoaaGreatDoorM12
import Derived.Deep.RegionHeld3
import Derived.Deep.DeepCutAuto
import Derived.Test.YtgmfehnnebkaoaaGreatDoorM21
import Derived.Test.YtgmfehnnebkaoaaGreatDoorM22
import Derived.Test.YtgmfehnnebkaoaaGreatDoorM3
import Derived.Test.YtgmfehnnebkaoaaGreatDoorM13
import Derived.Test.YtgmfehnnebkaoaaGreatDoorM28
import Derived.Test.YtgmfehnnebkaoaaGreatDoorM25
import Derived.Test.YtgmfehnnebkaoaaGreatDoorM15
import Derived.Test.YtgmfehnnebkaoaaGreatDoorM14
set_option maxRecDepth 100000
set_option linter.unusedSimpArgs false
set_option linter.unusedVariables false
set_option maxHeartbeats 12800000
namespace Go.Proofs.YtgmfehnnebkaoaaGreatDoor
open Go.Proofs.Tryz
open Go.RowKit Corb
variable {D L l:List Int}{a:Option Addr}{b k n:Nat}{w w':World}
def qT(w:World)(b:Nat)(a:Option Addr)(l:List Tk):Prop:=Cj w a l/\(0<l.length->∀x,a=some x->x.block≠b/\∀cur fr,w.heap[x.block]?≠some (.cells cur 5 fr))
theorem qT.keep{l:List Tk}(h:qT w b a l)(k:bT b w w'):qT w' b a l:=by
 by_cases c:0<l.length
 .
  obtain⟨g,o,e,j,m⟩:=h.1 c;obtain⟨f,h2⟩:=h.2 c _ e;have hb:=k.2 g j f h2;refine⟨fun _=>⟨g,o,e,a0h j k.1,fun i n=>?_⟩,fun _ x ex=>?_⟩
  . obtain⟨c0,c1,c2⟩:=m i n;exact⟨by rw[←c0];exact World.cell?_of_block (w:=w) hb,by rw[←c1];exact World.cell?_of_block (w:=w) hb,by rw[←c2];exact World.cell?_of_block (w:=w) hb⟩
  .
   have:x=⟨g,o,none⟩:=by rw[ex]at e;exact a1h e
   subst this;exact⟨f,fun d fr=>by rw[hb];exact h2 d fr⟩
 . exact⟨fun h=>absurd h c,fun h=>absurd h c⟩
theorem Gu{base cap:Nat}{l:List Tk}(k:l.length=n)(h:dR w base (.slice a n cap) l)(hb:b<base):qT w b a l:=by
 refine⟨h.rowN k,fun m x ex=>?_⟩;subst ex;rcases h.2 with⟨e,_⟩|⟨g,c,f,e,i,j,_⟩
 . cases e
 . simp only[a0J,a0k]at e;obtain⟨rfl,_⟩:=e;refine⟨by show g≠b;omega,fun d fr=>?_⟩;show w.heap[g]?≠_;rw[j];intro e;cases e
def cw(L D:List Int)(t:Tk):List (Int×Int):=
 if isB t then [pcM L t.1.toNat]
 else [pcM L (257+fnd 3 4 t.2.1.toNat 27),((t.2.1.toNat:Int)-((stF 3 4 (fnd 3 4 t.2.1.toNat 27)).1:Int),((stF 3 4 (fnd 3 4 t.2.1.toNat 27)).2:Nat)),pcM D (fnd 1 2 t.2.2.toNat 29),((t.2.2.toNat:Int)-((stF 1 2 (fnd 1 2 t.2.2.toNat 29)).1:Int),((stF 1 2 (fnd 1 2 t.2.2.toNat 29)).2:Nat))]
def RR(W:World)(b:Nat)(L D:List Int)(T:List Tk)(a a2 va vb vl vk at_:Option Addr):Prop:=
 (iA W b a L/\iA W b a2 D)/\(iA W b va (bj L 15).2/\iA W b vb (bj D 15).2)/\(iA W b vl kC/\iA W b vk kh)/\qT W b at_ T
theorem RR.keep{W W':World}{T:List Tk}{a2 va vb vl vk at_:Option Addr}(h:RR W b L D T a a2 va vb vl vk at_)(c:bT b W W'):RR W' b L D T a a2 va vb vl vk at_:=
 ⟨⟨h.1.1.keep c,h.1.2.keep c⟩,⟨h.2.1.1.keep c,h.2.1.2.keep c⟩,⟨h.2.2.1.1.keep c,h.2.2.1.2.keep c⟩,h.2.2.2.keep c⟩
def me(l:List Int):Prop:=∀k,k<l.length->(0<=l.getD k 0/\l.getD k 0<=15)/\(0<=(bj l 15).2.getD k 0/\(bj l 15).2.getD k 0<65536)
theorem bD(h:Below w.heap.size w w'):bT b w w':=⟨h.size,fun k a _ _=>h.block k a⟩
theorem lT{g:Nat}{a:Array Value}{t:TypeId}(f:bT b w w')(h:w.heap[g]?=some (Obj.cells a t))(d:g≠b)(i:t≠5):w'.heap[g]?=some (Obj.cells a t):=by
 refine(f.2 g (dm h) d (fun c fr=>?_)).trans h;rw[h];intro e;cases e
 exact i rfl
theorem iS(h:iA w b a l)(f:k<l.length):∃g o,a=some ⟨g,o,none⟩/\g<w.heap.size/\w.cell? ⟨g,o+k,none⟩=some (.int .i64 (l.getD k 0)):=by
 obtain⟨g,o,e,d,c⟩:=h.1 (by omega);exact⟨g,o,e,d,c k f⟩
theorem Bu(y:Nat)(a:3<=y)(b:y<=60):pOk ((y:Int)-((stF 3 4 (fnd 3 4 y 27)).1:Int)) ((stF 3 4 (fnd 3 4 y 27)).2:Nat)=true:=by
 have:(List.range 61).all (fun y=>decide (y<3) || pOk ((y:Int)-((stF 3 4 (fnd 3 4 y 27)).1:Int)) ((stF 3 4 (fnd 3 4 y 27)).2:Nat))=true:=by decide +kernel
 have:=a03.1 this y (List.mem_range.2 (by omega));simp only[a1f,a0p]at this;rcases this with h|h
 . omega
 . exact h
theorem Bt(z:Nat)(a:1<=z)(b:z<=250):pOk ((z:Int)-((stF 1 2 (fnd 1 2 z 29)).1:Int)) ((stF 1 2 (fnd 1 2 z 29)).2:Nat)=true:=by
 have:(List.range 251).all (fun z=>decide (z<1) || pOk ((z:Int)-((stF 1 2 (fnd 1 2 z 29)).1:Int)) ((stF 1 2 (fnd 1 2 z 29)).2:Nat))=true:=by decide +kernel
 have:=a03.1 this z (List.mem_range.2 (by omega));simp only[a1f,a0p]at this;rcases this with h|h
 . omega
 . exact h
theorem dM(p:Nat×Nat)(l:List (Int×Int))(h:∀x∈l,x.2<=16):(aU p l).2<=p.2+16*l.length:=by
 unfold aU nE;induction l generalizing p with
 | nil=>simp[iu]
 | cons x r ih=>
  have b:=h x (by simp);have h2:=ih (p.1+x.1.toNat*2 ^ p.2,p.2+x.2.toNat) (fun y a=>h y (by simp[a]));simp only[a0C,iu,a0A]at *
  omega
theorem wG(L D:List Int)(t:Tk)(gL:me L)(gD:me D)(a:fB L D t):(∀x∈cw L D t,x.2<=16)/\(cw L D t).length<=4:=by
 unfold cw;unfold fB at a
 split
 . rename_i h;rw[a0d h]at a;refine⟨fun x b=>?_,by simp⟩;simp only[a0U,a1r,a1n]at b;subst b;have:=(gL _ a).1.2;show L.getD _ 0<=16;omega
 .
  rename_i h;rw[a0e h]at a;refine⟨fun x b=>?_,by simp⟩;simp only[a0U,a1r,a1n]at b;have s1:=yA (L:=3) (G:=4) (k:=fnd 3 4 t.2.1.toNat 27) (by omega) (by omega) (by omega) (by have:=gn 3 4 t.2.1.toNat 27;omega);have s2:=yA (L:=1) (G:=2) (k:=fnd 1 2 t.2.2.toNat 29) (by omega) (by omega) (by omega) (by have:=gn 1 2 t.2.2.toNat 29;omega);rcases b with rfl|rfl|rfl|rfl
  . have:=(gL _ a.1).1.2;show L.getD _ 0<=16;omega
  . show((_:Nat):Int)<=16;omega
  . have:=(gD _ a.2).1.2;show D.getD _ 0<=16;omega
  . show((_:Nat):Int)<=16;omega
theorem lc(L D:List Int)(T:List Tk)(p:Nat×Nat)(gL:me L)(gD:me D)(a:∀t∈T,fB L D t):(aU p (T.flatMap (cw L D))).2<=p.2+64*T.length:=by
 induction T generalizing p with
 | nil=>simp[aU,nE,iu]
 | cons t r ih=>
  rw[a0S,bm];obtain⟨b,h2⟩:=wG L D t gL gD (a t (by simp));have d:=dM p (cw L D t) b;have e:=ih (aU p (cw L D t)) (fun x c=>a x (by simp[c]));simp only[a0A];omega
theorem qy(a:Option Addr)(cap n:Nat)(l:List Int)(w:World)(d:l.length=n)(h:bo w a l)(c:n<=300) :
  Calls prog 225 #[.slice a n cap] w fun e w'=>(∃g,e = .returned (.slice (some ⟨g,0,none⟩) n n)/\al w' w.heap.size (.slice (some ⟨g,0,none⟩) n n) (bj l 15).2)/\Below w.heap.size w w':=
 (Aa a cap n l w d h c).mono fun _ _ ⟨b,f,hb⟩=>⟨⟨_,b,f⟩,hb⟩
theorem og(w:World):Calls prog 227 #[] w fun e w'=>(∃g,e = .returned (.slice (some ⟨g,0,none⟩) 28 28)/\al w' w.heap.size (.slice (some ⟨g,0,none⟩) 28 28) rt)/\Below w.heap.size w w':=
 (yg w).mono fun _ _ ⟨a,b,hb⟩=>⟨⟨_,a,b⟩,hb⟩
theorem nU(w:World):Calls prog 228 #[] w fun e w'=>(∃g,e = .returned (.slice (some ⟨g,0,none⟩) 30 30)/\al w' w.heap.size (.slice (some ⟨g,0,none⟩) 30 30) qU)/\Below w.heap.size w w':=
 (xx w).mono fun _ _ ⟨a,b,hb⟩=>⟨⟨_,a,b⟩,hb⟩
theorem eW:kC.length=28:=pS _ _ _
theorem eR:kh.length=30:=pS _ _ _
theorem rG(b:Nat)(p:Nat×Nat)(ta a a2:Option Addr)(tcap tn cap n X n2:Nat)(T:List Tk)(L D:List Int)(w:World)(ho:jq w b p)(hT:qT w b ta T)(hL:iA w b a L)(hD:iA w b a2 D)
  (d8:T.length=tn) (hn:L.length=n) (d3:D.length=n2) (d4:n<=300) (d5:n2<=300) (gL:me L) (gD:me D) (a8:256<n) (e9:(tn:Int)<=300) (hp:p.2<=10000)
  (d7:∀t∈T,okT t=true/\fB L D t) :
  Calls prog 196 #[.pointer (some ⟨b,0,none⟩),.slice ta tn tcap,.slice a n cap,.slice a2 n2 X] w fun e w'=>e = .returned (.tuple #[])/\jq w' b (aU p (T.flatMap (cw L D)++[pcM L 256]))/\KB b w w':=by
 have Z:b<w.heap.size:=Out.lt ho;have ba:prog.follows .mixedOrders=true:=by kernel_rfl
 have HT:=af hT;have HO:=af ho;have HL:=af hL;have HD:=af hD;have V:=af d8;have F:=af hn;have B:=af d3;have a3:=af d4;have dq:=af d5;have s:=af gL;have U:=af gD;have M:=af a8;have Hp:=af hp;have b0:=af d7;clear hT ho hL hD d8 hn d3 d4 d5 gL gD a8 hp d7;go_enter func196,ntmps196;go_wp2_with fail;refine(qy a cap n L _ (ae F) (ae HL).1 (ae a3)).mono ?_;rintro e x1 ⟨⟨g1,rfl,o1⟩,b1⟩;have N1:=af (eV ((cq L 15).trans (ae F)) o1 Z);have B1:=af b1;clear o1 b1;go_wp2_with fail;refine(qy a2 X n2 D _ (ae B) ((ae HD).below (ae B1)).1 (ae dq)).mono ?_;rintro e x2 ⟨⟨g2,rfl,o2⟩,b2⟩;have N2:=af (eV ((cq D 15).trans (ae B)) o2 (a0h Z (ae B1).size));have N1':=af ((ae N1).below b2);have B2:=af (ah (ae B1) b2);clear o2 b2 N1 B1;go_wp2_with fail;refine(og _).mono ?_;rintro e x3 ⟨⟨g3,rfl,o3⟩,b3⟩;have R3:=af (o3.rowN rfl);have B3:=af (ah (ae B2) b3);have N1:=af ((ae N1').below b3);have N2':=af ((ae N2).below b3);clear o3 b3 B2 N1' N2;go_wp2_with fail;refine(mt _ 28 _ (ae R3)).mono ?_;rintro e x4 ⟨v4,rfl,o4,b4⟩;obtain⟨a4,c4,rfl⟩:=o4.formN eW;have N4:=af (eV eW o4 (a0h Z (ae B3).size));have B4:=af (ah (ae B3) b4);have N1':=af ((ae N1).below b4);have N2:=af ((ae N2').below b4);clear o4 b4 B3 N1 N2' R3;go_wp2_with fail;refine(nU _).mono ?_;rintro e x5 ⟨⟨g5,rfl,o5⟩,b5⟩;have R5:=af (o5.rowN rfl);have B5:=af (ah (ae B4) b5);have N1:=af ((ae N1').below b5);have N2':=af ((ae N2).below b5);have N4':=af ((ae N4).below b5);clear o5 b5 B4 N1' N2 N4;go_wp2_with fail;refine(ms _ 30 _ (ae R5)).mono ?_;rintro e x6 ⟨v6,rfl,o6,b6⟩;obtain⟨a6,c6,rfl⟩:=o6.formN eR;have N6:=af (eV eR o6 (a0h Z (ae B5).size));have B6:=af (ah (ae B5) b6);have dd:Hid (RR x6 b L D T a a2 (some ⟨g1,0,none⟩) (some ⟨g2,0,none⟩) a4 a6 ta):=
  ⟨⟨(ae HL).below (ae B6),(ae HD).below (ae B6)⟩,⟨(ae N1).below b6,(ae N2').below b6⟩,⟨(ae N4').below b6,ae N6⟩,(ae HT).keep (bD (ae B6))⟩
 have cy:Hid (jq x6 b (aU p ((T.take 0).flatMap (cw L D)))):=Out.kept (ae HO) (ae B6);have cp:Hid (KB b w x6):=(KB.refl b w).below (ae B6) (a0w Z);clear o6 b6 B5 N1 N2' N4' N6 R5 HT HO HL HD B6;go_wp2_with fail
 go_loopw [12,13,14] (fun i _ _ wr=>∃k:Nat,k<=tn/\i = .int .i64 k/\jq wr b (aU p ((T.take k).flatMap (cw L D)))/\RR wr b L D T a a2 (some ⟨g1,0,none⟩) (some ⟨g2,0,none⟩) a4 a6 ta/\KB b w wr) (fun i _ _ _=>tn-(intOf i).toNat)
 case atStart=>exact⟨0,a0g _,rfl,ae cy,ae dd,ae cp⟩
 case round=>
  obtain⟨k,hk,rfl,ho,ch,d2⟩:=hrel;clear cy dd cp;have HO:=af ho;have a1:=af ch;have be:=af d2;have HK:=af hk;have d1:Hid (b<wr.heap.size):=Out.lt ho;clear ho d2 hk;by_cases cg:k<tn
  .
   have e5:(k:Int)<(tn:Int):=by omega
   obtain⟨g,o,rfl,hg,hc⟩:=ch.2.2.2.1 (by rw[ae V];omega);obtain⟨c0,c1,c2⟩:=hc k (by rw[ae V];exact cg);have b7:Hid ((T.take (k+1)).flatMap (cw L D)=(T.take k).flatMap (cw L D)++cw L D (T.getD k k0)):=by
    show(T.take (k+1)).flatMap (cw L D)=_;rw[Eh T k (by rw[ae V];exact cg)];simp
   obtain⟨A,G⟩:=ae b0 (T.getD k k0) (by simp[List.getD,show k<T.length by rw[ae V];exact cg]);have q:Hid ((aU p ((T.take k).flatMap (cw L D))).2<=80000):=by
    show _<=_;have h1:=lc L D (T.take k) p (ae s) (ae U) (fun t ht=>(ae b0 t (a2d ht)).2);have h2:(T.take k).length<=k:=List.length_take_le _ _;have h3:=ae Hp;omega
   clear hc ch;generalize T.getD k k0=t at *
   have O:Hid (aU p ((T.take (k+1)).flatMap (cw L D))=aU (aU p ((T.take k).flatMap (cw L D))) (cw L D t)):=by
    show aU p _=_;rw[ae b7,bm]
   generalize aU p ((T.take k).flatMap (cw L D))=P at *
   have a5:Below wr.heap.size wr (wr.alloc (.cells #[.int .i64 t.1,.int .i64 t.2.1,.int .i64 t.2.2] 300)):=(a0c _ _).alloc (a0a _) _;have ao:Hid (jq (wr.alloc (.cells #[.int .i64 t.1,.int .i64 t.2.1,.int .i64 t.2.2] 300)) b P):=Out.kept (ae HO) a5;have m:=af ((ae a1).keep (bD a5));have N:=af ((ae be).below a5 (a0w (ae d1)));have bb:=af (alloc_at wr (.cells #[.int .i64 t.1,.int .i64 t.2.1,.int .i64 t.2.2] 300));clear a5 HO a1 be;cases Y:isB t
   .
    have hK:isK t=true:=by unfold okT at A;rw[Y]at A;simpa using A
    obtain⟨y0,y1,z0,z1⟩:=tL hK;have eb:t.1=0:=by unfold isK at hK;simp only[a0j,a0p]at hK;exact hK.1.1
    have v:Hid (257+fnd 3 4 t.2.1.toNat 27<n/\fnd 1 2 t.2.2.toNat 29<n2):=by
     have:=G;unfold fB at this;rw[a0e (by simp[Y]),ae F,ae B]at this;exact this
    have a0:Hid (cw L D t=[pcM L (257+fnd 3 4 t.2.1.toNat 27),((t.2.1.toNat:Int)-((stF 3 4 (fnd 3 4 t.2.1.toNat 27)).1:Int),((stF 3 4 (fnd 3 4 t.2.1.toNat 27)).2:Nat)),pcM D (fnd 1 2 t.2.2.toNat 29),((t.2.2.toNat:Int)-((stF 1 2 (fnd 1 2 t.2.2.toNat 29)).1:Int),((stF 1 2 (fnd 1 2 t.2.2.toNat 29)).2:Nat))]):=by
     show cw L D t=_;unfold cw;rw[a0e (by simp[Y])]
    have hy:t.2.1=((t.2.1.toNat:Nat):Int):=by omega
    have hz:t.2.2=((t.2.2.toNat:Nat):Int):=by omega
    have J:3<=t.2.1.toNat/\t.2.1.toNat<=60:=by omega
    have K:1<=t.2.2.toNat/\t.2.2.toNat<=250:=by omega
    have Eok1:=af (Bu t.2.1.toNat J.1 J.2);have Eok2:=af (Bt t.2.2.toNat K.1 K.2);have Sy1:=af (Ay t.2.1.toNat J.1 J.2);have Sy2:=af (yQ t.2.2.toNat K.1 K.2);have e2:=gn 3 4 t.2.1.toNat 27;have e3:=gn 1 2 t.2.2.toNat 29;have At1:=af (Kv (fnd 3 4 t.2.1.toNat 27) (by omega));have At2:=af (I8 (fnd 1 2 t.2.2.toNat 29) (by omega));have eg:=af (Kx (fnd 3 4 t.2.1.toNat 27) (by omega));have eh:=af (Jb (fnd 1 2 t.2.2.toNat 29) (by omega));generalize stF 3 4 (fnd 3 4 t.2.1.toNat 27)=E at *
    generalize stF 1 2 (fnd 1 2 t.2.2.toNat 29)=E' at *
    generalize fnd 3 4 t.2.1.toNat 27=f at *
    generalize fnd 1 2 t.2.2.toNat 29=f' at *
    clear Y hK A G;obtain⟨tx,ty,tz⟩:=t;simp only at eb y0 y1 z0 z1 hy hz J K c0 c1 c2 m N ao bb a0 Eok1 Eok2 Sy1 Sy2 O;generalize ty.toNat=y at *
    generalize tz.toNat=z at *
    subst eb hy hz;have e8:(f:Int)<28:=by omega
    have e4:(f':Int)<30:=by omega
    have ab:Hid (f<28):=by show f<28;omega
    have ac:Hid (f'<30):=by show f'<30;omega
    have el:=aP.1 (ae Eok1);have em:=aP.1 (ae Eok2);have e6:=dn ((y:Int)-(E.1:Int)) (by omega) (by omega);have e7:=dn ((z:Int)-(E'.1:Int)) (by omega) (by omega);clear el em e2 e3 J K;obtain⟨gl,ol,rfl,e1,ey⟩:=iS (ae m).2.2.1.1 (by rw[eW];exact ae ab);obtain⟨gk,ok,rfl,e0,ev⟩:=iS (ae m).2.2.1.2 (by rw[eR];exact ae ac);have cv:=af (fun W (hR:iA W b (some ⟨gl,ol,none⟩) kC)=>nh (some ⟨gl,ol,none⟩) c4 28 kC (y:Int) W eW hR.1 (by omega) (by omega));have cu:=af (fun W (hR:iA W b (some ⟨gk,ok,none⟩) kh)=>nh (some ⟨gk,ok,none⟩) c6 30 kh (z:Int) W eR hR.1 (by omega) (by omega));rw[ae Sy1]at cv;rw[ae Sy2]at cu;have ad:Hid (wr.heap.size≠b):=by show _≠_;have:=ae d1;omega
    clear ey ev e1 e0;go_wp2_with fail;refine(ae cv _ (ae m).2.2.1.1).mono ?_;rintro e w7 ⟨rfl,an⟩;rw[an];clear an;have eI:(257:Int)+(f:Int)=((257+f:Nat):Int):=by omega
    have j:=af (pH b P a (some ⟨g1,0,none⟩) cap n n (257+f) L _ (ae ao) (ae F) (ae m).1.1.1 (ae m).2.1.1.1 (ae v).1 (ae a3) ((ae s) _ (by rw[ae F];exact(ae v).1)).1 ((ae s) _ (by rw[ae F];exact(ae v).1)).2 (by have:=ae q;omega));rw[←eI]at j;clear eI;go_wp2_with fail;refine(ae j).mono ?_;rintro e x7 ⟨rfl,h7,k7⟩;have bk:=af h7;have bs:=af ((ae m).keep k7.2);have cr:=af ((ae N).trans k7);have bc:=af (lT k7.2 (ae bb) (ae ad) (by decide));have ds:Hid ((aU P [pcM L (257+f)]).2<=80100):=by
     show _<=_;have h1:=dM P [pcM L (257+f)] (fun x hx=>by simp only[a0U,a1r,a1n]at hx;subst hx;have:=((ae s) (257+f) (by rw[ae F];exact(ae v).1)).1.2;show L.getD _ 0<=16;omega);have h2:=ae q;simp only[a0A,a0R]at h1;omega
    have H:Hid (∀W,bT b x7 W->W.cell? ⟨wr.heap.size,1,none⟩=some (.int .i64 (y:Nat))/\W.cell? ⟨gl,ol+f,none⟩=some (.int .i64 (E.1:Nat))):=by
     intro W hW;refine⟨br (lT hW (ae bc) (ae ad) (by decide)) 1,?_⟩;obtain⟨g',o',e',_,aa⟩:=iS ((ae bs).2.2.1.1.keep hW) (k:=f) (by rw[eW];exact ae ab);simp only[a0k,a0D,a0P]at e';obtain⟨rfl,rfl⟩:=e';rw[ae At1]at aa;exact aa
    have c8:=af (fun W (hW:jq W b (aU P [pcM L (257+f)]))=>eJ b (aU P [pcM L (257+f)]) ((y:Int)-(E.1:Int)) (E.2:Nat) W hW (ae Eok1) (by have:=ae ds;omega));clear h7 k7 j ao m N bb;go_wp2_with fail;have b9:Below x7.heap.size x7 x7.drew:=(a0c _ x7).drew;go_cut[] (fun wx=>jq wx b (aU (aU P [pcM L (257+f)]) [((y:Int)-(E.1:Int),(E.2:Nat))])/\KB b x7 wx)
    case first=>
     refine wp_region_held_drew (S:=fun W=>W.cell? ⟨wr.heap.size,1,none⟩=some (.int .i64 (y:Nat))/\W.cell? ⟨gl,ol+f,none⟩=some (.int .i64 (E.1:Nat))) ba (ae H _ (bD b9)) (fun u=>?_);refine ag 0 (.pointer (some ⟨b,0,none⟩)) rfl (by kernel_rfl) (fun _ _ _ h=>h) rfl (?_) u ?_
     . intro W c;obtain⟨s0,s1⟩:=c;go_simp
     refine ag 1 (.pointer (some ⟨wr.heap.size,1,none⟩)) rfl (by kernel_rfl) (fun _ _ _ h=>h) rfl (?_) u ?_
     . intro W c;obtain⟨s0,s1⟩:=c;go_simp
     refine ag 2 (.int .i64 (y:Nat)) rfl (by kernel_rfl) (fun _ _ _ h=>h) rfl (?_) u ?_
     . intro W c;obtain⟨s0,s1⟩:=c;go_simp
     refine ag 3 (.slice (some ⟨gl,ol,none⟩) 28 c4) rfl (by kernel_rfl) (fun _ _ _ h=>h) rfl (?_) u ?_
     . intro W c;obtain⟨s0,s1⟩:=c;go_simp
     refine ag 4 (.int .i64 (f:Nat)) rfl (by kernel_rfl) (fun _ _ _ h=>h) rfl (?_) u ?_
     . intro W c;obtain⟨s0,s1⟩:=c;go_simp
     refine ag 5 (.pointer (some ⟨gl,ol+f,none⟩)) rfl (by kernel_rfl) (fun _ _ _ h=>h) rfl (?_) u ?_
     . intro W c;obtain⟨s0,s1⟩:=c;go_simp
     refine ag 6 (.int .i64 (E.1:Nat)) rfl (by kernel_rfl) (fun _ _ _ h=>h) rfl (?_) u ?_
     . intro W c;obtain⟨s0,s1⟩:=c;go_simp
     refine ag 7 (.int .i64 ((y:Int)-(E.1:Int))) rfl (by kernel_rfl) (fun _ _ _ h=>h) rfl (?_) u ?_
     . intro W c;obtain⟨s0,s1⟩:=c;go_simp
     refine ag 9 (.int .i64 (f:Nat)) rfl (by kernel_rfl) (fun _ _ _ h=>h) rfl (?_) u ?_
     . intro W c;obtain⟨s0,s1⟩:=c;go_simp
     refine aj 8 (by kernel_rfl) rfl fun C d=>?_;go_simp;go_at_call 227;refine(og _).mono ?_;rintro e x8 ⟨⟨g8,rfl,o8⟩,b8⟩;have l:Below x7.heap.size x7 x8:=ah b9 b8;have ca:=(o8.at rfl (ae ab)).1;rw[ae eg]at ca;have bl:=af (Out.kept (ae bk) l);clear o8 b8;refine Shut.out d _ _ (ae H _ (bD l)) (fun en=>?_);clear d C;refine aj 10 (by kernel_rfl) rfl fun C d=>?_;go_simp;refine Shut.out d _ _ (ae H _ (bD l)) (fun _=>?_);clear d C;refine aj 11 (by kernel_rfl) rfl fun C d=>?_;go_simp;refine Shut.out d _ _ (ae H _ (bD l)) (fun _=>?_);clear d C;refine aj 12 (by kernel_rfl) rfl fun C d=>?_;go_simp;go_at_call 194;refine(ae c8 _ (ae bl)).mono ?_;rintro e x9 ⟨rfl,h9,k9⟩;have I:=af (a0b h9 (((KB.refl b x7).below l (a0w (Out.lt (ae bk)))).trans k9));refine Shut.out d _ _ (ae H _ ((bD l).trans k9.2)) (fun _=>?_);clear d C h9 k9;refine wpAnyH_done (by kernel_rfl) ?_ _;go_wp2_with fail
     go_meet
     case rel=>exact ae I
    case rest=>
     obtain⟨d6,a7⟩:=hcut;have c5:=af d6;have Q:=af ((ae bs).keep a7.2);have cs:=af ((ae cr).trans a7);have bd:=af (lT a7.2 (ae bc) (ae ad) (by decide));have dv:Hid ((aU (aU P [pcM L (257+f)]) [((y:Int)-(E.1:Int),((E.2:Nat):Int))]).2<=80200):=by
      show _<=_;have h1:=dM (aU P [pcM L (257+f)]) [((y:Int)-(E.1:Int),((E.2:Nat):Int))] (fun x hx=>by simp only[a0U,a1r,a1n]at hx;subst hx;exact(aP.1 (ae Eok1)).1.2);have h2:=ae ds;simp only[a0A,a0R]at h1;omega
     have HE:Hid (∀r,aU P (pcM L (257+f) :: ((y:Int)-(E.1:Int),((E.2:Nat):Int)) :: r)=aU (aU (aU P [pcM L (257+f)]) [((y:Int)-(E.1:Int),((E.2:Nat):Int))]) r):=fun r=>by
      show aU P _=_;rw[←bm,←bm];rfl
     generalize aU (aU P [pcM L (257+f)]) [((y:Int)-(E.1:Int),((E.2:Nat):Int))]=P2 at *
     have a9:=br (ae bd) 2;simp at a9;clear d6 a7 bk bs cr bc H c8 b9;go_wp2_with fail;refine(ae cu _ (ae Q).2.2.1.2).mono ?_;rintro e w7 ⟨rfl,an⟩;rw[an];clear an;have j:=af (pH b P2 a2 (some ⟨g2,0,none⟩) X n2 n2 f' D _ (ae c5) (ae B) (ae Q).1.2.1 (ae Q).2.1.2.1 (ae v).2 (ae dq) ((ae U) _ (by rw[ae B];exact(ae v).2)).1 ((ae U) _ (by rw[ae B];exact(ae v).2)).2 (by have:=ae dv;omega));go_wp2_with fail;refine(ae j).mono ?_;rintro e xa ⟨rfl,ha,ka⟩;have c7:=af ha;have dl:=af ((ae Q).keep ka.2);have ej:=af ((ae cs).trans ka);have ei:=af (lT ka.2 (ae bd) (ae ad) (by decide));have ek:Hid ((aU P2 [pcM D f']).2<=80300):=by
      show _<=_;have h1:=dM P2 [pcM D f'] (fun x hx=>by simp only[a0U,a1r,a1n]at hx;subst hx;have:=((ae U) f' (by rw[ae B];exact(ae v).2)).1.2;show D.getD _ 0<=16;omega);have h2:=ae dv;simp only[a0A,a0R]at h1;omega
     have R:Hid (∀W,bT b xa W->W.cell? ⟨wr.heap.size,2,none⟩=some (.int .i64 (z:Nat))/\W.cell? ⟨gk,ok+f',none⟩=some (.int .i64 (E'.1:Nat))):=by
      intro W hW;refine⟨br (lT hW (ae ei) (ae ad) (by decide)) 2,?_⟩;obtain⟨g',o',e',_,aa⟩:=iS ((ae dl).2.2.1.2.keep hW) (k:=f') (by rw[eR];exact ae ac);simp only[a0k,a0D,a0P]at e';obtain⟨rfl,rfl⟩:=e';rw[ae At2]at aa;exact aa
     have c9:=af (fun W (hW:jq W b (aU P2 [pcM D f']))=>eJ b (aU P2 [pcM D f']) ((z:Int)-(E'.1:Int)) (E'.2:Nat) W hW (ae Eok2) (by have:=ae ek;omega));have co:Hid (aU (aU P2 [pcM D f']) [((z:Int)-(E'.1:Int),((E'.2:Nat):Int))]=aU P2 [pcM D f',((z:Int)-(E'.1:Int),((E'.2:Nat):Int))]):=(bm P2 [pcM D f'] _).symm;clear ha ka j c5 Q cs bd a9;go_wp2_with fail;have d0:Below xa.heap.size xa xa.drew:=(a0c _ xa).drew;refine wp_region_held_drew (S:=fun W=>W.cell? ⟨wr.heap.size,2,none⟩=some (.int .i64 (z:Nat))/\W.cell? ⟨gk,ok+f',none⟩=some (.int .i64 (E'.1:Nat))) ba (ae R _ (bD d0)) (fun u=>?_);refine ag 0 (.pointer (some ⟨b,0,none⟩)) rfl (by kernel_rfl) (fun _ _ _ h=>h) rfl (?_) u ?_
     . intro W c;obtain⟨s0,s1⟩:=c;go_simp
     refine ag 1 (.pointer (some ⟨wr.heap.size,2,none⟩)) rfl (by kernel_rfl) (fun _ _ _ h=>h) rfl (?_) u ?_
     . intro W c;obtain⟨s0,s1⟩:=c;go_simp
     refine ag 2 (.int .i64 (z:Nat)) rfl (by kernel_rfl) (fun _ _ _ h=>h) rfl (?_) u ?_
     . intro W c;obtain⟨s0,s1⟩:=c;go_simp
     refine ag 3 (.slice (some ⟨gk,ok,none⟩) 30 c6) rfl (by kernel_rfl) (fun _ _ _ h=>h) rfl (?_) u ?_
     . intro W c;obtain⟨s0,s1⟩:=c;go_simp
     refine ag 4 (.int .i64 (f':Nat)) rfl (by kernel_rfl) (fun _ _ _ h=>h) rfl (?_) u ?_
     . intro W c;obtain⟨s0,s1⟩:=c;go_simp
     refine ag 5 (.pointer (some ⟨gk,ok+f',none⟩)) rfl (by kernel_rfl) (fun _ _ _ h=>h) rfl (?_) u ?_
     . intro W c;obtain⟨s0,s1⟩:=c;go_simp
     refine ag 6 (.int .i64 (E'.1:Nat)) rfl (by kernel_rfl) (fun _ _ _ h=>h) rfl (?_) u ?_
     . intro W c;obtain⟨s0,s1⟩:=c;go_simp
     refine ag 7 (.int .i64 ((z:Int)-(E'.1:Int))) rfl (by kernel_rfl) (fun _ _ _ h=>h) rfl (?_) u ?_
     . intro W c;obtain⟨s0,s1⟩:=c;go_simp
     refine ag 9 (.int .i64 (f':Nat)) rfl (by kernel_rfl) (fun _ _ _ h=>h) rfl (?_) u ?_
     . intro W c;obtain⟨s0,s1⟩:=c;go_simp
     refine aj 8 (by kernel_rfl) rfl fun C d=>?_;go_simp;go_at_call 228;refine(nU _).mono ?_;rintro e x8 ⟨⟨g8,rfl,o8⟩,b8⟩;have l:Below xa.heap.size xa x8:=ah d0 b8;have ca:=(o8.at rfl (ae ac)).1;rw[ae eh]at ca;have bl:=af (Out.kept (ae c7) l);clear o8 b8;refine Shut.out d _ _ (ae R _ (bD l)) (fun en=>?_);clear d C;refine aj 10 (by kernel_rfl) rfl fun C d=>?_;go_simp;refine Shut.out d _ _ (ae R _ (bD l)) (fun _=>?_);clear d C;refine aj 11 (by kernel_rfl) rfl fun C d=>?_;go_simp;refine Shut.out d _ _ (ae R _ (bD l)) (fun _=>?_);clear d C;refine aj 12 (by kernel_rfl) rfl fun C d=>?_;go_simp;go_at_call 194;refine(ae c9 _ (ae bl)).mono ?_;rintro e x9 ⟨rfl,h9,k9⟩;have I:=af (a0b h9 (((KB.refl b xa).below l (a0w (Out.lt (ae c7)))).trans k9));refine Shut.out d _ _ (ae R _ ((bD l).trans k9.2)) (fun _=>?_);clear d C h9 k9;refine wpAnyH_done (by kernel_rfl) ?_ _;have HX:=af (a0b (ae I).1 (a0b ((ae dl).keep (ae I).2.2) ((ae ej).trans (ae I).2)));clear I;go_wp2;go_roundw
     case rel=>exact⟨k+1,by omega,by go_num,by rw[ae O,ae a0,ae HE,←ae co];exact(ae HX).1,(ae HX).2.1,(ae HX).2.2⟩
     case measure=>simp[intOf];omega
   .
    obtain⟨q1,q2⟩:=qs Y;have cc:Hid (t.1.toNat<n):=by
     have:=G;unfold fB at this;rw[a0d Y,ae F]at this;exact this
    have a0:Hid (cw L D t=[pcM L t.1.toNat]):=by show cw L D t=_;unfold cw;rw[a0d Y]
    have ed:t.2.1=0:=by unfold isB at Y;simp only[a0j,a0p]at Y;exact Y.1
    have hx:t.1=((t.1.toNat:Nat):Int):=by omega
    have j:=af (pH b P a (some ⟨g1,0,none⟩) cap n n t.1.toNat L _ (ae ao) (ae F) (ae m).1.1.1 (ae m).2.1.1.1 (ae cc) (ae a3) ((ae s) _ (by rw[ae F];exact ae cc)).1 ((ae s) _ (by rw[ae F];exact ae cc)).2 (by have:=ae q;omega));rw[←hx]at j;generalize t.1.toNat=xN at *
    clear Y A G hx;obtain⟨tx,ty,tz⟩:=t;simp only at ed q1 q2 c0 c1 c2 j m N;subst ed;go_wp2_with fail;refine(ae j).mono ?_;rintro e x7 ⟨rfl,h7,k7⟩;have HX:=af (a0b h7 (a0b ((ae m).keep k7.2) ((ae N).trans k7)));clear h7 k7 j;go_wp2;go_roundw
    case rel=>exact⟨k+1,by omega,by go_num,by rw[ae O,ae a0];exact(ae HX).1,(ae HX).2.1,(ae HX).2.2⟩
    case measure=>simp[intOf];omega
  .
   obtain rfl:k=tn:=by have:=ae HK;omega
   have O:Hid (aU p (T.flatMap (cw L D)++[pcM L 256])=aU (aU p ((T.take k).flatMap (cw L D))) [pcM L 256]):=by
    show aU p _=_;rw[a0o (by rw[ae V];exact a0a _),bm]
   have q:Hid ((aU p ((T.take k).flatMap (cw L D))).2<=80000):=by
    show _<=_;have h1:=lc L D (T.take k) p (ae s) (ae U) (fun t ht=>(ae b0 t (a2d ht)).2);have h2:(T.take k).length<=k:=List.length_take_le _ _;have h3:=ae Hp;omega
   generalize aU p ((T.take k).flatMap (cw L D))=P at *
   have j:=af (pH b P a (some ⟨g1,0,none⟩) cap n n 256 L _ (ae HO) (ae F) (ae a1).1.1.1 (ae a1).2.1.1.1 (ae M) (ae a3) ((ae s) _ (by rw[ae F];exact ae M)).1 ((ae s) _ (by rw[ae F];exact ae M)).2 (by have:=ae q;omega));go_wp2_with fail;refine(ae j).mono ?_;rintro e x7 ⟨rfl,h7,k7⟩;have HX:=af (a0b h7 ((ae be).trans k7));clear h7 k7 j;go_wp2
   go_end0
   exact⟨rfl,by rw[ae O];exact(ae HX).1,(ae HX).2⟩
theorem EI(h:av l=true)(b:k<l.length):pOk ((bj l 15).2.getD k 0) (l.getD k 0)=true:=by
 have hb:=ml (fV h) b;rw[FU h b];by_cases a:1<=l.getD k 0
 . rw[a0d a];have:=(vK h b a).1;exact aP.2 ⟨⟨hb.1,by omega⟩,by omega,by omega⟩
 .
  rw[a0e a];have e:l.getD k 0=0:=by omega
  rw[e];decide
theorem dF(h:av l=true):me l:=by
 intro k a;have hb:=ml (fV h) a;obtain⟨_,c0,c1⟩:=aP.1 (EI h a);refine⟨hb,c0,?_⟩;have b:p2 (l.getD k 0).toNat<=p2 15:=a0T (by omega) (by omega);have h2:p2 15=32768:=by decide
 omega
theorem np(h:av l=true)(a:k<l.length):pcS l k=pcM l k:=by
 unfold pcS pcM;rw[EG (EI h a)]
theorem Ll(b:av L=true)(c:av D=true){t:Tk}(a:fB L D t):pcT L D t=cw L D t:=by
 unfold pcT cw;unfold fB at a
 split
 . rename_i h;rw[a0d h]at a;rw[np b a]
 . rename_i h;rw[a0e h]at a;rw[np b a.1,np c a.2]
theorem qZ(c:av L=true)(b:av D=true)(T:List Tk)(a:∀t∈T,fB L D t):T.flatMap (pcT L D)=T.flatMap (cw L D):=by
 induction T with
 | nil=>rfl
 | cons t r ih=>rw[a0S,a0S,Ll c b (a t (by simp)),ih (fun x d=>a x (by simp[d]))]
theorem NN(gL:me L)(gD:me D){t:Tk}(c:okT t=true)(a:fB L D t):aW (cw L D t)=true:=by
 unfold cw;unfold fB at a;unfold aW
 split
 . rename_i h;rw[a0d h]at a;simp only[a13,a2P,a2U];exact oq (gL _ a).1
 .
  rename_i h;rw[a0e h]at a;have d:isK t=true:=by unfold okT at c;simp only[a1f]at c;rcases c with b|b;exact absurd b h;exact b
  obtain⟨y0,y1,z0,z1⟩:=tL d;simp only[a13,a2P,a2U,a0j];exact⟨oq (gL _ a.1).1,Bu _ (by omega) (by omega),oq (gD _ a.2).1,Bt _ (by omega) (by omega)⟩
theorem zB(gL:me L)(gD:me D)(T:List Tk)(h:∀t∈T,okT t=true/\fB L D t):aW (T.flatMap (cw L D))=true/\(T.flatMap (cw L D)).length<=4*T.length:=by
 induction T with
 | nil=>exact⟨rfl,by simp⟩
 | cons t r ih=>
  obtain⟨b,h2⟩:=ih (fun x e=>h x (by simp[e]));obtain⟨c,a⟩:=h t (by simp);have f:=(wG L D t gL gD a).2;refine⟨?_,by simp only[a0S,a0i,a0A];omega⟩;have d:=NN gL gD c a;unfold aW at *
  rw[a0S,a12,d,b];rfl
theorem wW(L:List UInt8):∀n p,L.length-p<=n->∀t∈bh L p,okT t=true:=by
 intro n;induction n with
 | zero=>
  intro p b t a;rw[ef (by omega)]at a;cases a
 | succ n ih=>
  intro p b t a;by_cases h:p<L.length
  .
   rw[gX h]at a;rcases a0U.1 a with rfl|a
   . exact sF L p
   . exact ih (p+iv L p) (by have:=(gu L p).1;omega) t a
  . rw[ef h]at a;cases a
theorem eq(s:ByteArray):∀t∈bh s.data.toList 0,okT t=true:=wW s.data.toList s.data.toList.length 0 (by omega)
def gE:List Int:=List.replicate 32 5
theorem ip:av (bQ 288)=true:=by decide +kernel
theorem mq:av gE=true:=by decide +kernel
theorem iT{t:Tk}(_:okT t=true):fB (bQ 288) gE t:=by
 unfold fB
 split
 . rename_i hB;have:=qs hB;rw[cM];omega
 . have a:=gn 3 4 t.2.1.toNat 27;have h2:=gn 1 2 t.2.2.toNat 29;rw[cM];exact⟨by omega,by show _<(List.replicate 32 (5:Int)).length;rw[a0y];omega⟩
def gK(s:ByteArray):List (Int×Int):=[(1,1),(1,2)]++((bh s.data.toList 0).flatMap (cw (bQ 288) gE)++[pcM (bQ 288) 256])
theorem iy(s:ByteArray)(b:s.size<=300):(bh s.data.toList 0).length<=300:=by
 have h2:=wV s.data.toList s.data.toList.length 0 (by omega);have a:s.data.toList.length=s.size:=by simp
 omega
theorem oS(s:ByteArray)(f:s.size<=300):lOk (gK s)=true:=by
 obtain⟨b,h2⟩:=zB (dF ip) (dF mq) (bh s.data.toList 0) (fun t a=>⟨eq s t a,iT (eq s t a)⟩);have g:=iy s f;have c:pOk (pcM (bQ 288) 256).1 (pcM (bQ 288) 256).2=true:=oq (dF ip 256 (by rw[cM];omega)).1;unfold lOk;have d:aW (gK s)=true:=by
  unfold gK;unfold aW at *
  rw[a12,a12,b];simp only[a13,a2P,c];decide
 have e:(gK s).length<=4000:=by unfold gK;simp only[a0i,a0A,a0R];omega
 rw[d];simpa using e
def dL(s:ByteArray):List UInt8:=cz (gK s)
theorem Ag(s:ByteArray)(w:World)(p:s.size<=300) :
  CD 169 #[.string s] w (.string ⟨(dL s).toArray⟩):=by
 have B:Hid (jq (w.alloc (.cells #[.slice none 0 0,.int .i64 0,.int .i64 0] 272)) w.heap.size (0,0)):=yo w 272;have d:Hid (KB w.heap.size w (w.alloc (.cells #[.slice none 0 0,.int .i64 0,.int .i64 0] 272))):=(KB.refl _ _).below ((a0c _ _).alloc (a0a _) _) (a0a _);have r:=af p;have u:Hid (aU (aU (aU (0,0) [(1,1)]) [(1,2)]) ((bh s.data.toList 0).flatMap (cw (bQ 288) gE)++[pcM (bQ 288) 256])=aV (gK s)):=by
  show aU _ _=_;rw[←bm,←bm];rfl
 have H:Hid ((aV (gK s)).2<=90000):=by
  show _<=_;rw[←ae u,bm];have N:=lc (bQ 288) gE (bh s.data.toList 0) (aU (aU (0,0) [(1,1)]) [(1,2)]) (dF ip) (dF mq) (fun t g=>iT (eq s t g));have h2:=dM (aU (aU (aU (0,0) [(1,1)]) [(1,2)]) ((bh s.data.toList 0).flatMap (cw (bQ 288) gE))) [pcM (bQ 288) 256] (fun x D=>by simp only[a0U,a1r,a1n]at D;subst D;have:=(dF ip 256 (by rw[cM];omega)).1.2;show(bQ 288).getD 256 0<=16;omega);have O:=iy s p;have P:(aU (aU (0,0) [(1,1)]) [(1,2)]).2=3:=rfl;simp only[a0A,a0R]at h2;omega
 clear p;go_enter func169,ntmps169;go_wp2_with fail;refine(eJ _ _ 1 1 _ (ae B) (by decide) (by show(0:Nat)<=_;omega)).mono ?_;rintro e x1 ⟨rfl,o1,h⟩;have m:=af (a0b o1 ((ae d).trans h));clear o1 h B d;go_wp2_with fail;refine(eJ _ _ 1 2 _ (ae m).1 (by decide) (by show(1:Nat)<=_;omega)).mono ?_;rintro e x2 ⟨rfl,o2,i⟩;have n:=af (a0b o2 ((ae m).2.trans i));have a:Hid (w.heap.size<x2.heap.size):=Out.lt o2;clear o2 i m;go_wp2_with fail;refine(pe s _ (by have:=ae r;omega)).mono ?_;rintro e x3 ⟨v3,rfl,o3,z⟩;obtain⟨tn,htn⟩:∃tn,(bh s.data.toList 0).length=tn:=⟨_,rfl⟩;obtain⟨a3,c3,rfl⟩:=o3.formN htn;have N3:=af (Gu htn o3 (ae a));have j:=af z;clear o3 z;go_wp2_with fail;refine(Ae _).mono ?_;rintro e x4 ⟨v4,rfl,o4,o⟩;obtain⟨a4,c4,rfl⟩:=o4.formN (cM 288);have N4:=af (eV (cM 288) o4 (a0h (ae a) (ae j).size));have N3':=af ((ae N3).keep (bD o));have k:=af (ah (ae j) o);clear o4 o N3 j;go_wp2_with fail;refine(Ad _).mono ?_;rintro e x5 ⟨v5,rfl,o5,f⟩;have b:(List.replicate 32 (5:Int)).length=32:=a0y;obtain⟨a5,J,rfl⟩:=o5.formN b;have N5:=af (eV b o5 (a0h (ae a) (ae k).size));have N3:=af ((ae N3').keep (bD f));have N4':=af ((ae N4).below f);have l:=af (ah (ae k) f);have O5:=af (Out.kept (ae n).1 (ae l));have y:=af ((ae n).2.below (ae l) (a0w (ae a)));have q:Hid ((tn:Int)<=300):=by show(tn:Int)<=300;have:=iy s (ae r);omega
 have c:=af (rG w.heap.size (aU (aU (0,0) [(1,1)]) [(1,2)]) a3 a4 a5 c3 tn c4 288 J 32 (bh s.data.toList 0) (bQ 288) gE x5 (ae O5) (ae N3) (ae N4') (ae N5) htn (cM 288) b (by omega) (by omega) (dF ip) (dF mq) (by omega) (ae q) (by show(3:Nat)<=10000;omega) (fun t g=>⟨eq s t g,iT (eq s t g)⟩));rw[ae u]at c;clear o5 f N3' N4 N5 k b htn;go_wp2_with fail;refine(ae c).mono ?_;rintro e x6 ⟨rfl,o6,E⟩;have I:=af ((ae y).trans E).1;have O6:=af o6;clear o6 E c N3 N4' O5 y l n;go_wp2_with fail;refine(lB _ _ _ _ (ae O6) (ae H)).mono ?_;rintro e x7 ⟨rfl,K,A⟩;obtain⟨_,v,T,Y⟩:=K;have e8:8*(((aV (gK s)).2+7)/8)/8=((aV (gK s)).2+7)/8:=by omega
 rw[e8]at Y;have Y':Bys x7 w.heap.size v (dL s):=Y;have M:=kX Y';have F:=af ((ae I).trans A);obtain⟨k0,h,i,f0,f1,f2,L⟩:=T;clear Y Y' e8 h i A O6;generalize C:dL s=R at *
 have G:=af C;clear C;go_wp2;go_ret;exact⟨by rw[ae G];rfl,ae F⟩
def kZ(s:ByteArray):List UInt8:=if s.size<=300 then dL s else []
theorem Ge(s:ByteArray):[(1,1),(1,2)]++((bh s.data.toList 0).flatMap (pcT (bQ 288) gE)++[pcS (bQ 288) 256])=gK s:=by
 unfold gK;rw[qZ ip mq _ (fun t a=>iT (eq s t a)),np ip (by rw[cM];omega)]
theorem Hw{base cap:Nat}{l:List (Int×Int)}(f:l.length=n)(h:Pcs w base (.slice a n cap) l)(d:0<n):∃g,a=some ⟨g,0,none⟩/\∀(j:Nat) (u:Value),(aR l)[j]?=some u->w.cell? ((⟨g,0,none⟩:Addr).add j)=some u:=by
 rcases h.2 with⟨_,e⟩|⟨g,b,c,e,_⟩
 . omega
 . simp only[a0J]at e;obtain⟨rfl,_,rfl⟩:=e;exact⟨g,rfl,a1V h rfl⟩
theorem vt(s:ByteArray)(w:World)(I:s.size<=300) :
  CD 80 #[.string s] w (.string ⟨(dL s).toArray⟩):=by
 obtain⟨i0,Z,N,O,P⟩:=a0r Tryz.infoPiece;have hI:¬ (300:Int)<(s.size:Int):=by omega
 have A:Hid ((w.alloc (.cells #[.int .i64 1,.int .i64 1,.int .i64 1,.int .i64 2] 139)).ownsRow w.heap.size 139 2 (.slice (some ⟨w.heap.size,0,none⟩) 2 2) 2 [.int .i64 1,.int .i64 1,.int .i64 1,.int .i64 2]):=a0Y w #[.int .i64 1,.int .i64 1,.int .i64 1,.int .i64 2] 2 (a0a _) (by unfold maxLen;omega) rfl;have y:Hid (Below w.heap.size w (w.alloc (.cells #[.int .i64 1,.int .i64 1,.int .i64 1,.int .i64 2] 139))):=(a0c _ _).alloc (a0a _) _;have Y:=af I;have L:=af (Ge s);have HP:Hid (pt (gK s)=dL s):=ea (oS s I);have n:Hid ((gK s).length<=4000):=by
  have:=oS s I;unfold lOk at this;simp only[a0j,a0p]at this;exact this.2
 clear I;go_enter func80,ntmps80;go_wp2_with fail;refine(jP 1 w).mono ?_;rintro e x1 ⟨rfl,k⟩;have p:=af (show x1.ownsRow w.heap.size 139 2 (.slice (some ⟨w.heap.size,0,none⟩) 2 2) 2 [.int .i64 1,.int .i64 1,.int .i64 1,.int .i64 2] by rw[k];exact ae A);have o:=af (show Below w.heap.size w x1 by rw[k];exact ae y);clear k A y;go_wp2_with fail;refine(mb _).mono ?_;rintro e x2 ⟨⟨C,rfl,z⟩,f⟩;have r:=af (dO (ae p) f);have q:=af (ah (ae o) f);have l:=af z;clear z f p o;go_wp2_with fail;refine(uJ s _ (bQ 288) gE C _ (ae Y) (ae l) (by rw[cM];omega) (by show(List.replicate 32 (5:Int)).length<=300;rw[a0y];omega) (by rw[cM];omega) (fun t ht=>iT (eq s t ht))).mono ?_;rintro e x3 ⟨v,rfl,i,h⟩;have x:=af (dO (ae r) h);have u:=af (ah (ae q) h);clear h r q l;generalize B:(bh s.data.toList 0).flatMap (pcT (bQ 288) gE)++[pcS (bQ 288) 256]=R at *
 have M:0<R.length:=by rw[←B];simp
 obtain⟨m,hm⟩:∃m,R.length=m:=⟨_,rfl⟩;obtain⟨va,vc,rfl⟩:∃a cap,v = .slice a m cap:=by
  rcases i.2 with⟨_,h0⟩|⟨g,cap,_,e,_⟩
  . omega
  . exact⟨_,cap,by rw[←hm];exact e⟩
 obtain⟨g3,rfl,G⟩:=Hw hm i (by omega);have K:=af G;have S:=af hm;have T:Hid (2+m<=maxLen/\(2+m)*16<=140737488355328):=by
  show _/\_;have U:=ae n;rw[←ae L,a0i,hm]at U;unfold maxLen;simp only[a0A,a0R]at U;omega
 have F:=(ae u).size;clear B M i G hm;go_wp2_with (at_builtin;refine a0B _ rfl _ _ 136 rfl w.heap.size 139 i0 (.agg #[.int .i64 0,.int .i64 0]) 2 16 a1q Z N O P rfl (by decide) (.slice (some ⟨w.heap.size,0,none⟩) 2 2) _ _ rfl (ae x) ⟨g3,0,none⟩ m vc (aR R) rfl (by rw[lp,ae S]) (ae K) (gT R) (ae T).1 (ae T).2 F ?_;intro v' x4 c b H;clear H);have W:([.int .i64 1,.int .i64 1,.int .i64 1,.int .i64 2]:List Value)++aR R=aR (gK s):=by rw[←ae L,ee];rfl
 have V:2+m=(gK s).length:=by rw[←ae L,a0i,ae S];rfl
 rw[W,V]at c;have d:Pcs x4 w.heap.size v' (gK s):=c;obtain⟨a4,c4,rfl⟩:=d.form;have D:Below w.heap.size w x4:=(ae u).grown b F (fun j hj=>(a0E (ae x) j hj).1);refine(fI a4 c4 (gK s) _ d.row (by have:=ae n;omega)).mono ?_;rintro e x5 ⟨rfl,E⟩;rw[ae HP];have J:=af (ah D E);clear W V c d D E b;generalize B:dL s=Q at *
 have X:=af B;clear B;go_wp2;go_ret;exact⟨by rw[ae X];rfl,ae J⟩
theorem qk(s:ByteArray)(w:World)(c:s.size<=1048576) :
  CD 80 #[.string s] w (.string ⟨(kZ s).toArray⟩):=by
 by_cases h:s.size<=300
 . have a:Hid (kZ s=dL s):=a0d h;rw[ae a];exact vt s w h
 .
  have b:(300:Int)<(s.size:Int):=by omega
  have a:Hid (kZ s=[]):=a0e h;clear h;go_enter func80,ntmps80;go_wp2;go_ret;exact⟨by rw[ae a];rfl,a0c _ _⟩
def byS(s:ByteArray):ByteArray:=⟨(fs s.data.toList).toArray⟩
def byF(s:ByteArray):ByteArray:=⟨(kZ s).toArray⟩
theorem yZ(s:ByteArray)(h:¬ s.size<=300):byS s=⟨#[]⟩:=by
 have:fs s.data.toList=[]:=by unfold fs;rw[a0e (by rw[iQ];exact h)]
 unfold byS;rw[this]
theorem yX(s:ByteArray)(h:¬ s.size<=300):byF s=⟨#[]⟩:=by unfold byF kZ;rw[a0e h]
def inc(o:List Int)(k:Nat):List Int:=o.set k (o.getD k 0+1)
def fQ(o:List Int)(s:List Nat):List Int:=s.foldl inc o
theorem iP(o:List Int)(k:Nat):(inc o k).length=o.length:=by simp[inc]
theorem dZ(o:List Int)(s:List Nat):(fQ o s).length=o.length:=by
 induction s generalizing o with
 | nil=>rfl
 | cons x s ih=>show(fQ (inc o x) s).length=_;rw[ih,iP]
theorem gP(o:List Int)(s:List Nat)(x:Nat):fQ o (s++[x])=inc (fQ o s) x:=by simp[fQ]
theorem lj(o:List Int)(k j:Nat):(inc o k).getD j 0=o.getD j 0+(if j=k/\k<o.length then 1 else 0):=by
 unfold inc;simp only[List.getD_eq_getElem?_getD,List.getElem?_set];by_cases h:k=j
 .
  subst h;by_cases a:k<o.length
  . simp[a]
  . simp[a]
 . have:¬ j=k:=fun e=>h e.symm;simp[h,this]
theorem kx(o:List Int)(s:List Nat)(j:Nat):(fQ o s).getD j 0=o.getD j 0+(if j<o.length then(s.count j:Int)else 0):=by
 induction s generalizing o with
 | nil=>simp[fQ]
 | cons x s ih=>
  show(fQ (inc o x) s).getD j 0=_;rw[ih,lj,iP,List.count_cons];by_cases h:j=x
  .
   subst h;by_cases a:j<o.length
   . simp[a];omega
   . simp[a]
  .
   have:(x == j)=false:=by simp;exact fun e=>h e.symm
   simp[h,this]
theorem GI{a b:List Int}(d:a.length=b.length)(h:∀j,j<a.length->a.getD j 0=b.getD j 0):a=b:=by
 apply a2p d;intro i c h2;have:=h i c;simpa[List.getD,c,h2]using this
theorem g9(n j:Nat):(List.replicate n (0:Int)).getD j 0=0:=by
 by_cases h:j<n<;>simp[List.getD,h]
theorem yI   (hk : k < l.length) (h : 0 < l.getD k 0) : 1 ≤ us l := by
  induction l generalizing k with
  | nil => simp at hk
  | cons b l ih =>
    simp only [us, a0C, a0M] at ih ⊢
    cases k with
    | zero => have : 0 < b := by simpa using h
              rw [a0d this]; omega
    | succ k => have := ih (k := k) (by simpa using hk) (by simpa using h); omega
theorem Fy(h:us l=0)(k:Nat)(a:k<l.length):¬ 0<l.getD k 0:=fun b=>by have:=yI a b;omega
def ir(t:Tk):Nat:=if isB t then t.1.toNat else 257+fnd 3 4 t.2.1.toNat 27
def dX(t:Tk):List Nat:=if isB t then []else [fnd 1 2 t.2.2.toNat 29]
theorem Nt{t:Tk}(_:okT t=true):ir t<286:=by
 unfold ir
 split
 . rename_i hB;have:=qs hB;omega
 . have:=gn 3 4 t.2.1.toNat 27;omega
theorem Js{t:Tk} : ∀x∈dX t,x<30:=by
 unfold dX;intro x a
 split at a
 . simp at a
 . have:=gn 1 2 t.2.2.toNat 29;simp at a;omega
def fF(T:List Tk):List Int:=inc (fQ (List.replicate 286 0) (T.map ir)) 256
def fg(T:List Tk):List Int:=fQ (List.replicate 30 0) (T.flatMap dX)
def ck(T:List Tk):List Int:=if us (fg T)=0 then inc (fg T) 0 else fg T
theorem eG(T:List Tk):(fF T).length=286:=by unfold fF;rw[iP,dZ,a0y]
theorem eT(T:List Tk):(fg T).length=30:=by unfold fg;rw[dZ,a0y]
theorem eU(T:List Tk):(ck T).length=30:=by unfold ck;split;rw[iP,eT];exact eT T
theorem pi(T:List Tk)(j:Nat)(a:j<286):(fF T).getD j 0=((T.map ir).count j:Int)+(if j=256 then 1 else 0):=by
 unfold fF;rw[lj,kx,dZ,a0y,g9,a0d a];by_cases h:j=256<;>simp[h]
theorem p6(T:List Tk)(j:Nat)(a:j<30):(fg T).getD j 0=((T.flatMap dX).count j:Int):=by
 unfold fg;rw[kx,a0y,g9,a0d a];simp
theorem DG(T:List Tk):fQ (inc (List.replicate 286 0) 256) (T.map ir)=fF T:=by
 apply GI
 . rw[dZ,iP,eG,a0y]
 . intro j a;rw[dZ,iP,a0y]at a;rw[pi T j a,kx,lj,iP,a0y,g9,a0d a];by_cases h:j=256<;>simp[h];omega
theorem tj(T:List Tk):(T.flatMap dX).length<=T.length:=by
 induction T with
 | nil=>simp
 | cons t r ih=>
  have:(dX t).length<=1:=by unfold dX;split<;>simp
  simp only[a0S,a0i,a0A];omega
theorem yb(T:List Tk)(c:T.length<=300):okC (fF T):=by
 intro i a;rw[eG]at a;rw[pi T i a];have b:(T.map ir).count i<=(T.map ir).length:=a3d;rw[a0N]at b
 split<;>omega
theorem Jr(T:List Tk)(c:T.length<=300):∀i,i<30->0<=(fg T).getD i 0/\(fg T).getD i 0<=300:=by
 intro i a;rw[p6 T i a];have b:(T.flatMap dX).count i<=(T.flatMap dX).length:=a3d;have h2:=tj T;omega
theorem te(T:List Tk)(b:T.length<=300):okC (ck T):=by
 intro i a;rw[eU]at a;have:=Jr T b i a;unfold ck
 split
 . rw[lj];split<;>omega
 . omega
theorem yd(T:List Tk):1<=us (fF T)/\us (fF T)<=286:=by
 refine⟨yI (k:=256) (by rw[eG];omega) ?_,by have:=rK (fF T);rw[eG]at this;exact this⟩;rw[pi T 256 (by omega),a0d rfl];omega
theorem tf(T:List Tk):1<=us (ck T)/\us (ck T)<=30:=by
 refine⟨?_,by have:=rK (ck T);rw[eU]at this;exact this⟩;unfold ck
 split
 . rename_i h;refine yI (k:=0) (by rw[iP,eT];omega) ?_;rw[lj,p6 T 0 (by omega),eT,a0d (by omega)];omega
 . omega
theorem FZ(T:List Tk)(j:Nat)(h:0<(fg T).getD j 0):0<(ck T).getD j 0:=by
 unfold ck
 split
 . rw[lj];split<;>omega
 . exact h
def dS(l:List Int)(least:Nat):Nat->Nat
 | 0=>0
 | n+1=>if least<n+1/\l.getD n 0=0 then dS l least n else n+1
def nB(l:List Int)(least:Nat):List Int:=l.take (dS l least l.length)
theorem pY{least:Nat}(h:least<n+1/\l.getD n 0=0):dS l least (n+1)=dS l least n:=by simp only[dS];rw[a0d h]
theorem m8{least:Nat}(h:¬ (least<n/\l.getD (n-1) 0=0)):dS l least n=n:=by
 cases n with
 | zero=>rfl
 | succ n=>rw[a3v]at h;simp only[dS];rw[a0e h]
theorem si(l:List Int)(least n:Nat):dS l least n<=n:=by
 induction n with
 | zero=>exact a0a _
 | succ n ih=>simp only[dS];split<;>omega
theorem sY (l : List Int) (least n : Nat) (h : least ≤ n) : least ≤ dS l least n := by
  induction n with
  | zero => exact h
  | succ n ih => simp only [dS]; split
                 . exact ih (by omega)
                 . exact h
theorem vM(l:List Int)(least n j:Nat)(a:dS l least n<=j)(h2:j<n):l.getD j 0=0:=by
 induction n with
 | zero=>omega
 | succ n ih=>
  by_cases b:least<n+1/\l.getD n 0=0
  .
   rw[pY b]at a;by_cases e:j=n
   . subst e;exact b.2
   . exact ih a (by omega)
  . simp only[dS]at a;rw[a0e b]at a;omega
theorem ij(l:List Int)(least:Nat):(nB l least).length=dS l least l.length:=by
 unfold nB;rw[a0z];have:=si l least l.length;omega
theorem Ma(l:List Int)(c j:Nat)(h:j<c):(l.take c).getD j 0=l.getD j 0:=by
 simp[List.getD,h]
theorem ze(l:List Int)(least j:Nat)(h:j<l.length):(nB l least).getD j 0=l.getD j 0:=by
 by_cases a:j<dS l least l.length
 . exact Ma l _ j a
 .
  rw[vM l least l.length j (by omega) h];have:(nB l least).length<=j:=by rw[ij];omega
  simp[List.getD,this]
theorem IK(h:∀x∈l,x=0):kr l=0/\us l=0:=by
 induction l with
 | nil=>exact⟨rfl,rfl⟩
 | cons b l ih=>
  obtain⟨a,h2⟩:=ih (fun x c=>h x (by simp[c]));have hb:b=0:=h b (by simp);subst hb;simp only[kr,us,a0C,a0M]at a h2 ⊢;rw[a,h2];exact⟨rfl,rfl⟩
theorem Jp(l:List Int)(least:Nat):kr (nB l least)=kr l/\us (nB l least)=us l:=by
 have h:∀x∈l.drop (dS l least l.length),x=0:=by
  intro x c;obtain⟨i,b,rfl⟩:=List.mem_iff_getElem.1 c;rw[List.getElem_drop];rw[a1v]at b;have:=vM l least l.length (dS l least l.length+i) (by omega) (by omega);have a:dS l least l.length+i<l.length:=by omega
  simpa[List.getD,a]using this
 obtain⟨d,h2⟩:=IK h;have e:l=nB l least++l.drop (dS l least l.length):=(a1H _ _).symm;have f:kr l=kr (nB l least)+kr (l.drop (dS l least l.length)):=by
  conv=>lhs;rw[e]
  simp[kr]
 have g:us l=us (nB l least)+us (l.drop (dS l least l.length)):=by
  conv=>lhs;rw[e]
  simp[us]
 omega
theorem uc(least:Nat)(h:av l=true):av (nB l least)=true:=by
 obtain⟨b,h2⟩:=Jp l least;unfold av oF at h ⊢;rw[b,h2];simp only[a0j,a0p]at h ⊢;obtain⟨⟨a,hb⟩,c⟩:=h;refine⟨⟨?_,by rw[ij];have:=si l least l.length;omega⟩,c⟩;unfold inL at a ⊢;rw[a03]at a ⊢;intro x d;exact a x (a2d d)
def bw(T:List Tk):List Int:=nB (da 15 (fF T)) 257
def bY(T:List Tk):List Int:=nB (da 15 (ck T)) 1
theorem Bb:p2 14=16384:=by decide
theorem Pi:p2 6=64:=by decide
theorem Kp(T:List Tk)(a:T.length<=300):(da 15 (fF T)).length=286/\av (da 15 (fF T))=true/\∀i,i<286->0<=(da 15 (fF T)).getD i 0/\(da 15 (fF T)).getD i 0<=15/\(0<(da 15 (fF T)).getD i 0<->0<(fF T).getD i 0):=by
 have b:=yd T;have h:=ue (m:=14) (yb T a) (by rw[eG];omega) (by rw[eK];omega) (by rw[eK];have h2:=Bb;omega) (by omega);rw[eG]at h;exact h
theorem zi(T:List Tk)(a:T.length<=300):(da 15 (ck T)).length=30/\av (da 15 (ck T))=true/\∀i,i<30->0<=(da 15 (ck T)).getD i 0/\(da 15 (ck T)).getD i 0<=15/\(0<(da 15 (ck T)).getD i 0<->0<(ck T).getD i 0):=by
 have b:=tf T;have h:=ue (m:=14) (te T a) (by rw[eU];omega) (by rw[eK];omega) (by rw[eK];have h2:=Bb;omega) (by omega);rw[eU]at h;exact h
theorem jd(T:List Tk)(b:T.length<=300):257<=(bw T).length/\(bw T).length<=286:=by
 obtain⟨a,_,_⟩:=Kp T b;unfold bw;rw[ij,a];exact⟨sY _ _ _ (by omega),si _ _ _⟩
theorem kG(T:List Tk)(b:T.length<=300):1<=(bY T).length/\(bY T).length<=30:=by
 obtain⟨a,_,_⟩:=zi T b;unfold bY;rw[ij,a];exact⟨sY _ _ _ (by omega),si _ _ _⟩
theorem fJ(T:List Tk)(a:T.length<=300):av (bw T)=true:=uc 257 (Kp T a).2.1
theorem ie(T:List Tk)(a:T.length<=300):av (bY T)=true:=uc 1 (zi T a).2.1
theorem Dj{j:Nat}(h:0<l.getD j 0):j<l.length:=by
 rcases a1l j l.length with a|a
 . exact a
 . simp[List.getD,a]at h
theorem AX(T:List Tk)(d:T.length<=300)(k:Nat)(b:k=256∨k∈T.map ir)(a:k<286):0<(bw T).getD k 0:=by
 obtain⟨e,_,c⟩:=Kp T d;unfold bw;rw[ze _ _ _ (by omega)];refine(c k a).2.2.2 ?_;rw[pi T k a];rcases b with rfl|b
 . rw[a0d rfl];omega
 .
  have:=List.count_pos_iff.2 b
  split<;>omega
theorem Ld(T:List Tk)(c:T.length<=300)(k:Nat)(d:k∈T.flatMap dX)(a:k<30):0<(bY T).getD k 0:=by
 obtain⟨e,_,b⟩:=zi T c;unfold bY;rw[ze _ _ _ (by omega)];refine(b k a).2.2.2 (FZ T k ?_);rw[p6 T k a];have:=List.count_pos_iff.2 d;omega
theorem Ff(T:List Tk)(c:T.length<=300)(a:∀t∈T,okT t=true)(t:Tk)(b:t∈T):0<(bw T).getD (ir t) 0/\∀k∈dX t,0<(bY T).getD k 0:=by
 refine⟨AX T c _ (.inr (a2z b)) (Nt (a t b)),fun k d=>Ld T c k ?_ (Js k d)⟩;exact List.mem_flatMap.2 ⟨t,b,d⟩
theorem mC(T:List Tk)(c:T.length<=300)(b:∀t∈T,okT t=true)(t:Tk)(d:t∈T):fB (bw T) (bY T) t:=by
 obtain⟨a,h2⟩:=Ff T c b t d;unfold fB;unfold ir at a;unfold dX at h2
 split
 . rename_i h;rw[a0d h]at a;exact Dj a
 . rename_i h;rw[a0e h]at a h2;exact⟨Dj a,Dj (h2 _ (by simp))⟩
def nW(A:List Int):List Int:=fQ (List.replicate 19 0) (A.map Int.toNat)
def aM(A:List Int):List Int:=da 7 (nW A)
theorem fx(A:List Int):(nW A).length=19:=by unfold nW;rw[dZ,a0y]
theorem sX(A:List Int)(j:Nat)(a:j<19):(nW A).getD j 0=((A.map Int.toNat).count j:Int):=by
 unfold nW;rw[kx,a0y,g9,a0d a];simp
theorem xz(A:List Int)(c:A.length<=400):okC (nW A):=by
 intro i a;rw[fx]at a;rw[sX A i a];have b:(A.map Int.toNat).count i<=(A.map Int.toNat).length:=a3d;rw[a0N]at b;omega
theorem xA(A:List Int)(a:0<A.length)(b:∀x∈A,0<=x/\x<=15):1<=us (nW A)/\us (nW A)<=19:=by
 refine⟨?_,by have:=rK (nW A);rw[fx]at this;exact this⟩;have c:=b A[0] (a2i a);refine yI (k:=(A[0]).toNat) (by rw[fx];omega) ?_;rw[sX A _ (by omega)];have:=List.count_pos_iff.2 (a2z (f:=Int.toNat) (a2i a));omega
theorem ub(A:List Int)(a:0<A.length)(b:A.length<=400)(c:∀x∈A,0<=x/\x<=15):(aM A).length=19/\av (aM A)=true/\∀i,i<19->0<=(aM A).getD i 0/\(aM A).getD i 0<=7/\(0<(aM A).getD i 0<->0<(nW A).getD i 0):=by
 have d:=xA A a c;have h:=ue (m:=6) (xz A b) (by rw[fx];omega) (by rw[eK];omega) (by rw[eK];have h2:=Pi;omega) (by omega);rw[fx]at h;exact h
theorem GE(A:List Int)(c:0<A.length)(d:A.length<=400)(a:∀x∈A,0<=x/\x<=15)(x:Int)(b:x∈A):0<(aM A).getD x.toNat 0:=by
 have e:=a x b;refine((ub A c d a).2.2 x.toNat (by omega)).2.2.2 ?_;rw[sX A _ (by omega)];have:=List.count_pos_iff.2 (a2z (f:=Int.toNat) b);omega
def cV(L D:List Int):List (Int×Int):=
 [((L.length:Int)-257,5),((D.length:Int)-1,5),(15,4)]++(bB.map (fun i=>((aM (L++D)).getD i 0,(3:Int)))++(L++D).map (fun x=>pcM (aM (L++D)) x.toNat))
def iD(T:List Tk):List (Int×Int):=[(1,1),(2,2)]++(cV (bw T) (bY T)++(T.flatMap (cw (bw T) (bY T))++[pcM (bw T) 256]))
theorem jz(h:av l=true):∀x∈l,0<=x/\x<=15:=by
 intro x b;obtain⟨i,a,rfl⟩:=List.mem_iff_getElem.1 b;have:=ml (fV h) a;simpa[List.getD,a]using this
theorem BJ(g:av L=true)(f:av D=true)(l0:257<=L.length)(l1:L.length<=286)(m:1<=D.length)(n:D.length<=30):aW (cV L D)=true/\(cV L D).length<=338:=by
 have c:∀x∈L++D,0<=x/\x<=15:=by
  intro x b;rcases a0V.1 b with h|h
  . exact jz g x h
  . exact jz f x h
 obtain⟨d,h2,e⟩:=ub (L++D) (by rw[a0i];omega) (by rw[a0i];omega) c;refine⟨?_,?_⟩
 .
  unfold cV aW;rw[a12,a12];simp only[a0j];refine⟨?_,?_,?_⟩
  .
   simp only[a13,a2P,a2U,a0j];refine⟨aP.2 ⟨by omega,by omega,?_⟩,aP.2 ⟨by omega,by omega,?_⟩,by decide⟩
   .
    have:p2 (5:Int).toNat=32:=by decide
    rw[this];omega
   .
    have:p2 (5:Int).toNat=32:=by decide
    rw[this];omega
  .
   rw[a03];intro x b;obtain⟨i,j,rfl⟩:=a2J.1 b;have a:i<19:=by
    have:∀i∈bB,i<19:=by decide
    exact this i j
   have:=e i a;refine aP.2 ⟨by omega,this.1,?_⟩;have:p2 (3:Int).toNat=8:=by decide
   rw[this];omega
  . rw[a03];intro x b;obtain⟨y,k,rfl⟩:=a2J.1 b;have l:=c y k;exact oq (ml (fV h2) (by rw[d];omega))
 . unfold cV;simp only[a0i,a0N,a0A,a0R];have:bB.length=19:=rfl;omega
theorem sC(T:List Tk)(a:T.length<=300)(b:∀t∈T,okT t=true):lOk (iD T)=true:=by
 have gL:=dF (fJ T a);have gD:=dF (ie T a);obtain⟨l0,l1⟩:=jd T a;obtain⟨d,e⟩:=kG T a;obtain⟨f,h2⟩:=zB gL gD T (fun t c=>⟨b t c,mC T a b t c⟩);obtain⟨t1,t2⟩:=BJ (fJ T a) (ie T a) l0 l1 d e;have g:pOk (pcM (bw T) 256).1 (pcM (bw T) 256).2=true:=oq (gL 256 (by omega)).1;unfold lOk;have h:aW (iD T)=true:=by
  unfold iD;unfold aW at *
  rw[a12,a12,a12,f,t1];simp only[a13,a2P,g];decide
 have i:(iD T).length<=4000:=by unfold iD;simp only[a0i,a0A,a0R];omega
 rw[h];simpa using i
def lM(s:ByteArray):List UInt8:=cz (iD (bh s.data.toList 0))
theorem rm(g o:Nat)(cap n least:Nat)(l:List Int)(w:World)(G:l.length=n)(h:∀i,i<n->w.cell? ⟨g,o+i,none⟩=some (.int .i64 (l.getD i 0)))(v:n<=cap)(E:n<=300)(D:least<=n) :
  Calls prog 122 #[.slice (some ⟨g,o,none⟩) n cap,.int .i64 (least:Nat)] w fun e w'=>e = .returned (.slice (some ⟨g,o,none⟩) (dS l least n) cap)/\w'=w:=by
 have A:(n:Int)<=(cap:Int):=by omega
 have F:(n:Int)<=300:=by omega
 have H:=af h;clear h G v E D;go_enter func122,ntmps122;go_wp2
 go_loop [5] (fun x=>∃k:Nat,k<=n/\x = .int .i64 k/\dS l least n=dS l least k) (fun x=>(intOf x).toNat)
 case atStart=>exact⟨n,a0a _,rfl,rfl⟩
 case round=>
  obtain⟨k,q,rfl,c⟩:=hrel;have f:=af c;have p:=af q;have C:(k:Int)<=(n:Int):=by omega
  clear c q;by_cases b:least<k
  .
   have r:decide ((least:Int)<(k:Int))=true:=a0F (by omega);have d:(least:Int)<(k:Int):=by omega
   obtain⟨j,hj⟩:∃j,k=j+1:=⟨k-1,by omega⟩;subst hj;have z:=ae H j (by have:=ae p;omega);have J:=af (fun h=>pY (l:=l) (least:=least) (n:=j) h);have I:=af (fun h=>m8 (l:=l) (least:=least) (n:=j+1) h);have B:(j:Int)<(n:Int):=by omega
   generalize s:l.getD j 0=y at *
   have u:=af s;clear s;by_cases m:y=0
   .
    subst m;have a:Hid (dS l least n=dS l least j):=(ae f).trans (ae J ⟨b,rfl⟩);have t:Hid (j<=n):=by show j<=n;have:=ae p;omega
    clear b;go_wp2
    go_round
    case rel=>exact⟨j,ae t,by go_num,ae a⟩
    case measure=>simp[intOf]
   .
    have K:(y == 0)=false:=by simpa using m
    have a:Hid (dS l least n=j+1):=(ae f).trans (ae I (by rw[a3v,ae u];exact fun h=>m h.2));clear b;go_wp2;go_ret;exact⟨by rw[ae a];rfl,rfl⟩
  .
   have d:¬ (least:Int)<(k:Int):=by omega
   have a:Hid (dS l least n=k):=(ae f).trans (m8 (fun h=>b h.1));clear b;go_wp2;go_ret;exact⟨by rw[ae a];rfl,rfl⟩
theorem tY(g o:Nat)(cap n least:Nat)(l:List Int)(w:World)(G:l.length=n)(h:∀i,i<n->w.cell? ⟨g,o+i,none⟩=some (.int .i64 (l.getD i 0)))(v:n<=cap)(E:n<=300)(D:least<=n) :
  Calls prog 201 #[.slice (some ⟨g,o,none⟩) n cap,.int .i64 (least:Nat)] w fun e w'=>e = .returned (.slice (some ⟨g,o,none⟩) (dS l least n) cap)/\w'=w:=by
 have A:(n:Int)<=(cap:Int):=by omega
 have F:(n:Int)<=300:=by omega
 have H:=af h;clear h G v E D;go_enter func201,ntmps201;go_wp2
 go_loop [5] (fun x=>∃k:Nat,k<=n/\x = .int .i64 k/\dS l least n=dS l least k) (fun x=>(intOf x).toNat)
 case atStart=>exact⟨n,a0a _,rfl,rfl⟩
 case round=>
  obtain⟨k,q,rfl,c⟩:=hrel;have f:=af c;have p:=af q;have C:(k:Int)<=(n:Int):=by omega
  clear c q;by_cases b:least<k
  .
   have r:decide ((least:Int)<(k:Int))=true:=a0F (by omega);have d:(least:Int)<(k:Int):=by omega
   obtain⟨j,hj⟩:∃j,k=j+1:=⟨k-1,by omega⟩;subst hj;have z:=ae H j (by have:=ae p;omega);have J:=af (fun h=>pY (l:=l) (least:=least) (n:=j) h);have I:=af (fun h=>m8 (l:=l) (least:=least) (n:=j+1) h);have B:(j:Int)<(n:Int):=by omega
   generalize s:l.getD j 0=y at *
   have u:=af s;clear s;by_cases m:y=0
   .
    subst m;have a:Hid (dS l least n=dS l least j):=(ae f).trans (ae J ⟨b,rfl⟩);have t:Hid (j<=n):=by show j<=n;have:=ae p;omega
    clear b;go_wp2
    go_round
    case rel=>exact⟨j,ae t,by go_num,ae a⟩
    case measure=>simp[intOf]
   .
    have K:(y == 0)=false:=by simpa using m
    have a:Hid (dS l least n=j+1):=(ae f).trans (ae I (by rw[a3v,ae u];exact fun h=>m h.2));clear b;go_wp2;go_ret;exact⟨by rw[ae a];rfl,rfl⟩
  .
   have d:¬ (least:Int)<(k:Int):=by omega
   have a:Hid (dS l least n=k):=(ae f).trans (m8 (fun h=>b h.1));clear b;go_wp2;go_ret;exact⟨by rw[ae a];rfl,rfl⟩
theorem Tryz.infoLenK:(prog.info? 238).map (·.size)=some 19:=by kernel_rfl
theorem Aq(a:Option Addr)(cap n base:Nat)(l:List Int)(w:World)(b:l.length=n)(h:eO w base a l)(g:base<=w.heap.size)(f:n<=300) :
  Calls prog 162 #[.slice a n cap] w fun e w'=>(∃C,e = .returned (.agg C)/\bE w' base l C)/\Below w.heap.size w w':=by
 refine(Bkx.codeBook_any Bkx.bkN (.inr (.inr rfl)) a cap n l w b h.1 f).mono ?_;rintro e w' ⟨vs,C,rfl,d,c,h2,hb⟩;obtain⟨q,sc,rfl⟩:=h2.form;subst b;exact⟨⟨C,rfl,a,cap,_,_,q,sc,d,h.later hb,(dh (cq l 15) (c.own (cq l 15))).mono (by omega),(dh rfl h2).mono (by omega)⟩,hb⟩
theorem Dy(k:Nat)(l:List Int)(C:Array Value)(base:Nat)(w:World)(d:bE w base l C)(f:k<l.length)(g:l.length<=300) :
  CD 164 #[.agg C,.int .i64 (k:Int)] w (.agg #[.int .i64 (btI ((bj l 15).2.getD k 0) (l.getD k 0)),.int .i64 (l.getD k 0)]):=by
 obtain⟨a,cap,ac,b,q,sc,e,c,h2,h⟩:=d;exact Bkx.bookPut_any Bkx.bkN (.inr (.inr rfl)) a ac cap l.length b k _ _ C l (bj l 15).2 w e rfl (cq l 15) c.1 h2.1 f g
def sJ(w:World)(b base:Nat)(l:List Int)(C:Array Value):Prop:=bE w base l C/\w.rangeAt b 0 C.toList/\b<w.heap.size
theorem sJ.later{base:Nat}{C:Array Value}(h:sJ w b base l C)(hb:Below w.heap.size w w'):sJ w' b base l C:=
 ⟨h.1.later hb,jD h.2.1 hb h.2.2,a0h h.2.2 hb.size⟩
theorem BI(k b base:Nat)(l:List Int)(C:Array Value)(w:World)(d:sJ w b base l C)(h:k<l.length)(i:l.length<=300) :
  CD 163 #[.int .i64 (k:Int),.pointer (some ⟨b,0,none⟩)] w (.agg #[.int .i64 (pcS l k).1,.int .i64 (pcS l k).2]):=by
 have c:Below w.heap.size w (w.alloc (.cells #[.int .i64 0,.int .i64 0] 139)):=(a0c _ _).alloc (a0a _) _;have j:=af c;have m:=af (d.later c).2.1;have n:=af d.1.size;have HP:=af (Dy k l C base _ (d.later c).1 h i);have f:Hid (pcS l k=(btI ((bj l 15).2.getD k 0) (l.getD k 0),l.getD k 0)):=rfl;generalize btI ((bj l 15).2.getD k 0) (l.getD k 0)=u at *
 generalize l.getD k 0=v at *
 clear d h i c;go_enter func163,ntmps163;go_wp2_with (first
  | (refine bi rfl 238 (.tmp 1) rfl b 0 rfl C _ (ae m) a27 rfl (by rw[ae n];exact Tryz.infoLenK) ?_)
  | (go_at_call 164;refine(ae HP).mono ?_;rintro e x1 ⟨rfl,a⟩;have g:=tP a;obtain⟨m0,m1,_⟩:=dc g;obtain⟨n0,n1⟩:=ng g))
 have o:=qt g (.int .i64 u) (.int .i64 v);obtain⟨p,q,_⟩:=dc o;refine a0u (v:=.agg #[.int .i64 u,.int .i64 v]) (by simp[results,results163,go_sem,p,q]) rfl ⟨by rw[ae f],?_⟩;exact ai (ai (ah (ae j) a) (a0a _) _) (a0a _) _
def iJ(l:List Int)(t:List Int):List (Int×Int):=t.map fun x=>pcS l x.toNat
theorem DF(l t:List Int)(k:Nat)(h:k<t.length):iJ l (t.take (k+1))=iJ l (t.take k)++[pcS l (t.getD k 0).toNat]:=by
 unfold iJ;rw[bZ t k h,a0I];rfl
theorem F5(a:Option Addr)(cap n b base:Nat)(t l:List Int)(C:Array Value)(w:World)(P:t.length=n)(h:bo w a t)(O:n<=1000)(L:sJ w b base l C)(N:l.length<=300)(m:∀i,i<t.length->0<=t.getD i 0/\t.getD i 0<(l.length:Int)) :
  Calls prog 103 #[.slice a n cap,.func (.func 163) #[] #[.pointer (some ⟨b,0,none⟩)]] w fun e w'=>∃v,e = .returned v/\Pcs w' w.heap.size v (iJ l t)/\Below w.heap.size w w':=by
 have aa:(n:Int)<=1000:=by omega
 have A:=af P;have V:=af O;have U:=af N;have Q:=af m;have S:=af L;clear P O m N L;obtain⟨i0,hi,I,J,K⟩:=a0r Tryz.infoPiece;go_enter func103,ntmps103;go_wp2_with fail
 go_loopw [5,7,10] (fun o _ i wr=>∃k:Nat,k<=n/\i = .int .i64 k/\Pcs wr w.heap.size o (iJ l (t.take k))/\Below w.heap.size w wr) (fun _ _ i _=>n-(intOf i).toNat)
 case atStart=>exact⟨0,a0g _,rfl,a00 _ _ _ _,a0c _ _⟩
 case round=>
  obtain⟨k,M,rfl,hq,c⟩:=hrel;have Z:=c.size;by_cases x:k<n
  .
   obtain⟨g,o,rfl,hg,B⟩:=(h.later c) (by rw[ae A];omega);have c0:=B k (by rw[ae A];exact x);have F:=af (DF l t k (by rw[ae A];exact x));have H:Hid ((iJ l (t.take k)).length=k):=by show(iJ l (t.take k)).length=k;unfold iJ;have:=ae A;simp;omega
   obtain⟨y0,y1⟩:=ae Q k (by rw[ae A];exact x);have T:=af M;clear B M h;generalize t.getD k 0=y at *
   obtain⟨q,rfl⟩:=a0n y0;rw[a0l]at F;have HP:=af (BI q b base l C wr ((ae S).later c) (by omega) (ae U));generalize Y:pcS l q=R at *
   clear Y;obtain⟨W,X⟩:=R;go_wp2_with fail;refine(ae HP).mono ?_;rintro e x1 ⟨rfl,u⟩;have z:=Pcs.later hq u (a0a _);have d:=ah c u;have p:=d.size;have j:Hid ((iJ l (t.take k)).length+1<=maxLen/\((iJ l (t.take k)).length+1)*16<=140737488355328):=by
    show _/\_;rw[ae H];have:=ae V;unfold maxLen;omega
   clear hq c u HP;go_wp2_with (at_builtin;refine a0B _ rfl _ _ 136 rfl w.heap.size 139 i0 (.agg #[.int .i64 0,.int .i64 0]) 2 16 a1q hi I J K rfl (by decide) _ _ _ rfl (a0m z _) ⟨x1.heap.size,0,none⟩ 1 1 [.int .i64 W,.int .i64 X] rfl rfl (sH x1 _ _ _) (sG _ _) (ae j).1 (ae j).2 (au p _) ?_;intro v' x2 s f D;clear D);have G:=aH (v:=u5) f z (a0a _) p d;have E:=mF s;rw[←ae F]at E;clear s f z;go_wp2;go_roundw
   case rel=>exact⟨k+1,by have:=ae T;omega,by go_num,E,G⟩
   case measure=>simp[intOf];omega
  . have r:t.take k=t:=a0o (by rw[ae A];omega);rw[r]at hq;obtain⟨va,vc,rfl⟩:=hq.form;clear r h;go_wp2;go_ret;exact⟨_,rfl,hq,c⟩
end Go.Proofs.YtgmfehnnebkaoaaGreatDoor
namespace Go.Proofs.YtgmfehnnebkaoaaGreatDoor
open Go.Proofs.Tryz
open Go.RowKit Go.Shelf Corb
variable {W W' w:World}{b g n n₀:Nat}{l:List Int}{r10 r11:Option Nat}{r4 r5:Option (Nat×Value)}{s:ByteArray}{v:Value}
attribute [local go_sem] Oper.semAt_some
theorem pE{F:Fence}{P:Program}{ops:Array Oper}{o:Oper}{a:Act}{K:Act->World->Prop}{Q:Exit->Act->World->Prop}{E:Prop}
  (B:o.guard=none) (l c:Operand) (t:TypeId) (b:o.op=Op.makeSlice t l c)
  (base:Nat) (e:TypeId) (i:TypeInfo) (z:Value) (size:Nat) (r:P.underlying t=some (.slice e)) (h2:P.info? e=some i) (s:i.zero=some z) (u:i.size=size)
  (j h:IntKind) (L C:Int) (k:Nat) (D:a.eval l = .int j L) (A:a.eval c = .int h C) (y:L=(k:Int)) (v:C=(k:Int)) (m:i.bytes*k<=281474976710656) (p:k<=maxLen) (q:base<=w.heap.size)
  (x:∀g w',w.heap.size=g->w'.ownsRow base e size (.slice (some ⟨g,0,none⟩) k k) k (madeCells z.cells (k*size)).toList->w.grownBy w' none->K (a.put o.dst (.slice (some ⟨g,0,none⟩) k k)) w') :
  if Region.wanted o (yielded ops a.tmps)=true then Oper.wpIn F n P o a w K Q else E:=by
 have G:Region.wanted o (yielded ops a.tmps)=true:=by simp[Region.wanted,B]
 rw[a0d G];obtain⟨w',d,H,I⟩:=run_make_full (P:=P) w base t e i z size r h2 s u j h k m p q;subst y;subst v;unfold Oper.wpIn;refine⟨?_,?_⟩
 . simp[Oper.about,b]
 . rw[Oper.semAt_plain F _ _ (by rw[b];intro c f;cases f)];simp[execOp,b,D,A,d,Result.andThen];exact x _ w' rfl H I
theorem zV{β:Type}(n₀:Nat)(v:Value)(f:β->List Int):Own (fun(b:β) W=>al W n₀ v (f b)):=fun b X _ row e j a=>by
 refine a1J e j ?_;rcases e.2 with⟨rfl,_⟩|⟨g,cap,h,rfl,_,c,_⟩
 . exact .inl rfl
 .
  refine .inr fun e'=>?_;obtain⟨o,d,i⟩:=a g e'.symm;rw[show X.heap[g]?=_ from c]at d;cases d
  cases i
def Sts(n₀:Nat)(w W:World)(r10 r11:Option Nat)(r4 r5:Option (Nat×Value)):Prop:=
 Below n₀ w W/\(∀g,r10=some g->al W n₀ (.slice (some ⟨g,0,none⟩) 286 286) (List.replicate 286 0))/\(∀g,r11=some g->al W n₀ (.slice (some ⟨g,0,none⟩) 30 30) (List.replicate 30 0)) /\
 (∀b v,r4=some (b,v)->n₀<=b/\Boxed W b 97 v)/\(∀b v,r5=some (b,v)->n₀<=b/\Boxed W b 97 v)/\(∀g g',r10=some g->r11=some g'->g≠g')/\(∀b v b' v',r4=some (b,v)->r5=some (b',v')->b≠b')/\n₀<=W.heap.size
theorem fT(h:W.grownBy W' none):Below W.heap.size W W':=(a0c _ _).grown h (a0a _) (fun j a=>by cases a)
theorem Sts.later(h:Sts n₀ w W r10 r11 r4 r5)(hb:Below W.heap.size W W'):Sts n₀ w W' r10 r11 r4 r5:=by
 obtain⟨f,i,h2,a,c,j,k,d⟩:=h;exact⟨f.trans (hb.mono d),fun g e=>(i g e).later hb (a0a _),fun g e=>(h2 g e).later hb (a0a _),fun b v e=>⟨(a b v e).1,Boxed.later (a b v e).2 hb⟩,fun b v e=>⟨(c b v e).1,Boxed.later (c b v e).2 hb⟩,j,k,a0L d hb.size⟩
theorem Sts.make10(h:Sts n₀ w W none r11 r4 r5)(k:W.grownBy W' none)(a:W.heap.size=g)(l:al W' n₀ (.slice (some ⟨g,0,none⟩) 286 286) (List.replicate 286 0)):Sts n₀ w W' (some g) r11 r4 r5:=by
 subst a;have b:∀g,r11=some g->g<W.heap.size:=fun g e=>(h.2.2.1 g e).below.2;obtain⟨c,m,h2,d,f,n,i,j⟩:=h.later (fT k);exact⟨c,fun g e=>by cases e;exact l,h2,d,f,fun g g' e e'=>by cases e;have:=b g' e';omega,i,j⟩
theorem Sts.make11(h:Sts n₀ w W r10 none r4 r5)(l:W.grownBy W' none)(a:W.heap.size=g)(m:al W' n₀ (.slice (some ⟨g,0,none⟩) 30 30) (List.replicate 30 0)):Sts n₀ w W' r10 (some g) r4 r5:=by
 subst a;have b:∀g,r10=some g->g<W.heap.size:=fun g e=>(h.2.1 g e).below.2;obtain⟨c,d,h2,f,i,n,j,k⟩:=h.later (fT l);exact⟨c,d,fun g e=>by cases e;exact m,f,i,fun g g' e e'=>by cases e';have:=b g e;omega,j,k⟩
theorem Sts.box4(h:Sts n₀ w W r10 r11 none r5)(v:Value):Sts n₀ w (W.alloc (.cells #[v] 97)) r10 r11 (some (W.heap.size,v)) r5:=by
 have a:∀b v,r5=some (b,v)->b<W.heap.size:=fun b v e=>(h.2.2.2.2.1 b v e).2.lt;have j:=h.2.2.2.2.2.2.2;obtain⟨c,d,h2,k,f,g,l,i⟩:=h.later ((a0c _ W).alloc (a0a _) (.cells #[v] 97));exact⟨c,d,h2,fun b u e=>by cases e;exact⟨j,Boxed.new _ _ _⟩,f,g,fun b u b' u' e e'=>by cases e;have:=a b' u' e';omega,i⟩
theorem Sts.box5(h:Sts n₀ w W r10 r11 r4 none)(v:Value):Sts n₀ w (W.alloc (.cells #[v] 97)) r10 r11 r4 (some (W.heap.size,v)):=by
 have a:∀b v,r4=some (b,v)->b<W.heap.size:=fun b v e=>(h.2.2.2.1 b v e).2.lt;have j:=h.2.2.2.2.2.2.2;obtain⟨c,d,h2,f,k,g,l,i⟩:=h.later ((a0c _ W).alloc (a0a _) (.cells #[v] 97));exact⟨c,d,h2,f,fun b u e=>by cases e;exact⟨j,Boxed.new _ _ _⟩,g,fun b u b' u' e e'=>by cases e';have:=a b u e;omega,i⟩
theorem cB(h:Boxed W b 97 v)(a:al W n₀ (.slice (some ⟨g,0,none⟩) n n) l):b≠g:=by
 intro e;exact h.not_row (by decide) a (by rw[e];rfl)
theorem lu(h:Boxed W b 9 v)(a:al W n₀ (.slice (some ⟨g,0,none⟩) n n) l):b≠g:=by
 intro e;exact h.not_row (by decide) a (by rw[e];rfl)
theorem cX{B o:Nat}{t:TypeId}(h:Boxed W B t v)(a:B≠b)(u:Value):Boxed (W.setCell ⟨b,o,none⟩ u) B t v:=(a0K _ _ _ B a).trans h
theorem wI{D:Nat}{r:Option (List Deferred)}(h:W.heap[D]?=some (.deferred r))(c:al W n₀ (.slice (some ⟨g,0,none⟩) n n) l):D≠g:=by
 rintro rfl;rcases c.2 with⟨e,_⟩|⟨g,cap,b,e,_,a,_⟩
 . cases e
 . simp only[a0J,a0k,a0D,a0P]at e;rw[←e.1]at a;rw[h]at a;cases a
theorem NA(l:List Int):bG l l.length=0<->us l=0:=by
 have d:∀k,0<=bG l k:=by
  intro k;induction k with
  | zero=>exact a2D _
  | succ k ih=>simp only[bG];split<;>omega
 constructor
 .
  intro h;rcases a3C (us l)with a|a
  . exact a
  .
   exfalso;have:∃k,k<l.length/\0<l.getD k 0:=by
    clear h d;induction l with
    | nil=>simp[us]at a
    | cons b l ih=>
     by_cases hb:0<b
     . exact⟨0,by simp,by simpa using hb⟩
     . obtain⟨k,c,d⟩:=ih (by simp only[us,a0C,a0M,a0e hb]at a;simpa[us]using a);exact⟨k+1,by simpa using c,by simpa using d⟩
   obtain⟨k,c,d⟩:=this;have:=E7 l l.length k c;omega
 .
  intro h;have:∀k,k<=l.length->bG l k=0:=by
   intro k;induction k with
   | zero=>exact fun _=>rfl
   | succ k ih=>
    intro c;have a:=Fy h k (by omega);simp only[bG];rw[ih (by omega),a0e a]
  exact this _ (a0a _)
theorem Sts.put4(h:Sts n₀ w W r10 r11 (some (b,v)) r5)(u:Value):Sts n₀ w (W.setCell ⟨b,0,none⟩ u) r10 r11 (some (b,u)) r5:=by
 obtain⟨i,c,h2,j,d,k,f,l⟩:=h;have hb:=j b v rfl;exact⟨ai i hb.1 u,fun g e=>(c g e).setOther (cB hb.2 (c g e)) u,fun g e=>(h2 g e).setOther (cB hb.2 (h2 g e)) u,fun b' v' e=>by cases e;exact⟨hb.1,hb.2.set u⟩,fun b' v' e=>⟨(d b' v' e).1,(d b' v' e).2.other (f b v b' v' rfl e).symm u⟩,k,fun b' v' a v'' e e'=>by cases e;exact f b v a v'' rfl e',by simpa using l⟩
theorem Sts.put5(h:Sts n₀ w W r10 r11 r4 (some (b,v)))(u:Value):Sts n₀ w (W.setCell ⟨b,0,none⟩ u) r10 r11 r4 (some (b,u)):=by
 obtain⟨i,a,h2,c,j,k,d,l⟩:=h;have hb:=j b v rfl;exact⟨ai i hb.1 u,fun g e=>(a g e).setOther (cB hb.2 (a g e)) u,fun g e=>(h2 g e).setOther (cB hb.2 (h2 g e)) u,fun b' v' e=>⟨(c b' v' e).1,(c b' v' e).2.other (d b' v' b v e rfl) u⟩,fun b' v' e=>by cases e;exact⟨hb.1,hb.2.set u⟩,k,fun b' v' f v'' e e'=>by cases e';exact d b' v' b v e rfl,by simpa using l⟩
theorem Sts.fill4(h:Sts n₀ w W (some g) r11 (some (b,v)) r5):Sts n₀ w (W.setCell ⟨b,0,none⟩ (.slice (some ⟨g,0,none⟩) 286 286)) (some g) r11 (some (b,.slice (some ⟨g,0,none⟩) 286 286)) r5:=h.put4 _
theorem Sts.fill5(h:Sts n₀ w W r10 (some g) r4 (some (b,v))):Sts n₀ w (W.setCell ⟨b,0,none⟩ (.slice (some ⟨g,0,none⟩) 30 30)) r10 (some g) r4 (some (b,.slice (some ⟨g,0,none⟩) 30 30)):=h.put5 _
def jT{s:ByteArray}(pre:List (TkS s)):List Int:=fQ (List.replicate 286 0) ((pre.map Subtype.val).map ir)
def cK{s:ByteArray}(pre:List (TkS s)):List Int:=fQ (List.replicate 30 0) ((pre.map Subtype.val).flatMap dX)
theorem mx(pre:List (TkS s)):(jT pre).length=286:=by unfold jT;rw[dZ,a0y]
theorem kp(pre:List (TkS s)):(cK pre).length=30:=by unfold cK;rw[dZ,a0y]
theorem DI(pre:List (TkS s))(x:TkS s)(h:isB x.1=true):jT (pre++[x])=inc (jT pre) x.1.1.toNat:=by
 unfold jT;rw[a0I,a0I,a2v,a2v,gP];have:ir x.1=x.1.1.toNat:=by unfold ir;rw[a0d h]
 rw[this]
theorem DJ(pre:List (TkS s))(x:TkS s)(h:isB x.1=false):jT (pre++[x])=inc (jT pre) (257+fnd 3 4 x.1.2.1.toNat 27):=by
 unfold jT;rw[a0I,a0I,a2v,a2v,gP];have:ir x.1=257+fnd 3 4 x.1.2.1.toNat 27:=by unfold ir;rw[a0e (by simp[h])]
 rw[this]
theorem zk(pre:List (TkS s))(x:TkS s)(h:isB x.1=true):cK (pre++[x])=cK pre:=by
 unfold cK;rw[a0I,a2q,a2v];have:[x.1].flatMap dX=[]:=by simp[dX,h]
 rw[this,a1b]
theorem zl(pre:List (TkS s))(x:TkS s)(h:isB x.1=false):cK (pre++[x])=inc (cK pre) (fnd 1 2 x.1.2.2.toNat 29):=by
 unfold cK;rw[a0I,a2q,a2v];have:[x.1].flatMap dX=[fnd 1 2 x.1.2.2.toNat 29]:=by simp[dX,h]
 rw[this,gP]
theorem oX(n:Nat)(l:List Nat)(k:Nat):0<=(fQ (List.replicate n 0) l).getD k 0/\(fQ (List.replicate n 0) l).getD k 0<=(l.length:Int):=by
 rw[kx,g9];have:l.count k<=l.length:=a3d
 split<;>omega
theorem ye(pre:List (TkS s))(k:Nat):0<=(jT pre).getD k 0/\(jT pre).getD k 0<=(pre.length:Int):=by
 have:=oX 286 ((pre.map Subtype.val).map ir) k;rw[a0N,a0N]at this;exact this
theorem tg(pre:List (TkS s))(k:Nat):0<=(cK pre).getD k 0/\(cK pre).getD k 0<=(pre.length:Int):=by
 have a:=oX 30 ((pre.map Subtype.val).flatMap dX) k;have h2:=tj (pre.map Subtype.val);rw[a0N]at h2;exact⟨a.1,by have:=a.2;unfold cK;omega⟩
theorem rT(s:ByteArray)(w:World)(a:s.size<=300)  :
  Calls prog 121 #[.string s] w fun e w'=>(∃gl gd,e = .returned (.tuple #[.slice (some ⟨gl,0,none⟩) 286 286,.slice (some ⟨gd,0,none⟩) 30 30])/\al w' w.heap.size (.slice (some ⟨gl,0,none⟩) 286 286) (fF (bh s.data.toList 0))/\al w' w.heap.size (.slice (some ⟨gd,0,none⟩) 30 30) (ck (bh s.data.toList 0)))/\Below w.heap.size w w':=by
 obtain⟨i0,hi,b4,b6,b7⟩:=a0r Tryz.infoInt;have eb:(s.size:Int)<=300:=by omega
 have c5:prog.follows .mixedOrders=true:=by kernel_rfl
 refine(callsIn_wide (n:=6)).1 ?_;refine callsIn_of_wp_marks func121 rfl trivial ?_ rfl;simp only[ntmps121,a2F,a0A,a0R,Nat.reduceAdd,Nat.reduceSub,Array.replicate_succ,Array.replicate_zero,List.push_toArray,List.append_toArray,a0X,a1g]
 gi_wp2
 rename_i Q' K hKr
 suffices U:∀(gl gd P O:Nat) (W:World),Sts w.heap.size w W (some gl) (some gd) (some (P,.slice (some ⟨gl,0,none⟩) 286 286)) (some (O,.slice (some ⟨gd,0,none⟩) 30 30)) ->
   K { tmps:=#[.string s,undef,.slice none 0 0,.slice none 0 0,.pointer (some ⟨P,0,none⟩),.pointer (some ⟨O,0,none⟩),undef,undef,undef,undef,.slice (some ⟨gl,0,none⟩) 286 286,.slice (some ⟨gd,0,none⟩) 30 30,undef,undef,undef,undef,undef,undef,undef,undef,undef,undef,undef,undef,undef,undef,undef,undef,undef,undef,undef,undef,undef,undef,undef,undef,undef,undef,undef,undef,undef,undef,undef,undef,undef,undef,undef,undef,undef,undef,undef,undef,undef,undef,undef,undef,undef,undef,undef],defers:=[] } W by
  clear hKr;have ao:Sts w.heap.size w w.drew none none none none:=⟨(a0c _ _).drew,nofun,nofun,nofun,nofun,nofun,nofun,a0a _⟩;refine wpIn_region_any c5 ?_;change wpAnyIn _ _ _ _ _ _ _ _ _ (World.drew _);generalize w.drew=W at ao ⊢;have a:=ao;clear ao;repeat' first
   | exact AllReadyIn.nil
   | refine AllReadyIn.cons rfl (fun K1 b=>?_) ?_
   | (refine pE rfl _ _ 97 rfl w.heap.size 3 i0 (.int .i64 0) 1 a0G hi b4 b6 .i64 .i64 286 286 286 rfl rfl rfl rfl (by rw[b7];omega) (by unfold maxLen;omega) a.2.2.2.2.2.2.2 ?_;intro g W hg ho J;have a:=a.make10 J hg (dy ho);refine b _ _ ?_;clear b K1 ho J hg)
   | (refine pE rfl _ _ 97 rfl w.heap.size 3 i0 (.int .i64 0) 1 a0G hi b4 b6 .i64 .i64 30 30 30 rfl rfl rfl rfl (by rw[b7];omega) (by unfold maxLen;omega) a.2.2.2.2.2.2.2 ?_;intro g W hg ho J;have a:=a.make11 J hg (dy ho);refine b _ _ ?_;clear b K1 ho J hg)
   | (refine f9 4 rfl ?_;have a:=a.box4 (.slice none 0 0);go_simp;refine b _ _ ?_;clear b K1;generalize W.alloc (.cells #[.slice none 0 0] 97)=V at a ⊢;generalize W.heap.size=g at a ⊢;revert V;intro W a)
   | (refine f9 5 rfl ?_;have a:=a.box5 (.slice none 0 0);go_simp;refine b _ _ ?_;clear b K1;generalize W.alloc (.cells #[.slice none 0 0] 97)=V at a ⊢;generalize W.heap.size=g at a ⊢;revert V;intro W a)
   | (refine I5 (Op.store 97 (.tmp 4) (.tmp 10)) rfl ?_;have hc:=(a.2.2.2.1 _ _ rfl).2.cell;have hf:=(a.2.2.2.1 _ _ rfl).2.frozen;have a:=a.fill4;go_simp;refine b _ _ ?_;clear b K1 hc hf;revert a;generalize W.setCell ⟨_,0,none⟩ _=V;intro a;revert V;intro W a)
   | (refine I5 (Op.store 97 (.tmp 5) (.tmp 11)) rfl ?_;have hc:=(a.2.2.2.2.1 _ _ rfl).2.cell;have hf:=(a.2.2.2.2.1 _ _ rfl).2.frozen;have a:=a.fill5;go_simp;refine b _ _ ?_;clear b K1 hc hf;revert a;generalize W.setCell ⟨_,0,none⟩ _=V;intro a;revert V;intro W a)
   | (refine wpAnyIn_done (by decide +kernel) ?_ _;exact U _ _ _ _ _ a)
   | refine wpAnyIn_ready (rs:=[0,1,2,3]) (by decide +kernel) (by simp) ?_
   | refine wpAnyIn_ready (rs:=[1,2,3]) (by decide +kernel) (by simp) ?_
   | refine wpAnyIn_ready (rs:=[2,3]) (by decide +kernel) (by simp) ?_
   | refine wpAnyIn_ready (rs:=[3]) (by decide +kernel) (by simp) ?_
   | refine wpAnyIn_ready (rs:=[4]) (by decide +kernel) (by simp) ?_
   | refine wpAnyIn_ready (rs:=[5]) (by decide +kernel) (by simp) ?_
   | refine wpAnyIn_ready (rs:=[2]) (by decide +kernel) (by simp) ?_
   | refine wpAnyIn_ready (rs:=[1,3]) (by decide +kernel) (by simp) ?_
   | refine wpAnyIn_ready (rs:=[1,4]) (by decide +kernel) (by simp) ?_
   | refine wpAnyIn_ready (rs:=[1]) (by decide +kernel) (by simp) ?_
   | refine wpAnyIn_ready (rs:=[1,2]) (by decide +kernel) (by simp) ?_
   | refine wpAnyIn_ready (rs:=[0,2,3]) (by decide +kernel) (by simp) ?_
   | refine wpAnyIn_ready (rs:=[0,3]) (by decide +kernel) (by simp) ?_
   | refine wpAnyIn_ready (rs:=[0]) (by decide +kernel) (by simp) ?_
   | refine wpAnyIn_ready (rs:=[0,2]) (by decide +kernel) (by simp) ?_
   | refine wpAnyIn_ready (rs:=[0,1,3]) (by decide +kernel) (by simp) ?_
   | refine wpAnyIn_ready (rs:=[0,1]) (by decide +kernel) (by simp) ?_
   | refine wpAnyIn_ready (rs:=[0,1,2]) (by decide +kernel) (by simp) ?_
 intro gl gd P O W m;refine hKr _ _ ?_;clear hKr;have cv:=m.2.1 gl rfl;have cr:=m.2.2.1 gd rfl;obtain⟨dd,x40⟩:=m.2.2.2.1 P _ rfl;obtain⟨dl,x50⟩:=m.2.2.2.2.1 O _ rfl;have H:gl≠gd:=m.2.2.2.2.2.1 gl gd rfl rfl;have dq:P≠O:=m.2.2.2.2.2.2.1 P _ O _ rfl rfl;have cg:=m.1;have c6:=m.2.2.2.2.2.2.2;clear m
 gi_wp2_with (refine⟨trivial,?_⟩;gi_at_call 151;refine(callsIn_wide.2 (pp s _)).mono ?_;rintro e w' ⟨rfl,rfl⟩)
 have bN:=Boxed.new W 9 (.string s);have hA:Below W.heap.size W (W.alloc (.cells #[.string s] 9)):=(a0c _ W).alloc (a0a _) _;have lb4:P<W.heap.size:=x40.lt;have lb5:O<W.heap.size:=x50.lt;refine wpIn_rangeFunc_ownG rfl (by omega) (gf:=182) (lb:=#[.pointer (some ⟨W.heap.size,0,none⟩)]) rfl trivial (enters_of func182 (by kernel_rfl) rfl)
  (rH 5 (by omega) W.heap.size s (by omega) _ bN) EU (fun W l o o' _ h1 h2 _=>ET W l o o' h1 h2) (a0c _ _) (fun _=>rfl)
  (fun(pre:List (TkS s)) X=>((((al X w.heap.size (.slice (some ⟨gl,0,none⟩) 286 286) (jT pre)/\al X w.heap.size (.slice (some ⟨gd,0,none⟩) 30 30) (cK pre))/\Boxed X P 97 (.slice (some ⟨gl,0,none⟩) 286 286))/\Boxed X O 97 (.slice (some ⟨gd,0,none⟩) 30 30))/\Below w.heap.size w X)/\Boxed X W.heap.size 9 (.string s))
  (fun _ _ _=>False)
  (OwnFrom.and (OwnFrom.and (OwnFrom.and (OwnFrom.and (OwnFrom.and (Own.from (zV _ _ jT) _) (Own.from (zV _ _ cK) _)) (Own.from (boxed_own _ _ _) _)) (Own.from (boxed_own _ _ _) _)) (ownFrom_below (a0a _) (by simp;omega))) (Own.from (boxed_own _ _ _) _))
  (fun _ _ _ _ _ a _ _=>a)
  ⟨⟨⟨⟨⟨cv.later hA (a0a _),cr.later hA (a0a _)⟩,Boxed.later x40 hA⟩,Boxed.later x50 hA⟩,cg.trans (hA.mono c6)⟩,bN⟩
  (fun x=>{ tmps:=#[.string s,undef,.slice none 0 0,.slice none 0 0,.pointer (some ⟨P,0,none⟩),.pointer (some ⟨O,0,none⟩),ft x.1,undef,undef,undef,.slice (some ⟨gl,0,none⟩) 286 286,.slice (some ⟨gd,0,none⟩) 30 30,.string s,.func (.func 182) #[] #[.pointer (some ⟨W.heap.size,0,none⟩)],ft x.1,undef,undef,undef,undef,undef,undef,undef,undef,undef,undef,undef,undef,undef,undef,undef,undef,undef,undef,undef,undef,undef,undef,undef,undef,undef,undef,undef,undef,undef,undef,undef,undef,undef,undef,undef,undef,undef,undef,undef,undef,undef,undef,undef,undef],defers:=[] }) ?assign ?body ?done ?stop
 case assign=>
  intro l x W K U
  gi_wp2
  exact U
 case body=>
  rintro l pre x X ⟨⟨⟨⟨⟨d,hd⟩,x4⟩,x5⟩,hB⟩,B⟩ bk;have co:=x4.cell;have cp:=x5.cell;have u:=mx pre;have t:=kp pre;have m1:=kS;have m2:=mU;have m3:=kR;cases hb:isB x.1
  .
   have hk:isK x.1=true:=by have:=x.2.1;unfold okT at this;rw[hb]at this;simpa using this
   obtain⟨q1,q2,q3,q4⟩:=tL hk;have f1:x.1.2.1=((x.1.2.1.toNat:Nat):Int):=by omega
   have f2:x.1.2.2=((x.1.2.2.toNat:Nat):Int):=by omega
   have e2:ft x.1 = .iface 228 (.agg #[.int .i64 ((x.1.2.1.toNat:Nat):Int),.int .i64 ((x.1.2.2.toNat:Nat):Int)]):=by rw[←f1,←f2];exact oB hk
   have f:=DJ pre x hb;have N:=zl pre x hb;have b1:=ye pre (257+fnd 3 4 x.1.2.1.toNat 27);have b2:=tg pre (fnd 1 2 x.1.2.2.toNat 29);have b8:=af (fun W=>Bs x.1.2.1.toNat x.1.2.2.toNat W (by omega) (by omega) (by omega) (by omega));have k1:=gn 3 4 x.1.2.1.toNat 27;have k2:=gn 1 2 x.1.2.2.toNat 29;rw[e2];generalize x.1.2.1.toNat=y at *
   generalize x.1.2.2.toNat=z at *
   generalize fnd 3 4 y 27=p at *
   generalize fnd 1 2 z 29=q at *
   have I:=d.at u (show 257+p<286 by omega);generalize A:(jT pre).getD (257+p) 0=ya at *
   generalize T:(cK pre).getD q 0=za at *
   have d7:(257:Int)+(p:Int)<286:=by omega
   have d8:(q:Int)<30:=by omega
   have b3:ya<=300:=by omega
   have ed:za<=300:=by omega
   have b0:0<=ya:=by omega
   have b5:0<=za:=by omega
   have E:=cB x4 d;have r:=cB x5 d;have Y:=cB x4 hd;have aa:=cB x5 hd;have HX:Hid (∀Z,Below X.heap.size X Z->al Z w.heap.size (.slice (some ⟨gl,0,none⟩) 286 286) (jT pre)/\al Z w.heap.size (.slice (some ⟨gd,0,none⟩) 30 30) (cK pre)/\Boxed Z P 97 (.slice (some ⟨gl,0,none⟩) 286 286)/\Boxed Z O 97 (.slice (some ⟨gd,0,none⟩) 30 30)/\Boxed Z W.heap.size 9 (.string s)):=fun Z h=>⟨d.later h (a0a _),hd.later h (a0a _),Boxed.later x4 h,Boxed.later x5 h,Boxed.later B h⟩;have d0:=d.below.2;have dv:=hd.below.2;have Q:=af (a0b (show 257+p<286 by omega) (show q<30 by omega));have H1:=af f;have H2:=af N;have a3:=af A;have a4:=af T;have HB:=af hB;have ca:=af (a0b E (a0b r (a0b Y aa)));have cc:=hB.size;have c9:=B.lt;clear f N A T b1 b2 k1 k2 q1 q2 q3 q4 f1 f2 e2 I d hd x4 x5 B bk hB
   gi_wp2_with (refine⟨trivial,?_⟩;gi_at_call 154;refine(CallsIn.inRound l (callsIn_wide.2 (ae b8 _))).mono ?_;rintro e X1 ⟨rfl,bc⟩;have C:Below X.heap.size X X1:=ah ((a0c _ X).alloc (a0a _) _) bc;have c7:=C.size;have hZ:Hid (∀v,Below X.heap.size X (X1.alloc (.cells v 230))):=fun v=>C.alloc c7 _;have z1:=fun v=>(ae HX _ (ae hZ v)).2.2.1.cell;have z2:=fun v=>(ae HX _ (ae hZ v)).2.2.2.1.cell;have z3:=fun v=>((ae HX _ (ae hZ v)).1.at (mx pre) (ae Q).1).1;have z4:=fun v=>((ae HX _ (ae hZ v)).1.at (mx pre) (ae Q).1).2.1;have z5:=fun v=>((ae HX _ (ae hZ v)).2.1.at (kp pre) (ae Q).2).1;have z6:=fun v=>((ae HX _ (ae hZ v)).2.1.at (kp pre) (ae Q).2).2.1;rw[ae a3]at z3;rw[ae a4]at z5;have n1:¬ X1.heap.size=gl:=(by omega);have n2:¬ gl=X1.heap.size:=(by omega);have n3:¬ gd=gl:=(fun e=>H e.symm);have c8:=af C;clear bc C)
   refine(fun Z (ad:Below X.heap.size X Z)=>?_:∀Z,Below X.heap.size X Z->ownPostG _ _ _ _ _ _ _ _ ((Z.setCell ⟨gl,257+p,none⟩ (.int .i64 (ya+1))).setCell ⟨gd,q,none⟩ (.int .i64 (za+1)))) _ (ae hZ _);obtain⟨d,hd,x4,x5,B⟩:=ae HX Z ad;obtain⟨e4,e5,e6,e7⟩:=ae ca;have e8:=lu B d;have e9:=lu B hd;have cy:al ((Z.setCell ⟨gl,257+p,none⟩ (.int .i64 (ya+1))).setCell ⟨gd,q,none⟩ (.int .i64 (za+1))) w.heap.size (.slice (some ⟨gl,0,none⟩) 286 286) (jT (pre++[x])):=by
    have:=d.put (j:=257+p) (mx pre) (ya+1);rw[ae H1];unfold inc;rw[ae a3];exact this.setOther H.symm _
   have cs:al ((Z.setCell ⟨gl,257+p,none⟩ (.int .i64 (ya+1))).setCell ⟨gd,q,none⟩ (.int .i64 (za+1))) w.heap.size (.slice (some ⟨gd,0,none⟩) 30 30) (cK (pre++[x])):=by
    have:=(hd.setOther (g':=gl) (o:=257+p) H (.int .i64 (ya+1))).put (j:=q) (kp pre) (za+1);rw[ae H2];unfold inc;rw[ae a4];exact this
   exact⟨(((KeepsOthers.of_grownBy (ew ad) (fun _ _ e=>by cases e)).trans (KeepsOthers.setCell _ _ _)).trans (KeepsOthers.setCell _ _ _)).from _,fun _=>cX (cX B e8 _) e9 _,⟨⟨⟨⟨⟨cy,cs⟩,cX (cX x4 e4 _) e6 _⟩,cX (cX x5 e5 _) e7 _⟩,ai (ai ((ae HB).trans (ad.mono cc)) d.below.1 _) hd.below.1 _⟩,cX (cX B e8 _) e9 _⟩⟩
  .
   obtain⟨q1,q2⟩:=qs hb;have f1:x.1.1=((x.1.1.toNat:Nat):Int):=by omega
   have e2:ft x.1 = .iface 226 (.int .u8 ((x.1.1.toNat:Nat):Int)):=by rw[←f1];exact ly hb
   have f:=DI pre x hb;have N:=zk pre x hb;have b1:=ye pre x.1.1.toNat
   rw[e2];generalize x.1.1.toNat=k at *
   have I:=d.at u (show k<286 by omega);generalize A:(jT pre).getD k 0=ya at *
   have d5:(k:Int)<286:=by omega
   have b3:ya<=300:=by omega
   have b0:0<=ya:=by omega
   have R:Hid (al (X.setCell ⟨gl,k,none⟩ (.int .i64 (ya+1))) w.heap.size (.slice (some ⟨gl,0,none⟩) 286 286) (jT (pre++[x]))):=by
    have:=d.put (j:=k) u (ya+1);rw[f];unfold inc;rw[A];exact this
   have G:Hid (al (X.setCell ⟨gl,k,none⟩ (.int .i64 (ya+1))) w.heap.size (.slice (some ⟨gd,0,none⟩) 30 30) (cK (pre++[x]))):=by
    rw[N];exact hd.setOther H _
   have E:=cB x4 d;have r:=cB x5 d;obtain⟨c1,c2,c3,c4⟩:=I;clear f N A b1 bk q1 q2 f1 e2
   gi_wp2
   exact⟨(KeepsOthers.setCell _ _ _).from _,fun _=>cX B (lu B d) _,⟨⟨⟨⟨⟨ae R,ae G⟩,cX x4 E _⟩,cX x5 r _⟩,ai hB c3 _⟩,cX B (lu B d) _⟩⟩
 case done=>
  rintro D ys X hD S ⟨⟨⟨⟨⟨d,hd⟩,x4⟩,x5⟩,hB⟩,B⟩ U;have co:=x4.cell;have cp:=x5.cell;have u:=mx ys;have t:=kp ys;have be:=BH s a S;have b1:=ye ys 256;have b2:=tg ys 0;have hL:jT ys=fQ (List.replicate 286 0) ((bh s.data.toList 0).map ir):=by unfold jT;rw[S]
  have a8:cK ys=fg (bh s.data.toList 0):=by unfold cK fg;rw[S]
  have bb:inc (jT ys) 256=fF (bh s.data.toList 0):=by unfold fF;rw[hL]
  have I:=d.at u (show 256<286 by omega);have E:=cB x4 d;have r:=cB x5 d;have Y:=cB x5 hd;have aa:=cB x4 hd;have ch:D≠gl:=fun e=>by subst e;exact wI U d rfl
  have a7:D≠gd:=fun e=>by subst e;exact wI U hd rfl
  have a9:w.heap.size<=D:=by simp at hD;omega
  have eg:(cK ys).getD 0 0<=300:=by omega
  have L:∀i,i<(cK ys).length->0<=(cK ys).getD i 0:=fun i _=>(tg ys i).1;generalize A:(jT ys).getD 256 0=ya at *
  have b3:ya<=300:=by omega
  have b0:0<=ya:=by omega
  have R:al (X.setCell ⟨gl,256,none⟩ (.int .i64 (ya+1))) w.heap.size (.slice (some ⟨gl,0,none⟩) 286 286) (fF (bh s.data.toList 0)):=by
   have:=d.put (j:=256) u (ya+1);rw[←bb];unfold inc;rw[A];exact this
  have G:al (X.setCell ⟨gl,256,none⟩ (.int .i64 (ya+1))) w.heap.size (.slice (some ⟨gd,0,none⟩) 30 30) (cK ys):=hd.setOther H _;have bs:=cX (o:=256) x5 r (.int .i64 (ya+1));have ds:=bs.cell;have ba:(X.setCell ⟨gl,256,none⟩ (.int .i64 (ya+1))).heap[D]?=some (.deferred (some [])):=(a0K _ _ _ D ch).trans U;have a6:Below w.heap.size w (X.setCell ⟨gl,256,none⟩ (.int .i64 (ya+1))):=ai hB d.below.1 _;obtain⟨c1,c2,c3,c4⟩:=I;have HM:=af (um (some ⟨gd,0,none⟩) 30 30 (cK ys) (X.setCell ⟨gl,256,none⟩ (.int .i64 (ya+1))) t (G.rowN t) (by omega) (by omega) L);have ab:=af (NA (cK ys));rw[t]at ab;have a2:=af R;have a1:=af G;have F:=af ba;have a0:=af a6;have cu:=G.at t (show 0<30 by omega);obtain⟨d1,d2,d3,d4⟩:=cu;have a5:=af a8;have b9:=af t;clear d hd x4 x5 B hB U S hL bb b1 R G ba a6 bs a8 t L be u c3 c4;by_cases hu:us (cK ys)=0
  .
   have an:Hid (bG (cK ys) 30=0):=(ae ab).2 hu;rw[ae an]at HM;generalize T:(cK ys).getD 0 0=za at *
   have b5:0<=za:=b2.1
   gi_wp2_with (refine⟨trivial,?_⟩;gi_at_call 155;refine(callsIn_wide.2 (ae HM)).mono ?_;rintro e x1 ⟨rfl,f⟩;rw[f];clear f)
   gi_region
   gi_wp2
   refine⟨by simp,.inl ⟨_,_,rfl,run_takeDeferred ((a0K _ _ _ D a7).trans (ae F)),?_⟩⟩;have ac:((X.setCell ⟨gl,256,none⟩ (.int .i64 (ya+1))).setCell ⟨gd,0,none⟩ (.int .i64 (za+1))).heap[D]?=some (.deferred (some [])):=(a0K _ _ _ D a7).trans (ae F);refine⟨_,results_tmp2 rfl _ _ _,⟨gl,gd,rfl,?_,?_⟩,?_⟩
   . exact ownsRow_putObj (show al _ _ _ _ from(ae a2).setOther H.symm _) (.deferred none) ac rfl
   .
    have e1:ck (bh s.data.toList 0)=inc (cK ys) 0:=by
     unfold ck;rw[←ae a5,a0d hu]
    rw[e1];refine ownsRow_putObj (show al _ _ _ _ from ?_) (.deferred none) ac rfl;unfold inc;rw[T];exact(ae a1).put (j:=0) (ae b9) (za+1)
   . exact(ai (ae a0) d3 _).drew.trans (belowK_b (w:=w) (a0a _) (World.drew _) D _ _ a9 ac rfl rfl)
  .
   have an:Hid (¬ bG (cK ys) 30=0):=fun h=>hu ((ae ab).1 h);have d6:(bG (cK ys) 30 == 0)=false:=by have:=ae an;simpa using this
   generalize bG (cK ys) 30=M at *
   gi_wp2_with (refine⟨trivial,?_⟩;gi_at_call 155;refine(callsIn_wide.2 (ae HM)).mono ?_;rintro e x1 ⟨rfl,f⟩;rw[f];clear f)
   gi_region
   gi_wp2
   refine⟨by simp,.inl ⟨_,_,rfl,run_takeDeferred (ae F),?_⟩⟩;refine⟨_,results_tmp2 rfl _ _ _,⟨gl,gd,rfl,?_,?_⟩,?_⟩
   . exact ownsRow_putObj (ae a2) (.deferred none) (ae F) rfl
   .
    have e1:ck (bh s.data.toList 0)=cK ys:=by
     unfold ck;rw[←ae a5,a0e hu]
    rw[e1];exact ownsRow_putObj (ae a1) (.deferred none) (ae F) rfl
   . exact(ae a0).drew.trans (belowK_b (w:=w) (a0a _) (World.drew _) D _ _ a9 (ae F) rfl rfl)
 case stop=>
  rintro D c pre W _ _ h _;exact h.elim
end Go.Proofs.YtgmfehnnebkaoaaGreatDoor
namespace Go.Proofs.YtgmfehnnebkaoaaGreatDoor
open Go.Proofs.Tryz
open Go.RowKit Corb
variable {A D l:List Int}{B c4 c6 g4 g6 gd gl n:Nat}{W w:World}{a:Option Addr}
theorem OS(h:okC l):inC l=true:=by
 unfold inC;rw[a03];intro x b;obtain⟨i,a,rfl⟩:=List.mem_iff_getElem.1 b;have:=h i a;rw[show l.getD i 0=l[i] by simp[List.getD,a]]at this;exact aI.2 this
theorem ud{m:Nat}(a:okC l)(b:l.length<=300)(c:1<=us l)(d:us l<=p2 m)(e:m<=14):jy l ((m:Int)+1)=da ((m:Int)+1) l:=by
 unfold jy;rw[a0d];unfold wv;simp only[a0j,a0p];refine⟨⟨⟨b,aI.2 (by omega)⟩,OS a⟩,aI.2 ?_⟩;rw[show((m:Int)+1).toNat=m+1 by omega,yr];omega
theorem Nu(T:List Tk)(b:T.length<=300):jy (fF T) 15=da 15 (fF T):=by
 have a:=yd T;have h2:=Bb;exact ud (m:=14) (yb T b) (by rw[eG];omega) a.1 (by omega) (by omega)
theorem Jt(T:List Tk)(b:T.length<=300):jy (ck T) 15=da 15 (ck T):=by
 have a:=tf T;have h2:=Bb;exact ud (m:=14) (te T b) (by rw[eU];omega) a.1 (by omega) (by omega)
theorem Ie(A:List Int)(a:0<A.length)(c:A.length<=400)(d:∀x∈A,0<=x/\x<=15):jy (nW A) 7=aM A:=by
 have b:=xA A a d;have h2:=Pi;exact ud (m:=6) (xz A c) (by rw[fx];omega) b.1 (by omega) (by omega)
theorem al.cut{base m cap:Nat}(j:l.length=n)(h:al w base (.slice a n cap) l)(p:m<=n)(k:0<n):al w base (.slice a m cap) (l.take m):=by
 subst j;rcases h.2 with⟨_,e⟩|⟨g,c,b,e,hb,i,o,h2,d,f⟩
 . omega
 .
  simp only[a0J]at e;obtain⟨rfl,_,rfl⟩:=e;refine⟨by simp,.inr ⟨g,cap,b,by rw[a0z];congr 1;omega,hb,i,by rw[a0z];omega,h2,d,?_⟩⟩;rw[a0z,List.map_take,←f,a3a]
  congr 1
  omega
theorem pr{base base' size:Nat}{e:TypeId}{v:Value}{xs:List Value}(h:w.ownsRow base e size v n xs)(hb:base'<=base):w.ownsRow base' e size v n xs:=
 ⟨h.1,h.2.imp id fun⟨g,c,u,e,a,r⟩=>⟨g,c,u,e,a0L hb a,r⟩⟩
theorem al.cap{base cap g:Nat}(h:al w base (.slice (some ⟨g,0,none⟩) n cap) l):n<=cap/\cap<=maxLen:=by
 rcases h.2 with⟨e,_⟩|⟨g',a,b,e,hb,i,c,h2,d,f⟩
 . cases e
 . simp only[a0J]at e;obtain⟨_,rfl,rfl⟩:=e;exact⟨c,h2⟩
def cT(L D:List Int):List (Int×Int):=[((L.length:Int)-257,5),((D.length:Int)-1,5),(15,4)]
def eH(l:List Int)(k:Nat):List (Int×Int):=(bB.take k).map fun i=>(l.getD i 0,(3:Int))
theorem wB(l:List Int)(k:Nat)(h:k<19):eH l (k+1)=eH l k++[(l.getD (bB.getD k 0) 0,3)]:=by
 unfold eH;have a:k<bB.length:=h;rw[a09 a,a0I];simp[List.getD,a]
theorem uB(l:List Int)(k:Nat)(h:k<=19):(eH l k).length=k:=by unfold eH;have:bB.length=19:=rfl;simp;omega
theorem Eo(L D:List Int)(h:av (aM (L++D))=true)(a:(aM (L++D)).length=19)(b:∀x∈L++D,0<=x/\x<=15):cT L D++eH (aM (L++D)) 19++iJ (aM (L++D)) (L++D)=cV L D:=by
 unfold cV cT eH iJ;rw[a0O]
 congr 2
 apply List.map_congr_left;intro x c;have:=b x c;exact np h (by rw[a];omega)
theorem FK{b base:Nat}{C:Array Value}(h:sJ w b base l C):∃a cap,w.cell? ⟨b,0,none⟩=some (.slice a l.length cap)/\bo w a l:=by
 obtain⟨⟨a,cap,ac,f,q,sc,e,c,h2,g⟩,d,_⟩:=h;refine⟨a,cap,?_,c.1⟩;have:=d 0 (.slice a l.length cap) (by rw[e];rfl);simpa using this
def pU:Array Value:=#[Value.slice none 0 0,Value.slice none 0 0,Value.int .i64 0,Value.int .i64 0,Value.int .i64 0,Value.int .i64 0,Value.int .i64 0,Value.int .i64 0,Value.int .i64 0,Value.int .i64 0,Value.int .i64 0,Value.int .i64 0,Value.int .i64 0,Value.int .i64 0,Value.int .i64 0,Value.int .i64 0,Value.int .i64 0,Value.int .i64 0,Value.slice none 0 0]
theorem Cz(gL gD nL b nD a base:Nat)(L D:List Int)(w:World)(n:L.length=nL)(m:D.length=nD)(j:al w base (.slice (some ⟨gL,0,none⟩) nL b) L)(h:al w base (.slice (some ⟨gD,0,none⟩) nD a) D)(o:nL+nD<=1000) :
  Calls prog 150 #[.slice (some ⟨w.heap.size,0,none⟩) 2 2] (w.alloc (.cells #[.slice (some ⟨gL,0,none⟩) nL b,.slice (some ⟨gD,0,none⟩) nD a] 97)) fun e w'=>∃v,e = .returned v/\al w' w.heap.size v (L++D)/\Below w.heap.size w w':=by
 have d:Below w.heap.size w (w.alloc (.cells #[.slice (some ⟨gL,0,none⟩) nL b,.slice (some ⟨gD,0,none⟩) nD a] 97)):=(a0c _ _).alloc (a0a _) _;have k:iM (w.alloc (.cells #[.slice (some ⟨gL,0,none⟩) nL b,.slice (some ⟨gD,0,none⟩) nD a] 97)) w.heap.size base [(.slice (some ⟨gL,0,none⟩) nL b,L.map (Value.int .i64)),(.slice (some ⟨gD,0,none⟩) nD a,D.map (Value.int .i64))]:=by
  intro i l
  match i,l with
  | 0,_=>exact⟨by simp,_,j.later d (a0a _),a1m .i64 _⟩
  | 1,_=>exact⟨by simp,_,h.later d (a0a _),a1m .i64 _⟩
 have c:aN [(Value.slice (some ⟨gL,0,none⟩) nL b,L.map (Value.int .i64)),(.slice (some ⟨gD,0,none⟩) nD a,D.map (Value.int .i64))]=(L++D).length:=by simp[aN,cx]
 refine(pV w.heap.size base 2 2 _ _ rfl (by omega) (by omega) k (by rw[c,a0i];omega)).mono ?_;rintro e x5 ⟨v,rfl,g,hb⟩;refine⟨v,rfl,?_,ah d hb⟩;have f:dj [(Value.slice (some ⟨gL,0,none⟩) nL b,L.map (Value.int .i64)),(.slice (some ⟨gD,0,none⟩) nD a,D.map (Value.int .i64))]=(L++D).map (Value.int .i64):=by
  simp only[dj,a0S,a2f,a0I,a1b]
 rw[c,f]at g;exact al.mono (base:=(w.alloc (.cells #[.slice (some ⟨gL,0,none⟩) nL b,.slice (some ⟨gD,0,none⟩) nD a] 97)).heap.size) g (by simp)
theorem xY(gL gD nL cL nD cD base:Nat)(L D:List Int)(w:World)(O:L.length=nL)(N:D.length=nD)(hL:al w base (.slice (some ⟨gL,0,none⟩) nL cL) L)(hD:al w base (.slice (some ⟨gD,0,none⟩) nD cD) D)
  (l0:257<=nL) (l1:nL<=286) (d0:1<=nD) (d1:nD<=30) (kL:av L=true) (kD:av D=true) (hO:cJ w) :
  Calls prog 127 #[.slice (some ⟨gL,0,none⟩) nL cL,.slice (some ⟨gD,0,none⟩) nD cD] w fun e w'=>∃v,e = .returned v/\Pcs w' w.heap.size v (cV L D)/\Below w.heap.size w w':=by
 obtain⟨i0,hi,cp,cr,cs⟩:=a0r Tryz.infoInt;obtain⟨j0,hj,bk,bl,bs⟩:=a0r Tryz.infoPiece;have Z:Hid (∀x∈L++D,0<=x/\x<=15):=by
  intro x hx;rcases a0V.1 hx with h|h
  . exact jz kL x h
  . exact jz kD x h
 obtain⟨nA,hnA⟩:∃nA,(L++D).length=nA:=⟨_,rfl⟩;have ba:nA=nL+nD:=by rw[←hnA,a0i,O,N]
 have r:=af (ub (L++D) (by omega) (by omega) (ae Z));have HS:=af (Ie (L++D) (by omega) (by omega) (ae Z));have HT:=af (Eo L D (ae r).2.1 (ae r).1 (ae Z));have Q:=af (Cz gL gD nL cL nD cD base L D w O N hL hD (by omega));have HB:Hid (cT L D=[((nL:Int)-257,5),((nD:Int)-1,5),(15,4)]):=by show cT L D=_;unfold cT;rw[O,N]
 have nLI:(nL:Int)<=286:=by omega
 have nDI:(nD:Int)<=30:=by omega
 have nLI0:(257:Int)<=(nL:Int):=by omega
 have nDI0:(1:Int)<=(nD:Int):=by omega
 have nAI:(nA:Int)<=316:=by omega
 have B:Hid (1<=nA/\nA<=316):=by show _/\_;omega
 have HO:=af hO;clear hL hD kL kD l0 l1 d0 d1 O N ba hO;generalize b8:L++D=A at *
 have f:=af hnA;clear hnA b8;go_enter func127,ntmps127;go_wp2_with fail;refine(ae Q).mono ?_;rintro e x1 ⟨v1,rfl,o1,b1⟩;obtain⟨a1,c1,rfl⟩:=o1.formN (ae f);obtain⟨g1,rfl⟩:=o1.somes (by have:=ae f;have:=ae B;omega);have O1:=af o1;have S:=af b1;clear o1 b1 Q
 go_wp2_with (at_make;refine a1K _ rfl _ _ 97 rfl w.heap.size 3 i0 (.int .i64 0) 1 a0G hi cp cr .i64 .i64 _ _ 19 rfl rfl rfl rfl (by rw[cs];omega) (by unfold maxLen;omega) (ae S).size ?_;intro x2 d b);have a6:=(ae O1).below.2;obtain⟨gC,hgC⟩:∃gC,x1.heap.size=gC:=⟨_,rfl⟩;have b2:=fT b;have o2:=dy d;rw[hgC]at d o2 a6;have M:=ah (ae S) b2;have o1:=(ae O1).later b2 (a0a _);have ch:gC≠g1:=by omega
 rw[hgC];clear d b b2 O1 S hgC a6
 go_loopw [8,20] (fun _ i wr=>∃k:Nat,k<=nA/\i = .int .i64 k/\al wr w.heap.size (.slice (some ⟨g1,0,none⟩) nA c1) A/\al wr w.heap.size (.slice (some ⟨gC,0,none⟩) 19 19) (fQ (List.replicate 19 0) ((A.take k).map Int.toNat))/\Below w.heap.size w wr) (fun _ i _=>nA-(intOf i).toNat)
 case atStart=>exact⟨0,a0g _,rfl,o1,o2,M⟩
 case round=>
  obtain⟨k,hk,rfl,E,n,a⟩:=hrel;clear o1 o2 M;by_cases l:k<nA
  .
   obtain⟨c0,_,_,_⟩:=E.at (ae f) l;have a8:A.getD k 0∈A:=by have:=ae f;simp[List.getD,show k<A.length by omega]
   have K:=ae Z _ a8;have J:Hid ((A.take (k+1)).map Int.toNat=(A.take k).map Int.toNat++[(A.getD k 0).toNat]):=by
    show _=_;rw[bZ A k (by rw[ae f];exact l),a0I];rfl
   have V:(fQ (List.replicate 19 0) ((A.take k).map Int.toNat)).length=19:=by rw[dZ,a0y]
   obtain⟨y,hy⟩:=a0n K.1;rw[hy]at J c0 K;rw[a0l]at J;have hb:=oX 19 ((A.take k).map Int.toNat) y;have p:((A.take k).map Int.toNat).length<=nA:=by simp;omega
   obtain⟨d0,d1,d2,d3⟩:=n.at (j:=y) V (by omega);have hP:=n.put (j:=y) V ((fQ (List.replicate 19 0) ((A.take k).map Int.toNat)).getD y 0+1);have a2:Hid (∀u,al (wr.setCell ⟨gC,y,none⟩ u) w.heap.size (.slice (some ⟨g1,0,none⟩) nA c1) A/\Below w.heap.size w (wr.setCell ⟨gC,y,none⟩ u)):=fun u=>⟨E.setOther ch u,ai a d2 u⟩;have HP:Hid (al (wr.setCell ⟨gC,y,none⟩ (.int .i64 ((fQ (List.replicate 19 0) ((A.take k).map Int.toNat)).getD y 0+1))) w.heap.size (.slice (some ⟨gC,0,none⟩) 19 19) (fQ (List.replicate 19 0) ((A.take (k+1)).map Int.toNat))):=by
    show al _ _ _ _;rw[ae J,gP];exact hP
   generalize (fQ (List.replicate 19 0) ((A.take k).map Int.toNat)).getD y 0=z at *
   have c8:(y:Int)<19:=by omega
   have c9:z<=400:=by have:=ae B;omega
   have cv:0<=z:=hb.1;have Hk:=af hk;clear hP n E a p hb K hy a8 hk V d2 d3;go_wp2;go_roundw
   case rel=>exact⟨k+1,by have:=ae Hk;omega,by go_num,(ae a2 _).1,ae HP,(ae a2 _).2⟩
   case measure=>simp[intOf];omega
  .
   have a9:A.take k=A:=a0o (by rw[ae f];omega);rw[a9]at n;have ao:al wr w.heap.size (.slice (some ⟨gC,0,none⟩) 19 19) (nW A):=n;have HL:=af (jb (some ⟨gC,0,none⟩) 19 19 (nW A) 7 wr (fx A) (ao.rowN (fx A)) (by omega));rw[ae HS]at HL;have O1:=af E;have S:=af a;clear a9 n ao E a;go_wp2_with fail;refine(ae HL).mono ?_;rintro e x3 ⟨⟨v3,rfl,o3⟩,b3⟩;obtain⟨a3,c3,rfl⟩:=o3.formN (ae r).1;have O1':=af ((ae O1).later b3 (a0a _));have B3:=af (ah (ae S) b3);have ab:=af (Aq a3 c3 19 w.heap.size (aM A) x3 (ae r).1 ((dh (ae r).1 (o3.own (ae r).1)).mono (ae S).size) (ae B3).size (by omega));clear o3 b3 HL O1 S;go_wp2_with fail;refine(ae ab).mono ?_;rintro e x4 ⟨⟨C,rfl,k4⟩,b4⟩;have O1:=af ((ae O1').later b4 (a0a _));have B4:=af (ah (ae B3) b4);have K4:=af k4;have T:=af k4.size;have ac:=af k4.one;clear k4 b4 ab O1' B3;have b5:Below x4.heap.size x4 ((x4.alloc (.cells pU 238)).setCells x4.heap.size 0 C.toList):=below_setCells (a0a _) _ _ _ ((a0c _ _).alloc (a0a _) _);have Y:(x4.alloc (.cells pU 238)).there x4.heap.size 0 19:=gW x4 pU _ 19 rfl;have be:=World.rangeAt_setCells_same (x4.alloc (.cells pU 238)) x4.heap.size 0 C.toList (by rw[a1Z,ae T];exact Y);have m:sJ ((x4.alloc (.cells pU 238)).setCells x4.heap.size 0 C.toList) x4.heap.size w.heap.size (aM A) C:=⟨(ae K4).later b5,be,by rw[size_setCells];simp⟩;have U:=af Y;have s:=af b5;have aa:=af m;unfold pU at U s aa;clear b5 Y be m K4;go_wp2_with (first
    | (refine wpList_store_mid rfl 238 (.tmp 9) (.tmp 33) rfl x4.heap.size 0 C rfl rfl (by rw[ae T];exact ae U) (by rw[ae T];exact Tryz.infoLenK) (ae ac) ?_;generalize co:World.setCells _ x4.heap.size 0 C.toList=x5 at *;clear co U)
    | (refine bi rfl 241 (.global 1) rfl 1 0 rfl G8 _ (cJ.later (cJ.later (cJ.later (ae HO) (ae B4)) (ae s)) ((a0c _ _).alloc (a0a _) _)).1 underlying241 rfl Tryz.infoOrd ?_))
   have bb:Pcs (x5.alloc (.cells #[.int .i64 ((nL:Int)-256-1),.int .i64 5,.int .i64 ((nD:Int)-1),.int .i64 5,.int .i64 15,.int .i64 4] 139)) x5.heap.size (.slice (some ⟨x5.heap.size,0,none⟩) 3 3) (cT L D++eH (aM A) 0):=by
    have e0:cT L D++eH (aM A) 0=[((nL:Int)-256-1,5),((nD:Int)-1,5),(15,4)]:=by rw[ae HB];simp only[eH,a3G,a1I,a1b];congr 2;omega
    rw[e0];exact a0Y x5 #[.int .i64 ((nL:Int)-256-1),.int .i64 5,.int .i64 ((nD:Int)-1),.int .i64 5,.int .i64 15,.int .i64 4] 3 (a0a _) (by unfold maxLen;omega) rfl
   have an:Below x5.heap.size x5 (x5.alloc (.cells #[.int .i64 ((nL:Int)-256-1),.int .i64 5,.int .i64 ((nD:Int)-1),.int .i64 5,.int .i64 15,.int .i64 4] 139)):=(a0c _ _).alloc (a0a _) _;have O5:=af ((ae O1).later (ae s) (a0a _));have B5:=af (ah (ae B4) (ae s));generalize x5.alloc (.cells #[.int .i64 ((nL:Int)-256-1),.int .i64 5,.int .i64 ((nD:Int)-1),.int .i64 5,.int .i64 15,.int .i64 4] 139)=x6 at *
   generalize x4.heap.size=b9 at *
   clear s B4 O1
   go_loopw [10,12,46] (fun o _ i wr=>∃j:Nat,j<=19/\i = .int .i64 j/\Pcs wr x5.heap.size o (cT L D++eH (aM A) j)/\Below x5.heap.size x5 wr) (fun _ _ i _=>19-(intOf i).toNat)
   case atStart=>exact⟨0,by omega,rfl,bb,an⟩
   case round=>
    obtain⟨j,F,rfl,hp,a⟩:=hrel;clear bb an x6;have m:=(ae aa).later a;have p:Hid ((cT L D++eH (aM A) j).length=3+j):=by show _=_;rw[a0i,uB _ _ F];rfl
    have a4:=a.size;by_cases l:j<19
    .
     have c5:=G9 j l;have W:=DX j l;have J:Hid (cT L D++eH (aM A) (j+1)=(cT L D++eH (aM A) j)++[((aM A).getD (bB.getD j 0) 0,3)]):=by show _=_;rw[wB (aM A) j l,a0O]
     obtain⟨a7,cu,cg,a0⟩:=FK m;rw[(ae r).1]at cg;obtain⟨g7,o7,rfl,cy,a5⟩:=a0 (by rw[(ae r).1];omega);have d7:=a5 (bB.getD j 0) (by rw[(ae r).1];exact W);have K:=(ae r).2.2 (bB.getD j 0) W;generalize (aM A).getD (bB.getD j 0) 0=y at *
     generalize bB.getD j 0=q at *
     have c7:(q:Int)<19:=by omega
     have c6:(j:Int)<19:=by omega
     have H:Hid ((cT L D++eH (aM A) j).length+1<=maxLen/\((cT L D++eH (aM A) j).length+1)*16<=140737488355328):=by
      show _/\_;rw[ae p];unfold maxLen;omega
     have Hj:=af l;clear m a5 W a0 K F l;go_wp2_with (at_builtin;refine a0B _ rfl _ _ 136 rfl x5.heap.size 139 j0 (.agg #[.int .i64 0,.int .i64 0]) 2 16 a1q hj bk bl bs rfl (by decide) _ _ _ rfl (a0m hp _) ⟨wr.heap.size,0,none⟩ 1 1 [.int .i64 y,.int .i64 3] rfl rfl (sH wr _ _ _) (sG _ _) (ae H).1 (ae H).2 (au a4 _) ?_;intro v' x2 d b I;clear I);have M:=aH (v:=u10) b hp (a0a _) a4 a;have bc:=mF d;rw[←ae J]at bc;exact⟨⟨j+1,by have:=ae Hj;omega,by go_num,bc,M⟩,by have:=ae Hj;simp[intOf];omega⟩
    .
     obtain rfl:j=19:=by omega
     have t:=af (F5 (some ⟨g1,0,none⟩) c1 nA b9 w.heap.size A (aM A) C wr (ae f) (((ae O5).later a (a0a _)).rowN (ae f)) (by have:=ae B;omega) m (by rw[(ae r).1];omega) (fun i hi=>by rw[(ae r).1];have:=ae Z (A.getD i 0) (by simp[List.getD,hi]);omega));obtain⟨ga,ca,rfl⟩:∃ga ca,u10 = .slice (some ⟨ga,0,none⟩) 22 ca:=by
      obtain⟨g,c,e⟩:=uE hp (by rw[ae p];omega);rw[ae p]at e;exact⟨g,c,e⟩
     have HP:=af hp;have P:=af a;clear hp a m l F;go_wp2_with fail;refine(ae t).mono ?_;rintro e x7 ⟨v7,rfl,X,b7⟩;have G:Hid ((iJ (aM A) A).length=nA):=by show _=_;unfold iJ;rw[a0N];exact ae f
     obtain⟨ga7,ca7,rfl⟩:∃ga ca,v7 = .slice (some ⟨ga,0,none⟩) nA ca:=by
      obtain⟨g,c,e⟩:=uE X (by rw[ae G];have:=ae B;omega);rw[ae G]at e;exact⟨g,c,e⟩
     have b6:=af (X.newsN (ae G));have ad:=af (dO (ae HP) b7);have R:x5.heap.size<=x7.heap.size:=a0L (ae P).size b7.size;have b0:=af (ah (ae P) b7);have bd:Hid ((cT L D++eH (aM A) 19).length+nA<=maxLen/\((cT L D++eH (aM A) 19).length+nA)*16<=140737488355328):=by
      show _/\_;rw[ae p];have:=ae B;unfold maxLen;omega
     clear X b7 t;go_wp2_with (at_builtin;refine a0B _ rfl _ _ 136 rfl x5.heap.size 139 j0 (.agg #[.int .i64 0,.int .i64 0]) 2 16 a1q hj bk bl bs rfl (by decide) _ _ _ rfl (ae ad) ⟨ga7,0,none⟩ nA ca7 (aR (iJ (aM A) A)) rfl (by rw[lp,ae G]) (ae b6) (gT _) (ae bd).1 (ae bd).2 R ?_;intro v' x8 d b I;clear I);go_ret;have cc:Below x5.heap.size x5 x8:=(ae b0).grown b R (fun j hj=>(a0E (ae ad) j hj).1);refine⟨_,rfl,?_,ah (ae B5) cc⟩;rw[←ae HT];have h9:Pcs x8 x5.heap.size v' ((cT L D++eH (aM A) 19)++iJ (aM A) A):=by
      show World.ownsRow _ _ _ _ _ _ _;rw[ee,a0i,ae G];exact d
     exact pr h9 (ae B5).size
def iC(T:List Tk)(k:Nat):List Int:=fQ (inc (List.replicate 286 0) 256) ((T.take k).map ir)
def fS(T:List Tk)(k:Nat):List Int:=fQ (List.replicate 30 0) ((T.take k).flatMap dX)
theorem pj(T:List Tk)(k:Nat):(iC T k).length=286:=by unfold iC;rw[dZ,iP,a0y]
theorem vN(T:List Tk)(k:Nat):(fS T k).length=30:=by unfold fS;rw[dZ,a0y]
theorem oz(T:List Tk)(k:Nat)(h:k<T.length):T.take (k+1)=T.take k++[T.getD k k0]:=by
 rw[a09 h]
 congr 1
 simp[List.getD,h]
theorem GK(T:List Tk)(k:Nat)(h:k<T.length):iC T (k+1)=inc (iC T k) (ir (T.getD k k0)):=by
 unfold iC;rw[oz T k h,a0I,a2v,gP]
theorem GL(T:List Tk):iC T 0=(List.replicate 286 (0:Int)).set 256 1:=by
 unfold iC inc;rw[a3G,g9];rfl
theorem MW(T:List Tk)(k:Nat)(h:k<T.length)(hb:isB (T.getD k k0)=true):fS T (k+1)=fS T k:=by
 unfold fS;rw[oz T k h,a2q];have:[T.getD k k0].flatMap dX=[]:=by simp only[a0S,a2f,a1b];unfold dX;rw[a0d hb]
 rw[this,a1b]
theorem MX(T:List Tk)(k:Nat)(h:k<T.length)(hb:isB (T.getD k k0)=false):fS T (k+1)=inc (fS T k) (fnd 1 2 (T.getD k k0).2.2.toNat 29):=by
 unfold fS;rw[oz T k h,a2q];have:[T.getD k k0].flatMap dX=[fnd 1 2 (T.getD k k0).2.2.toNat 29]:=by simp only[a0S,a2f,a1b];unfold dX;rw[a0e (by rw[hb];exact Bool.false_ne_true)]
 rw[this,gP]
theorem E3(T:List Tk)(k j:Nat)(a:k<=300):0<=(iC T k).getD j 0/\(iC T k).getD j 0<=301:=by
 unfold iC;rw[kx,lj,g9];have:((T.take k).map ir).count j<=((T.take k).map ir).length:=a3d;rw[a0N,a0z]at this
 split<;>split<;>omega
theorem zj(T:List Tk)(k j:Nat)(b:k<=300):0<=(fS T k).getD j 0/\(fS T k).getD j 0<=300:=by
 have a:=oX 30 ((T.take k).flatMap dX) j;have h2:=tj (T.take k);rw[a0z]at h2;unfold fS;omega
theorem J6{t:Tk}(h:isB t=true):t.2.1=0:=by unfold isB at h;simp only[a0j,a0p]at h;exact h.1
def rO(w W:World)(B gl gd g4 c4 g6 c6:Nat)(A D:List Int):Prop:=
 (al W w.heap.size (.slice (some ⟨gl,0,none⟩) 286 286) A/\al W w.heap.size (.slice (some ⟨gd,0,none⟩) 30 30) D)/\(al W B (.slice (some ⟨g4,0,none⟩) 28 c4) kC/\al W B (.slice (some ⟨g6,0,none⟩) 30 c6) kh)/\Below w.heap.size w W/\gl≠gd/\gl<B/\gd<B
theorem rO.drew(h:rO w W B gl gd g4 c4 g6 c6 A D):rO w W.drew B gl gd g4 c4 g6 c6 A D:=⟨h.1,h.2.1,h.2.2.1.drew,h.2.2.2⟩
theorem rO.putL(h:rO w W B gl gd g4 c4 g6 c6 A D)(i:A.length=286)(j:Nat)(x:Int):rO w (W.setCell ⟨gl,j,none⟩ (.int .i64 x)) B gl gd g4 c4 g6 c6 (A.set j x) D:=by
 obtain⟨⟨a,h2⟩,⟨b,c⟩,e,d,f,g⟩:=h;have e3:=b.below.1;have e4:=c.below.1;exact⟨⟨a.put i x,h2.setOther d _⟩,⟨b.setOther (by omega) _,c.setOther (by omega) _⟩,ai e a.below.1 _,d,f,g⟩
theorem rO.putD(h:rO w W B gl gd g4 c4 g6 c6 A D)(i:D.length=30)(j:Nat)(x:Int):rO w (W.setCell ⟨gd,j,none⟩ (.int .i64 x)) B gl gd g4 c4 g6 c6 A (D.set j x):=by
 obtain⟨⟨d,h2⟩,⟨a,b⟩,e,c,f,g⟩:=h;have e3:=a.below.1;have e4:=b.below.1;exact⟨⟨d.setOther c.symm _,h2.put i x⟩,⟨a.setOther (by omega) _,b.setOther (by omega) _⟩,ai e h2.below.1 _,c,f,g⟩
theorem xW(ta:Option Addr)(tcap tn:Nat)(T:List Tk)(w:World)(ab:T.length=tn)(hT:Cj w ta T)(aa:tn<=300)(X:∀t∈T,okT t=true) :
  Calls prog 200 #[.slice ta tn tcap] w fun e w'=>(∃gl gd,e = .returned (.tuple #[.slice (some ⟨gl,0,none⟩) 286 286,.slice (some ⟨gd,0,none⟩) 30 30])/\al w' w.heap.size (.slice (some ⟨gl,0,none⟩) 286 286) (fF T)/\al w' w.heap.size (.slice (some ⟨gd,0,none⟩) 30 30) (ck T))/\Below w.heap.size w w':=by
 obtain⟨i0,hi,ac,ad,an⟩:=a0r Tryz.infoInt;have u:=af ab;have HT:=af hT;have L:=af aa;have a1:=af X;have be:(tn:Int)<=300:=by omega
 clear ab hT aa X;go_enter func200,ntmps200;go_wp2_with (first
  | (at_make;refine a1K _ rfl _ _ 97 rfl w.heap.size 3 i0 (.int .i64 0) 1 a0G hi ac ad .i64 .i64 _ _ 286 rfl rfl rfl rfl (by rw[an];omega) (by unfold maxLen;omega) (a0a _) ?_;intro x1 S P;have m:=fT P;have o1:=dy S;clear P S)
  | (at_make;refine a1K _ rfl _ _ 97 rfl w.heap.size 3 i0 (.int .i64 0) 1 a0G hi ac ad .i64 .i64 _ _ 30 rfl rfl rfl rfl (by rw[an];omega) (by unfold maxLen;omega) m.size ?_;intro x2 V Q;have n:=fT Q;have o2:=dy V;clear Q V))
 have lt1:=o1.below.2;have O1:=af (o1.later n (a0a _));have O2:=af o2;have B2:=af (ah m n);have lt2:=o2.below.2;obtain⟨gl,hgl⟩:∃g,w.heap.size=g:=⟨_,rfl⟩;obtain⟨gd,hgd⟩:∃g,x1.heap.size=g:=⟨_,rfl⟩;have a3:gl≠gd:=by omega
 have v:gl<x2.heap.size:=by omega
 have x:gd<x2.heap.size:=by omega
 rw[hgd]at O2;have K:Hid (al x2 w.heap.size (.slice (some ⟨gl,0,none⟩) 286 286) (List.replicate 286 0)):=by show al _ _ _ _;have:=ae O1;rw[hgl]at this ⊢;exact this
 rw[hgd];have eg:Value.slice (some ⟨w.heap.size,0,none⟩) 286 286 = .slice (some ⟨gl,0,none⟩) 286 286:=by rw[hgl]
 rw[eg];clear o1 o2 m n lt1 lt2 O1 eg hgl hgd;refine(og _).mono ?_;rintro e x3 ⟨⟨g3,rfl,o3⟩,b3⟩;have R3:=af (o3.rowN rfl);have B3:=af b3;clear o3 b3;go_wp2_with fail;refine(mt _ 28 _ (ae R3)).mono ?_;rintro e x4 ⟨v4,rfl,o4,b4⟩;obtain⟨a4,c4,rfl⟩:=o4.formN eW;obtain⟨g4,rfl⟩:=o4.somes (by rw[eW];omega);have O4:=af (o4.mono (ae B3).size);have B4:=af (ah (ae B3) b4);clear o4 b4 B3 R3;go_wp2_with fail;refine(nU _).mono ?_;rintro e x5 ⟨⟨g5,rfl,o5⟩,b5⟩;have R5:=af (o5.rowN rfl);have B5:=af (ah (ae B4) b5);have O4':=af ((ae O4).later b5 (a0a _));clear o5 b5 O4;go_wp2_with fail;refine(ms _ 30 _ (ae R5)).mono ?_;rintro e x6 ⟨v6,rfl,o6,b6⟩;obtain⟨a6,M,rfl⟩:=o6.formN eR;obtain⟨g6,rfl⟩:=o6.somes (by rw[eR];omega);have Y:=(ae B5).size;have O4:al x6 x2.heap.size (.slice (some ⟨g4,0,none⟩) 28 c4) kC:=(ae O4').later b6 (a0a _);have O6:al x6 x2.heap.size (.slice (some ⟨g6,0,none⟩) 30 M) kh:=o6.mono Y;have B6:=ah (ae B5) b6;have E:rO w x6 x2.heap.size gl gd g4 c4 g6 M (List.replicate 286 0) (List.replicate 30 0):=⟨⟨(ae K).later B6 (a0a _),(ae O2).later B6 (a0a _)⟩,⟨O4,O6⟩,ah (ae B2) B6,a3,v,x⟩;have F:=E.putL (a0y ..) 256 1;have e1:(List.replicate 286 (0:Int)).set 256 1=iC T 0:=(GL T).symm;rw[e1]at F;have N:rO w (x6.setCell ⟨gl,256,none⟩ (.int .i64 1)) x2.heap.size gl gd g4 c4 g6 M (iC T 0) (fS T 0):=F;obtain⟨f1,f2,_,_⟩:=E.1.1.at (j:=256) (a0y ..) (by omega);clear E F e1 O4 O6 B6 b6 o6 K O2 B2 B4 O4' Y R5 B5 v x;generalize x2.heap.size=B at *
 go_wp2_with fail
 go_loopw [8,9] (fun i _ wr=>∃k:Nat,k<=tn/\i = .int .i64 k/\rO w wr B gl gd g4 c4 g6 M (iC T k) (fS T k)) (fun i _ _=>tn-(intOf i).toNat)
 case atStart=>exact⟨0,a0g _,rfl,N⟩
 case round=>
  obtain⟨k,hk,rfl,l⟩:=hrel;clear N f1 f2;by_cases H:k<tn
  .
   obtain⟨g,o,rfl,hg,O⟩:=(ae HT) (by rw[ae u];omega);obtain⟨c0,c1,c2⟩:=O k (by rw[ae u];exact H);have d0:=(l.2.2.1.cell (p:=⟨g,o+k*3,none⟩) hg).trans c0;have d1:=(l.2.2.1.cell (p:=⟨g,o+k*3+1,none⟩) hg).trans c1;have d2:=(l.2.2.1.cell (p:=⟨g,o+k*3+2,none⟩) hg).trans c2;have a2:g≠gl:=by have:=l.1.1.below.1;omega
   clear c0 c1 c2;have c:k<T.length:=by rw[ae u];exact H
   have Z:=ae a1 (T.getD k k0) (by simp[List.getD,c]);have f:=af (GK T k c);have a:k<=300:=by have:=ae L;omega
   have Hk:=af H;clear O;cases hb:isB (T.getD k k0)
   .
    have hK:isK (T.getD k k0)=true:=by unfold okT at Z;rw[hb]at Z;simpa using Z
    obtain⟨q1,q2,q3,q4⟩:=tL hK;have r:=af (MX T k c hb);have e2:ir (T.getD k k0)=257+fnd 3 4 (T.getD k k0).2.1.toNat 27:=by unfold ir;rw[a0e (by rw[hb];exact Bool.false_ne_true)]
    rw[e2]at f;obtain⟨y,hy⟩:=a0n (show 0<=(T.getD k k0).2.1 by omega);obtain⟨z,A⟩:=a0n (show 0<=(T.getD k k0).2.2 by omega);rw[hy]at d1 q1 q2 f;rw[A]at d2 q3 q4 r;rw[a0l]at f r;have C:=af (fun W (h:bo W (some ⟨g4,0,none⟩) kC)=>nh (some ⟨g4,0,none⟩) c4 28 kC (y:Int) W eW h (by omega) (by omega));have D:=af (fun W (h:bo W (some ⟨g6,0,none⟩) kh)=>nh (some ⟨g6,0,none⟩) M 30 kh (z:Int) W eR h (by omega) (by omega));rw[Ay y (by omega) (by omega)]at C;rw[yQ z (by omega) (by omega)]at D;have k1:=gn 3 4 y 27;have k2:=gn 1 2 z 29;clear hb hK c e2 hy A Z;generalize fnd 3 4 y 27=p at *
    generalize fnd 1 2 z 29=q at *
    have m:=E3 T k (257+p) a;have n:=zj T k q a;obtain⟨m1,m2,_,_⟩:=l.1.1.at (j:=257+p) (pj T k) (by omega);have d:=l.putL (pj T k) (257+p) ((iC T k).getD (257+p) 0+1);have el:(iC T k).set (257+p) ((iC T k).getD (257+p) 0+1)=iC T (k+1):=(ae f).symm;rw[el]at d;generalize (iC T k).getD (257+p) 0=ya at *
    obtain⟨m3,m4,_,_⟩:=d.1.2.at (j:=q) (vN T k) (by omega);have G:=d.putD (vN T k) q ((fS T k).getD q 0+1);have ed:(fS T k).set q ((fS T k).getD q 0+1)=fS T (k+1):=(ae r).symm;rw[ed]at G;generalize (fS T k).getD q 0=za at *
    have R1:=af (ae C wr (l.2.1.1.rowN eW));have R2:=af (ae D _ (d.2.1.2.rowN eR));have bb:(wr.setCell ⟨gl,257+p,none⟩ (.int .i64 (ya+1))).cell? ⟨g,o+k*3+2,none⟩=some (.int .i64 (z:Int)):=by
     rw[World.cell?_setCell_other _ _ _ _ (by intro e;simp only[a0D]at e;exact a2 e.1.symm)];exact d2
    have a0:=af G;have bc:(257:Int)+(p:Int)<286:=by omega
    have bd:(q:Int)<30:=by omega
    have a8:ya<=301:=m.2;have bl:za<=300:=n.2;have a7:0<=ya:=m.1;have ba:0<=za:=n.1;have y0':¬ (y:Int)=0:=by omega
    clear l d G el ed m n k1 k2 q1 q2 q3 q4 C D a;go_wp2_with fail;refine(ae R1).mono ?_;rintro e x7 ⟨rfl,b⟩;rw[b];clear b x7;go_wp2_with fail;refine(ae R2).mono ?_;rintro e x7 ⟨rfl,b⟩;rw[b];clear b x7;go_wp2;go_roundw
    case rel=>exact⟨k+1,by have:=ae Hk;omega,by go_num,ae a0⟩
    case measure=>have:=ae Hk;simp[intOf];omega
   .
    obtain⟨q1,q2⟩:=qs hb;have A:=J6 hb;have r:=af (MW T k c hb);have e2:ir (T.getD k k0)=(T.getD k k0).1.toNat:=by unfold ir;rw[a0d hb]
    rw[e2]at f;obtain⟨y,hy⟩:=a0n q1;rw[hy]at d0 q2 f;rw[A]at d1;rw[a0l]at f;clear hb c e2 hy A Z d2 q1;have m:=E3 T k y a;obtain⟨m1,m2,_,_⟩:=l.1.1.at (j:=y) (pj T k) (by omega);have d:=l.drew.putL (pj T k) y ((iC T k).getD y 0+1);have el:(iC T k).set y ((iC T k).getD y 0+1)=iC T (k+1):=(ae f).symm;rw[el,←ae r]at d;generalize (iC T k).getD y 0=ya at *
    have ao:=af d;have a8:ya<=301:=m.2;have a7:0<=ya:=m.1;have bk:(y:Int)<286:=by omega
    clear l d el m a q2;go_wp2
    go_region
    go_wp2;go_roundw
    case rel=>exact⟨k+1,by have:=ae Hk;omega,by go_num,ae ao⟩
    case measure=>have:=ae Hk;simp[intOf];omega
  .
   have c:T.take k=T:=a0o (by rw[ae u];omega);have R:k<=300:=by have:=ae L;omega
   have eL:iC T k=fF T:=by unfold iC;rw[c];exact DG T
   have eD:fS T k=fg T:=by unfold fS fg;rw[c]
   have n:=zj T k 0 R;rw[eL,eD]at l;rw[eD]at n;have HU:=af (Dv (some ⟨gd,0,none⟩) 30 30 (fg T) wr (eT T) (l.1.2.rowN (eT T)) (by omega));obtain⟨m1,m2,_,_⟩:=l.1.2.at (j:=0) (eT T) (by omega);have I:=af l;clear l c R eL eD;by_cases J:us (fg T)=0
   .
    have A:(fg T).getD 0 0=0:=by have:=Fy J 0 (by rw[eT];omega);omega
    have s:=af ((ae I).putD (eT T) 0 1);have e1:(fg T).set 0 1=ck T:=by unfold ck;rw[a0d J];unfold inc;rw[A];rfl
    rw[e1]at s;rw[J]at HU;clear e1 A n I J;go_wp2_with fail;refine(ae HU).mono ?_;rintro e x7 ⟨rfl,b⟩;rw[b];clear b x7;go_wp2
    go_ret2
    exact⟨⟨gl,gd,rfl,(ae s).1.1,(ae s).1.2⟩,(ae s).2.2.1⟩
   .
    have e1:fg T=ck T:=by unfold ck;rw[a0e J]
    have a5:((us (fg T):Nat):Int)≠0:=by omega
    have a9:(((us (fg T):Nat):Int) == 0)=false:=by simpa using a5
    rw[e1]at I;clear e1 n J;generalize us (fg T)=U at *
    go_wp2_with fail;refine(ae HU).mono ?_;rintro e x7 ⟨rfl,b⟩;rw[b];clear b x7;go_wp2
    go_ret2
    exact⟨⟨gl,gd,rfl,(ae I).1.1,(ae I).1.2⟩,(ae I).2.2.1⟩
theorem wb{g o:Nat}(c:∀i,i<l.length->w.cell? ⟨g,o+i,none⟩=some (.int .i64 (l.getD i 0))):∀j u,(l.map (Value.int .i64))[j]?=some u->w.cell? ((⟨g,o,none⟩:Addr).add j)=some u:=by
 intro j u d;have b:j<l.length:=by have:=(List.getElem?_eq_some_iff.1 d).1;simpa using this
 have a:(⟨g,o,none⟩:Addr).add j=⟨g,o+j,none⟩:=by unfold Addr.add;split<;>simp_all
 rw[a,c j b,←d];simp[List.getD,b]
def kz(l:List Int)(t:List Int):List (Int×Int):=t.map fun x=>pcM l x.toNat
theorem DD(l t:List Int)(k:Nat)(h:k<t.length):kz l (t.take (k+1))=kz l (t.take k)++[pcM l (t.getD k 0).toNat]:=by
 unfold kz;rw[bZ t k h,a0I];rfl
theorem P0(L D:List Int):cT L D++(eH (aM (L++D)) 19++kz (aM (L++D)) (L++D))=cV L D:=rfl
def LR(W:World)(b:Nat)(A l:List Int)(gA g7 gc:Option Addr):Prop:=iA W b gA A/\iA W b g7 l/\iA W b gc (bj l 15).2
theorem LR.keep{W':World}{b:Nat}{gA g7 gc:Option Addr}(h:LR W b A l gA g7 gc)(a:bT b W W'):LR W' b A l gA g7 gc:=⟨h.1.keep a,h.2.1.keep a,h.2.2.keep a⟩
theorem GF(b:Nat)(p:Nat×Nat)(a aD:Option Addr)(cL nL cD nD:Nat)(L D:List Int)(w:World)(ho:jq w b p)(hL:bo w a L)(hD:bo w aD D)(a0:L.length=nL)(ao:D.length=nD)
  (l0:257<=nL) (l1:nL<=286) (d0:1<=nD) (d1:nD<=30) (kL:av L=true) (kD:av D=true) (hp:p.2<=1000) :
  Calls prog 203 #[.pointer (some ⟨b,0,none⟩),.slice a nL cL,.slice aD nD cD] w fun e w'=>e = .returned (.tuple #[])/\jq w' b (aU p (cV L D))/\KB b w w':=by
 obtain⟨i0,hi,bd,be,bk⟩:=a0r Tryz.infoInt;have ab:b<w.heap.size:=Out.lt ho;have HA:Hid (∀x∈L++D,0<=x/\x<=15):=by
  intro x F;rcases a0V.1 F with h|h
  . exact jz kL x h
  . exact jz kD x h
 obtain⟨nA,hnA⟩:∃nA,(L++D).length=nA:=⟨_,rfl⟩;have d3:nA=nL+nD:=by rw[←hnA,a0i,a0,ao]
 have K:=af (ub (L++D) (by omega) (by omega) (ae HA));have HQ:=af (P0 L D);have HU:=af (xA (L++D) (by omega) (ae HA));have d5:=af (xz (L++D) (by omega));have HB:Hid (cT L D=[((nL:Int)-257,5),((nD:Int)-1,5),(15,4)]):=by show cT L D=_;unfold cT;rw[a0,ao]
 have bs:Hid (pOk ((nL:Int)-257) 5=true/\pOk ((nD:Int)-1) 5=true):=by
  have:p2 (5:Int).toNat=32:=by decide
  exact⟨aP.2 ⟨by omega,by omega,by rw[this];omega⟩,aP.2 ⟨by omega,by omega,by rw[this];omega⟩⟩
 obtain⟨g,o,rfl,hg,c5⟩:=hL (by omega);obtain⟨g',o',rfl,c6,a2⟩:=hD (by omega);have O:Below w.heap.size w (w.alloc (.cells #[] 3)):=(a0c _ _).alloc (a0a _) _;have a9:World.ownsRow (w.alloc (.cells #[] 3)) w.heap.size 3 1 (.slice (some ⟨w.heap.size,0,none⟩) 0 0) 0 []:=a0Y w #[] 0 (a0a _) (by unfold maxLen;omega) rfl;have T:=af (wb (w:=w.alloc (.cells #[] 3)) (g:=g) (o:=o) (l:=L) (fun i hi=>by rw[O.cell (p:=⟨g,o+i,none⟩) hg];exact c5 i hi));have E:Hid (∀W,Below w.heap.size w W->∀j u,(D.map (Value.int .i64))[j]?=some u->W.cell? ((⟨g',o',none⟩:Addr).add j)=some u):=fun W hW=>wb (fun i hi=>by rw[hW.cell (p:=⟨g',o'+i,none⟩) c6];exact a2 i hi);have dv:Hid ((L.map (Value.int .i64)).length=nL*1):=by show _=_;simp[a0]
 have ds:Hid ((D.map (Value.int .i64)).length=nD*1):=by show _=_;simp[ao]
 have R:Hid ((0+nL<=maxLen/\(0+nL)*8<=140737488355328)/\(0+nL+nD<=maxLen/\(0+nL+nD)*8<=140737488355328)):=by show(_/\_)/\_/\_;unfold maxLen;omega
 have nLI:(nL:Int)<=286:=by omega
 have nDI:(nD:Int)<=30:=by omega
 have nLI0:(257:Int)<=(nL:Int):=by omega
 have nDI0:(1:Int)<=(nD:Int):=by omega
 have nAI:(nA:Int)<=316:=by omega
 have aa:Hid (1<=nA/\nA<=316/\nA=nL+nD):=by show _/\_;omega
 have HO:=af ho;have Hp:=af hp;clear hL hD kL kD l0 l1 d0 d1 a0 ao d3 ho hp c5 a2 hg c6;generalize cg:L++D=A at *
 have bl:Hid (L.map (Value.int .i64)++D.map (Value.int .i64)=A.map (Value.int .i64)):=by show _=_;rw[←cg,a0I]
 have m:=af hnA;clear hnA cg;go_enter func203,ntmps203;go_wp2_with (first
  | (at_builtin;refine a0B _ rfl _ _ 97 rfl w.heap.size 3 i0 (.int .i64 0) 1 8 a0G hi bd be bk rfl (by decide) _ _ _ rfl a9 ⟨g,o,none⟩ nL cL (L.map (Value.int .i64)) rfl (ae dv) (ae T) (a1m .i64 _) (ae R).1.1 (ae R).1.2 O.size ?_;intro v1 x1 s t U;clear U;have Q:Below w.heap.size w x1:=O.grown t O.size (fun j hj=>(a0E a9 j hj).1))
  | (at_builtin;refine a0B _ rfl _ _ 97 rfl w.heap.size 3 i0 (.int .i64 0) 1 8 a0G hi bd be bk rfl (by decide) _ _ _ rfl s ⟨g',o',none⟩ nD cD (D.map (Value.int .i64)) rfl (ae ds) (ae E _ Q) (a1m .i64 _) (ae R).2.1 (ae R).2.2 Q.size ?_;intro v2 x2 X B U;clear U;have a7:Below w.heap.size w x2:=Q.grown B Q.size (fun j hj=>(a0E s j hj).1))
  | (at_make;refine a1K _ rfl _ _ 97 rfl w.heap.size 3 i0 (.int .i64 0) 1 a0G hi bd be .i64 .i64 _ _ 19 rfl rfl rfl rfl (by rw[bk];omega) (by unfold maxLen;omega) a7.size ?_;intro x3 Y C))
 have N:al x2 w.heap.size v2 A:=by
  show World.ownsRow _ _ _ _ _ A.length _;rw[ae m,(ae aa).2.2,←ae bl];simpa using X
 obtain⟨aA,cA,rfl⟩:=N.formN (ae m);obtain⟨gA,rfl⟩:=N.somes (by have:=ae m;have:=ae aa;omega);have c7:=N.below.2;obtain⟨gC,hgC⟩:∃gC,x2.heap.size=gC:=⟨_,rfl⟩;have b3:=fT C;have o2:=dy Y;rw[hgC]at o2 c7;have cy:=ah a7 b3;have o1:=N.later b3 (a0a _);have ed:gC≠gA:=by omega
 rw[hgC];clear s X Y t B C b3 hgC c7 O Q a7 a9 T E dv ds R bl N
 go_loopw [8] (fun i wr=>∃k:Nat,k<=nA/\i = .int .i64 k/\al wr w.heap.size (.slice (some ⟨gA,0,none⟩) nA cA) A/\al wr w.heap.size (.slice (some ⟨gC,0,none⟩) 19 19) (fQ (List.replicate 19 0) ((A.take k).map Int.toNat))/\Below w.heap.size w wr) (fun i _=>nA-(intOf i).toNat)
 case atStart=>exact⟨0,a0g _,rfl,o1,o2,cy⟩
 case round=>
  obtain⟨k,hk,rfl,M,H,r⟩:=hrel;clear o1 o2 cy;by_cases c:k<nA
  .
   obtain⟨c0,_,_,_⟩:=M.at (ae m) c;have c8:A.getD k 0∈A:=by have:=ae m;simp[List.getD,show k<A.length by omega]
   have n:=ae HA _ c8;have f:Hid ((A.take (k+1)).map Int.toNat=(A.take k).map Int.toNat++[(A.getD k 0).toNat]):=by
    show _=_;rw[bZ A k (by rw[ae m];exact c),a0I];rfl
   have bb:(fQ (List.replicate 19 0) ((A.take k).map Int.toNat)).length=19:=by rw[dZ,a0y]
   obtain⟨y,hy⟩:=a0n n.1;rw[hy]at f c0 n;rw[a0l]at f;have hb:=oX 19 ((A.take k).map Int.toNat) y;have eb:((A.take k).map Int.toNat).length<=nA:=by simp;omega
   obtain⟨e0,e1,e2,e3⟩:=H.at (j:=y) bb (by omega);have hP:=al.put (w:=wr.drew) (j:=y) bb H ((fQ (List.replicate 19 0) ((A.take k).map Int.toNat)).getD y 0+1);have cu:Hid (∀u,al (wr.drew.setCell ⟨gC,y,none⟩ u) w.heap.size (.slice (some ⟨gA,0,none⟩) nA cA) A/\Below w.heap.size w (wr.drew.setCell ⟨gC,y,none⟩ u)):=fun u=>⟨al.setOther (w:=wr.drew) M ed u,ai r.drew e2 u⟩;have HP:Hid (al (wr.drew.setCell ⟨gC,y,none⟩ (.int .i64 ((fQ (List.replicate 19 0) ((A.take k).map Int.toNat)).getD y 0+1))) w.heap.size (.slice (some ⟨gC,0,none⟩) 19 19) (fQ (List.replicate 19 0) ((A.take (k+1)).map Int.toNat))):=by
    show al _ _ _ _;rw[ae f,gP];exact hP
   generalize (fQ (List.replicate 19 0) ((A.take k).map Int.toNat)).getD y 0=z at *
   have ej:(y:Int)<19:=by omega
   have ek:z<=400:=by have:=ae aa;omega
   have eh:0<=z:=hb.1;have Hk:=af hk;clear hP H M r eb hb n hy c8 hk bb e2 e3;go_wp2
   go_region
   go_wp2;go_roundw
   case rel=>exact⟨k+1,by have:=ae Hk;omega,by go_num,(ae cu _).1,ae HP,(ae cu _).2⟩
   case measure=>simp[intOf];omega
  .
   have dq:A.take k=A:=a0o (by rw[ae m];omega);rw[dq]at H;have ch:al wr w.heap.size (.slice (some ⟨gC,0,none⟩) 19 19) (nW A):=H;have HL:Hid (Calls prog 202 #[.slice (some ⟨gC,0,none⟩) 19 19,.int .i64 7] wr fun e w'=>(∃v,e = .returned v/\al w' wr.heap.size v (aM A))/\Below wr.heap.size wr w'):=wk (some ⟨gC,0,none⟩) 19 19 6 (nW A) wr (fx A) (ch.rowN (fx A)) (by omega) (by omega) (ae d5) (by rw[eK];have h2:=Pi;have:=(ae HU).2;omega) (by omega);have eg:=r.size;have O1:=af M;have B1:=af r;clear dq H ch M r;go_wp2_with fail;refine(ae HL).mono ?_;rintro e x3 ⟨⟨v3,rfl,o3⟩,b3⟩;obtain⟨a3,c3,rfl⟩:=o3.formN (ae K).1;obtain⟨g3,rfl⟩:=o3.somes (by rw[(ae K).1];omega);have O1':=af ((ae O1).later b3 (a0a _));have B3:=af (ah (ae B1) b3);have O3:=af (o3.mono eg);clear o3 b3 HL O1 B1;go_wp2_with fail;refine(qy (some ⟨g3,0,none⟩) c3 19 (aM A) x3 (ae K).1 ((ae O3).rowN (ae K).1) (by omega)).mono ?_;rintro e x4 ⟨⟨g4,rfl,o4⟩,b4⟩;have hR:LR x4 b A (aM A) (some ⟨gA,0,none⟩) (some ⟨g3,0,none⟩) (some ⟨g4,0,none⟩):=⟨eV (ae m) ((ae O1').later b4 (a0a _)) ab,eV (ae K).1 ((ae O3).later b4 (a0a _)) ab,eV ((cq _ 15).trans (ae K).1) (o4.mono (ae B3).size) ab⟩;have a8:=ah (ae B3) b4;have cr:jq x4 b p:=Out.kept (ae HO) a8;have co:KB b w x4:=(KB.refl b w).below a8 (a0w ab);have HR:=af hR;have b5:=af cr;have b0:=af co;clear hR o4 b4 a8 cr co O1' O3 B3;go_wp2_with fail;refine(eJ b p ((nL:Int)-257) 5 x4 (ae b5) (ae bs).1 (by have:=ae Hp;omega)).mono ?_;rintro e x5 ⟨rfl,o5,k5⟩;have b6:=af o5;have b9:=af ((ae HR).keep k5.2);have b1:=af ((ae b0).trans k5);have q5:=dM p [((nL:Int)-257,5)] (by intro x F;simp at F;subst F;simp);clear o5 k5 b5 HR b0;go_wp2_with fail;refine(eJ b _ ((nD:Int)-1) 5 x5 (ae b6) (ae bs).2 (by have:=ae Hp;simp only[a0A,a0R]at q5;omega)).mono ?_;rintro e x6 ⟨rfl,o6,k6⟩;rw[←bm]at o6;have b7:=af o6;have ca:=af ((ae b9).keep k6.2);have b2:=af ((ae b1).trans k6);have q6:=dM p ([((nL:Int)-257,5)]++[((nD:Int)-1,5)]) (by intro x F;simp at F;rcases F with rfl|rfl<;>simp);clear o6 k6 b6 b9 b1;go_wp2_with fail;refine(eJ b _ 15 4 x6 (ae b7) (by decide) (by have:=ae Hp;simp only[a0A,a0R,a0i]at q6;omega)).mono ?_;rintro e x7 ⟨rfl,o7,k7⟩;rw[←bm]at o7;have o7':jq x7 b (aU p (cT L D++eH (aM A) 0)):=by rw[ae HB];exact o7
   have cv:=(ae ca).keep k7.2;have cp:=(ae b2).trans k7;clear o7 k7 b7 ca b2 q5 q6;go_wp2_with fail;have d6:=af (dF (ae K).2.1);have cc:Hid (∀l:List (Int×Int),(∀x∈l,x.2<=16)->l.length<=400->(aU p (cT L D++l)).2<=100000):=by
    intro l h1 h2;have h3:=dM p (cT L D++l) (by
     intro x F;rcases a0V.1 F with h|h
     . rw[ae HB]at h;simp at h;rcases h with rfl|rfl|rfl<;>simp
     . exact h1 x h)
    rw[a0i]at h3;have h4:(cT L D).length=3:=rfl;have:=ae Hp;omega
   go_loopw [11] (fun i wr=>∃j:Nat,j<=19/\i = .int .i64 j/\jq wr b (aU p (cT L D++eH (aM A) j))/\LR wr b A (aM A) (some ⟨gA,0,none⟩) (some ⟨g3,0,none⟩) (some ⟨g4,0,none⟩)/\KB b w wr) (fun i _=>19-(intOf i).toNat)
   case atStart=>exact⟨0,by omega,rfl,o7',cv,cp⟩
   case round=>
    obtain⟨j,S,rfl,I,a1,an⟩:=hrel;clear o7' cv cp;by_cases c:j<19
    .
     have f:Hid (aU p (cT L D++eH (aM A) (j+1))=aU (aU p (cT L D++eH (aM A) j)) [((aM A).getD (bB.getD j 0) 0,3)]):=by show _=_;rw[wB (aM A) j c,←a0O,bm]
     have bc:=DX j c;have d:=ae cc (eH (aM A) j) (by intro x F;unfold eH at F;obtain⟨i,_,rfl⟩:=a2J.1 F;simp) (by rw[uB _ _ S];omega);have n:=(ae K).2.2 (bB.getD j 0) bc;have d4:=KW j c;have d2:=Out.lt I;have HJ:=af (a0b c (a0b I (a0b a1 an)));have d7:(j:Int)<19:=by omega
     clear I a1 an S;generalize aU p (cT L D++eH (aM A) j)=P at *
     go_wp2_with fail;refine(Ah wr).mono ?_;rintro e x8 ⟨⟨g8,rfl,o8⟩,b8⟩;obtain⟨d8,_,_,_⟩:=o8.at (j:=j) KX c;rw[d4]at d8;have Z:=(ae HJ).2.2.1.keep (bD b8);have a6:jq x8 b P:=Out.kept (ae HJ).2.1 b8;have a4:=(ae HJ).2.2.2.below b8 (a0w d2);obtain⟨g,o,e,_,dd⟩:=iS Z.2.1 (k:=bB.getD j 0) (by rw[(ae K).1];exact bc);cases e
     rw[a0H]at dd;have cs:pOk ((aM A).getD (bB.getD j 0) 0) 3=true:=by
      have:p2 (3:Int).toNat=8:=by decide
      exact aP.2 ⟨by omega,n.1,by rw[this];omega⟩
     generalize (aM A).getD (bB.getD j 0) 0=y at *
     generalize bB.getD j 0=q at *
     have ei:(q:Int)<19:=by omega
     have HX:=af (a0b Z a4);have G:=af (eJ b P y 3 x8 a6 cs d);have Hj:=af (ae HJ).1;clear o8 b8 Z a6 a4 HJ bc n d4 d cs c;go_wp2_with fail;refine(ae G).mono ?_;rintro e x9 ⟨rfl,o9,k9⟩;rw[←ae f]at o9;have HY:=af (a0b o9 (a0b ((ae HX).1.keep k9.2) ((ae HX).2.trans k9)));clear o9 k9 HX G d8 dd f;go_wp2;go_roundw
     case rel=>exact⟨j+1,by have:=ae Hj;omega,by go_num,(ae HY).1,(ae HY).2.1,(ae HY).2.2⟩
     case measure=>have:=ae Hj;simp[intOf];omega
    .
     have c9:j=19:=by omega
     have d7:¬ (j:Int)<19:=by omega
     rw[c9]at I;have a5:jq wr b (aU p (cT L D++(eH (aM A) 19++kz (aM A) (A.take 0)))):=by
      have e0:eH (aM A) 19++kz (aM A) (A.take 0)=eH (aM A) 19:=by unfold kz;rw[a3G,a1I,a1b]
      rw[e0];exact I
     clear I c S c9;go_wp2_with fail
     go_loopw [12] (fun i wr=>∃j:Nat,j<=nA/\i = .int .i64 j/\jq wr b (aU p (cT L D++(eH (aM A) 19++kz (aM A) (A.take j))))/\LR wr b A (aM A) (some ⟨gA,0,none⟩) (some ⟨g3,0,none⟩) (some ⟨g4,0,none⟩)/\KB b w wr) (fun i _=>nA-(intOf i).toNat)
     case atStart=>exact⟨0,by omega,rfl,a5,a1,an⟩
     case round=>
      obtain⟨j,hj,rfl,V,J,ad⟩:=hrel;clear a5 a1 an;by_cases c:j<nA
      .
       have ac:j<A.length:=by rw[ae m];exact c
       have f:Hid (aU p (cT L D++(eH (aM A) 19++kz (aM A) (A.take (j+1))))=aU (aU p (cT L D++(eH (aM A) 19++kz (aM A) (A.take j)))) [pcM (aM A) (A.getD j 0).toNat]):=by show _=_;rw[DD (aM A) A j ac,←bm,a0O,a0O]
       have d:=ae cc (eH (aM A) 19++kz (aM A) (A.take j)) (by
        intro x F;rcases a0V.1 F with h|h
        . unfold eH at h;obtain⟨i,_,rfl⟩:=a2J.1 h;simp
        . unfold kz at h;obtain⟨y,hy,rfl⟩:=a2J.1 h;have h1:=ae HA y (a2d hy);have h2:=(ae K).2.2 y.toNat (by omega);show(aM A).getD y.toNat 0<=16;omega) (by rw[a0i,uB _ _ (a0a _)];unfold kz;rw[a0N,a0z];have:=ae aa;omega)
       have n:=ae HA (A.getD j 0) (by simp[List.getD,ac]);obtain⟨g,o,e,_,dd⟩:=iS J.1 (k:=j) ac;cases e
       rw[a0H]at dd;obtain⟨q,hq⟩:=a0n n.1;rw[hq]at dd n f;rw[a0l]at f;have ba:=ae d6 q (by rw[(ae K).1];omega);have G:=af (pH b _ (some ⟨g3,0,none⟩) (some ⟨g4,0,none⟩) c3 19 19 q (aM A) wr V (ae K).1 J.2.1.1 J.2.2.1 (by omega) (by omega) ba.1 ba.2 d);rw[←ae f]at G;have HX:=af (a0b J ad);have Hj:=af c;clear V J ad hj c ac f d n hq ba;go_wp2_with fail;refine(ae G).mono ?_;rintro e x9 ⟨rfl,o9,k9⟩;have HY:=af (a0b o9 (a0b ((ae HX).1.keep k9.2) ((ae HX).2.trans k9)));clear o9 k9 HX G dd;go_wp2;go_roundw
       case rel=>exact⟨j+1,by have:=ae Hj;omega,by go_num,(ae HY).1,(ae HY).2.1,(ae HY).2.2⟩
       case measure=>have:=ae Hj;simp[intOf];omega
      .
       have dl:A.take j=A:=a0o (by rw[ae m];omega);rw[dl,ae HQ]at V;have HY:=af (a0b V ad);clear V J ad dl;go_wp2
       go_end0
       exact⟨rfl,(ae HY).1,(ae HY).2⟩
theorem He(T:List Tk)(a:T.length<=300)(b:∀t∈T,okT t=true):[(1,1),(2,2)]++(cV (bw T) (bY T)++(T.flatMap (pcT (bw T) (bY T))++[pcS (bw T) 256]))=iD T:=by
 unfold iD;rw[qZ (fJ T a) (ie T a) _ (fun t c=>mC T a b t c),np (fJ T a) (by have:=(jd T a).1;omega)]
theorem xB(v1 v2 v3:Value)(A B C:List (Int×Int))(base:Nat)(w:World)(f:Pcs w base v1 A)(h2:Pcs w base v2 B)(g:Pcs w base v3 C)(k:A.length+(B.length+C.length)<=4000) :
  Calls prog 126 #[.slice (some ⟨w.heap.size,0,none⟩) 3 3] (w.alloc (.cells #[v1,v2,v3] 136)) fun e w'=>∃v,e = .returned v/\Pcs w' w.heap.size v (A++(B++C))/\Below w.heap.size w w':=by
 have a:Below w.heap.size w (w.alloc (.cells #[v1,v2,v3] 136)):=(a0c _ _).alloc (a0a _) _;have h:gG (w.alloc (.cells #[v1,v2,v3] 136)) w.heap.size base [(v1,aR A),(v2,aR B),(v3,aR C)]:=by
  intro i j
  match i,j with
  | 0,_=>exact⟨by simp,_,f.later a (a0a _),gT _⟩
  | 1,_=>exact⟨by simp,_,h2.later a (a0a _),gT _⟩
  | 2,_=>exact⟨by simp,_,g.later a (a0a _),gT _⟩
 have b:aL [(v1,aR A),(v2,aR B),(v3,aR C)]=(A++(B++C)).length:=by
  simp only[aL,bK,a0C,a1I,a0M,a3z,lp,a0i];omega
 refine(y9 w.heap.size base 3 3 _ _ rfl (by omega) (by omega) h (by rw[b,a0i,a0i];omega)).mono ?_;rintro e x5 ⟨v,rfl,d,hb⟩;refine⟨v,rfl,?_,ah a hb⟩;have c:dV [(v1,aR A),(v2,aR B),(v3,aR C)]=aR (A++(B++C)):=by
  simp only[dV,a0S,a2f,ee,a1b]
 rw[b,c]at d;exact pr (base:=(w.alloc (.cells #[v1,v2,v3] 136)).heap.size) d (by simp)
theorem zU(s:ByteArray)(w:World)(hs:s.size<=300)(hO:cJ w) :
  CD 81 #[.string s] w (.string ⟨(lM s).toArray⟩):=by
 have hI:¬ (300:Int)<(s.size:Int):=by omega
 have a7:prog.follows .mixedOrders=true:=by kernel_rfl
 have HS:=af hs;have HO:=af hO;have N:=af (rT s w hs);obtain⟨T,hT⟩:∃T,bh s.data.toList 0=T:=⟨_,rfl⟩;have a:Hid (T.length<=300):=by show _<=_;rw[←hT];exact iy s hs
 have U:Hid (∀t∈T,okT t=true):=by rw[←hT];exact eq s
 have b0:Hid (lM s=cz (iD T)):=by show lM s=_;unfold lM;rw[hT]
 have HT:=af hT;rw[hT]at N;clear hs hO hT;go_enter func81,ntmps81;go_wp2_with fail;refine(ae N).mono ?_;rintro e x1 ⟨⟨gl,gd,rfl,o1,o2⟩,b1⟩;have O:=af (jb (some ⟨gl,0,none⟩) 286 286 (fF T) 15 x1 (eG T) (o1.rowN (eG T)) (by omega));rw[Nu T (ae a)]at O;have O2:=af o2;have B1:=af b1;clear o1 o2 b1 N;go_wp2_with fail;refine(ae O).mono ?_;rintro e x2 ⟨⟨v2,rfl,o3⟩,b2⟩;have k:=(Kp T (ae a)).1;obtain⟨a2,c2,rfl⟩:=o3.formN k;obtain⟨g2,rfl⟩:=o3.somes (by omega);have C:=af (rm g2 0 c2 286 257 (da 15 (fF T)) x2 k (fun i hi=>by rw[a0H];exact(o3.at k hi).1) o3.cap.1 (by omega) (by omega));have e2:dS (da 15 (fF T)) 257 286=(bw T).length:=by unfold bw;rw[ij,k]
 rw[e2]at C;have O3:Hid (al x2 w.heap.size (.slice (some ⟨g2,0,none⟩) (bw T).length c2) (bw T)):=by
  have G:=o3.cut (m:=(bw T).length) k (by have:=jd T (ae a);omega) (by omega);have e3:(da 15 (fF T)).take (bw T).length=bw T:=by rw[←e2];unfold bw nB;rw[k]
  rw[e3]at G;exact G.mono (ae B1).size
 have O2':=af ((ae O2).later b2 (a0a _));have B2:=af (ah (ae B1) b2);have p:=af (jd T (ae a));obtain⟨nL,hnL⟩:∃n,(bw T).length=n:=⟨_,rfl⟩;rw[hnL]at C O3 p;have q:=af hnL;clear hnL e2 k o3 b2 O O2 B1;have P:=af (jb (some ⟨gd,0,none⟩) 30 30 (ck T) 15 x2 (eU T) ((ae O2').rowN (eU T)) (by omega));rw[Jt T (ae a)]at P;clear O2';go_wp2_with fail;refine(ae C).mono ?_;rintro e x3 ⟨rfl,bc⟩;rw[bc];clear bc x3 C;go_wp2_with fail;refine(ae P).mono ?_;rintro e x3 ⟨⟨v3,rfl,o4⟩,b3⟩;have l:=(zi T (ae a)).1;obtain⟨a3,c3,rfl⟩:=o4.formN l;obtain⟨g3,rfl⟩:=o4.somes (by omega);have D:=af (rm g3 0 c3 30 1 (da 15 (ck T)) x3 l (fun i hi=>by rw[a0H];exact(o4.at l hi).1) o4.cap.1 (by omega) (by omega));have e2:dS (da 15 (ck T)) 1 30=(bY T).length:=by unfold bY;rw[ij,l]
 rw[e2]at D;have O4:Hid (al x3 w.heap.size (.slice (some ⟨g3,0,none⟩) (bY T).length c3) (bY T)):=by
  have G:=o4.cut (m:=(bY T).length) l (by have:=kG T (ae a);omega) (by omega);have e3:(da 15 (ck T)).take (bY T).length=bY T:=by rw[←e2];unfold bY nB;rw[l]
  rw[e3]at G;exact G.mono (ae B2).size
 have O3':=af ((ae O3).later b3 (a0a _));have B3:=af (ah (ae B2) b3);have r:=af (kG T (ae a));obtain⟨nD,hnD⟩:∃n,(bY T).length=n:=⟨_,rfl⟩;rw[hnD]at D O4 r;have u:=af hnD;clear hnD e2 l o4 b3 P O3 B2;go_wp2_with fail;refine(ae D).mono ?_;rintro e x4 ⟨rfl,bd⟩;rw[bd];clear bd x4 D;have ad:=af (rp (some ⟨g2,0,none⟩) c2 nL w.heap.size (bw T) x3 (ae q) (dh (ae q) ((ae O3').own (ae q))) (ae B3).size (by have:=ae p;omega));go_wp2_with fail;refine(ae ad).mono ?_;rintro e x4 ⟨⟨c,rfl,k1⟩,b4⟩;have O3:=af ((ae O3').later b4 (a0a _));have O4':=af ((ae O4).later b4 (a0a _));have B4:=af (ah (ae B3) b4);have K1:=af k1;clear k1 b4 ad O3' O4 B3;have ac:=af (oO (some ⟨g3,0,none⟩) c3 nD w.heap.size (bY T) x4 (ae u) (dh (ae u) ((ae O4').own (ae u))) (ae B4).size (by have:=ae r;omega));go_wp2_with fail;refine(ae ac).mono ?_;rintro e x5 ⟨⟨d,rfl,k2⟩,b5⟩;have O3':=af ((ae O3).later b5 (a0a _));have O4:=af ((ae O4').later b5 (a0a _));have B5:=af (ah (ae B4) b5);have x:=af ((ae K1).later b5);have K2:=af k2;have bs:=af (lW (ae x) (ae K2));have L:=(ae x).size;have M:=(ae K2).size;have E:Hid ((c++d).size=38):=by show _=_;rw[a2n,L,M]
 have be:Hid ((c++d).all (·.oneCell')=true):=by show _=true;rw[Array.all_append,(ae x).one,(ae K2).one];rfl
 have F:Hid ((x5.alloc (.cells jN 164)).there x5.heap.size 0 38):=gW x5 jN _ 38 rfl;have j:Hid (Below x5.heap.size x5 ((x5.alloc (.cells jN 164)).setCells x5.heap.size 0 (c++d).toList)):=below_setCells (a0a _) _ _ _ ((a0c _ _).alloc (a0a _) _);have ba:Hid (((x5.alloc (.cells jN 164)).setCells x5.heap.size 0 (c++d).toList).rangeAt x5.heap.size 0 (c++d).toList):=World.rangeAt_setCells_same (x5.alloc (.cells jN 164)) x5.heap.size 0 (c++d).toList (by rw[a1Z,ae E];exact ae F);have bb:Hid (x5.heap.size<((x5.alloc (.cells jN 164)).setCells x5.heap.size 0 (c++d).toList).heap.size):=by show _<_;rw[size_setCells];simp
 unfold jN at F j ba bb;clear L M k2 b5 K1 O3 O4' B4 ac;go_wp2_with (first
  | (refine jo rfl (.tmp 21) (.tmp 23) rfl c d rfl rfl (ae bs) ?_)
  | (refine wpList_store_mid rfl 164 (.tmp 5) (.tmp 24) rfl x5.heap.size 0 (c++d) rfl rfl (by rw[ae E];exact ae F) (by rw[ae E];exact Tryz.infoBooks) (ae be) ?_;generalize cv:World.setCells _ x5.heap.size 0 (c++d).toList=x6 at *;clear cv F))
 have a1:=ah (ae B5) (ae j);have f:Hid (∀W,Below x6.heap.size x6 W->W.rangeAt x5.heap.size 0 (c++d).toList):=fun W h=>jD (ae ba) h (ae bb);have a4:Below x6.heap.size x6 x6.drew:=(a0c _ x6).drew;have cu:(prog.info? 164).map (·.size)=some (c++d).size:=by rw[ae E];exact Tryz.infoBooks
 have B6:=af a1;have O36:=af ((ae O3').later (ae j) (a0a _));have O46:=af ((ae O4).later (ae j) (a0a _));have bl:Hid (dI x6 w.heap.size (bw T) (bY T) (c++d)):=⟨c,d,rfl,(ae x).later (ae j),(ae K2).later (ae j)⟩;clear a1 O3' O4 x K2 j B5;refine wp_region_held_drew (S:=fun W=>W.rangeAt x5.heap.size 0 (c++d).toList) a7 (ae f _ a4) (fun hS=>?_);refine ag 1 (.slice (some ⟨g2,0,none⟩) nL c2) rfl (by kernel_rfl) (fun _ _ _ h=>h) rfl (?_) hS ?_
 . intro W a6;go_simp
 refine ag 2 (.slice (some ⟨g3,0,none⟩) nD c3) rfl (by kernel_rfl) (fun _ _ _ h=>h) rfl (?_) hS ?_
 . intro W a6;go_simp
 refine wpAnyH_take (i:=4) (v:=.agg (c++d)) rfl (by kernel_rfl) (by kernel_rfl) (by kernel_rfl) (fun _ _ _ h=>h) (dk (by rfl) 164 (.tmp 5) rfl x5.heap.size 0 rfl (c++d) _ (fun _ h=>h) a3c rfl cu) hS ?_;refine ag 5 (.string s) rfl (by kernel_rfl) (fun _ _ _ h=>h) rfl (?_) hS ?_
 . intro W a6;go_simp
 refine aj 0 (by kernel_rfl) rfl fun K b=>?_;go_simp;go_at_call 118;refine(jP 2 _).mono ?_;rintro e x7 ⟨rfl,ab⟩;have g:Below x6.heap.size x6 x7:=by rw[ab];exact a4.alloc (by simp) _
 have a5:Pcs x7 x6.heap.size (.slice (some ⟨x6.heap.size,0,none⟩) 2 2) [(1,1),(2,2)]:=by
  rw[ab];exact a0Y x6.drew #[.int .i64 1,.int .i64 1,.int .i64 2,.int .i64 2] 2 (a0a _) (by unfold maxLen;omega) rfl
 have ao:=af (xY g2 g3 nL c2 nD c3 w.heap.size (bw T) (bY T) x7 (ae q) (ae u) ((ae O36).later g (a0a _)) ((ae O46).later g (a0a _)) (ae p).1 (ae p).2 (ae r).1 (ae r).2 (fJ T (ae a)) (ie T (ae a)) ((cJ.later (ae HO) (ae B6)).later g));refine Shut.out b _ _ (ae f _ g) (fun cc=>?_);clear b K ab;refine aj 3 (by kernel_rfl) rfl fun K b=>?_;go_simp;go_at_call 127;refine(ae ao).mono ?_;rintro e x8 ⟨v8,rfl,Z,b8⟩;obtain⟨n8,hn8⟩:∃n,(cV (bw T) (bY T)).length=n:=⟨_,rfl⟩;obtain⟨a8,c8,rfl⟩:=Z.formN hn8;have z:Below x6.heap.size x6 x8:=ah g b8;have I:=a5.later b8 (a0a _);have J:Pcs x8 x6.heap.size (.slice a8 n8 c8) (cV (bw T) (bY T)):=pr Z g.size;have Q:=af (uJ s w.heap.size (bw T) (bY T) (c++d) x8 (ae HS) ((ae bl).later z) (by have:=ae p;have:=ae q;omega) (by have:=ae r;have:=ae u;omega) (by have:=ae p;have:=ae q;omega) (by rw[ae HT];exact fun t ht=>mC T (ae a) (ae U) t ht));rw[ae HT]at Q;refine Shut.out b _ _ (ae f _ z) (fun cg=>?_);clear b K a5 Z b8 ao g cc;refine aj 6 (by kernel_rfl) rfl fun K b=>?_;go_simp;go_at_call 120;refine(ae Q).mono ?_;rintro e x9 ⟨v9,rfl,aa,b9⟩;obtain⟨n9,hn9⟩:∃n,(T.flatMap (pcT (bw T) (bY T))++[pcS (bw T) 256]).length=n:=⟨_,rfl⟩;obtain⟨a9,c9,rfl⟩:=aa.formN hn9;have A:Below x6.heap.size x6 x9:=ah z b9;have p7:=I.later b9 (a0a _);have p8:=J.later b9 (a0a _);have p9:Pcs x9 x6.heap.size (.slice a9 n9 c9) (T.flatMap (pcT (bw T) (bY T))++[pcS (bw T) 256]):=pr aa z.size;refine Shut.out b _ _ (ae f _ A) (fun ch=>?_);clear b K I J aa b9 Q z cg;have V:=He T (ae a) (ae U);have Y:=sC T (ae a) (ae U);have X:(iD T).length<=4000:=by
  have:=Y;unfold lOk at this;simp only[a0j,a0p]at this;exact this.2
 have HC:=af (xB (.slice (some ⟨x6.heap.size,0,none⟩) 2 2) (.slice a8 n8 c8) (.slice a9 n9 c9) [(1,1),(2,2)] (cV (bw T) (bY T)) (T.flatMap (pcT (bw T) (bY T))++[pcS (bw T) 256]) x6.heap.size x9 p7 p8 p9 (by have G:=X;rw[←V]at G;simp only[a0i]at G ⊢;omega));rw[V]at HC;have H:Below x6.heap.size x6 (x9.alloc (.cells #[.slice (some ⟨x6.heap.size,0,none⟩) 2 2,.slice a8 n8 c8,.slice a9 n9 c9] 136)):=A.alloc A.size _;have a0:=af (a0b Y X);clear p7 p8 p9 V Y X hn8 hn9;refine aj 7 (by kernel_rfl) rfl fun K b=>?_;go_simp;refine Shut.out b _ _ (ae f _ H) (fun co=>?_);clear b K;refine aj 8 (by kernel_rfl) rfl fun K b=>?_;go_simp;go_at_call 126;refine(ae HC).mono ?_;rintro e x11 ⟨v11,rfl,B,b6⟩;have y:=ah A b6;obtain⟨a11,ca,rfl⟩:=B.form;refine Shut.out b _ _ (ae f _ y) (fun cp=>?_);clear b K;have an:=af (fI a11 ca (iD T) x11 B.row (by have:=(ae a0).2;omega));rw[ea (ae a0).1]at an;refine aj 9 (by kernel_rfl) rfl fun K b=>?_;go_simp;go_at_call 116;refine(ae an).mono ?_;rintro e x12 ⟨rfl,b7⟩;have o:=ah y b7;refine Shut.out b _ _ (ae f _ o) (fun cr=>?_);clear b K;refine aj 10 (by kernel_rfl) rfl fun K b=>?_;go_simp;refine Shut.out b _ _ (ae f _ o) (fun cs=>?_);clear b K;refine wpAnyH_done (by kernel_rfl) ?_ _;have bk:=af (ah (ae B6) o);clear o y H A hS ch co cp cr cs B;generalize hR:cz (iD T)=R at *
 clear hR;go_wp2;go_ret;exact⟨by rw[ae b0];rfl,ae bk⟩
theorem AZ{base cap:Nat}(j:l.length=n)(h:al w base (.slice a n cap) l):iA w w.heap.size a l:=by
 refine⟨h.rowN j,fun k x ex=>?_⟩;subst ex;rcases h.2 with⟨e,_⟩|⟨g,b,f,e,i,d,_⟩
 . cases e
 . simp only[a0J,a0k]at e;obtain⟨rfl,_⟩:=e;refine⟨by have:=dm d;show g≠_;omega,fun c fr=>?_⟩;show w.heap[g]?≠_;rw[d];intro e;cases e
theorem Gt{base cap:Nat}{l:List Tk}(j:l.length=n)(h:dR w base (.slice a n cap) l):qT w w.heap.size a l:=by
 refine⟨h.rowN j,fun k x ex=>?_⟩;subst ex;rcases h.2 with⟨e,_⟩|⟨g,b,f,e,i,d,_⟩
 . cases e
 . simp only[a0J,a0k]at e;obtain⟨rfl,_⟩:=e;refine⟨by have:=dm d;show g≠_;omega,fun c fr=>?_⟩;show w.heap[g]?≠_;rw[d];intro e;cases e
theorem vR(g:Nat)(n:Nat)(l:List Int)(w:World)(d:l.length=n)(h:bo w (some ⟨g,0,none⟩) l)(a:1<=n)(c:n<=300)(b:okC l)(f:us l<=300) :
  Calls prog 202 #[.slice (some ⟨g,0,none⟩) n n,.int .i64 15] w fun e w'=>(∃v,e = .returned v/\al w' w.heap.size v (da 15 l))/\Below w.heap.size w w':=
 wk (some ⟨g,0,none⟩) n n 14 l w d h a c b (by rw[eK];have h2:=Bb;omega) (by omega)
theorem Gx(s:ByteArray)(w:World)(hs:s.size<=300) :
  CD 170 #[.string s] w (.string ⟨(lM s).toArray⟩):=by
 obtain⟨T,hT⟩:∃T,bh s.data.toList 0=T:=⟨_,rfl⟩;have a:Hid (T.length<=300):=by show _<=_;rw[←hT];exact iy s hs
 have u:Hid (∀t∈T,okT t=true):=by rw[←hT];exact eq s
 have aa:Hid (lM s=cz (iD T)):=by show lM s=_;unfold lM;rw[hT]
 have c:=af (pe s w (by omega));rw[hT]at c;clear hs hT;obtain⟨tn,htn⟩:∃tn,T.length=tn:=⟨_,rfl⟩;have l:=af htn;have I:Hid (tn<=300):=by show _<=_;rw[←htn];exact ae a
 clear htn;go_enter func170,ntmps170;go_wp2_with fail;refine(ae c).mono ?_;rintro e x1 ⟨v1,rfl,o1,b1⟩;obtain⟨a1,c1,rfl⟩:=o1.formN (ae l);have B:=af (xW a1 c1 tn T x1 (ae l) (o1.rowN (ae l)) (ae I) (ae u));have O1:=af o1;have B1:=af b1;clear o1 b1 c;go_wp2_with fail;refine(ae B).mono ?_;rintro e x2 ⟨⟨gl,gd,rfl,o2,o3⟩,b2⟩;have O1':=af (dO (ae O1) b2);have B2:=af (ah (ae B1) b2);have D:=af (vR gl 286 (fF T) x2 (eG T) (o2.rowN (eG T)) (by omega) (by omega) (yb T (ae a)) (by have:=(yd T).2;omega));have O3:=af (o3.mono (ae B1).size);have y:Hid (w.heap.size<=x2.heap.size):=(ae B2).size;clear o2 o3 b2 B O1 B1;go_wp2_with fail;refine(ae D).mono ?_;rintro e x3 ⟨⟨v3,rfl,o4⟩,b3⟩;have d:=(Kp T (ae a)).1;obtain⟨a3,c3,rfl⟩:=o4.formN d;obtain⟨g3,rfl⟩:=o4.somes (by omega);have q:=af (tY g3 0 c3 286 257 (da 15 (fF T)) x3 d (fun i hi=>by rw[a0H];exact(o4.at d hi).1) o4.cap.1 (by omega) (by omega));have e2:dS (da 15 (fF T)) 257 286=(bw T).length:=by unfold bw;rw[ij,d]
 rw[e2]at q;have O4:Hid (al x3 w.heap.size (.slice (some ⟨g3,0,none⟩) (bw T).length c3) (bw T)):=by
  have Q:=o4.cut (m:=(bw T).length) d (by have:=jd T (ae a);omega) (by omega);have e3:(da 15 (fF T)).take (bw T).length=bw T:=by rw[←e2];unfold bw nB;rw[d]
  rw[e3]at Q;exact Q.mono (ae y)
 have O1:=af (dO (ae O1') b3);have O3':=af ((ae O3).later b3 (a0a _));have B3:=af (ah (ae B2) b3);have b:=af (jd T (ae a));obtain⟨nL,hnL⟩:∃n,(bw T).length=n:=⟨_,rfl⟩;rw[hnL]at q O4 b;have j:=af hnL;clear hnL e2 d o4 b3 D O3 B2 O1' y;go_wp2_with fail;refine(ae q).mono ?_;rintro e x4 ⟨rfl,U⟩;rw[U];clear U x4 q;have E:=af (vR gd 30 (ck T) x3 (eU T) ((ae O3').rowN (eU T)) (by omega) (by omega) (te T (ae a)) (by have:=(tf T).2;omega));go_wp2_with fail;refine(ae E).mono ?_;rintro e x4 ⟨⟨v4,rfl,o5⟩,b4⟩;have f:=(zi T (ae a)).1;obtain⟨a4,c4,rfl⟩:=o5.formN f;obtain⟨g4,rfl⟩:=o5.somes (by omega);have r:=af (tY g4 0 c4 30 1 (da 15 (ck T)) x4 f (fun i hi=>by rw[a0H];exact(o5.at f hi).1) o5.cap.1 (by omega) (by omega));have e2:dS (da 15 (ck T)) 1 30=(bY T).length:=by unfold bY;rw[ij,f]
 rw[e2]at r;have O5:Hid (al x4 w.heap.size (.slice (some ⟨g4,0,none⟩) (bY T).length c4) (bY T)):=by
  have Q:=o5.cut (m:=(bY T).length) f (by have:=kG T (ae a);omega) (by omega);have e3:(da 15 (ck T)).take (bY T).length=bY T:=by rw[←e2];unfold bY nB;rw[f]
  rw[e3]at Q;exact Q.mono (ae B3).size
 have O1':=af (dO (ae O1) b4);have O4':=af ((ae O4).later b4 (a0a _));have B4:=af (ah (ae B3) b4);have g:=af (kG T (ae a));obtain⟨nD,hnD⟩:∃n,(bY T).length=n:=⟨_,rfl⟩;rw[hnD]at r O5 g;have k:=af hnD;clear hnD e2 f o5 b4 E O4 O1 O3' B3;go_wp2_with fail;refine(ae r).mono ?_;rintro e x5 ⟨rfl,V⟩;rw[V];clear V x5 r;have h0:Hid (jq (x4.alloc (.cells #[.slice none 0 0,.int .i64 0,.int .i64 0] 272)) x4.heap.size (0,0)):=yo x4 272;have o:Below x4.heap.size x4 (x4.alloc (.cells #[.slice none 0 0,.int .i64 0,.int .i64 0] 272)):=(a0c _ _).alloc (a0a _) _;have RL:Hid (iA (x4.alloc (.cells #[.slice none 0 0,.int .i64 0,.int .i64 0] 272)) x4.heap.size (some ⟨g3,0,none⟩) (bw T)):=(AZ (ae j) (ae O4')).below o;have RD:Hid (iA (x4.alloc (.cells #[.slice none 0 0,.int .i64 0,.int .i64 0] 272)) x4.heap.size (some ⟨g4,0,none⟩) (bY T)):=(AZ (ae k) (ae O5)).below o;have RT:Hid (qT (x4.alloc (.cells #[.slice none 0 0,.int .i64 0,.int .i64 0] 272)) x4.heap.size a1 T):=(Gt (ae l) (ae O1')).keep (bD o);have C:Hid (KB x4.heap.size x4 (x4.alloc (.cells #[.slice none 0 0,.int .i64 0,.int .i64 0] 272))):=(KB.refl _ _).below o (a0a _);clear o O1' O4' O5;go_wp2_with fail;refine(eJ _ _ 1 1 _ (ae h0) (by decide) (by show(0:Nat)<=_;omega)).mono ?_;rintro e x6 ⟨rfl,o6,W⟩;have H6:=af (a0b o6 ((ae C).trans W));have L:=af ((ae RL).keep W.2);have J:=af ((ae RD).keep W.2);have N:=af ((ae RT).keep W.2);clear o6 W h0 C RL RD RT;go_wp2_with fail;refine(eJ _ _ 2 2 _ (ae H6).1 (by decide) (by show(1:Nat)<=_;omega)).mono ?_;rintro e x7 ⟨rfl,o7,X⟩;have H7:=af (a0b o7 ((ae H6).2.trans X));have A:=af ((ae L).keep X.2);have z:=af ((ae J).keep X.2);have O:=af ((ae N).keep X.2);clear o7 X H6 L J N;have F:=af (GF x4.heap.size (aU (aU (0,0) [(1,1)]) [(2,2)]) (some ⟨g3,0,none⟩) (some ⟨g4,0,none⟩) c3 nL c4 nD (bw T) (bY T) x7 (ae H7).1 (ae A).1 (ae z).1 (ae j) (ae k) (ae b).1 (ae b).2 (ae g).1 (ae g).2 (fJ T (ae a)) (ie T (ae a)) (by show(3:Nat)<=1000;omega));go_wp2_with fail;refine(ae F).mono ?_;rintro e x8 ⟨rfl,o8,Z⟩;have G:Hid (aU (aU (aU (0,0) [(1,1)]) [(2,2)]) (cV (bw T) (bY T))=aU (0,0) ([(1,1),(2,2)]++cV (bw T) (bY T))):=by
  show _=_;rw[←bm,←bm];rfl
 rw[ae G]at o8;have M:=(ae A).keep Z.2;have K:=(ae z).keep Z.2;have P:=(ae O).keep Z.2;have K8:=af ((ae H7).2.trans Z);have p:=BJ (fJ T (ae a)) (ie T (ae a)) (by rw[ae j];exact(ae b).1) (by rw[ae j];exact(ae b).2) (by rw[ae k];exact(ae g).1) (by rw[ae k];exact(ae g).2);have S:(aU (0,0) ([(1,1),(2,2)]++cV (bw T) (bY T))).2<=10000:=by
  have h1:=dM (0,0) ([(1,1),(2,2)]++cV (bw T) (bY T)) (by
   intro x hx;rcases a0V.1 hx with h|h
   . simp at h;rcases h with rfl|rfl<;>simp
   . have h3:=p.1;unfold aW at h3;have:=a03.1 h3 x h;exact(aP.1 this).1.2)
  rw[a0i]at h1;have:=p.2;simp only[a0A,a0R]at h1;omega
 have c:=af (rG x4.heap.size _ a1 (some ⟨g3,0,none⟩) (some ⟨g4,0,none⟩) c1 tn c3 nL c4 nD T (bw T) (bY T) x8 o8 P M K (ae l) (ae j) (ae k) (by have:=ae b;omega) (by have:=ae g;omega) (dF (fJ T (ae a))) (dF (ie T (ae a))) (by have:=ae b;omega) (by have:=ae I;omega) S (fun t ht=>⟨ae u t ht,mC T (ae a) (ae u) t ht⟩));have H:Hid (aU (aU (0,0) ([(1,1),(2,2)]++cV (bw T) (bY T))) (T.flatMap (cw (bw T) (bY T))++[pcM (bw T) 256])=aV (iD T)):=by
  show aU _ _=_;rw[←bm,a0O];rfl
 rw[ae H]at c;have Hm:Hid ((aV (iD T)).2<=90000):=by
  show _<=_;rw[←ae H,bm];have h1:=lc (bw T) (bY T) T (aU (0,0) ([(1,1),(2,2)]++cV (bw T) (bY T))) (dF (fJ T (ae a))) (dF (ie T (ae a))) (fun t ht=>mC T (ae a) (ae u) t ht);have h2:=dM (aU (aU (0,0) ([(1,1),(2,2)]++cV (bw T) (bY T))) (T.flatMap (cw (bw T) (bY T)))) [pcM (bw T) 256] (fun x hx=>by simp only[a0U,a1r,a1n]at hx;subst hx;have:=(dF (fJ T (ae a)) 256 (by have:=ae j;have:=ae b;omega)).1.2;show(bw T).getD 256 0<=16;omega);have h3:=ae a;simp only[a0A,a0R]at h2;omega
 clear o8 Z M K P p S F A z O H7 G;go_wp2_with fail;refine(ae c).mono ?_;rintro e x9 ⟨rfl,o9,k9⟩;have K9:=af ((ae K8).trans k9).1;have O9:=af o9;clear o9 k9 c K8;go_wp2_with fail;refine(lB _ _ _ _ (ae O9) (ae Hm)).mono ?_;rintro e x10 ⟨rfl,h7,b7⟩;obtain⟨_,v,Th,Y⟩:=h7;have e8:8*(((aV (iD T)).2+7)/8)/8=((aV (iD T)).2+7)/8:=by omega
 rw[e8]at Y;have Y':Bys x10 x4.heap.size v (cz (iD T)):=Y;have ac:=kX Y';have HB:=af ((ae K9).trans b7);obtain⟨k0,k1,k2,f0,f1,f2,ab⟩:=Th;clear Y Y' e8 k1 k2 b7 O9;generalize hR:cz (iD T)=R at *
 clear hR;go_wp2;go_ret;exact⟨by rw[ae aa];rfl,ah (ae B4) (ae HB)⟩
def ln(s:ByteArray):List UInt8:=if s.size<=300 then lM s else []
theorem tI(s:ByteArray)(w:World)(d:s.size<=1048576)(b:cJ w) :
  CD 81 #[.string s] w (.string ⟨(ln s).toArray⟩):=by
 by_cases h:s.size<=300
 . have a:Hid (ln s=lM s):=a0d h;rw[ae a];exact zU s w h b
 .
  have c:(300:Int)<(s.size:Int):=by omega
  have a:Hid (ln s=[]):=a0e h;clear h b;go_enter func81,ntmps81;go_wp2;go_ret;exact⟨by rw[ae a];rfl,a0c _ _⟩
end Go.Proofs.YtgmfehnnebkaoaaGreatDoor
