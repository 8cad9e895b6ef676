/- Texts. -/
import Derived.Test.YtemopnjckikkaaaGreatDoorM27
import Derived.Test.YtemopnjckikkaaaGreatDoorM33
set_option linter.all false
set_option maxRecDepth 100000
set_option maxHeartbeats 12800000
namespace Go.Proofs.YtemopnjckikkaaaGreatDoor
open Go.Proofs.Tryz
open Go.RowKit Corb
variable {D L l:List Int}{a:Option Addr}{b k n:Nat}{w w':World}
def rL(w:World)(b:Nat)(a:Option Addr)(l:List Tk):Prop:=DF w a l/\(0<l.length->∀x,a=some x->x.block≠b/\∀cur fr,w.heap[x.block]?≠some (.cells cur 5 fr))
def rL.keep{l:List Tk}(h:rL w b a l)(k:cb b w w'):rL w' b a l:=by
 by_cases c:0<l.length
 .
  obtain⟨g,o,e,j,m⟩:=h.1 c;obtain⟨f,h2⟩:=h.2 c _ e;have hb:=k.2 g j f h2;refine⟨fun _=>⟨g,o,e,a0h j k.1,fun i n=>?_⟩,fun _ x ex=>?_⟩
  . obtain⟨c0,c1,c2⟩:=m i n;exact⟨by rw[←c0];exact World.cell?_of_block (w:=w) hb,by rw[←c1];exact World.cell?_of_block (w:=w) hb,by rw[←c2];exact World.cell?_of_block (w:=w) hb⟩
  .
   have:x=⟨g,o,none⟩:=by rw[ex]at e;exact a1m e
   subst this;exact⟨f,fun d fr=>by rw[hb];exact h2 d fr⟩
 . exact⟨fun h=>absurd h c,fun h=>absurd h c⟩
def Im{base cap:Nat}{l:List Tk}(k:l.length=n)(h:ij w base (.slice a n cap) l)(hb:b<base):rL w b a l:=by
 refine⟨h.rowN k,fun m x ex=>?_⟩;subst ex;rcases h.2 with⟨e,_⟩|⟨g,c,f,e,i,j,_⟩
 . cases e
 . simp only[a0J,a0j]at e;obtain⟨rfl,_⟩:=e;refine⟨by show g≠b;omega,fun d fr=>?_⟩;show w.heap[g]?≠_;rw[j];intro e;cases e
def cH(L D:List Int)(t:Tk):List (Int×Int):=
 if isB t then [pcM L t.1.toNat]
 else [pcM L (257+fnd 3 4 t.2.1.toNat 27),((t.2.1.toNat:Int)-((stF 3 4 (fnd 3 4 t.2.1.toNat 27)).1:Int),((stF 3 4 (fnd 3 4 t.2.1.toNat 27)).2:Nat)),pcM D (fnd 1 2 t.2.2.toNat 29),((t.2.2.toNat:Int)-((stF 1 2 (fnd 1 2 t.2.2.toNat 29)).1:Int),((stF 1 2 (fnd 1 2 t.2.2.toNat 29)).2:Nat))]
def RR(W:World)(b:Nat)(L D:List Int)(T:List Tk)(a a2 va vb vl vk at_:Option Addr):Prop:=
 (i7 W b a L/\i7 W b a2 D)/\(i7 W b va (aV L 15).2/\i7 W b vb (aV D 15).2)/\(i7 W b vl kg/\i7 W b vk jZ)/\rL W b at_ T
def RR.keep{W W':World}{T:List Tk}{a2 va vb vl vk at_:Option Addr}(h:RR W b L D T a a2 va vb vl vk at_)(c:cb b W W'):RR W' b L D T a a2 va vb vl vk at_:=
 ⟨⟨h.1.1.keep c,h.1.2.keep c⟩,⟨h.2.1.1.keep c,h.2.1.2.keep c⟩,⟨h.2.2.1.1.keep c,h.2.2.1.2.keep c⟩,h.2.2.2.keep c⟩
def mF(l:List Int):Prop:=∀k,k<l.length->(0<=l.getD k 0/\l.getD k 0<=15)/\(0<=(aV l 15).2.getD k 0/\(aV l 15).2.getD k 0<65536)
def bR(h:Below w.heap.size w w'):cb b w w':=⟨h.size,fun k a _ _=>h.block k a⟩
def mt{g:Nat}{a:Array Value}{t:TypeId}(f:cb b w w')(h:w.heap[g]?=some (Obj.cells a t))(d:g≠b)(i:t≠5):w'.heap[g]?=some (Obj.cells a t):=by
 refine(f.2 g (dy h) d (fun c fr=>?_)).trans h;rw[h];intro e;cases e
 exact i rfl
def jB(h:i7 w b a l)(f:k<l.length):∃g o,a=some ⟨g,o,none⟩/\g<w.heap.size/\w.cell? ⟨g,o+k,none⟩=some (.int .i64 (l.getD k 0)):=by
 obtain⟨g,o,e,d,c⟩:=h.1 (by omega);exact⟨g,o,e,d,c k f⟩
def Cp(y:Nat)(a:3<=y)(b:y<=60):pOk ((y:Int)-((stF 3 4 (fnd 3 4 y 27)).1:Int)) ((stF 3 4 (fnd 3 4 y 27)).2:Nat)=true:=by
 have:(List.range 61).all (fun y=>decide (y<3) || pOk ((y:Int)-((stF 3 4 (fnd 3 4 y 27)).1:Int)) ((stF 3 4 (fnd 3 4 y 27)).2:Nat))=true:=by decide +kernel
 have:=a08.1 this y (List.mem_range.2 (by omega));simp only[a1e,a0s]at this;rcases this with h|h
 . omega
 . exact h
def Co(z:Nat)(a:1<=z)(b:z<=250):pOk ((z:Int)-((stF 1 2 (fnd 1 2 z 29)).1:Int)) ((stF 1 2 (fnd 1 2 z 29)).2:Nat)=true:=by
 have:(List.range 251).all (fun z=>decide (z<1) || pOk ((z:Int)-((stF 1 2 (fnd 1 2 z 29)).1:Int)) ((stF 1 2 (fnd 1 2 z 29)).2:Nat))=true:=by decide +kernel
 have:=a08.1 this z (List.mem_range.2 (by omega));simp only[a1e,a0s]at this;rcases this with h|h
 . omega
 . exact h
def dU(p:Nat×Nat)(l:List (Int×Int))(h:∀x∈l,x.2<=16):(bf p l).2<=p.2+16*l.length:=by
 unfold bf mT;induction l generalizing p with
 | nil=>simp[iA]
 | cons x r ih=>
  have b:=h x (by simp);have h2:=ih (p.1+x.1.toNat*2 ^ p.2,p.2+x.2.toNat) (fun y a=>h y (by simp[a]));simp only[a0B,iA,a0A]at *
  omega
def xy(L D:List Int)(t:Tk)(gL:mF L)(gD:mF D)(a:fX L D t):(∀x∈cH L D t,x.2<=16)/\(cH L D t).length<=4:=by
 unfold cH;unfold fX at a
 split
 . rename_i h;rw[a0c h]at a;refine⟨fun x b=>?_,by simp⟩;simp only[a0V,a1p,a1k]at b;subst b;have:=(gL _ a).1.2;show L.getD _ 0<=16;omega
 .
  rename_i h;rw[a0d h]at a;refine⟨fun x b=>?_,by simp⟩;simp only[a0V,a1p,a1k]at b;have s1:=rz (L:=3) (G:=4) (k:=fnd 3 4 t.2.1.toNat 27) (by omega) (by omega) (by omega) (by have:=gP 3 4 t.2.1.toNat 27;omega);have s2:=rz (L:=1) (G:=2) (k:=fnd 1 2 t.2.2.toNat 29) (by omega) (by omega) (by omega) (by have:=gP 1 2 t.2.2.toNat 29;omega);rcases b with rfl|rfl|rfl|rfl
  . have:=(gL _ a.1).1.2;show L.getD _ 0<=16;omega
  . show((_:Nat):Int)<=16;omega
  . have:=(gD _ a.2).1.2;show D.getD _ 0<=16;omega
  . show((_:Nat):Int)<=16;omega
def lF(L D:List Int)(T:List Tk)(p:Nat×Nat)(gL:mF L)(gD:mF D)(a:∀t∈T,fX L D t):(bf p (T.flatMap (cH L D))).2<=p.2+64*T.length:=by
 induction T generalizing p with
 | nil=>simp[bf,mT,iA]
 | cons t r ih=>
  rw[a0W,bo];obtain⟨b,h2⟩:=xy L D t gL gD (a t (by simp));have d:=dU p (cH L D t) b;have e:=ih (bf p (cH L D t)) (fun x c=>a x (by simp[c]));simp only[a0A];omega
def rf(a:Option Addr)(cap n:Nat)(l:List Int)(w:World)(d:l.length=n)(h:br w a l)(c:n<=300) :
  Calls prog 198 #[.slice a n cap] w fun e w'=>(∃g,e = .returned (.slice (some ⟨g,0,none⟩) n n)/\ap w' w.heap.size (.slice (some ⟨g,0,none⟩) n n) (aV l 15).2)/\Below w.heap.size w w':=
 (dZ a cap n l w d h c).mono fun _ _ ⟨b,f,hb⟩=>⟨⟨_,b,f⟩,hb⟩
def oL(w:World):Calls prog 210 #[] w fun e w'=>(∃g,e = .returned (.slice (some ⟨g,0,none⟩) 28 28)/\ap w' w.heap.size (.slice (some ⟨g,0,none⟩) 28 28) sg)/\Below w.heap.size w w':=
 (jv w).mono fun _ _ ⟨a,b,hb⟩=>⟨⟨_,a,b⟩,hb⟩
def oB(w:World):Calls prog 211 #[] w fun e w'=>(∃g,e = .returned (.slice (some ⟨g,0,none⟩) 30 30)/\ap w' w.heap.size (.slice (some ⟨g,0,none⟩) 30 30) rM)/\Below w.heap.size w w':=
 (js w).mono fun _ _ ⟨a,b,hb⟩=>⟨⟨_,a,b⟩,hb⟩
def fD:kg.length=28:=kV _ _ _
def fu:jZ.length=30:=kV _ _ _
def sD(b:Nat)(p:Nat×Nat)(ta a a2:Option Addr)(tcap tn cap n X n2:Nat)(T:List Tk)(L D:List Int)(w:World)(ho:jX w b p)(hT:rL w b ta T)(hL:i7 w b a L)(hD:i7 w b a2 D)
  (d7:T.length=tn) (hn:L.length=n) (d2:D.length=n2) (d3:n<=300) (d4:n2<=300) (gL:mF L) (gD:mF D) (a7:256<n) (e7:(tn:Int)<=300) (hp:p.2<=10000)
  (d6:∀t∈T,okT t=true/\fX L D t) :
  Calls prog 181 #[.pointer b,.slice ta tn tcap,.slice a n cap,.slice a2 n2 X] w fun e w'=>e = .returned (.tuple #[])/\jX w' b (bf p (T.flatMap (cH L D)++[pcM L 256]))/\KB b w w':=by
 have Z:b<w.heap.size:=Out.lt ho;have a9:=cC
 have HT:=af hT;have HO:=af ho;have HL:=af hL;have HD:=af hD;have V:=af d7;have F:=af hn;have B:=af d2;have a1:=af d3;have dl:=af d4;have s:=af gL;have U:=af gD;have M:=af a7;have Hp:=af hp;have bs:=af d6;clear hT ho hL hD d7 hn d2 d3 d4 gL gD a7 hp d6;go_enter func181,ntmps181;go_wp2_with fail;refine(rf a cap n L _ F HL.1 a1).mono ?_;rintro e x1⟨⟨g1,rfl,o1⟩,b1⟩;have N1:=af (fB ((bz L 15).trans F) o1 Z);have B1:=af b1;clear o1 b1;go_wp2_with fail;refine(rf a2 X n2 D _ B (HD.below B1).1 dl).mono ?_;rintro e x2⟨⟨g2,rfl,o2⟩,b2⟩;have N2:=af (fB ((bz D 15).trans B) o2 (a0h Z B1.size));have N1':=af (N1.below b2);have B2:=af (aj B1 b2);clear o2 b2 N1 B1;go_wp2_with fail;refine(oL _).mono ?_;rintro e x3⟨⟨g3,rfl,o3⟩,b3⟩;have R3:=af (o3.rowN rfl);have B3:=af (aj B2 b3);have N1:=af (N1'.below b3);have N2':=af (N2.below b3);clear o3 b3 B2 N1' N2;go_wp2_with fail;refine(jN _ 28 _ R3).mono ?_;rintro e x4⟨v4,rfl,o4,b4⟩;obtain⟨a4,c4,rfl⟩:=o4.formN fD;have N4:=af (fB fD o4 (a0h Z B3.size));have B4:=af (aj B3 b4);have N1':=af (N1.below b4);have N2:=af (N2'.below b4);clear o4 b4 B3 N1 N2' R3;go_wp2_with fail;refine(oB _).mono ?_;rintro e x5⟨⟨g5,rfl,o5⟩,b5⟩;have R5:=af (o5.rowN rfl);have B5:=af (aj B4 b5);have N1:=af (N1'.below b5);have N2':=af (N2.below b5);have N4':=af (N4.below b5);clear o5 b5 B4 N1' N2 N4;go_wp2_with fail;refine(jM _ 30 _ R5).mono ?_;rintro e x6⟨v6,rfl,o6,b6⟩;obtain⟨a6,c6,rfl⟩:=o6.formN fu;have N6:=af (fB fu o6 (a0h Z B5.size));have B6:=af (aj B5 b6);have c9:Hid (RR x6 b L D T a a2 (some ⟨g1,0,none⟩) (some ⟨g2,0,none⟩) a4 a6 ta):=
  ⟨⟨HL.below B6,HD.below B6⟩,⟨N1.below b6,N2'.below b6⟩,⟨N4'.below b6,N6⟩,HT.keep (bR B6)⟩
 have cv:Hid (jX x6 b (bf p ((T.take 0).flatMap (cH L D)))):=Out.kept HO B6;have co:Hid (KB b w x6):=(KB.refl b w).below B6 (a0r Z);clear o6 b6 B5 N1 N2' N4' N6 R5 HT HO HL HD B6;go_wp2_with fail
 go_loopw [12,13,14] (fun i _ _ wr=>∃k:Nat,k<=tn/\i = .int .i64 k/\jX wr b (bf p ((T.take k).flatMap (cH L D)))/\RR wr b L D T a a2 (some ⟨g1,0,none⟩) (some ⟨g2,0,none⟩) a4 a6 ta/\KB b w wr) (fun i _ _ _=>tn-(intOf i).toNat)
 case atStart=>exact⟨0,a0f _,rfl,cv,c9,co⟩
 case round=>
  obtain⟨k,hk,rfl,ho,cg,d1⟩:=hrel;clear cv c9 co;have HO:=af ho;have a0:=af cg;have bd:=af d1;have HK:=af hk;have d0:Hid (b<wr.heap.size):=Out.lt ho;clear ho d1 hk;by_cases cc:k<tn
  .
   have e3:(k:Int)<(tn:Int):=by omega
   obtain⟨g,o,rfl,hg,hc⟩:=cg.2.2.2.1 (by rw[ae V];omega);obtain⟨c0,c1,c2⟩:=hc k (by rw[ae V];exact cc);have b0:Hid ((T.take (k+1)).flatMap (cH L D)=(T.take k).flatMap (cH L D)++cH L D (T.getD k k0)):=by
    show(T.take (k+1)).flatMap (cH L D)=_;rw[Fw T k (by rw[ae V];exact cc)];simp
   obtain⟨A,G⟩:=ae bs (T.getD k k0) (by simp[List.getD,show k<T.length by rw[ae V];exact cc]);have q:Hid ((bf p ((T.take k).flatMap (cH L D))).2<=80000):=by
    show _<=_;have h1:=lF L D (T.take k) p s U (fun t ht=>(bs t (a10 ht)).2);have h2:(T.take k).length<=k:=List.length_take_le _ _;have h3:=ae Hp;omega
   clear hc cg;generalize T.getD k k0=t at *
   have O:Hid (bf p ((T.take (k+1)).flatMap (cH L D))=bf (bf p ((T.take k).flatMap (cH L D))) (cH L D t)):=by
    show bf p _=_;rw[ae b0,bo]
   generalize bf p ((T.take k).flatMap (cH L D))=P at *
   have a3:Below wr.heap.size wr (wr.alloc (.cells #[.int .i64 t.1,.int .i64 t.2.1,.int .i64 t.2.2] 296)):=bx;have an:Hid (jX (wr.alloc (.cells #[.int .i64 t.1,.int .i64 t.2.1,.int .i64 t.2.2] 296)) b P):=Out.kept HO a3;have m:=af (a0.keep (bR a3));have N:=af (bd.below a3 (a0r d0));have ba:=af (alloc_at wr (.cells #[.int .i64 t.1,.int .i64 t.2.1,.int .i64 t.2.2] 296));clear a3 HO a0 bd;cases Y:isB t
   .
    have hK:isK t=true:=by unfold okT at A;rw[Y]at A;simpa using A
    obtain⟨y0,y1,z0,z1⟩:=uo hK;have d8:t.1=0:=by unfold isK at hK;simp only[a0k,a0s]at hK;exact hK.1.1
    have v:Hid (257+fnd 3 4 t.2.1.toNat 27<n/\fnd 1 2 t.2.2.toNat 29<n2):=by
     have:=G;unfold fX at this;rw[a0d (by simp[Y]),ae F,ae B]at this;exact this
    have ao:Hid (cH L D t=[pcM L (257+fnd 3 4 t.2.1.toNat 27),((t.2.1.toNat:Int)-((stF 3 4 (fnd 3 4 t.2.1.toNat 27)).1:Int),((stF 3 4 (fnd 3 4 t.2.1.toNat 27)).2:Nat)),pcM D (fnd 1 2 t.2.2.toNat 29),((t.2.2.toNat:Int)-((stF 1 2 (fnd 1 2 t.2.2.toNat 29)).1:Int),((stF 1 2 (fnd 1 2 t.2.2.toNat 29)).2:Nat))]):=by
     show cH L D t=_;unfold cH;rw[a0d (by simp[Y])]
    have hy:t.2.1=((t.2.1.toNat:Nat):Int):=by omega
    have hz:t.2.2=((t.2.2.toNat:Nat):Int):=by omega
    have J:3<=t.2.1.toNat/\t.2.1.toNat<=60:=by omega
    have K:1<=t.2.2.toNat/\t.2.2.toNat<=250:=by omega
    have Eok1:=af (Cp t.2.1.toNat J.1 J.2);have Eok2:=af (Co t.2.2.toNat K.1 K.2);have Sy1:=af (Bz t.2.1.toNat J.1 J.2);have Sy2:=af (zF t.2.2.toNat K.1 K.2);have e0:=gP 3 4 t.2.1.toNat 27;have e1:=gP 1 2 t.2.2.toNat 29;have At1:=af (Bv (fnd 3 4 t.2.1.toNat 27) (by omega));have At2:=af (zC (fnd 1 2 t.2.2.toNat 29) (by omega));have ed:=af (Bw (fnd 3 4 t.2.1.toNat 27) (by omega));have eg:=af (zE (fnd 1 2 t.2.2.toNat 29) (by omega));generalize stF 3 4 (fnd 3 4 t.2.1.toNat 27)=E at *
    generalize stF 1 2 (fnd 1 2 t.2.2.toNat 29)=E' at *
    generalize fnd 3 4 t.2.1.toNat 27=f at *
    generalize fnd 1 2 t.2.2.toNat 29=f' at *
    clear Y hK A G;obtain⟨tx,ty,tz⟩:=t;simp only at d8 y0 y1 z0 z1 hy hz J K c0 c1 c2 m N an ba ao Eok1 Eok2 Sy1 Sy2 O;generalize ty.toNat=y at *
    generalize tz.toNat=z at *
    subst d8 hy hz;have e6:(f:Int)<28:=by omega
    have e2:(f':Int)<30:=by omega
    have ab:Hid (f<28):=by show f<28;omega
    have ac:Hid (f'<30):=by show f'<30;omega
    have ek:=aS.1 Eok1;have el:=aS.1 Eok2;have e4:=bK ((y:Int)-(E.1:Int)) (by omega) (by omega);have e5:=bK ((z:Int)-(E'.1:Int)) (by omega) (by omega);clear ek el e0 e1 J K;obtain⟨gl,ol,rfl,ey,eu⟩:=jB m.2.2.1.1 (by rw[fD];exact ab);obtain⟨gk,ok,rfl,ev,en⟩:=jB m.2.2.1.2 (by rw[fu];exact ac);have cu:=af (fun W (hR:i7 W b (some ⟨gl,ol,none⟩) kg)=>nJ (some ⟨gl,ol,none⟩) c4 28 kg (y:Int) W fD hR.1 (by omega) (by omega));have cs:=af (fun W (hR:i7 W b (some ⟨gk,ok,none⟩) jZ)=>nJ (some ⟨gk,ok,none⟩) c6 30 jZ (z:Int) W fu hR.1 (by omega) (by omega));rw[ae Sy1]at cu;rw[ae Sy2]at cs;have ad:Hid (wr.heap.size≠b):=by show _≠_;have:=ae d0;omega
    clear eu en ey ev;go_wp2_with fail;refine(cu _ (ae m).2.2.1.1).mono ?_;rintro e w7⟨rfl,al⟩;rw[al];clear al;have eI:(257:Int)+(f:Int)=((257+f:Nat):Int):=by omega
    have j:=af (qg b P a (some ⟨g1,0,none⟩) cap n n (257+f) L _ an F m.1.1.1 m.2.1.1.1 v.1 a1 (s _ (by rw[ae F];exact v.1)).1 (s _ (by rw[ae F];exact v.1)).2 (by have:=ae q;omega));rw[←eI]at j;clear eI;go_wp2_with fail;refine j.mono ?_;rintro e x7⟨rfl,h7,k7⟩;have be:=af h7;have bl:=af (m.keep k7.2);have cp:=af (N.trans k7);have bb:=af (mt k7.2 ba ad (by decide));have dq:Hid ((bf P [pcM L (257+f)]).2<=80100):=by
     show _<=_;have h1:=dU P [pcM L (257+f)] (fun x hx=>by simp only[a0V,a1p,a1k]at hx;subst hx;have:=(s (257+f) (by rw[ae F];exact v.1)).1.2;show L.getD _ 0<=16;omega);have h2:=ae q;simp only[a0A,a0Q]at h1;omega
    have H:Hid (∀W,cb b x7 W->W.cell? ⟨wr.heap.size,1,none⟩=some (.int .i64 (y:Nat))/\W.cell? ⟨gl,ol+f,none⟩=some (.int .i64 (E.1:Nat))):=by
     intro W hW;refine⟨bw (mt hW bb ad (by decide)) 1,?_⟩;obtain⟨g',o',e',_,aa⟩:=jB (bl.2.2.1.1.keep hW) (k:=f) (by rw[fD];exact ab);simp only[a0j,a0z,a0N]at e';obtain⟨rfl,rfl⟩:=e';rw[ae At1]at aa;exact aa
    have c7:=af (fun W (hW:jX W b (bf P [pcM L (257+f)]))=>fi b (bf P [pcM L (257+f)]) ((y:Int)-(E.1:Int)) (E.2:Nat) W hW Eok1 (by have:=ae dq;omega));clear h7 k7 j an m N ba;go_wp2_with fail;have b7:Below x7.heap.size x7 x7.drew:=(Below.refl _ x7).drew;go_cut[] (fun wx=>jX wx b (bf (bf P [pcM L (257+f)]) [((y:Int)-(E.1:Int),(E.2:Nat))])/\KB b x7 wx)
    case first=>
     refine wp_region_held_drew (S:=fun W=>W.cell? ⟨wr.heap.size,1,none⟩=some (.int .i64 (y:Nat))/\W.cell? ⟨gl,ol+f,none⟩=some (.int .i64 (E.1:Nat))) a9 (H _ (bR b7)) (fun u=>?_);refine ag 0 (.pointer b) rfl (?_) u ?_
     . intro W c;obtain⟨s0,s1⟩:=c;go_simp
     refine ag 1 (.pointer (some ⟨wr.heap.size,1,none⟩)) rfl (?_) u ?_
     . intro W c;obtain⟨s0,s1⟩:=c;go_simp
     refine ag 2 (.int .i64 (y:Nat)) rfl (?_) u ?_
     . intro W c;obtain⟨s0,s1⟩:=c;go_simp
     refine ag 3 (.slice (some ⟨gl,ol,none⟩) 28 c4) rfl (?_) u ?_
     . intro W c;obtain⟨s0,s1⟩:=c;go_simp
     refine ag 4 (.int .i64 (f:Nat)) rfl (?_) u ?_
     . intro W c;obtain⟨s0,s1⟩:=c;go_simp
     refine ag 5 (.pointer (some ⟨gl,ol+f,none⟩)) rfl (?_) u ?_
     . intro W c;obtain⟨s0,s1⟩:=c;go_simp
     refine ag 6 (.int .i64 (E.1:Nat)) rfl (?_) u ?_
     . intro W c;obtain⟨s0,s1⟩:=c;go_simp
     refine ag 7 (.int .i64 ((y:Int)-(E.1:Int))) rfl (?_) u ?_
     . intro W c;obtain⟨s0,s1⟩:=c;go_simp
     refine ag 9 (.int .i64 (f:Nat)) rfl (?_) u ?_
     . intro W c;obtain⟨s0,s1⟩:=c;go_simp
     refine ah 8 fun C d=>?_;go_simp;go_at_call 210;refine(oL _).mono ?_;rintro e x8⟨⟨g8,rfl,o8⟩,b8⟩;have l:Below x7.heap.size x7 x8:=aj b7 b8;have b9:=(o8.at rfl ab).1;rw[ae ed]at b9;have bk:=af (Out.kept be l);clear o8 b8;refine Shut.out d _ _ (H _ (bR l)) (fun em=>?_);clear d C;refine ah 10 fun C d=>?_;go_simp;refine Shut.out d _ _ (H _ (bR l)) (fun _=>?_);clear d C;refine ah 11 fun C d=>?_;go_simp;refine Shut.out d _ _ (H _ (bR l)) (fun _=>?_);clear d C;refine ah 12 fun C d=>?_;go_simp;go_at_call 179;refine(c7 _ (ae bk)).mono ?_;rintro e x9⟨rfl,h9,k9⟩;have I:=af (a0b h9 (((KB.refl b x7).below l (a0r (Out.lt be))).trans k9));refine Shut.out d _ _ (H _ ((bR l).trans k9.2)) (fun _=>?_);clear d C h9 k9;refine wpAnyH_done (by kernel_rfl) ?_ _;go_wp2_with fail
     go_meet
     case rel=>exact I
    case rest=>
     obtain⟨d5,a5⟩:=hcut;have cy:=af d5;have Q:=af (bl.keep a5.2);have cr:=af (cp.trans a5);have bc:=af (mt a5.2 bb ad (by decide));have ds:Hid ((bf (bf P [pcM L (257+f)]) [((y:Int)-(E.1:Int),((E.2:Nat):Int))]).2<=80200):=by
      show _<=_;have h1:=dU (bf P [pcM L (257+f)]) [((y:Int)-(E.1:Int),((E.2:Nat):Int))] (fun x hx=>by simp only[a0V,a1p,a1k]at hx;subst hx;exact(aS.1 Eok1).1.2);have h2:=ae dq;simp only[a0A,a0Q]at h1;omega
     have HE:Hid (∀r,bf P (pcM L (257+f) :: ((y:Int)-(E.1:Int),((E.2:Nat):Int)) :: r)=bf (bf (bf P [pcM L (257+f)]) [((y:Int)-(E.1:Int),((E.2:Nat):Int))]) r):=fun r=>by
      show bf P _=_;rw[←bo,←bo];rfl
     generalize bf (bf P [pcM L (257+f)]) [((y:Int)-(E.1:Int),((E.2:Nat):Int))]=P2 at *
     have a8:=bw bc 2;simp at a8;clear d5 a5 be bl cp bb H c7 b7;go_wp2_with fail;refine(cs _ (ae Q).2.2.1.2).mono ?_;rintro e w7⟨rfl,al⟩;rw[al];clear al;have j:=af (qg b P2 a2 (some ⟨g2,0,none⟩) X n2 n2 f' D _ cy B Q.1.2.1 Q.2.1.2.1 v.2 dl (U _ (by rw[ae B];exact v.2)).1 (U _ (by rw[ae B];exact v.2)).2 (by have:=ae ds;omega));go_wp2_with fail;refine j.mono ?_;rintro e xa⟨rfl,ha,ka⟩;have c5:=af ha;have dd:=af (Q.keep ka.2);have ei:=af (cr.trans ka);have eh:=af (mt ka.2 bc ad (by decide));have ej:Hid ((bf P2 [pcM D f']).2<=80300):=by
      show _<=_;have h1:=dU P2 [pcM D f'] (fun x hx=>by simp only[a0V,a1p,a1k]at hx;subst hx;have:=(U f' (by rw[ae B];exact v.2)).1.2;show D.getD _ 0<=16;omega);have h2:=ae ds;simp only[a0A,a0Q]at h1;omega
     have R:Hid (∀W,cb b xa W->W.cell? ⟨wr.heap.size,2,none⟩=some (.int .i64 (z:Nat))/\W.cell? ⟨gk,ok+f',none⟩=some (.int .i64 (E'.1:Nat))):=by
      intro W hW;refine⟨bw (mt hW eh ad (by decide)) 2,?_⟩;obtain⟨g',o',e',_,aa⟩:=jB (dd.2.2.1.2.keep hW) (k:=f') (by rw[fu];exact ac);simp only[a0j,a0z,a0N]at e';obtain⟨rfl,rfl⟩:=e';rw[ae At2]at aa;exact aa
     have c8:=af (fun W (hW:jX W b (bf P2 [pcM D f']))=>fi b (bf P2 [pcM D f']) ((z:Int)-(E'.1:Int)) (E'.2:Nat) W hW Eok2 (by have:=ae ej;omega));have ch:Hid (bf (bf P2 [pcM D f']) [((z:Int)-(E'.1:Int),((E'.2:Nat):Int))]=bf P2 [pcM D f',((z:Int)-(E'.1:Int),((E'.2:Nat):Int))]):=(bo P2 [pcM D f'] _).symm;clear ha ka j cy Q cr bc a8;go_wp2_with fail;have dv:Below xa.heap.size xa xa.drew:=(Below.refl _ xa).drew;refine wp_region_held_drew (S:=fun W=>W.cell? ⟨wr.heap.size,2,none⟩=some (.int .i64 (z:Nat))/\W.cell? ⟨gk,ok+f',none⟩=some (.int .i64 (E'.1:Nat))) a9 (R _ (bR dv)) (fun u=>?_);refine ag 0 (.pointer b) rfl (?_) u ?_
     . intro W c;obtain⟨s0,s1⟩:=c;go_simp
     refine ag 1 (.pointer (some ⟨wr.heap.size,2,none⟩)) rfl (?_) u ?_
     . intro W c;obtain⟨s0,s1⟩:=c;go_simp
     refine ag 2 (.int .i64 (z:Nat)) rfl (?_) u ?_
     . intro W c;obtain⟨s0,s1⟩:=c;go_simp
     refine ag 3 (.slice (some ⟨gk,ok,none⟩) 30 c6) rfl (?_) u ?_
     . intro W c;obtain⟨s0,s1⟩:=c;go_simp
     refine ag 4 (.int .i64 (f':Nat)) rfl (?_) u ?_
     . intro W c;obtain⟨s0,s1⟩:=c;go_simp
     refine ag 5 (.pointer (some ⟨gk,ok+f',none⟩)) rfl (?_) u ?_
     . intro W c;obtain⟨s0,s1⟩:=c;go_simp
     refine ag 6 (.int .i64 (E'.1:Nat)) rfl (?_) u ?_
     . intro W c;obtain⟨s0,s1⟩:=c;go_simp
     refine ag 7 (.int .i64 ((z:Int)-(E'.1:Int))) rfl (?_) u ?_
     . intro W c;obtain⟨s0,s1⟩:=c;go_simp
     refine ag 9 (.int .i64 (f':Nat)) rfl (?_) u ?_
     . intro W c;obtain⟨s0,s1⟩:=c;go_simp
     refine ah 8 fun C d=>?_;go_simp;go_at_call 211;refine(oB _).mono ?_;rintro e x8⟨⟨g8,rfl,o8⟩,b8⟩;have l:Below xa.heap.size xa x8:=aj dv b8;have b9:=(o8.at rfl ac).1;rw[ae eg]at b9;have bk:=af (Out.kept c5 l);clear o8 b8;refine Shut.out d _ _ (R _ (bR l)) (fun em=>?_);clear d C;refine ah 10 fun C d=>?_;go_simp;refine Shut.out d _ _ (R _ (bR l)) (fun _=>?_);clear d C;refine ah 11 fun C d=>?_;go_simp;refine Shut.out d _ _ (R _ (bR l)) (fun _=>?_);clear d C;refine ah 12 fun C d=>?_;go_simp;go_at_call 179;refine(c8 _ (ae bk)).mono ?_;rintro e x9⟨rfl,h9,k9⟩;have I:=af (a0b h9 (((KB.refl b xa).below l (a0r (Out.lt c5))).trans k9));refine Shut.out d _ _ (R _ ((bR l).trans k9.2)) (fun _=>?_);clear d C h9 k9;refine wpAnyH_done (by kernel_rfl) ?_ _;have HX:=af (a0b (ae I).1 (a0b (dd.keep I.2.2) (ei.trans I.2)));clear I;go_wp2;go_roundw
     case rel=>exact⟨k+1,by omega,by go_num,by rw[ae O,ae ao,ae HE,←ae ch];exact HX.1,HX.2.1,HX.2.2⟩
     case measure=>simp[intOf];omega
   .
    obtain⟨q1,q2⟩:=qW Y;have ca:Hid (t.1.toNat<n):=by
     have:=G;unfold fX at this;rw[a0c Y,ae F]at this;exact this
    have ao:Hid (cH L D t=[pcM L t.1.toNat]):=by show cH L D t=_;unfold cH;rw[a0c Y]
    have eb:t.2.1=0:=by unfold isB at Y;simp only[a0k,a0s]at Y;exact Y.1
    have hx:t.1=((t.1.toNat:Nat):Int):=by omega
    have j:=af (qg b P a (some ⟨g1,0,none⟩) cap n n t.1.toNat L _ an F m.1.1.1 m.2.1.1.1 ca a1 (s _ (by rw[ae F];exact ca)).1 (s _ (by rw[ae F];exact ca)).2 (by have:=ae q;omega));rw[←hx]at j;generalize t.1.toNat=xN at *
    clear Y A G hx;obtain⟨tx,ty,tz⟩:=t;simp only at eb q1 q2 c0 c1 c2 j m N;subst eb;go_wp2_with fail;refine j.mono ?_;rintro e x7⟨rfl,h7,k7⟩;have HX:=af (a0b h7 (a0b (m.keep k7.2) (N.trans k7)));clear h7 k7 j;go_wp2;go_roundw
    case rel=>exact⟨k+1,by omega,by go_num,by rw[ae O,ae ao];exact HX.1,HX.2.1,HX.2.2⟩
    case measure=>simp[intOf];omega
  .
   obtain rfl:k=tn:=by have:=ae HK;omega
   have O:Hid (bf p (T.flatMap (cH L D)++[pcM L 256])=bf (bf p ((T.take k).flatMap (cH L D))) [pcM L 256]):=by
    show bf p _=_;rw[a0t (by rw[ae V];exact a0a _),bo]
   have q:Hid ((bf p ((T.take k).flatMap (cH L D))).2<=80000):=by
    show _<=_;have h1:=lF L D (T.take k) p s U (fun t ht=>(bs t (a10 ht)).2);have h2:(T.take k).length<=k:=List.length_take_le _ _;have h3:=ae Hp;omega
   generalize bf p ((T.take k).flatMap (cH L D))=P at *
   have j:=af (qg b P a (some ⟨g1,0,none⟩) cap n n 256 L _ HO F a0.1.1.1 a0.2.1.1.1 M a1 (s _ (by rw[ae F];exact M)).1 (s _ (by rw[ae F];exact M)).2 (by have:=ae q;omega));go_wp2_with fail;refine j.mono ?_;rintro e x7⟨rfl,h7,k7⟩;have HX:=af (a0b h7 (bd.trans k7));clear h7 k7 j;go_wp2
   go_end0
   exact⟨rfl,by rw[ae O];exact HX.1,HX.2⟩
def FR(h:ar l=true)(b:k<l.length):pOk ((aV l 15).2.getD k 0) (l.getD k 0)=true:=by
 have hb:=mN (gw h) b;rw[wG h b];by_cases a:1<=l.getD k 0
 . rw[a0c a];have:=(qB h b a).1;exact aS.2 ⟨⟨hb.1,by omega⟩,by omega,by omega⟩
 .
  rw[a0d a];have e:l.getD k 0=0:=by omega
  rw[e];decide
def dR(h:ar l=true):mF l:=by
 intro k a;have hb:=mN (gw h) a;obtain⟨_,c0,c1⟩:=aS.1 (FR h a);refine⟨hb,c0,?_⟩;have b:p2 (l.getD k 0).toNat<=p2 15:=a0M (by omega) (by omega);have h2:p2 15=32768:=by decide
 omega
def nQ(h:ar l=true)(a:k<l.length):pcS l k=pcM l k:=by
 unfold pcS pcM;rw[FP (FR h a)]
def Mz(b:ar L=true)(c:ar D=true){t:Tk}(a:fX L D t):pcT L D t=cH L D t:=by
 unfold pcT cH;unfold fX at a
 split
 . rename_i h;rw[a0c h]at a;rw[nQ b a]
 . rename_i h;rw[a0d h]at a;rw[nQ b a.1,nQ c a.2]
def rQ(c:ar L=true)(b:ar D=true)(T:List Tk)(a:∀t∈T,fX L D t):T.flatMap (pcT L D)=T.flatMap (cH L D):=by
 induction T with
 | nil=>rfl
 | cons t r ih=>rw[a0W,a0W,Mz c b (a t (by simp)),ih (fun x d=>a x (by simp[d]))]
def Pl(gL:mF L)(gD:mF D){t:Tk}(c:okT t=true)(a:fX L D t):aY (cH L D t)=true:=by
 unfold cH;unfold fX at a;unfold aY
 split
 . rename_i h;rw[a0c h]at a;simp only[a1T,a2y,a2A];exact oQ (gL _ a).1
 .
  rename_i h;rw[a0d h]at a;have d:isK t=true:=by unfold okT at c;simp only[a1e]at c;rcases c with b|b;exact absurd b h;exact b
  obtain⟨y0,y1,z0,z1⟩:=uo d;simp only[a1T,a2y,a2A,a0k];exact⟨oQ (gL _ a.1).1,Cp _ (by omega) (by omega),oQ (gD _ a.2).1,Co _ (by omega) (by omega)⟩
def Am(gL:mF L)(gD:mF D)(T:List Tk)(h:∀t∈T,okT t=true/\fX L D t):aY (T.flatMap (cH L D))=true/\(T.flatMap (cH L D)).length<=4*T.length:=by
 induction T with
 | nil=>exact⟨rfl,by simp⟩
 | cons t r ih=>
  obtain⟨b,h2⟩:=ih (fun x e=>h x (by simp[e]));obtain⟨c,a⟩:=h t (by simp);have f:=(xy L D t gL gD a).2;refine⟨?_,by simp only[a0W,a0i,a0A];omega⟩;have d:=Pl gL gD c a;unfold aY at *
  rw[a0W,a1S,d,b];rfl
def xP(L:List UInt8):∀n p,L.length-p<=n->∀t∈bj L p,okT t=true:=by
 intro n;induction n with
 | zero=>
  intro p b t a;rw[eJ (by omega)]at a;cases a
 | succ n ih=>
  intro p b t a;by_cases h:p<L.length
  .
   rw[iF h]at a;rcases a0V.1 a with rfl|a
   . exact tq L p
   . exact ih (p+iW L p) (by have:=(gW L p).1;omega) t a
  . rw[eJ h]at a;cases a
def eT(s:ByteArray):∀t∈bj s.data.toList 0,okT t=true:=xP s.data.toList s.data.toList.length 0 (by omega)
def ib:List Int:=List.replicate 32 5
def iT:ar (bW 288)=true:=by decide +kernel
def mP:ar ib=true:=by decide +kernel
def jE{t:Tk}(_:okT t=true):fX (bW 288) ib t:=by
 unfold fX
 split
 . rename_i hB;have:=qW hB;rw[da];omega
 . have a:=gP 3 4 t.2.1.toNat 27;have h2:=gP 1 2 t.2.2.toNat 29;rw[da];exact⟨by omega,by show _<(List.replicate 32 (5:Int)).length;rw[a0v];omega⟩
def io(s:ByteArray):List (Int×Int):=[(1,1),(1,2)]++((bj s.data.toList 0).flatMap (cH (bW 288) ib)++[pcM (bW 288) 256])
def iY(s:ByteArray)(b:s.size<=300):(bj s.data.toList 0).length<=300:=by
 have h2:=xO s.data.toList s.data.toList.length 0 (by omega);have a:s.data.toList.length=s.size:=by simp
 omega
def pC(s:ByteArray)(f:s.size<=300):lOk (io s)=true:=by
 obtain⟨b,h2⟩:=Am (dR iT) (dR mP) (bj s.data.toList 0) (fun t a=>⟨eT s t a,jE (eT s t a)⟩);have g:=iY s f;have c:pOk (pcM (bW 288) 256).1 (pcM (bW 288) 256).2=true:=oQ (dR iT 256 (by rw[da];omega)).1;unfold lOk;have d:aY (io s)=true:=by
  unfold io;unfold aY at *
  rw[a1S,a1S,b];simp only[a1T,a2y,c];decide
 have e:(io s).length<=4000:=by unfold io;simp only[a0i,a0A,a0Q];omega
 rw[d];simpa using e
def dT(s:ByteArray):List UInt8:=ct (io s)
def A9(s:ByteArray)(w:World)(p:s.size<=300) :
  CD 154 #[s] w (.string ⟨(dT s).toArray⟩):=by
 have B:Hid (jX (w.alloc (.cells #[.slice none 0 0,.int .i64 0,.int .i64 0] 273)) w.heap.size (0,0)):=zc w 273;have d:Hid (KB w.heap.size w (w.alloc (.cells #[.slice none 0 0,.int .i64 0,.int .i64 0] 273))):=(KB.refl _ _).below bx (a0a _);have r:=af p;have u:Hid (bf (bf (bf (0,0) [(1,1)]) [(1,2)]) ((bj s.data.toList 0).flatMap (cH (bW 288) ib)++[pcM (bW 288) 256])=aU (io s)):=by
  show bf _ _=_;rw[←bo,←bo];rfl
 have H:Hid ((aU (io s)).2<=90000):=by
  show _<=_;rw[←ae u,bo];have N:=lF (bW 288) ib (bj s.data.toList 0) (bf (bf (0,0) [(1,1)]) [(1,2)]) (dR iT) (dR mP) (fun t g=>jE (eT s t g));have h2:=dU (bf (bf (bf (0,0) [(1,1)]) [(1,2)]) ((bj s.data.toList 0).flatMap (cH (bW 288) ib))) [pcM (bW 288) 256] (fun x D=>by simp only[a0V,a1p,a1k]at D;subst D;have:=(dR iT 256 (by rw[da];omega)).1.2;show(bW 288).getD 256 0<=16;omega);have O:=iY s p;have P:(bf (bf (0,0) [(1,1)]) [(1,2)]).2=3:=rfl;simp only[a0A,a0Q]at h2;omega
 clear p;go_enter func154,ntmps154;go_wp2_with fail;refine(fi _ _ 1 1 _ B (by decide) (by show(0:Nat)<=_;omega)).mono ?_;rintro e x1⟨rfl,o1,h⟩;have m:=af (a0b o1 (d.trans h));clear o1 h B d;go_wp2_with fail;refine(fi _ _ 1 2 _ m.1 (by decide) (by show(1:Nat)<=_;omega)).mono ?_;rintro e x2⟨rfl,o2,i⟩;have n:=af (a0b o2 (m.2.trans i));have a:Hid (w.heap.size<x2.heap.size):=Out.lt o2;clear o2 i m;go_wp2_with fail;refine(pH s _ (by have:=ae r;omega)).mono ?_;rintro e x3⟨v3,rfl,o3,z⟩;obtain⟨tn,htn⟩:∃tn,(bj s.data.toList 0).length=tn:=⟨_,rfl⟩;obtain⟨a3,c3,rfl⟩:=o3.formN htn;have N3:=af (Im htn o3 a);have j:=af z;clear o3 z;go_wp2_with fail;refine(rY _).mono ?_;rintro e x4⟨v4,rfl,o4,o⟩;obtain⟨a4,c4,rfl⟩:=o4.formN (da 288);have N4:=af (fB (da 288) o4 (a0h a j.size));have N3':=af (N3.keep (bR o));have k:=af (aj j o);clear o4 o N3 j;go_wp2_with fail;refine(rX _).mono ?_;rintro e x5⟨v5,rfl,o5,f⟩;have b:(List.replicate 32 (5:Int)).length=32:=a0v;obtain⟨a5,J,rfl⟩:=o5.formN b;have N5:=af (fB b o5 (a0h a k.size));have N3:=af (N3'.keep (bR f));have N4':=af (N4.below f);have l:=af (aj k f);have O5:=af (Out.kept n.1 l);have y:=af (n.2.below l (a0r a));have q:Hid ((tn:Int)<=300):=by show(tn:Int)<=300;have:=iY s r;omega
 have c:=af (sD w.heap.size (bf (bf (0,0) [(1,1)]) [(1,2)]) a3 a4 a5 c3 tn c4 288 J 32 (bj s.data.toList 0) (bW 288) ib x5 O5 N3 N4' N5 htn (da 288) b (by omega) (by omega) (dR iT) (dR mP) (by omega) q (by show(3:Nat)<=10000;omega) (fun t g=>⟨eT s t g,jE (eT s t g)⟩));rw[ae u]at c;clear o5 f N3' N4 N5 k b htn;go_wp2_with fail;refine c.mono ?_;rintro e x6⟨rfl,o6,E⟩;have I:=af (y.trans E).1;have O6:=af o6;clear o6 E c N3 N4' O5 y l n;go_wp2_with fail;refine(lZ _ _ _ _ O6 H).mono ?_;rintro e x7⟨rfl,K,A⟩;obtain⟨_,v,T,Y⟩:=K;have e8:8*(((aU (io s)).2+7)/8)/8=((aU (io s)).2+7)/8:=by omega
 rw[e8]at Y;have Y':Bys x7 w.heap.size v (dT s):=Y;have M:=lB Y';have F:=af (I.trans A);obtain⟨k0,h,i,f0,f1,f2,L⟩:=T;clear Y Y' e8 h i A O6;generalize C:dT s=R at *
 have G:=af C;clear C;go_wp2;go_ret;exact⟨by rw[ae G];rfl,F⟩
def lE(s:ByteArray):List UInt8:=if s.size<=300 then dT s else []
def Hv(s:ByteArray):[(1,1),(1,2)]++((bj s.data.toList 0).flatMap (pcT (bW 288) ib)++[pcS (bW 288) 256])=io s:=by
 unfold io;rw[rQ iT mP _ (fun t a=>jE (eT s t a)),nQ iT (by rw[da];omega)]
def Jc{base cap:Nat}{l:List (Int×Int)}(f:l.length=n)(h:Pcs w base (.slice a n cap) l)(d:0<n):∃g,a=some ⟨g,0,none⟩/\∀(j:Nat) (u:Value),(aX l)[j]?=some u->w.cell? ((⟨g,0,none⟩:Addr).add j)=some u:=by
 rcases h.2 with⟨_,e⟩|⟨g,b,c,e,_⟩
 . omega
 . simp only[a0J]at e;obtain⟨rfl,_,rfl⟩:=e;exact⟨g,rfl,a1N h rfl⟩
def wb(s:ByteArray)(w:World)(I:s.size<=300) :
  CD 77 #[s] w (.string ⟨(dT s).toArray⟩):=by
 obtain⟨i0,Z,N,O,P⟩:=a0p Tryz.infoPiece;have hI:¬ (300:Int)<(s.size:Int):=by omega
 have A:Hid ((w.alloc (.cells #[.int .i64 1,.int .i64 1,.int .i64 1,.int .i64 2] 137)).ownsRow w.heap.size 137 2 (.slice w.heap.size 2 2) 2 [.int .i64 1,.int .i64 1,.int .i64 1,.int .i64 2]):=a0R w #[.int .i64 1,.int .i64 1,.int .i64 1,.int .i64 2] 2 (a0a _) (by unfold maxLen;omega) rfl;have y:Hid (Below w.heap.size w (w.alloc (.cells #[.int .i64 1,.int .i64 1,.int .i64 1,.int .i64 2] 137))):=bx;have Y:=af I;have L:=af (Hv s);have HP:Hid (oa (io s)=dT s):=dK (pC s I);have n:Hid ((io s).length<=4000):=by
  have:=pC s I;unfold lOk at this;simp only[a0k,a0s]at this;exact this.2
 clear I;go_enter func77,ntmps77;go_wp2_with fail;refine(kJ 1 w).mono ?_;rintro e x1⟨rfl,k⟩;have p:=af (show x1.ownsRow w.heap.size 137 2 (.slice w.heap.size 2 2) 2 [.int .i64 1,.int .i64 1,.int .i64 1,.int .i64 2] by rw[k];exact A);have o:=af (show Below w.heap.size w x1 by rw[k];exact y);clear k A y;go_wp2_with fail;refine(mD _).mono ?_;rintro e x2⟨⟨C,rfl,z⟩,f⟩;have r:=af (dX p f);have q:=af (aj o f);have l:=af z;clear z f p o;go_wp2_with fail;refine(vu s _ (bW 288) ib C _ Y l (by rw[da];omega) (by show(List.replicate 32 (5:Int)).length<=300;rw[a0v];omega) (by rw[da];omega) (fun t ht=>jE (eT s t ht))).mono ?_;rintro e x3⟨v,rfl,i,h⟩;have x:=af (dX r h);have u:=af (aj q h);clear h r q l;generalize B:(bj s.data.toList 0).flatMap (pcT (bW 288) ib)++[pcS (bW 288) 256]=R at *
 have M:0<R.length:=by rw[←B];simp
 obtain⟨m,hm⟩:∃m,R.length=m:=⟨_,rfl⟩;obtain⟨va,vc,rfl⟩:∃a cap,v = .slice a m cap:=by
  rcases i.2 with⟨_,h0⟩|⟨g,cap,_,e,_⟩
  . omega
  . exact⟨_,cap,by rw[←hm];exact e⟩
 obtain⟨g3,rfl,G⟩:=Jc hm i (by omega);have K:=af G;have S:=af hm;have T:Hid (2+m<=maxLen/\(2+m)*16<=140737488355328):=by
  show _/\_;have U:=ae n;rw[←ae L,a0i,hm]at U;unfold maxLen;simp only[a0A,a0Q]at U;omega
 have F:=u.size;clear B M i G hm;go_wp2_with (at_builtin;refine a0u _ rfl _ _ 134 rfl w.heap.size 137 i0 (.agg #[.int .i64 0,.int .i64 0]) 2 16 underlying134 Z N O P rfl (by decide) (.slice w.heap.size 2 2) _ _ rfl x ⟨g3,0,none⟩ m vc (aX R) rfl (by rw[lR,ae S]) K (iz R) T.1 T.2 F ?_;intro v' x4 c b H;clear H);have W:([.int .i64 1,.int .i64 1,.int .i64 1,.int .i64 2]:List Value)++aX R=aX (io s):=by rw[←ae L,eH];rfl
 have V:2+m=(io s).length:=by rw[←ae L,a0i,ae S];rfl
 rw[W,V]at c;have d:Pcs x4 w.heap.size v' (io s):=c;obtain⟨a4,c4,rfl⟩:=d.form;have D:Below w.heap.size w x4:=u.grown b F (fun j hj=>(a0y x j hj).1);refine(gm a4 c4 (io s) _ d.row (by have:=ae n;omega)).mono ?_;rintro e x5⟨rfl,E⟩;rw[ae HP];have J:=af (aj D E);clear W V c d D E b;generalize B:dT s=Q at *
 have X:=af B;clear B;go_wp2;go_ret;exact⟨by rw[ae X];rfl,J⟩
def qQ(s:ByteArray)(w:World)(c:s.size<=1048576) :
  CD 77 #[s] w (.string ⟨(lE s).toArray⟩):=by
 by_cases h:s.size<=300
 . have a:Hid (lE s=dT s):=a0c h;rw[ae a];exact wb s w h
 .
  have b:(300:Int)<(s.size:Int):=by omega
  have a:Hid (lE s=[]):=a0d h;clear h;go_enter func77,ntmps77;go_wp2;go_ret;exact⟨by rw[ae a];rfl,Below.refl _ _⟩
def byS(s:ByteArray):ByteArray:=⟨(fS s.data.toList).toArray⟩
def byF(s:ByteArray):ByteArray:=⟨(lE s).toArray⟩
def zM(s:ByteArray)(h:¬ s.size<=300):byS s=⟨#[]⟩:=by
 have:fS s.data.toList=[]:=by unfold fS;rw[a0d (by rw[jw];exact h)]
 unfold byS;rw[this]
def zK(s:ByteArray)(h:¬ s.size<=300):byF s=⟨#[]⟩:=by unfold byF lE;rw[a0d h]
def inc(o:List Int)(k:Nat):List Int:=o.set k (o.getD k 0+1)
def gr(o:List Int)(s:List Nat):List Int:=s.foldl inc o
def ju(o:List Int)(k:Nat):(inc o k).length=o.length:=by simp[inc]
def er(o:List Int)(s:List Nat):(gr o s).length=o.length:=by
 induction s generalizing o with
 | nil=>rfl
 | cons x s ih=>show(gr (inc o x) s).length=_;rw[ih,ju]
def iu(o:List Int)(s:List Nat)(x:Nat):gr o (s++[x])=inc (gr o s) x:=by simp[gr]
def lK(o:List Int)(k j:Nat):(inc o k).getD j 0=o.getD j 0+(if j=k/\k<o.length then 1 else 0):=by
 unfold inc;simp only[List.getD_eq_getElem?_getD,List.getElem?_set];by_cases h:k=j
 .
  subst h;by_cases a:k<o.length
  . simp[a]
  . simp[a]
 . have:¬ j=k:=fun e=>h e.symm;simp[h,this]
def lc(o:List Int)(s:List Nat)(j:Nat):(gr o s).getD j 0=o.getD j 0+(if j<o.length then(s.count j:Int)else 0):=by
 induction s generalizing o with
 | nil=>simp[gr]
 | cons x s ih=>
  show(gr (inc o x) s).getD j 0=_;rw[ih,lK,ju,List.count_cons];by_cases h:j=x
  .
   subst h;by_cases a:j<o.length
   . simp[a];omega
   . simp[a]
  .
   have:(x == j)=false:=by simp;exact fun e=>h e.symm
   simp[h,this]
def IG{a b:List Int}(d:a.length=b.length)(h:∀j,j<a.length->a.getD j 0=b.getD j 0):a=b:=by
 apply a2e d;intro i c h2;have:=h i c;simpa[List.getD,c,h2]using this
def iI(n j:Nat):(List.replicate n (0:Int)).getD j 0=0:=by
 by_cases h:j<n<;>simp[List.getD,h]
def zu   (hk : k < l.length) (h : 0 < l.getD k 0) : 1 ≤ us l := by
  induction l generalizing k with
  | nil => simp at hk
  | cons b l ih =>
    simp only [us, a0B, a0L] at ih ⊢
    cases k with
    | zero => have : 0 < b := by simpa using h
              rw [a0c this]; omega
    | succ k => have := ih (k := k) (by simpa using hk) (by simpa using h); omega
def Gz(h:us l=0)(k:Nat)(a:k<l.length):¬ 0<l.getD k 0:=fun b=>by have:=zu a b;omega
def iV(t:Tk):Nat:=if isB t then t.1.toNat else 257+fnd 3 4 t.2.1.toNat 27
def eo(t:Tk):List Nat:=if isB t then []else [fnd 1 2 t.2.2.toNat 29]
def OR{t:Tk}(_:okT t=true):iV t<286:=by
 unfold iV
 split
 . rename_i hB;have:=qW hB;omega
 . have:=gP 3 4 t.2.1.toNat 27;omega
def KM{t:Tk} : ∀x∈eo t,x<30:=by
 unfold eo;intro x a
 split at a
 . simp at a
 . have:=gP 1 2 t.2.2.toNat 29;simp at a;omega
def f9(T:List Tk):List Int:=inc (gr (List.replicate 286 0) (T.map iV)) 256
def fI(T:List Tk):List Int:=gr (List.replicate 30 0) (T.flatMap eo)
def cz(T:List Tk):List Int:=if us (fI T)=0 then inc (fI T) 0 else fI T
def fe(T:List Tk):(f9 T).length=286:=by unfold f9;rw[ju,er,a0v]
def fx(T:List Tk):(fI T).length=30:=by unfold fI;rw[er,a0v]
def fy(T:List Tk):(cz T).length=30:=by unfold cz;split;rw[ju,fx];exact fx T
def pK(T:List Tk)(j:Nat)(a:j<286):(f9 T).getD j 0=((T.map iV).count j:Int)+(if j=256 then 1 else 0):=by
 unfold f9;rw[lK,lc,er,a0v,iI,a0c a];by_cases h:j=256<;>simp[h]
def qF(T:List Tk)(j:Nat)(a:j<30):(fI T).getD j 0=((T.flatMap eo).count j:Int):=by
 unfold fI;rw[lc,a0v,iI,a0c a];simp
def EL(T:List Tk):gr (inc (List.replicate 286 0) 256) (T.map iV)=f9 T:=by
 apply IG
 . rw[er,ju,fe,a0v]
 . intro j a;rw[er,ju,a0v]at a;rw[pK T j a,lc,lK,ju,a0v,iI,a0c a];by_cases h:j=256<;>simp[h];omega
def tW(T:List Tk):(T.flatMap eo).length<=T.length:=by
 induction T with
 | nil=>simp
 | cons t r ih=>
  have:(eo t).length<=1:=by unfold eo;split<;>simp
  simp only[a0W,a0i,a0A];omega
def yW(T:List Tk)(c:T.length<=300):okC (f9 T):=by
 intro i a;rw[fe]at a;rw[pK T i a];have b:(T.map iV).count i<=(T.map iV).length:=a2Q;rw[a0K]at b
 split<;>omega
def KL(T:List Tk)(c:T.length<=300):∀i,i<30->0<=(fI T).getD i 0/\(fI T).getD i 0<=300:=by
 intro i a;rw[qF T i a];have b:(T.flatMap eo).count i<=(T.flatMap eo).length:=a2Q;have h2:=tW T;omega
def tR(T:List Tk)(b:T.length<=300):okC (cz T):=by
 intro i a;rw[fy]at a;have:=KL T b i a;unfold cz
 split
 . rw[lK];split<;>omega
 . omega
def yX(T:List Tk):1<=us (f9 T)/\us (f9 T)<=286:=by
 refine⟨zu (k:=256) (by rw[fe];omega) ?_,by have:=sJ (f9 T);rw[fe]at this;exact this⟩;rw[pK T 256 (by omega),a0c rfl];omega
def tS(T:List Tk):1<=us (cz T)/\us (cz T)<=30:=by
 refine⟨?_,by have:=sJ (cz T);rw[fy]at this;exact this⟩;unfold cz
 split
 . rename_i h;refine zu (k:=0) (by rw[ju,fx];omega) ?_;rw[lK,qF T 0 (by omega),fx,a0c (by omega)];omega
 . omega
def G3(T:List Tk)(j:Nat)(h:0<(fI T).getD j 0):0<(cz T).getD j 0:=by
 unfold cz
 split
 . rw[lK];split<;>omega
 . exact h
def d9(l:List Int)(least:Nat):Nat->Nat
 | 0=>0
 | n+1=>if least<n+1/\l.getD n 0=0 then d9 l least n else n+1
def nW(l:List Int)(least:Nat):List Int:=l.take (d9 l least l.length)
def qE{least:Nat}(h:least<n+1/\l.getD n 0=0):d9 l least (n+1)=d9 l least n:=by simp only[d9];rw[a0c h]
def nu{least:Nat}(h:¬ (least<n/\l.getD (n-1) 0=0)):d9 l least n=n:=by
 cases n with
 | zero=>rfl
 | succ n=>rw[a24]at h;simp only[d9];rw[a0d h]
def s9(l:List Int)(least n:Nat):d9 l least n<=n:=by
 induction n with
 | zero=>exact a0a _
 | succ n ih=>simp only[d9];split<;>omega
def tQ (l : List Int) (least n : Nat) (h : least ≤ n) : least ≤ d9 l least n := by
  induction n with
  | zero => exact h
  | succ n ih => simp only [d9]; split
                 . exact ih (by omega)
                 . exact h
def wH(l:List Int)(least n j:Nat)(a:d9 l least n<=j)(h2:j<n):l.getD j 0=0:=by
 induction n with
 | zero=>omega
 | succ n ih=>
  by_cases b:least<n+1/\l.getD n 0=0
  .
   rw[qE b]at a;by_cases e:j=n
   . subst e;exact b.2
   . exact ih a (by omega)
  . simp only[d9]at a;rw[a0d b]at a;omega
def iO(l:List Int)(least:Nat):(nW l least).length=d9 l least l.length:=by
 unfold nW;rw[a0w];have:=s9 l least l.length;omega
def Nk(l:List Int)(c j:Nat)(h:j<c):(l.take c).getD j 0=l.getD j 0:=by
 simp[List.getD,h]
def zU(l:List Int)(least j:Nat)(h:j<l.length):(nW l least).getD j 0=l.getD j 0:=by
 by_cases a:j<d9 l least l.length
 . exact Nk l _ j a
 .
  rw[wH l least l.length j (by omega) h];have:(nW l least).length<=j:=by rw[iO];omega
  simp[List.getD,this]
def JQ(h:∀x∈l,x=0):kr l=0/\us l=0:=by
 induction l with
 | nil=>exact⟨rfl,rfl⟩
 | cons b l ih=>
  obtain⟨a,h2⟩:=ih (fun x c=>h x (by simp[c]));have hb:b=0:=h b (by simp);subst hb;simp only[kr,us,a0B,a0L]at a h2 ⊢;rw[a,h2];exact⟨rfl,rfl⟩
def KG(l:List Int)(least:Nat):kr (nW l least)=kr l/\us (nW l least)=us l:=by
 have h:∀x∈l.drop (d9 l least l.length),x=0:=by
  intro x c;obtain⟨i,b,rfl⟩:=List.mem_iff_getElem.1 c;rw[List.getElem_drop];rw[a05]at b;have:=wH l least l.length (d9 l least l.length+i) (by omega) (by omega);have a:d9 l least l.length+i<l.length:=by omega
  simpa[List.getD,a]using this
 obtain⟨d,h2⟩:=JQ h;have e:l=nW l least++l.drop (d9 l least l.length):=(a1K _ _).symm;have f:kr l=kr (nW l least)+kr (l.drop (d9 l least l.length)):=by
  conv=>lhs;rw[e]
  simp[kr]
 have g:us l=us (nW l least)+us (l.drop (d9 l least l.length)):=by
  conv=>lhs;rw[e]
  simp[us]
 omega
def uJ(least:Nat)(h:ar l=true):ar (nW l least)=true:=by
 obtain⟨b,h2⟩:=KG l least;unfold ar lY at h ⊢;rw[b,h2];simp only[a0k,a0s]at h ⊢;obtain⟨⟨a,hb⟩,c⟩:=h;refine⟨⟨?_,by rw[iO];have:=s9 l least l.length;omega⟩,c⟩;unfold inL at a ⊢;rw[a08]at a ⊢;intro x d;exact a x (a10 d)
def bE(T:List Tk):List Int:=nW (dp 15 (f9 T)) 257
def cm(T:List Tk):List Int:=nW (dp 15 (cz T)) 1
def Cb:p2 14=16384:=by decide
def QJ:p2 6=64:=by decide
def LQ(T:List Tk)(a:T.length<=300):(dp 15 (f9 T)).length=286/\ar (dp 15 (f9 T))=true/\∀i,i<286->0<=(dp 15 (f9 T)).getD i 0/\(dp 15 (f9 T)).getD i 0<=15/\(0<(dp 15 (f9 T)).getD i 0<->0<(f9 T).getD i 0):=by
 have b:=yX T;have h:=uM (m:=14) (yW T a) (by rw[fe];omega) (by rw[fm];omega) (by rw[fm];have h2:=Cb;omega) (by omega);rw[fe]at h;exact h
def zX(T:List Tk)(a:T.length<=300):(dp 15 (cz T)).length=30/\ar (dp 15 (cz T))=true/\∀i,i<30->0<=(dp 15 (cz T)).getD i 0/\(dp 15 (cz T)).getD i 0<=15/\(0<(dp 15 (cz T)).getD i 0<->0<(cz T).getD i 0):=by
 have b:=tS T;have h:=uM (m:=14) (tR T a) (by rw[fy];omega) (by rw[fm];omega) (by rw[fm];have h2:=Cb;omega) (by omega);rw[fy]at h;exact h
def jP(T:List Tk)(b:T.length<=300):257<=(bE T).length/\(bE T).length<=286:=by
 obtain⟨a,_,_⟩:=LQ T b;unfold bE;rw[iO,a];exact⟨tQ _ _ _ (by omega),s9 _ _ _⟩
def ln(T:List Tk)(b:T.length<=300):1<=(cm T).length/\(cm T).length<=30:=by
 obtain⟨a,_,_⟩:=zX T b;unfold cm;rw[iO,a];exact⟨tQ _ _ _ (by omega),s9 _ _ _⟩
def gn(T:List Tk)(a:T.length<=300):ar (bE T)=true:=uJ 257 (LQ T a).2.1
def iM(T:List Tk)(a:T.length<=300):ar (cm T)=true:=uJ 1 (zX T a).2.1
def Ei{j:Nat}(h:0<l.getD j 0):j<l.length:=by
 rcases a1i j l.length with a|a
 . exact a
 . simp[List.getD,a]at h
def BW(T:List Tk)(d:T.length<=300)(k:Nat)(b:k=256∨k∈T.map iV)(a:k<286):0<(bE T).getD k 0:=by
 obtain⟨e,_,c⟩:=LQ T d;unfold bE;rw[zU _ _ _ (by omega)];refine(c k a).2.2.2 ?_;rw[pK T k a];rcases b with rfl|b
 . rw[a0c rfl];omega
 .
  have:=List.count_pos_iff.2 b
  split<;>omega
def Mq(T:List Tk)(c:T.length<=300)(k:Nat)(d:k∈T.flatMap eo)(a:k<30):0<(cm T).getD k 0:=by
 obtain⟨e,_,b⟩:=zX T c;unfold cm;rw[zU _ _ _ (by omega)];refine(b k a).2.2.2 (G3 T k ?_);rw[qF T k a];have:=List.count_pos_iff.2 d;omega
def Gj(T:List Tk)(c:T.length<=300)(a:∀t∈T,okT t=true)(t:Tk)(b:t∈T):0<(bE T).getD (iV t) 0/\∀k∈eo t,0<(cm T).getD k 0:=by
 refine⟨BW T c _ (.inr (a2p b)) (OR (a t b)),fun k d=>Mq T c k ?_ (KM k d)⟩;exact List.mem_flatMap.2 ⟨t,b,d⟩
def mU(T:List Tk)(c:T.length<=300)(b:∀t∈T,okT t=true)(t:Tk)(d:t∈T):fX (bE T) (cm T) t:=by
 obtain⟨a,h2⟩:=Gj T c b t d;unfold fX;unfold iV at a;unfold eo at h2
 split
 . rename_i h;rw[a0c h]at a;exact Ei a
 . rename_i h;rw[a0d h]at a h2;exact⟨Ei a,Ei (h2 _ (by simp))⟩
def oD(A:List Int):List Int:=gr (List.replicate 19 0) (A.map Int.toNat)
def aN(A:List Int):List Int:=dp 7 (oD A)
def fW(A:List Int):(oD A).length=19:=by unfold oD;rw[er,a0v]
def tN(A:List Int)(j:Nat)(a:j<19):(oD A).getD j 0=((A.map Int.toNat).count j:Int):=by
 unfold oD;rw[lc,a0v,iI,a0c a];simp
def yl(A:List Int)(c:A.length<=400):okC (oD A):=by
 intro i a;rw[fW]at a;rw[tN A i a];have b:(A.map Int.toNat).count i<=(A.map Int.toNat).length:=a2Q;rw[a0K]at b;omega
def ym(A:List Int)(a:0<A.length)(b:∀x∈A,0<=x/\x<=15):1<=us (oD A)/\us (oD A)<=19:=by
 refine⟨?_,by have:=sJ (oD A);rw[fW]at this;exact this⟩;have c:=b A[0] (a18 a);refine zu (k:=(A[0]).toNat) (by rw[fW];omega) ?_;rw[tN A _ (by omega)];have:=List.count_pos_iff.2 (a2p (f:=Int.toNat) (a18 a));omega
def uI(A:List Int)(a:0<A.length)(b:A.length<=400)(c:∀x∈A,0<=x/\x<=15):(aN A).length=19/\ar (aN A)=true/\∀i,i<19->0<=(aN A).getD i 0/\(aN A).getD i 0<=7/\(0<(aN A).getD i 0<->0<(oD A).getD i 0):=by
 have d:=ym A a c;have h:=uM (m:=6) (yl A b) (by rw[fW];omega) (by rw[fm];omega) (by rw[fm];have h2:=QJ;omega) (by omega);rw[fW]at h;exact h
def IB(A:List Int)(c:0<A.length)(d:A.length<=400)(a:∀x∈A,0<=x/\x<=15)(x:Int)(b:x∈A):0<(aN A).getD x.toNat 0:=by
 have e:=a x b;refine((uI A c d a).2.2 x.toNat (by omega)).2.2.2 ?_;rw[tN A _ (by omega)];have:=List.count_pos_iff.2 (a2p (f:=Int.toNat) b);omega
def di(L D:List Int):List (Int×Int):=
 [((L.length:Int)-257,5),((D.length:Int)-1,5),(15,4)]++(bC.map (fun i=>((aN (L++D)).getD i 0,(3:Int)))++(L++D).map (fun x=>pcM (aN (L++D)) x.toNat))
def je(T:List Tk):List (Int×Int):=[(1,1),(2,2)]++(di (bE T) (cm T)++(T.flatMap (cH (bE T) (cm T))++[pcM (bE T) 256]))
def kf(h:ar l=true):∀x∈l,0<=x/\x<=15:=by
 intro x b;obtain⟨i,a,rfl⟩:=List.mem_iff_getElem.1 b;have:=mN (gw h) a;simpa[List.getD,a]using this
def De(g:ar L=true)(f:ar D=true)(l0:257<=L.length)(l1:L.length<=286)(m:1<=D.length)(n:D.length<=30):aY (di L D)=true/\(di L D).length<=338:=by
 have c:∀x∈L++D,0<=x/\x<=15:=by
  intro x b;rcases a0X.1 b with h|h
  . exact kf g x h
  . exact kf f x h
 obtain⟨d,h2,e⟩:=uI (L++D) (by rw[a0i];omega) (by rw[a0i];omega) c;refine⟨?_,?_⟩
 .
  unfold di aY;rw[a1S,a1S];simp only[a0k];refine⟨?_,?_,?_⟩
  .
   simp only[a1T,a2y,a2A,a0k];refine⟨aS.2 ⟨by omega,by omega,?_⟩,aS.2 ⟨by omega,by omega,?_⟩,by decide⟩
   .
    have:p2 (5:Int).toNat=32:=by decide
    rw[this];omega
   .
    have:p2 (5:Int).toNat=32:=by decide
    rw[this];omega
  .
   rw[a08];intro x b;obtain⟨i,j,rfl⟩:=a2t.1 b;have a:i<19:=by
    have:∀i∈bC,i<19:=by decide
    exact this i j
   have:=e i a;refine aS.2 ⟨by omega,this.1,?_⟩;have:p2 (3:Int).toNat=8:=by decide
   rw[this];omega
  . rw[a08];intro x b;obtain⟨y,k,rfl⟩:=a2t.1 b;have l:=c y k;exact oQ (mN (gw h2) (by rw[d];omega))
 . unfold di;simp only[a0i,a0K,a0A,a0Q];have:bC.length=19:=rfl;omega
def tk(T:List Tk)(a:T.length<=300)(b:∀t∈T,okT t=true):lOk (je T)=true:=by
 have gL:=dR (gn T a);have gD:=dR (iM T a);obtain⟨l0,l1⟩:=jP T a;obtain⟨d,e⟩:=ln T a;obtain⟨f,h2⟩:=Am gL gD T (fun t c=>⟨b t c,mU T a b t c⟩);obtain⟨t1,t2⟩:=De (gn T a) (iM T a) l0 l1 d e;have g:pOk (pcM (bE T) 256).1 (pcM (bE T) 256).2=true:=oQ (gL 256 (by omega)).1;unfold lOk;have h:aY (je T)=true:=by
  unfold je;unfold aY at *
  rw[a1S,a1S,a1S,f,t1];simp only[a1T,a2y,g];decide
 have i:(je T).length<=4000:=by unfold je;simp only[a0i,a0A,a0Q];omega
 rw[h];simpa using i
def mj(s:ByteArray):List UInt8:=ct (je (bj s.data.toList 0))
def rZ(g o:Nat)(cap n least:Nat)(l:List Int)(w:World)(G:l.length=n)(h:∀i,i<n->w.cell? ⟨g,o+i,none⟩=some (.int .i64 (l.getD i 0)))(v:n<=cap)(E:n<=300)(D:least<=n) :
  Calls prog 112 #[.slice (some ⟨g,o,none⟩) n cap,least] w fun e w'=>e = .returned (.slice (some ⟨g,o,none⟩) (d9 l least n) cap)/\w'=w:=by
 have A:(n:Int)<=(cap:Int):=by omega
 have F:(n:Int)<=300:=by omega
 have H:=af h;clear h G v E D;go_enter func112,ntmps112;go_wp2
 go_loop [5] (fun x=>∃k:Nat,k<=n/\x = .int .i64 k/\d9 l least n=d9 l least k) (fun x=>(intOf x).toNat)
 case atStart=>exact⟨n,a0a _,rfl,rfl⟩
 case round=>
  obtain⟨k,q,rfl,c⟩:=hrel;have f:=af c;have p:=af q;have C:(k:Int)<=(n:Int):=by omega
  clear c q;by_cases b:least<k
  .
   have r:decide ((least:Int)<(k:Int))=true:=a0x (by omega);have d:(least:Int)<(k:Int):=by omega
   obtain⟨j,hj⟩:∃j,k=j+1:=⟨k-1,by omega⟩;subst hj;have z:=ae H j (by have:=ae p;omega);have J:=af (fun h=>qE (l:=l) (least:=least) (n:=j) h);have I:=af (fun h=>nu (l:=l) (least:=least) (n:=j+1) h);have B:(j:Int)<(n:Int):=by omega
   generalize s:l.getD j 0=y at *
   have u:=af s;clear s;by_cases m:y=0
   .
    subst m;have a:Hid (d9 l least n=d9 l least j):=f.trans (J ⟨b,rfl⟩);have t:Hid (j<=n):=by show j<=n;have:=ae p;omega
    clear b;go_wp2
    go_round
    case rel=>exact⟨j,t,by go_num,a⟩
    case measure=>simp[intOf]
   .
    have K:(y == 0)=false:=by simpa using m
    have a:Hid (d9 l least n=j+1):=f.trans (I (by rw[a24,ae u];exact fun h=>m h.2));clear b;go_wp2;go_ret;exact⟨by rw[ae a];rfl,rfl⟩
  .
   have d:¬ (least:Int)<(k:Int):=by omega
   have a:Hid (d9 l least n=k):=f.trans (nu (fun h=>b h.1));clear b;go_wp2;go_ret;exact⟨by rw[ae a];rfl,rfl⟩
def uE(g o:Nat)(cap n least:Nat)(l:List Int)(w:World)(G:l.length=n)(h:∀i,i<n->w.cell? ⟨g,o+i,none⟩=some (.int .i64 (l.getD i 0)))(v:n<=cap)(E:n<=300)(D:least<=n) :
  Calls prog 184 #[.slice (some ⟨g,o,none⟩) n cap,least] w fun e w'=>e = .returned (.slice (some ⟨g,o,none⟩) (d9 l least n) cap)/\w'=w:=by
 have A:(n:Int)<=(cap:Int):=by omega
 have F:(n:Int)<=300:=by omega
 have H:=af h;clear h G v E D;go_enter func184,ntmps184;go_wp2
 go_loop [5] (fun x=>∃k:Nat,k<=n/\x = .int .i64 k/\d9 l least n=d9 l least k) (fun x=>(intOf x).toNat)
 case atStart=>exact⟨n,a0a _,rfl,rfl⟩
 case round=>
  obtain⟨k,q,rfl,c⟩:=hrel;have f:=af c;have p:=af q;have C:(k:Int)<=(n:Int):=by omega
  clear c q;by_cases b:least<k
  .
   have r:decide ((least:Int)<(k:Int))=true:=a0x (by omega);have d:(least:Int)<(k:Int):=by omega
   obtain⟨j,hj⟩:∃j,k=j+1:=⟨k-1,by omega⟩;subst hj;have z:=ae H j (by have:=ae p;omega);have J:=af (fun h=>qE (l:=l) (least:=least) (n:=j) h);have I:=af (fun h=>nu (l:=l) (least:=least) (n:=j+1) h);have B:(j:Int)<(n:Int):=by omega
   generalize s:l.getD j 0=y at *
   have u:=af s;clear s;by_cases m:y=0
   .
    subst m;have a:Hid (d9 l least n=d9 l least j):=f.trans (J ⟨b,rfl⟩);have t:Hid (j<=n):=by show j<=n;have:=ae p;omega
    clear b;go_wp2
    go_round
    case rel=>exact⟨j,t,by go_num,a⟩
    case measure=>simp[intOf]
   .
    have K:(y == 0)=false:=by simpa using m
    have a:Hid (d9 l least n=j+1):=f.trans (I (by rw[a24,ae u];exact fun h=>m h.2));clear b;go_wp2;go_ret;exact⟨by rw[ae a];rfl,rfl⟩
  .
   have d:¬ (least:Int)<(k:Int):=by omega
   have a:Hid (d9 l least n=k):=f.trans (nu (fun h=>b h.1));clear b;go_wp2;go_ret;exact⟨by rw[ae a];rfl,rfl⟩
def Tryz.infoLenK:(prog.info? 237).map (·.size)=some 19:=by kernel_rfl
def Bl(a:Option Addr)(cap n base:Nat)(l:List Int)(w:World)(b:l.length=n)(h:cK w base a l)(g:base<=w.heap.size)(f:n<=300) :
  Calls prog 147 #[.slice a n cap] w fun e w'=>(∃C,e = .returned (.agg C)/\bS w' base l C)/\Below w.heap.size w w':=by
 refine(Bkx.codeBook_any Bkx.bkN (.inr (.inr rfl)) a cap n l w b h.1 f).mono ?_;rintro e w'⟨vs,C,rfl,d,c,h2,hb⟩;obtain⟨q,sc,rfl⟩:=h2.form;subst b;exact⟨⟨C,rfl,a,cap,_,_,q,sc,d,h.later hb,(bP (bz l 15) (c.own (bz l 15))).mono (by omega),(bP rfl h2).mono (by omega)⟩,hb⟩
def EH(k:Nat)(l:List Int)(C:Array Value)(base:Nat)(w:World)(d:bS w base l C)(f:k<l.length)(g:l.length<=300) :
  CD 149 #[.agg C,.int .i64 (k:Int)] w (.agg #[.int .i64 (btI ((aV l 15).2.getD k 0) (l.getD k 0)),.int .i64 (l.getD k 0)]):=by
 obtain⟨a,cap,ac,b,q,sc,e,c,h2,h⟩:=d;exact Bkx.bookPut_any Bkx.bkN (.inr (.inr rfl)) a ac cap l.length b k _ _ C l (aV l 15).2 w e rfl (bz l 15) c.1 h2.1 f g
def tt(w:World)(b base:Nat)(l:List Int)(C:Array Value):Prop:=bS w base l C/\w.rangeAt b 0 C.toList/\b<w.heap.size
def tt.later{base:Nat}{C:Array Value}(h:tt w b base l C)(hb:Below w.heap.size w w'):tt w' b base l C:=
 ⟨h.1.later hb,km h.2.1 hb h.2.2,a0h h.2.2 hb.size⟩
def Dc(k b base:Nat)(l:List Int)(C:Array Value)(w:World)(d:tt w b base l C)(h:k<l.length)(i:l.length<=300) :
  CD 148 #[.int .i64 (k:Int),.pointer b] w (.agg #[.int .i64 (pcS l k).1,.int .i64 (pcS l k).2]):=by
 have c:Below w.heap.size w (w.alloc (.cells #[.int .i64 0,.int .i64 0] 137)):=bx;have j:=af c;have m:=af (d.later c).2.1;have n:=af d.1.size;have HP:=af (EH k l C base _ (d.later c).1 h i);have f:Hid (pcS l k=(btI ((aV l 15).2.getD k 0) (l.getD k 0),l.getD k 0)):=rfl;generalize btI ((aV l 15).2.getD k 0) (l.getD k 0)=u at *
 generalize l.getD k 0=v at *
 clear d h i c;go_enter func148,ntmps148;go_wp2_with (first
  | (refine bm rfl 237 (.tmp 1) rfl b 0 rfl C _ m underlying237 rfl (by rw[ae n];exact Tryz.infoLenK) ?_)
  | (go_at_call 149;refine HP.mono ?_;rintro e x1⟨rfl,a⟩;have g:=uv a;obtain⟨m0,m1,_⟩:=dI g;obtain⟨n0,n1⟩:=nH g))
 have o:=qX g (.int .i64 u) (.int .i64 v);obtain⟨p,q,_⟩:=dI o;refine a0C (v:=.agg #[u,v]) (by simp[results,results148,go_sem,p,q]) rfl ⟨by rw[ae f],?_⟩;exact ai (ai (aj j a) (a0a _) _) (a0a _) _
def jm(l:List Int)(t:List Int):List (Int×Int):=t.map fun x=>pcS l x.toNat
def EK(l t:List Int)(k:Nat)(h:k<t.length):jm l (t.take (k+1))=jm l (t.take k)++[pcS l (t.getD k 0).toNat]:=by
 unfold jm;rw[cn t k h,a0H];rfl
def G8(a:Option Addr)(cap n b base:Nat)(t l:List Int)(C:Array Value)(w:World)(P:t.length=n)(h:br w a t)(O:n<=1000)(L:tt w b base l C)(N:l.length<=300)(m:∀i,i<t.length->0<=t.getD i 0/\t.getD i 0<(l.length:Int)) :
  Calls prog 87 #[.slice a n cap,.func (.func 148) #[] #[.pointer b]] w fun e w'=>∃v,e = .returned v/\Pcs w' w.heap.size v (jm l t)/\Below w.heap.size w w':=by
 have aa:(n:Int)<=1000:=by omega
 have A:=af P;have V:=af O;have U:=af N;have Q:=af m;have S:=af L;clear P O m N L;obtain⟨i0,hi,I,J,K⟩:=a0p Tryz.infoPiece;go_enter func87,ntmps87;go_wp2_with fail
 go_loopw [5,7,10] (fun o _ i wr=>∃k:Nat,k<=n/\i = .int .i64 k/\Pcs wr w.heap.size o (jm l (t.take k))/\Below w.heap.size w wr) (fun _ _ i _=>n-(intOf i).toNat)
 case atStart=>exact⟨0,a0f _,rfl,a06 _ _ _ _,Below.refl _ _⟩
 case round=>
  obtain⟨k,M,rfl,hq,c⟩:=hrel;have Z:=c.size;by_cases x:k<n
  .
   obtain⟨g,o,rfl,hg,B⟩:=(h.later c) (by rw[ae A];omega);have c0:=B k (by rw[ae A];exact x);have F:=af (EK l t k (by rw[ae A];exact x));have H:Hid ((jm l (t.take k)).length=k):=by show(jm l (t.take k)).length=k;unfold jm;have:=ae A;simp;omega
   obtain⟨y0,y1⟩:=ae Q k (by rw[ae A];exact x);have T:=af M;clear B M h;generalize t.getD k 0=y at *
   obtain⟨q,rfl⟩:=a0o y0;rw[a0n]at F;have HP:=af (Dc q b base l C wr (S.later c) (by omega) U);generalize Y:pcS l q=R at *
   clear Y;obtain⟨W,X⟩:=R;go_wp2_with fail;refine HP.mono ?_;rintro e x1⟨rfl,u⟩;have z:=Pcs.later hq u (a0a _);have d:=aj c u;have p:=d.size;have j:Hid ((jm l (t.take k)).length+1<=maxLen/\((jm l (t.take k)).length+1)*16<=140737488355328):=by
    show _/\_;rw[ae H];have:=ae V;unfold maxLen;omega
   clear hq c u HP;go_wp2_with (at_builtin;refine a0u _ rfl _ _ 134 rfl w.heap.size 137 i0 (.agg #[.int .i64 0,.int .i64 0]) 2 16 underlying134 hi I J K rfl (by decide) _ _ _ rfl (a0m z _) ⟨x1.heap.size,0,none⟩ 1 1 [.int .i64 W,.int .i64 X] rfl rfl (ts x1 _ _ _) (tr _ _) j.1 j.2 (av p _) ?_;intro v' x2 s f D;clear D);have G:=aI (v:=u5) f z (a0a _) p d;have E:=mX s;rw[←ae F]at E;clear s f z;go_wp2;go_roundw
   case rel=>exact⟨k+1,by have:=ae T;omega,by go_num,E,G⟩
   case measure=>simp[intOf];omega
  . have r:t.take k=t:=a0t (by rw[ae A];omega);rw[r]at hq;obtain⟨va,vc,rfl⟩:=hq.form;clear r h;go_wp2;go_ret;exact⟨_,rfl,hq,c⟩
end Go.Proofs.YtemopnjckikkaaaGreatDoor
namespace Go.Proofs.YtemopnjckikkaaaGreatDoor
open Go.Proofs.Tryz
open Go.RowKit Go.Shelf Corb
variable {W W' w:World}{b g n n₀:Nat}{l:List Int}{r10 r11:Option Nat}{r4 r5:Option (Nat×Value)}{s:ByteArray}{v:Value}
attribute [local go_sem] Oper.semAt_some
def qe{F:Fence}{P:Program}{ops:Array Oper}{o:Oper}{a:Act}{K:Act->World->Prop}{Q:Exit->Act->World->Prop}{E:Prop}
  (B:o.guard=none) (l c:Operand) (t:TypeId) (b:o.op=Op.makeSlice t l c)
  (base:Nat) (e:TypeId) (i:TypeInfo) (z:Value) (size:Nat) (r:P.underlying t=some (.slice e)) (h2:P.info? e=some i) (s:i.zero=some z) (u:i.size=size)
  (j h:IntKind) (L C:Int) (k:Nat) (D:a.eval l = .int j L) (A:a.eval c = .int h C) (y:L=(k:Int)) (v:C=(k:Int)) (m:i.bytes*k<=281474976710656) (p:k<=maxLen) (q:base<=w.heap.size)
  (x:∀g w',w.heap.size=g->w'.ownsRow base e size (.slice (some ⟨g,0,none⟩) k k) k (madeCells z.cells (k*size)).toList->w.grownBy w' none->K (a.put o.dst (.slice (some ⟨g,0,none⟩) k k)) w') :
  if Region.wanted o (yielded ops a.tmps)=true then Oper.wpIn F n P o a w K Q else E:=by
 have G:Region.wanted o (yielded ops a.tmps)=true:=by simp[Region.wanted,B]
 rw[a0c G];obtain⟨w',d,H,I⟩:=run_make_full (P:=P) w base t e i z size r h2 s u j h k m p q;subst y;subst v;unfold Oper.wpIn;refine⟨?_,?_⟩
 . simp[Oper.about,b]
 . rw[Oper.semAt_plain F _ _ (by rw[b];intro c f;cases f)];simp[execOp,b,D,A,d,Result.andThen];exact x _ w' rfl H I
def AQ{β:Type}(n₀:Nat)(v:Value)(f:β->List Int):Own (fun(b:β) W=>ap W n₀ v (f b)):=fun b X _ row e j a=>by
 refine a1C e j ?_;rcases e.2 with⟨rfl,_⟩|⟨g,cap,h,rfl,_,c,_⟩
 . exact .inl rfl
 .
  refine .inr fun e'=>?_;obtain⟨o,d,i⟩:=a g e'.symm;rw[show X.heap[g]?=_ from c]at d;cases d
  cases i
def Sts(n₀:Nat)(w W:World)(r10 r11:Option Nat)(r4 r5:Option (Nat×Value)):Prop:=
 Below n₀ w W/\(∀g,r10=some g->ap W n₀ (.slice (some ⟨g,0,none⟩) 286 286) (List.replicate 286 0))/\(∀g,r11=some g->ap W n₀ (.slice (some ⟨g,0,none⟩) 30 30) (List.replicate 30 0)) /\
 (∀b v,r4=some (b,v)->n₀<=b/\Boxed W b 99 v)/\(∀b v,r5=some (b,v)->n₀<=b/\Boxed W b 99 v)/\(∀g g',r10=some g->r11=some g'->g≠g')/\(∀b v b' v',r4=some (b,v)->r5=some (b',v')->b≠b')/\n₀<=W.heap.size
def gu(h:W.grownBy W' none):Below W.heap.size W W':=(Below.refl _ _).grown h (a0a _) (fun j a=>by cases a)
def Sts.later(h:Sts n₀ w W r10 r11 r4 r5)(hb:Below W.heap.size W W'):Sts n₀ w W' r10 r11 r4 r5:=by
 obtain⟨f,i,h2,a,c,j,k,d⟩:=h;exact⟨f.trans (hb.mono d),fun g e=>(i g e).later hb (a0a _),fun g e=>(h2 g e).later hb (a0a _),fun b v e=>⟨(a b v e).1,Boxed.later (a b v e).2 hb⟩,fun b v e=>⟨(c b v e).1,Boxed.later (c b v e).2 hb⟩,j,k,a0E d hb.size⟩
def Sts.make10(h:Sts n₀ w W none r11 r4 r5)(k:W.grownBy W' none)(a:W.heap.size=g)(l:ap W' n₀ (.slice g 286 286) (List.replicate 286 0)):Sts n₀ w W' (some g) r11 r4 r5:=by
 subst a;have b:∀g,r11=some g->g<W.heap.size:=fun g e=>(h.2.2.1 g e).below.2;obtain⟨c,m,h2,d,f,n,i,j⟩:=h.later (gu k);exact⟨c,fun g e=>by cases e;exact l,h2,d,f,fun g g' e e'=>by cases e;have:=b g' e';omega,i,j⟩
def Sts.make11(h:Sts n₀ w W r10 none r4 r5)(l:W.grownBy W' none)(a:W.heap.size=g)(m:ap W' n₀ (.slice g 30 30) (List.replicate 30 0)):Sts n₀ w W' r10 (some g) r4 r5:=by
 subst a;have b:∀g,r10=some g->g<W.heap.size:=fun g e=>(h.2.1 g e).below.2;obtain⟨c,d,h2,f,i,n,j,k⟩:=h.later (gu l);exact⟨c,d,fun g e=>by cases e;exact m,f,i,fun g g' e e'=>by cases e';have:=b g e;omega,j,k⟩
def Sts.box4(h:Sts n₀ w W r10 r11 none r5)(v:Value):Sts n₀ w (W.alloc (.cells #[v] 99)) r10 r11 (some (W.heap.size,v)) r5:=by
 have a:∀b v,r5=some (b,v)->b<W.heap.size:=fun b v e=>(h.2.2.2.2.1 b v e).2.lt;have j:=h.2.2.2.2.2.2.2;obtain⟨c,d,h2,k,f,g,l,i⟩:=h.later ((Below.refl _ W).alloc (a0a _) (.cells #[v] 99));exact⟨c,d,h2,fun b u e=>by cases e;exact⟨j,Boxed.new _ _ _⟩,f,g,fun b u b' u' e e'=>by cases e;have:=a b' u' e';omega,i⟩
def Sts.box5(h:Sts n₀ w W r10 r11 r4 none)(v:Value):Sts n₀ w (W.alloc (.cells #[v] 99)) r10 r11 r4 (some (W.heap.size,v)):=by
 have a:∀b v,r4=some (b,v)->b<W.heap.size:=fun b v e=>(h.2.2.2.1 b v e).2.lt;have j:=h.2.2.2.2.2.2.2;obtain⟨c,d,h2,f,k,g,l,i⟩:=h.later ((Below.refl _ W).alloc (a0a _) (.cells #[v] 99));exact⟨c,d,h2,f,fun b u e=>by cases e;exact⟨j,Boxed.new _ _ _⟩,g,fun b u b' u' e e'=>by cases e';have:=a b u e;omega,i⟩
def cP(h:Boxed W b 99 v)(a:ap W n₀ (.slice g n n) l):b≠g:=by
 intro e;exact h.not_row (by decide) a (by rw[e];rfl)
def lU(h:Boxed W b 9 v)(a:ap W n₀ (.slice g n n) l):b≠g:=by
 intro e;exact h.not_row (by decide) a (by rw[e];rfl)
def dk{B o:Nat}{t:TypeId}(h:Boxed W B t v)(a:B≠b)(u:Value):Boxed (W.setCell ⟨b,o,none⟩ u) B t v:=(Below.heap_setCell _ _ _ B a).trans h
def xA{D:Nat}{r:Option (List Deferred)}(h:W.heap[D]?=some (.deferred r))(c:ap W n₀ (.slice g n n) l):D≠g:=by
 rintro rfl;rcases c.2 with⟨e,_⟩|⟨g,cap,b,e,_,a,_⟩
 . cases e
 . simp only[a0J,a0j,a0z,a0N]at e;rw[←e.1]at a;rw[h]at a;cases a
def O8(l:List Int):bT l l.length=0<->us l=0:=by
 have d:∀k,0<=bT l k:=by
  intro k;induction k with
  | zero=>exact a2q _
  | succ k ih=>simp only[bT];split<;>omega
 constructor
 .
  intro h;rcases a12 (us l)with a|a
  . exact a
  .
   exfalso;have:∃k,k<l.length/\0<l.getD k 0:=by
    clear h d;induction l with
    | nil=>simp[us]at a
    | cons b l ih=>
     by_cases hb:0<b
     . exact⟨0,by simp,by simpa using hb⟩
     . obtain⟨k,c,d⟩:=ih (by simp only[us,a0B,a0L,a0d hb]at a;simpa[us]using a);exact⟨k+1,by simpa using c,by simpa using d⟩
   obtain⟨k,c,d⟩:=this;have:=Gc l l.length k c;omega
 .
  intro h;have:∀k,k<=l.length->bT l k=0:=by
   intro k;induction k with
   | zero=>exact fun _=>rfl
   | succ k ih=>
    intro c;have a:=Gz h k (by omega);simp only[bT];rw[ih (by omega),a0d a]
  exact this _ (a0a _)
def Sts.put4(h:Sts n₀ w W r10 r11 (some (b,v)) r5)(u:Value):Sts n₀ w (W.setCell ⟨b,0,none⟩ u) r10 r11 (some (b,u)) r5:=by
 obtain⟨i,c,h2,j,d,k,f,l⟩:=h;have hb:=j b v rfl;exact⟨ai i hb.1 u,fun g e=>(c g e).setOther (cP hb.2 (c g e)) u,fun g e=>(h2 g e).setOther (cP hb.2 (h2 g e)) u,fun b' v' e=>by cases e;exact⟨hb.1,hb.2.set u⟩,fun b' v' e=>⟨(d b' v' e).1,(d b' v' e).2.other (f b v b' v' rfl e).symm u⟩,k,fun b' v' a v'' e e'=>by cases e;exact f b v a v'' rfl e',by simpa using l⟩
def Sts.put5(h:Sts n₀ w W r10 r11 r4 (some (b,v)))(u:Value):Sts n₀ w (W.setCell ⟨b,0,none⟩ u) r10 r11 r4 (some (b,u)):=by
 obtain⟨i,a,h2,c,j,k,d,l⟩:=h;have hb:=j b v rfl;exact⟨ai i hb.1 u,fun g e=>(a g e).setOther (cP hb.2 (a g e)) u,fun g e=>(h2 g e).setOther (cP hb.2 (h2 g e)) u,fun b' v' e=>⟨(c b' v' e).1,(c b' v' e).2.other (d b' v' b v e rfl) u⟩,fun b' v' e=>by cases e;exact⟨hb.1,hb.2.set u⟩,k,fun b' v' f v'' e e'=>by cases e';exact d b' v' b v e rfl,by simpa using l⟩
def Sts.fill4(h:Sts n₀ w W (some g) r11 (some (b,v)) r5):Sts n₀ w (W.setCell ⟨b,0,none⟩ (.slice g 286 286)) (some g) r11 (some (b,.slice g 286 286)) r5:=h.put4 _
def Sts.fill5(h:Sts n₀ w W r10 (some g) r4 (some (b,v))):Sts n₀ w (W.setCell ⟨b,0,none⟩ (.slice g 30 30)) r10 (some g) r4 (some (b,.slice g 30 30)):=h.put5 _
def kM{s:ByteArray}(pre:List (TkS s)):List Int:=gr (List.replicate 286 0) ((pre.map Subtype.val).map iV)
def cY{s:ByteArray}(pre:List (TkS s)):List Int:=gr (List.replicate 30 0) ((pre.map Subtype.val).flatMap eo)
def mR(pre:List (TkS s)):(kM pre).length=286:=by unfold kM;rw[er,a0v]
def kZ(pre:List (TkS s)):(cY pre).length=30:=by unfold cY;rw[er,a0v]
def EM(pre:List (TkS s))(x:TkS s)(h:isB x.1=true):kM (pre++[x])=inc (kM pre) x.1.1.toNat:=by
 unfold kM;rw[a0H,a0H,a2k,a2k,iu];have:iV x.1=x.1.1.toNat:=by unfold iV;rw[a0c h]
 rw[this]
def EO(pre:List (TkS s))(x:TkS s)(h:isB x.1=false):kM (pre++[x])=inc (kM pre) (257+fnd 3 4 x.1.2.1.toNat 27):=by
 unfold kM;rw[a0H,a0H,a2k,a2k,iu];have:iV x.1=257+fnd 3 4 x.1.2.1.toNat 27:=by unfold iV;rw[a0d (by simp[h])]
 rw[this]
def zZ(pre:List (TkS s))(x:TkS s)(h:isB x.1=true):cY (pre++[x])=cY pre:=by
 unfold cY;rw[a0H,a2u,a2k];have:[x.1].flatMap eo=[]:=by simp[eo,h]
 rw[this,a01]
def Aa(pre:List (TkS s))(x:TkS s)(h:isB x.1=false):cY (pre++[x])=inc (cY pre) (fnd 1 2 x.1.2.2.toNat 29):=by
 unfold cY;rw[a0H,a2u,a2k];have:[x.1].flatMap eo=[fnd 1 2 x.1.2.2.toNat 29]:=by simp[eo,h]
 rw[this,iu]
def pG(n:Nat)(l:List Nat)(k:Nat):0<=(gr (List.replicate n 0) l).getD k 0/\(gr (List.replicate n 0) l).getD k 0<=(l.length:Int):=by
 rw[lc,iI];have:l.count k<=l.length:=a2Q
 split<;>omega
def yY(pre:List (TkS s))(k:Nat):0<=(kM pre).getD k 0/\(kM pre).getD k 0<=(pre.length:Int):=by
 have:=pG 286 ((pre.map Subtype.val).map iV) k;rw[a0K,a0K]at this;exact this
def tT(pre:List (TkS s))(k:Nat):0<=(cY pre).getD k 0/\(cY pre).getD k 0<=(pre.length:Int):=by
 have a:=pG 30 ((pre.map Subtype.val).flatMap eo) k;have h2:=tW (pre.map Subtype.val);rw[a0K]at h2;exact⟨a.1,by have:=a.2;unfold cY;omega⟩
def sR(s:ByteArray)(w:World)(a:s.size<=300)  :
  Calls prog 111 #[s] w fun e w'=>(∃gl gd,e = .returned (.tuple #[.slice (some ⟨gl,0,none⟩) 286 286,.slice (some ⟨gd,0,none⟩) 30 30])/\ap w' w.heap.size (.slice (some ⟨gl,0,none⟩) 286 286) (f9 (bj s.data.toList 0))/\ap w' w.heap.size (.slice (some ⟨gd,0,none⟩) 30 30) (cz (bj s.data.toList 0)))/\Below w.heap.size w w':=by
 obtain⟨i0,hi,b3,b5,b6⟩:=a0p Tryz.infoInt;have d8:(s.size:Int)<=300:=by omega
 have cy:=cC
 refine(callsIn_wide (n:=6)).1 ?_;refine callsIn_of_wp_marks func111 rfl trivial ?_ rfl;simp only[ntmps111,a2r,a0A,a0Q,Nat.reduceAdd,Nat.reduceSub,Array.replicate_succ,Array.replicate_zero,List.push_toArray,List.append_toArray,a04,a1g]
 gi_wp2
 rename_i Q' K hKr
 suffices U:∀(gl gd P O:Nat) (W:World),Sts w.heap.size w W (some gl) (some gd) (some (P,.slice gl 286 286)) (some (O,.slice gd 30 30)) ->
   K { tmps:=#[s,undef,.slice none 0 0,.slice none 0 0,.pointer P,.pointer O,undef,undef,undef,undef,.slice gl 286 286,.slice gd 30 30,undef,undef,undef,undef,undef,undef,undef,undef,undef,undef,undef,undef,undef,undef,undef,undef,undef,undef,undef,undef,undef,undef,undef,undef,undef,undef,undef,undef,undef,undef,undef,undef,undef,undef,undef,undef,undef,undef,undef,undef,undef,undef,undef,undef,undef,undef,undef],defers:=[] } W by
  clear hKr;have an:Sts w.heap.size w w.drew none none none none:=⟨(Below.refl _ _).drew,nofun,nofun,nofun,nofun,nofun,nofun,a0a _⟩;refine wpIn_region_any cy ?_;change wpAnyIn _ _ _ _ _ _ _ _ _ (World.drew _);generalize w.drew=W at an ⊢;have a:=an;clear an;repeat' first
   | exact AllReadyIn.nil
   | refine AllReadyIn.cons rfl (fun K1 b=>?_) ?_
   | (refine qe rfl _ _ 99 rfl w.heap.size 3 i0 (.int .i64 0) 1 underlying99 hi b3 b5 .i64 .i64 286 286 286 rfl rfl rfl rfl (by rw[b6];omega) (by unfold maxLen;omega) a.2.2.2.2.2.2.2 ?_;intro g W hg ho J;have a:=a.make10 J hg (dm ho);refine b _ _ ?_;clear b K1 ho J hg)
   | (refine qe rfl _ _ 99 rfl w.heap.size 3 i0 (.int .i64 0) 1 underlying99 hi b3 b5 .i64 .i64 30 30 30 rfl rfl rfl rfl (by rw[b6];omega) (by unfold maxLen;omega) a.2.2.2.2.2.2.2 ?_;intro g W hg ho J;have a:=a.make11 J hg (dm ho);refine b _ _ ?_;clear b K1 ho J hg)
   | (refine gG 4 rfl ?_;have a:=a.box4 (.slice none 0 0);go_simp;refine b _ _ ?_;clear b K1;generalize W.alloc (.cells #[.slice none 0 0] 99)=V at a ⊢;generalize W.heap.size=g at a ⊢;revert V;intro W a)
   | (refine gG 5 rfl ?_;have a:=a.box5 (.slice none 0 0);go_simp;refine b _ _ ?_;clear b K1;generalize W.alloc (.cells #[.slice none 0 0] 99)=V at a ⊢;generalize W.heap.size=g at a ⊢;revert V;intro W a)
   | (refine Kd (Op.store 99 (.tmp 4) (.tmp 10)) rfl ?_;have hc:=(a.2.2.2.1 _ _ rfl).2.cell;have hf:=(a.2.2.2.1 _ _ rfl).2.frozen;have a:=a.fill4;go_simp;refine b _ _ ?_;clear b K1 hc hf;revert a;generalize W.setCell ⟨_,0,none⟩ _=V;intro a;revert V;intro W a)
   | (refine Kd (Op.store 99 (.tmp 5) (.tmp 11)) rfl ?_;have hc:=(a.2.2.2.2.1 _ _ rfl).2.cell;have hf:=(a.2.2.2.2.1 _ _ rfl).2.frozen;have a:=a.fill5;go_simp;refine b _ _ ?_;clear b K1 hc hf;revert a;generalize W.setCell ⟨_,0,none⟩ _=V;intro a;revert V;intro W a)
   | (refine wpAnyIn_done (by decide +kernel) ?_ _;exact U _ _ _ _ _ a)
   | refine wpAnyIn_ready (rs:=[0,1,2,3]) (by decide +kernel) (by simp) ?_
   | refine wpAnyIn_ready (rs:=[1,2,3]) (by decide +kernel) (by simp) ?_
   | refine wpAnyIn_ready (rs:=[2,3]) (by decide +kernel) (by simp) ?_
   | refine wpAnyIn_ready (rs:=[3]) (by decide +kernel) (by simp) ?_
   | refine wpAnyIn_ready (rs:=[4]) (by decide +kernel) (by simp) ?_
   | refine wpAnyIn_ready (rs:=[5]) (by decide +kernel) (by simp) ?_
   | refine wpAnyIn_ready (rs:=[2]) (by decide +kernel) (by simp) ?_
   | refine wpAnyIn_ready (rs:=[1,3]) (by decide +kernel) (by simp) ?_
   | refine wpAnyIn_ready (rs:=[1,4]) (by decide +kernel) (by simp) ?_
   | refine wpAnyIn_ready (rs:=[1]) (by decide +kernel) (by simp) ?_
   | refine wpAnyIn_ready (rs:=[1,2]) (by decide +kernel) (by simp) ?_
   | refine wpAnyIn_ready (rs:=[0,2,3]) (by decide +kernel) (by simp) ?_
   | refine wpAnyIn_ready (rs:=[0,3]) (by decide +kernel) (by simp) ?_
   | refine wpAnyIn_ready (rs:=[0]) (by decide +kernel) (by simp) ?_
   | refine wpAnyIn_ready (rs:=[0,2]) (by decide +kernel) (by simp) ?_
   | refine wpAnyIn_ready (rs:=[0,1,3]) (by decide +kernel) (by simp) ?_
   | refine wpAnyIn_ready (rs:=[0,1]) (by decide +kernel) (by simp) ?_
   | refine wpAnyIn_ready (rs:=[0,1,2]) (by decide +kernel) (by simp) ?_
 intro gl gd P O W m;refine hKr _ _ ?_;clear hKr;have cu:=m.2.1 gl rfl;have cp:=m.2.2.1 gd rfl;obtain⟨c9,x40⟩:=m.2.2.2.1 P _ rfl;obtain⟨dd,x50⟩:=m.2.2.2.2.1 O _ rfl;have H:gl≠gd:=m.2.2.2.2.2.1 gl gd rfl rfl;have dl:P≠O:=m.2.2.2.2.2.2.1 P _ O _ rfl rfl;have cc:=m.1;have c5:=m.2.2.2.2.2.2.2;clear m
 gi_wp2_with (refine⟨trivial,?_⟩;gi_at_call 136;refine(callsIn_wide.2 (pO s _)).mono ?_;rintro e w'⟨rfl,rfl⟩)
 have bN:=Boxed.new W 9 (.string s);have hA:Below W.heap.size W (W.alloc (.cells #[s] 9)):=(Below.refl _ W).alloc (a0a _) _;have lb4:P<W.heap.size:=x40.lt;have lb5:O<W.heap.size:=x50.lt;refine wpIn_rangeFunc_ownG rfl (by omega) (gf:=168) (lb:=#[.pointer W.heap.size]) rfl trivial (enters_of func168 (by kernel_rfl) rfl)
  (sF 5 (by omega) W.heap.size s (by omega) _ bN) F6 (fun W l o o' _ h1 h2 _=>F5 W l o o' h1 h2) (Below.refl _ _) (fun _=>rfl)
  (fun(pre:List (TkS s)) X=>((((ap X w.heap.size (.slice gl 286 286) (kM pre)/\ap X w.heap.size (.slice gd 30 30) (cY pre))/\Boxed X P 99 (.slice gl 286 286))/\Boxed X O 99 (.slice gd 30 30))/\Below w.heap.size w X)/\Boxed X W.heap.size 9 (.string s))
  (fun _ _ _=>False)
  (OwnFrom.and (OwnFrom.and (OwnFrom.and (OwnFrom.and (OwnFrom.and (Own.from (AQ _ _ kM) _) (Own.from (AQ _ _ cY) _)) (Own.from (boxed_own _ _ _) _)) (Own.from (boxed_own _ _ _) _)) (ownFrom_below (a0a _) (by simp;omega))) (Own.from (boxed_own _ _ _) _))
  (fun _ _ _ _ _ a _ _=>a)
  ⟨⟨⟨⟨⟨cu.later hA (a0a _),cp.later hA (a0a _)⟩,Boxed.later x40 hA⟩,Boxed.later x50 hA⟩,cc.trans (hA.mono c5)⟩,bN⟩
  (fun x=>{ tmps:=#[s,undef,.slice none 0 0,.slice none 0 0,.pointer P,.pointer O,gi x.1,undef,undef,undef,.slice gl 286 286,.slice gd 30 30,s,.func (.func 168) #[] #[.pointer W.heap.size],gi x.1,undef,undef,undef,undef,undef,undef,undef,undef,undef,undef,undef,undef,undef,undef,undef,undef,undef,undef,undef,undef,undef,undef,undef,undef,undef,undef,undef,undef,undef,undef,undef,undef,undef,undef,undef,undef,undef,undef,undef,undef,undef,undef,undef,undef],defers:=[] }) ?assign ?body ?done ?stop
 case assign=>
  intro l x W K U
  gi_wp2
  exact U
 case body=>
  rintro l pre x X⟨⟨⟨⟨⟨d,hd⟩,x4⟩,x5⟩,hB⟩,B⟩ be;have ch:=x4.cell;have co:=x5.cell;have u:=mR pre;have t:=kZ pre;have m1:=oA;have m2:=qw;have m3:=oz;cases hb:isB x.1
  .
   have hk:isK x.1=true:=by have:=x.2.1;unfold okT at this;rw[hb]at this;simpa using this
   obtain⟨q1,q2,q3,q4⟩:=uo hk;have f1:x.1.2.1=((x.1.2.1.toNat:Nat):Int):=by omega
   have f2:x.1.2.2=((x.1.2.2.toNat:Nat):Int):=by omega
   have e2:gi x.1 = .iface 227 (.agg #[.int .i64 ((x.1.2.1.toNat:Nat):Int),.int .i64 ((x.1.2.2.toNat:Nat):Int)]):=by rw[←f1,←f2];exact rG hk
   have f:=EO pre x hb;have N:=Aa pre x hb;have b1:=yY pre (257+fnd 3 4 x.1.2.1.toNat 27);have b2:=tT pre (fnd 1 2 x.1.2.2.toNat 29);have b7:=af (fun W=>Cn x.1.2.1.toNat x.1.2.2.toNat W (by omega) (by omega) (by omega) (by omega));have k1:=gP 3 4 x.1.2.1.toNat 27;have k2:=gP 1 2 x.1.2.2.toNat 29;rw[e2];generalize x.1.2.1.toNat=y at *
   generalize x.1.2.2.toNat=z at *
   generalize fnd 3 4 y 27=p at *
   generalize fnd 1 2 z 29=q at *
   have I:=d.at u (show 257+p<286 by omega);generalize A:(kM pre).getD (257+p) 0=ya at *
   generalize T:(cY pre).getD q 0=za at *
   have d6:(257:Int)+(p:Int)<286:=by omega
   have d7:(q:Int)<30:=by omega
   have b0:ya<=300:=by omega
   have eb:za<=300:=by omega
   have bs:0<=ya:=by omega
   have b4:0<=za:=by omega
   have E:=cP x4 d;have r:=cP x5 d;have Y:=cP x4 hd;have aa:=cP x5 hd;have HX:Hid (∀Z,Below X.heap.size X Z->ap Z w.heap.size (.slice gl 286 286) (kM pre)/\ap Z w.heap.size (.slice gd 30 30) (cY pre)/\Boxed Z P 99 (.slice gl 286 286)/\Boxed Z O 99 (.slice gd 30 30)/\Boxed Z W.heap.size 9 (.string s)):=fun Z h=>⟨d.later h (a0a _),hd.later h (a0a _),Boxed.later x4 h,Boxed.later x5 h,Boxed.later B h⟩;have dv:=d.below.2;have ds:=hd.below.2;have Q:=af (a0b (show 257+p<286 by omega) (show q<30 by omega));have H1:=af f;have H2:=af N;have a2:=af A;have a3:=af T;have HB:=af hB;have b9:=af (a0b E (a0b r (a0b Y aa)));have ca:=hB.size;have c8:=B.lt;clear f N A T b1 b2 k1 k2 q1 q2 q3 q4 f1 f2 e2 I d hd x4 x5 B be hB
   gi_wp2_with (refine⟨trivial,?_⟩;gi_at_call 139;refine(CallsIn.inRound l (callsIn_wide.2 (b7 _))).mono ?_;rintro e X1⟨rfl,bb⟩;have C:Below X.heap.size X X1:=aj ((Below.refl _ X).alloc (a0a _) _) bb;have c6:=C.size;have hZ:Hid (∀v,Below X.heap.size X (X1.alloc (.cells v 229))):=fun v=>C.alloc c6 _;have z1:=fun v=>(HX _ (ae hZ v)).2.2.1.cell;have z2:=fun v=>(HX _ (ae hZ v)).2.2.2.1.cell;have z3:=fun v=>((HX _ (ae hZ v)).1.at (mR pre) Q.1).1;have z4:=fun v=>((HX _ (ae hZ v)).1.at (mR pre) Q.1).2.1;have z5:=fun v=>((HX _ (ae hZ v)).2.1.at (kZ pre) Q.2).1;have z6:=fun v=>((HX _ (ae hZ v)).2.1.at (kZ pre) Q.2).2.1;rw[ae a2]at z3;rw[ae a3]at z5;have n1:¬ X1.heap.size=gl:=(by omega);have n2:¬ gl=X1.heap.size:=(by omega);have n3:¬ gd=gl:=(fun e=>H e.symm);have c7:=af C;clear bb C)
   refine(fun Z (ad:Below X.heap.size X Z)=>?_:∀Z,Below X.heap.size X Z->ownPostG _ _ _ _ _ _ _ _ ((Z.setCell ⟨gl,257+p,none⟩ (.int .i64 (ya+1))).setCell ⟨gd,q,none⟩ (.int .i64 (za+1)))) _ (hZ _);obtain⟨d,hd,x4,x5,B⟩:=ae HX Z ad;obtain⟨e4,e5,e6,e7⟩:=ae b9;have e8:=lU B d;have e9:=lU B hd;have cv:ap ((Z.setCell ⟨gl,257+p,none⟩ (.int .i64 (ya+1))).setCell ⟨gd,q,none⟩ (.int .i64 (za+1))) w.heap.size (.slice gl 286 286) (kM (pre++[x])):=by
    have:=d.put (j:=257+p) (mR pre) (ya+1);rw[ae H1];unfold inc;rw[ae a2];exact this.setOther H.symm _
   have cr:ap ((Z.setCell ⟨gl,257+p,none⟩ (.int .i64 (ya+1))).setCell ⟨gd,q,none⟩ (.int .i64 (za+1))) w.heap.size (.slice gd 30 30) (cY (pre++[x])):=by
    have:=(hd.setOther (g':=gl) (o:=257+p) H (.int .i64 (ya+1))).put (j:=q) (kZ pre) (za+1);rw[ae H2];unfold inc;rw[ae a3];exact this
   exact⟨(((KeepsOthers.of_grownBy (eW ad) (fun _ _ e=>by cases e)).trans (KeepsOthers.setCell _ _ _)).trans (KeepsOthers.setCell _ _ _)).from _,fun _=>dk (dk B e8 _) e9 _,⟨⟨⟨⟨⟨cv,cr⟩,dk (dk x4 e4 _) e6 _⟩,dk (dk x5 e5 _) e7 _⟩,ai (ai (HB.trans (ad.mono ca)) d.below.1 _) hd.below.1 _⟩,dk (dk B e8 _) e9 _⟩⟩
  .
   obtain⟨q1,q2⟩:=qW hb;have f1:x.1.1=((x.1.1.toNat:Nat):Int):=by omega
   have e2:gi x.1 = .iface 225 (.int .u8 ((x.1.1.toNat:Nat):Int)):=by rw[←f1];exact ni hb
   have f:=EM pre x hb;have N:=zZ pre x hb;have b1:=yY pre x.1.1.toNat
   rw[e2];generalize x.1.1.toNat=k at *
   have I:=d.at u (show k<286 by omega);generalize A:(kM pre).getD k 0=ya at *
   have d0:(k:Int)<286:=by omega
   have b0:ya<=300:=by omega
   have bs:0<=ya:=by omega
   have R:Hid (ap (X.setCell ⟨gl,k,none⟩ (.int .i64 (ya+1))) w.heap.size (.slice gl 286 286) (kM (pre++[x]))):=by
    have:=d.put (j:=k) u (ya+1);rw[f];unfold inc;rw[A];exact this
   have G:Hid (ap (X.setCell ⟨gl,k,none⟩ (.int .i64 (ya+1))) w.heap.size (.slice gd 30 30) (cY (pre++[x]))):=by
    rw[N];exact hd.setOther H _
   have E:=cP x4 d;have r:=cP x5 d;obtain⟨c1,c2,c3,c4⟩:=I;clear f N A b1 be q1 q2 f1 e2
   gi_wp2
   exact⟨(KeepsOthers.setCell _ _ _).from _,fun _=>dk B (lU B d) _,⟨⟨⟨⟨⟨R,G⟩,dk x4 E _⟩,dk x5 r _⟩,ai hB c3 _⟩,dk B (lU B d) _⟩⟩
 case done=>
  rintro D ys X hD S⟨⟨⟨⟨⟨d,hd⟩,x4⟩,x5⟩,hB⟩,B⟩ U;have ch:=x4.cell;have co:=x5.cell;have u:=mR ys;have t:=kZ ys;have bc:=Db s a S;have b1:=yY ys 256;have b2:=tT ys 0;have hL:kM ys=gr (List.replicate 286 0) ((bj s.data.toList 0).map iV):=by unfold kM;rw[S]
  have a7:cY ys=fI (bj s.data.toList 0):=by unfold cY fI;rw[S]
  have ba:inc (kM ys) 256=f9 (bj s.data.toList 0):=by unfold f9;rw[hL]
  have I:=d.at u (show 256<286 by omega);have E:=cP x4 d;have r:=cP x5 d;have Y:=cP x5 hd;have aa:=cP x4 hd;have cg:D≠gl:=fun e=>by subst e;exact xA U d rfl
  have a6:D≠gd:=fun e=>by subst e;exact xA U hd rfl
  have a8:w.heap.size<=D:=by simp at hD;omega
  have ed:(cY ys).getD 0 0<=300:=by omega
  have L:∀i,i<(cY ys).length->0<=(cY ys).getD i 0:=fun i _=>(tT ys i).1;generalize A:(kM ys).getD 256 0=ya at *
  have b0:ya<=300:=by omega
  have bs:0<=ya:=by omega
  have R:ap (X.setCell ⟨gl,256,none⟩ (.int .i64 (ya+1))) w.heap.size (.slice gl 286 286) (f9 (bj s.data.toList 0)):=by
   have:=d.put (j:=256) u (ya+1);rw[←ba];unfold inc;rw[A];exact this
  have G:ap (X.setCell ⟨gl,256,none⟩ (.int .i64 (ya+1))) w.heap.size (.slice gd 30 30) (cY ys):=hd.setOther H _;have bk:=dk (o:=256) x5 r (.int .i64 (ya+1));have dq:=bk.cell;have a9:(X.setCell ⟨gl,256,none⟩ (.int .i64 (ya+1))).heap[D]?=some (.deferred (some [])):=(Below.heap_setCell _ _ _ D cg).trans U;have a5:Below w.heap.size w (X.setCell ⟨gl,256,none⟩ (.int .i64 (ya+1))):=ai hB d.below.1 _;obtain⟨c1,c2,c3,c4⟩:=I;have HM:=af (uX (some ⟨gd,0,none⟩) 30 30 (cY ys) (X.setCell ⟨gl,256,none⟩ (.int .i64 (ya+1))) t (G.rowN t) (by omega) (by omega) L);have ab:=af (O8 (cY ys));rw[t]at ab;have a1:=af R;have a0:=af G;have F:=af a9;have ao:=af a5;have cs:=G.at t (show 0<30 by omega);obtain⟨d1,d2,d3,d4⟩:=cs;have a4:=af a7;have b8:=af t;clear d hd x4 x5 B hB U S hL ba b1 R G a9 a5 bk a7 t L bc u c3 c4;by_cases hu:us (cY ys)=0
  .
   have al:Hid (bT (cY ys) 30=0):=ab.2 hu;rw[ae al]at HM;generalize T:(cY ys).getD 0 0=za at *
   have b4:0<=za:=b2.1
   gi_wp2_with (refine⟨trivial,?_⟩;gi_at_call 140;refine(callsIn_wide.2 HM).mono ?_;rintro e x1⟨rfl,f⟩;rw[f];clear f)
   gi_region
   gi_wp2
   refine⟨by simp,.inl ⟨_,_,rfl,run_takeDeferred ((Below.heap_setCell _ _ _ D a6).trans F),?_⟩⟩;have ac:((X.setCell ⟨gl,256,none⟩ (.int .i64 (ya+1))).setCell ⟨gd,0,none⟩ (.int .i64 (za+1))).heap[D]?=some (.deferred (some [])):=(Below.heap_setCell _ _ _ D a6).trans F;refine⟨_,results_tmp2 rfl _ _ _,⟨gl,gd,rfl,?_,?_⟩,?_⟩
   . exact ownsRow_putObj (show ap _ _ _ _ from a1.setOther H.symm _) (.deferred none) ac rfl
   .
    have e1:cz (bj s.data.toList 0)=inc (cY ys) 0:=by
     unfold cz;rw[←ae a4,a0c hu]
    rw[e1];refine ownsRow_putObj (show ap _ _ _ _ from ?_) (.deferred none) ac rfl;unfold inc;rw[T];exact a0.put (j:=0) b8 (za+1)
   . exact(ai ao d3 _).drew.trans (belowK_b (w:=w) (a0a _) (World.drew _) D _ _ a8 ac rfl rfl)
  .
   have al:Hid (¬ bT (cY ys) 30=0):=fun h=>hu (ab.1 h);have d5:(bT (cY ys) 30 == 0)=false:=by have:=ae al;simpa using this
   generalize bT (cY ys) 30=M at *
   gi_wp2_with (refine⟨trivial,?_⟩;gi_at_call 140;refine(callsIn_wide.2 HM).mono ?_;rintro e x1⟨rfl,f⟩;rw[f];clear f)
   gi_region
   gi_wp2
   refine⟨by simp,.inl ⟨_,_,rfl,run_takeDeferred F,?_⟩⟩;refine⟨_,results_tmp2 rfl _ _ _,⟨gl,gd,rfl,?_,?_⟩,?_⟩
   . exact ownsRow_putObj (ae a1) (.deferred none) (ae F) rfl
   .
    have e1:cz (bj s.data.toList 0)=cY ys:=by
     unfold cz;rw[←ae a4,a0d hu]
    rw[e1];exact ownsRow_putObj a0 (.deferred none) F rfl
   . exact(ae ao).drew.trans (belowK_b (w:=w) (a0a _) (World.drew _) D _ _ a8 F rfl rfl)
 case stop=>
  rintro D c pre W _ _ h _;exact h.elim
end Go.Proofs.YtemopnjckikkaaaGreatDoor
namespace Go.Proofs.YtemopnjckikkaaaGreatDoor
open Go.Proofs.Tryz
open Go.RowKit Corb
variable {A D l:List Int}{B c4 c6 g4 g6 gd gl n:Nat}{W w:World}{a:Option Addr}
def Qs(h:okC l):inC l=true:=by
 unfold inC;rw[a08];intro x b;obtain⟨i,a,rfl⟩:=List.mem_iff_getElem.1 b;have:=h i a;rw[show l.getD i 0=l[i] by simp[List.getD,a]]at this;exact aH.2 this
def uL{m:Nat}(a:okC l)(b:l.length<=300)(c:1<=us l)(d:us l<=p2 m)(e:m<=14):j9 l ((m:Int)+1)=dp ((m:Int)+1) l:=by
 unfold j9;rw[a0c];unfold xi;simp only[a0k,a0s];refine⟨⟨⟨b,aH.2 (by omega)⟩,Qs a⟩,aH.2 ?_⟩;rw[show((m:Int)+1).toNat=m+1 by omega,zd];omega
def OS(T:List Tk)(b:T.length<=300):j9 (f9 T) 15=dp 15 (f9 T):=by
 have a:=yX T;have h2:=Cb;exact uL (m:=14) (yW T b) (by rw[fe];omega) a.1 (by omega) (by omega)
def KN(T:List Tk)(b:T.length<=300):j9 (cz T) 15=dp 15 (cz T):=by
 have a:=tS T;have h2:=Cb;exact uL (m:=14) (tR T b) (by rw[fy];omega) a.1 (by omega) (by omega)
def Jj(A:List Int)(a:0<A.length)(c:A.length<=400)(d:∀x∈A,0<=x/\x<=15):j9 (oD A) 7=aN A:=by
 have b:=ym A a d;have h2:=QJ;exact uL (m:=6) (yl A c) (by rw[fW];omega) b.1 (by omega) (by omega)
def ap.cut{base m cap:Nat}(j:l.length=n)(h:ap w base (.slice a n cap) l)(p:m<=n)(k:0<n):ap w base (.slice a m cap) (l.take m):=by
 subst j;rcases h.2 with⟨_,e⟩|⟨g,c,b,e,hb,i,o,h2,d,f⟩
 . omega
 .
  simp only[a0J]at e;obtain⟨rfl,_,rfl⟩:=e;refine⟨by simp,.inr ⟨g,cap,b,by rw[a0w];congr 1;omega,hb,i,by rw[a0w];omega,h2,d,?_⟩⟩;rw[a0w,List.map_take,←f,a2O]
  congr 1
  omega
def pS{base base' size:Nat}{e:TypeId}{v:Value}{xs:List Value}(h:w.ownsRow base e size v n xs)(hb:base'<=base):w.ownsRow base' e size v n xs:=
 ⟨h.1,h.2.imp id fun⟨g,c,u,e,a,r⟩=>⟨g,c,u,e,a0E hb a,r⟩⟩
def ap.cap{base cap g:Nat}(h:ap w base (.slice g n cap) l):n<=cap/\cap<=maxLen:=by
 rcases h.2 with⟨e,_⟩|⟨g',a,b,e,hb,i,c,h2,d,f⟩
 . cases e
 . simp only[a0J]at e;obtain⟨_,rfl,rfl⟩:=e;exact⟨c,h2⟩
def df(L D:List Int):List (Int×Int):=[((L.length:Int)-257,5),((D.length:Int)-1,5),(15,4)]
def ff(l:List Int)(k:Nat):List (Int×Int):=(bC.take k).map fun i=>(l.getD i 0,(3:Int))
def xl(l:List Int)(k:Nat)(h:k<19):ff l (k+1)=ff l k++[(l.getD (bC.getD k 0) 0,3)]:=by
 unfold ff;have a:k<bC.length:=h;rw[a1b a,a0H];simp[List.getD,a]
def vm(l:List Int)(k:Nat)(h:k<=19):(ff l k).length=k:=by unfold ff;have:bC.length=19:=rfl;simp;omega
def FC(L D:List Int)(h:ar (aN (L++D))=true)(a:(aN (L++D)).length=19)(b:∀x∈L++D,0<=x/\x<=15):df L D++ff (aN (L++D)) 19++jm (aN (L++D)) (L++D)=di L D:=by
 unfold di df ff jm;rw[a0I]
 congr 2
 apply List.map_congr_left;intro x c;have:=b x c;exact nQ h (by rw[a];omega)
def GN{b base:Nat}{C:Array Value}(h:tt w b base l C):∃a cap,w.cell? ⟨b,0,none⟩=some (.slice a l.length cap)/\br w a l:=by
 obtain⟨⟨a,cap,ac,f,q,sc,e,c,h2,g⟩,d,_⟩:=h;refine⟨a,cap,?_,c.1⟩;have:=d 0 (.slice a l.length cap) (by rw[e];rfl);simpa using this
def qA:Array Value:=#[Value.slice none 0 0,Value.slice none 0 0,Value.int .i64 0,Value.int .i64 0,Value.int .i64 0,Value.int .i64 0,Value.int .i64 0,Value.int .i64 0,Value.int .i64 0,Value.int .i64 0,Value.int .i64 0,Value.int .i64 0,Value.int .i64 0,Value.int .i64 0,Value.int .i64 0,Value.int .i64 0,Value.int .i64 0,Value.int .i64 0,Value.slice none 0 0]
def D5(gL gD nL b nD a base:Nat)(L D:List Int)(w:World)(n:L.length=nL)(m:D.length=nD)(j:ap w base (.slice gL nL b) L)(h:ap w base (.slice gD nD a) D)(o:nL+nD<=1000) :
  Calls prog 135 #[.slice w.heap.size 2 2] (w.alloc (.cells #[.slice gL nL b,.slice gD nD a] 99)) fun e w'=>∃v,e = .returned v/\ap w' w.heap.size v (L++D)/\Below w.heap.size w w':=by
 have d:Below w.heap.size w (w.alloc (.cells #[.slice gL nL b,.slice gD nD a] 99)):=bx;have k:jq (w.alloc (.cells #[.slice gL nL b,.slice gD nD a] 99)) w.heap.size base [(.slice gL nL b,L.map (Value.int .i64)),(.slice gD nD a,D.map (Value.int .i64))]:=by
  intro i l
  match i,l with
  | 0,_=>exact⟨by simp,_,j.later d (a0a _),a1j .i64 _⟩
  | 1,_=>exact⟨by simp,_,h.later d (a0a _),a1j .i64 _⟩
 have c:aO [(Value.slice gL nL b,L.map (Value.int .i64)),(.slice gD nD a,D.map (Value.int .i64))]=(L++D).length:=by simp[aO,cJ]
 refine(qC w.heap.size base 2 2 _ _ rfl (by omega) (by omega) k (by rw[c,a0i];omega)).mono ?_;rintro e x5⟨v,rfl,g,hb⟩;refine⟨v,rfl,?_,aj d hb⟩;have f:dw [(Value.slice gL nL b,L.map (Value.int .i64)),(.slice gD nD a,D.map (Value.int .i64))]=(L++D).map (Value.int .i64):=by
  simp only[dw,a0W,a13,a0H,a01]
 rw[c,f]at g;exact ap.mono (base:=(w.alloc (.cells #[.slice gL nL b,.slice gD nD a] 99)).heap.size) g (by simp)
def yU(gL gD nL cL nD cD base:Nat)(L D:List Int)(w:World)(O:L.length=nL)(N:D.length=nD)(hL:ap w base (.slice gL nL cL) L)(hD:ap w base (.slice gD nD cD) D)
  (l0:257<=nL) (l1:nL<=286) (d0:1<=nD) (d1:nD<=30) (kL:ar L=true) (kD:ar D=true) (hO:ef w) :
  Calls prog 117 #[.slice gL nL cL,.slice gD nD cD] w fun e w'=>∃v,e = .returned v/\Pcs w' w.heap.size v (di L D)/\Below w.heap.size w w':=by
 obtain⟨i0,hi,co,cp,cr⟩:=a0p Tryz.infoInt;obtain⟨j0,hj,be,bk,bl⟩:=a0p Tryz.infoPiece;have Z:Hid (∀x∈L++D,0<=x/\x<=15):=by
  intro x hx;rcases a0X.1 hx with h|h
  . exact kf kL x h
  . exact kf kD x h
 obtain⟨nA,hnA⟩:∃nA,(L++D).length=nA:=⟨_,rfl⟩;have a9:nA=nL+nD:=by rw[←hnA,a0i,O,N]
 have r:=af (uI (L++D) (by omega) (by omega) Z);have HS:=af (Jj (L++D) (by omega) (by omega) Z);have HT:=af (FC L D r.2.1 r.1 Z);have Q:=af (D5 gL gD nL cL nD cD base L D w O N hL hD (by omega));have HB:Hid (df L D=[((nL:Int)-257,5),((nD:Int)-1,5),(15,4)]):=by show df L D=_;unfold df;rw[O,N]
 have nLI:(nL:Int)<=286:=by omega
 have nDI:(nD:Int)<=30:=by omega
 have nLI0:(257:Int)<=(nL:Int):=by omega
 have nDI0:(1:Int)<=(nD:Int):=by omega
 have nAI:(nA:Int)<=316:=by omega
 have B:Hid (1<=nA/\nA<=316):=by show _/\_;omega
 have HO:=af hO;clear hL hD kL kD l0 l1 d0 d1 O N a9 hO;generalize b6:L++D=A at *
 have f:=af hnA;clear hnA b6;go_enter func117,ntmps117;go_wp2_with fail;refine Q.mono ?_;rintro e x1⟨v1,rfl,o1,b1⟩;obtain⟨a1,c1,rfl⟩:=o1.formN f;obtain⟨g1,rfl⟩:=o1.somes (by have:=ae f;have:=ae B;omega);have O1:=af o1;have S:=af b1;clear o1 b1 Q
 go_wp2_with (at_make;refine a1t _ rfl _ _ 99 rfl w.heap.size 3 i0 (.int .i64 0) 1 underlying99 hi co cp .i64 .i64 _ _ 19 rfl rfl rfl rfl (by rw[cr];omega) (by unfold maxLen;omega) S.size ?_;intro x2 d b);have a5:=O1.below.2;obtain⟨gC,hgC⟩:∃gC,x1.heap.size=gC:=⟨_,rfl⟩;have b2:=gu b;have o2:=dm d;rw[hgC]at d o2 a5;have M:=aj S b2;have o1:=O1.later b2 (a0a _);have cg:gC≠g1:=by omega
 rw[hgC];clear d b b2 O1 S hgC a5
 go_loopw [8,20] (fun _ i wr=>∃k:Nat,k<=nA/\i = .int .i64 k/\ap wr w.heap.size (.slice g1 nA c1) A/\ap wr w.heap.size (.slice gC 19 19) (gr (List.replicate 19 0) ((A.take k).map Int.toNat))/\Below w.heap.size w wr) (fun _ i _=>nA-(intOf i).toNat)
 case atStart=>exact⟨0,a0f _,rfl,o1,o2,M⟩
 case round=>
  obtain⟨k,hk,rfl,E,n,a⟩:=hrel;clear o1 o2 M;by_cases l:k<nA
  .
   obtain⟨c0,_,_,_⟩:=E.at f l;have a6:A.getD k 0∈A:=by have:=ae f;simp[List.getD,show k<A.length by omega]
   have K:=ae Z _ a6;have J:Hid ((A.take (k+1)).map Int.toNat=(A.take k).map Int.toNat++[(A.getD k 0).toNat]):=by
    show _=_;rw[cn A k (by rw[ae f];exact l),a0H];rfl
   have V:(gr (List.replicate 19 0) ((A.take k).map Int.toNat)).length=19:=by rw[er,a0v]
   obtain⟨y,hy⟩:=a0o K.1;rw[hy]at J c0 K;rw[a0n]at J;have hb:=pG 19 ((A.take k).map Int.toNat) y;have p:((A.take k).map Int.toNat).length<=nA:=by simp;omega
   obtain⟨d0,d1,d2,d3⟩:=n.at (j:=y) V (by omega);have hP:=n.put (j:=y) V ((gr (List.replicate 19 0) ((A.take k).map Int.toNat)).getD y 0+1);have a0:Hid (∀u,ap (wr.setCell ⟨gC,y,none⟩ u) w.heap.size (.slice g1 nA c1) A/\Below w.heap.size w (wr.setCell ⟨gC,y,none⟩ u)):=fun u=>⟨E.setOther cg u,ai a d2 u⟩;have HP:Hid (ap (wr.setCell ⟨gC,y,none⟩ (.int .i64 ((gr (List.replicate 19 0) ((A.take k).map Int.toNat)).getD y 0+1))) w.heap.size (.slice gC 19 19) (gr (List.replicate 19 0) ((A.take (k+1)).map Int.toNat))):=by
    show ap _ _ _ _;rw[ae J,iu];exact hP
   generalize (gr (List.replicate 19 0) ((A.take k).map Int.toNat)).getD y 0=z at *
   have c7:(y:Int)<19:=by omega
   have c8:z<=400:=by have:=ae B;omega
   have cu:0<=z:=hb.1;have Hk:=af hk;clear hP n E a p hb K hy a6 hk V d2 d3;go_wp2;go_roundw
   case rel=>exact⟨k+1,by have:=ae Hk;omega,by go_num,(a0 _).1,HP,(a0 _).2⟩
   case measure=>simp[intOf];omega
  .
   have a8:A.take k=A:=a0t (by rw[ae f];omega);rw[a8]at n;have an:ap wr w.heap.size (.slice gC 19 19) (oD A):=n;have HL:=af (jK (some ⟨gC,0,none⟩) 19 19 (oD A) 7 wr (fW A) (an.rowN (fW A)) (by omega));rw[ae HS]at HL;have O1:=af E;have S:=af a;clear a8 n an E a;go_wp2_with fail;refine HL.mono ?_;rintro e x3⟨⟨v3,rfl,o3⟩,b3⟩;obtain⟨a3,c3,rfl⟩:=o3.formN r.1;have O1':=af (O1.later b3 (a0a _));have B3:=af (aj S b3);have ab:=af (Bl a3 c3 19 w.heap.size (aN A) x3 r.1 ((bP r.1 (o3.own r.1)).mono S.size) B3.size (by omega));clear o3 b3 HL O1 S;go_wp2_with fail;refine ab.mono ?_;rintro e x4⟨⟨C,rfl,k4⟩,b4⟩;have O1:=af (O1'.later b4 (a0a _));have B4:=af (aj B3 b4);have K4:=af k4;have T:=af k4.size;have ac:=af k4.one;clear k4 b4 ab O1' B3;have b5:Below x4.heap.size x4 ((x4.alloc (.cells qA 237)).setCells x4.heap.size 0 C.toList):=below_setCells (a0a _) _ _ _ bx;have Y:(x4.alloc (.cells qA 237)).there x4.heap.size 0 19:=iE x4 qA _ 19 rfl;have bc:=World.rangeAt_setCells_same (x4.alloc (.cells qA 237)) x4.heap.size 0 C.toList (by rw[a1Q,ae T];exact Y);have m:tt ((x4.alloc (.cells qA 237)).setCells x4.heap.size 0 C.toList) x4.heap.size w.heap.size (aN A) C:=⟨K4.later b5,bc,by rw[size_setCells];simp⟩;have U:=af Y;have s:=af b5;have aa:=af m;unfold qA at U s aa;clear b5 Y bc m K4;go_wp2_with (first
    | (refine wpList_store_mid rfl 237 (.tmp 9) (.tmp 33) rfl x4.heap.size 0 C rfl rfl (by rw[ae T];exact U) (by rw[ae T];exact Tryz.infoLenK) ac ?_;generalize ch:World.setCells _ x4.heap.size 0 C.toList=x5 at *;clear ch U)
    | (refine bm rfl 240 (.global 1) rfl 1 0 rfl I0 _ (ef.later (ef.later (ef.later HO B4) s) bx).1 underlying240 rfl Tryz.infoOrd ?_))
   have ba:Pcs (x5.alloc (.cells #[.int .i64 ((nL:Int)-256-1),.int .i64 5,.int .i64 ((nD:Int)-1),.int .i64 5,.int .i64 15,.int .i64 4] 137)) x5.heap.size (.slice x5.heap.size 3 3) (df L D++ff (aN A) 0):=by
    have e0:df L D++ff (aN A) 0=[((nL:Int)-256-1,5),((nD:Int)-1,5),(15,4)]:=by rw[ae HB];simp only[ff,a3g,a1B,a01];congr 2;omega
    rw[e0];exact a0R x5 #[.int .i64 ((nL:Int)-256-1),.int .i64 5,.int .i64 ((nD:Int)-1),.int .i64 5,.int .i64 15,.int .i64 4] 3 (a0a _) (by unfold maxLen;omega) rfl
   have al:Below x5.heap.size x5 (x5.alloc (.cells #[.int .i64 ((nL:Int)-256-1),.int .i64 5,.int .i64 ((nD:Int)-1),.int .i64 5,.int .i64 15,.int .i64 4] 137)):=bx;have O5:=af (O1.later s (a0a _));have B5:=af (aj B4 s);generalize x5.alloc (.cells #[.int .i64 ((nL:Int)-256-1),.int .i64 5,.int .i64 ((nD:Int)-1),.int .i64 5,.int .i64 15,.int .i64 4] 137)=x6 at *
   generalize x4.heap.size=b9 at *
   clear s B4 O1
   go_loopw [10,12,46] (fun o _ i wr=>∃j:Nat,j<=19/\i = .int .i64 j/\Pcs wr x5.heap.size o (df L D++ff (aN A) j)/\Below x5.heap.size x5 wr) (fun _ _ i _=>19-(intOf i).toNat)
   case atStart=>exact⟨0,by omega,rfl,ba,al⟩
   case round=>
    obtain⟨j,F,rfl,hp,a⟩:=hrel;clear ba al x6;have m:=aa.later a;have p:Hid ((df L D++ff (aN A) j).length=3+j):=by show _=_;rw[a0i,vm _ _ F];rfl
    have a2:=a.size;by_cases l:j<19
    .
     have cy:=I1 j l;have W:=zb j l;have J:Hid (df L D++ff (aN A) (j+1)=(df L D++ff (aN A) j)++[((aN A).getD (bC.getD j 0) 0,3)]):=by show _=_;rw[xl (aN A) j l,a0I]
     obtain⟨a7,cs,cc,ao⟩:=GN m;rw[r.1]at cc;obtain⟨g7,o7,rfl,cv,a4⟩:=ao (by rw[r.1];omega);have d7:=a4 (bC.getD j 0) (by rw[r.1];exact W);have K:=r.2.2 (bC.getD j 0) W;generalize (aN A).getD (bC.getD j 0) 0=y at *
     generalize bC.getD j 0=q at *
     have c6:(q:Int)<19:=by omega
     have c5:(j:Int)<19:=by omega
     have H:Hid ((df L D++ff (aN A) j).length+1<=maxLen/\((df L D++ff (aN A) j).length+1)*16<=140737488355328):=by
      show _/\_;rw[ae p];unfold maxLen;omega
     have Hj:=af l;clear m a4 W ao K F l;go_wp2_with (at_builtin;refine a0u _ rfl _ _ 134 rfl x5.heap.size 137 j0 (.agg #[.int .i64 0,.int .i64 0]) 2 16 underlying134 hj be bk bl rfl (by decide) _ _ _ rfl (a0m hp _) ⟨wr.heap.size,0,none⟩ 1 1 [.int .i64 y,.int .i64 3] rfl rfl (ts wr _ _ _) (tr _ _) H.1 H.2 (av a2 _) ?_;intro v' x2 d b I;clear I);have M:=aI (v:=u10) b hp (a0a _) a2 a;have bb:=mX d;rw[←ae J]at bb;exact⟨⟨j+1,by have:=ae Hj;omega,by go_num,bb,M⟩,by have:=ae Hj;simp[intOf];omega⟩
    .
     obtain rfl:j=19:=by omega
     have t:=af (G8 (some ⟨g1,0,none⟩) c1 nA b9 w.heap.size A (aN A) C wr f ((O5.later a (a0a _)).rowN f) (by have:=ae B;omega) m (by rw[r.1];omega) (fun i hi=>by rw[r.1];have:=ae Z (A.getD i 0) (by simp[List.getD,hi]);omega));obtain⟨ga,ca,rfl⟩:∃ga ca,u10 = .slice (some ⟨ga,0,none⟩) 22 ca:=by
      obtain⟨g,c,e⟩:=vp hp (by rw[ae p];omega);rw[ae p]at e;exact⟨g,c,e⟩
     have HP:=af hp;have P:=af a;clear hp a m l F;go_wp2_with fail;refine t.mono ?_;rintro e x7⟨v7,rfl,X,b7⟩;have G:Hid ((jm (aN A) A).length=nA):=by show _=_;unfold jm;rw[a0K];exact f
     obtain⟨ga7,ca7,rfl⟩:∃ga ca,v7 = .slice (some ⟨ga,0,none⟩) nA ca:=by
      obtain⟨g,c,e⟩:=vp X (by rw[ae G];have:=ae B;omega);rw[ae G]at e;exact⟨g,c,e⟩
     have b0:=af (X.newsN G);have ad:=af (dX HP b7);have R:x5.heap.size<=x7.heap.size:=a0E P.size b7.size;have bs:=af (aj P b7);have bd:Hid ((df L D++ff (aN A) 19).length+nA<=maxLen/\((df L D++ff (aN A) 19).length+nA)*16<=140737488355328):=by
      show _/\_;rw[ae p];have:=ae B;unfold maxLen;omega
     clear X b7 t;go_wp2_with (at_builtin;refine a0u _ rfl _ _ 134 rfl x5.heap.size 137 j0 (.agg #[.int .i64 0,.int .i64 0]) 2 16 underlying134 hj be bk bl rfl (by decide) _ _ _ rfl ad ⟨ga7,0,none⟩ nA ca7 (aX (jm (aN A) A)) rfl (by rw[lR,ae G]) b0 (iz _) bd.1 bd.2 R ?_;intro v' x8 d b I;clear I);go_ret;have b8:Below x5.heap.size x5 x8:=bs.grown b R (fun j hj=>(a0y ad j hj).1);refine⟨_,rfl,?_,aj B5 b8⟩;rw[←ae HT];have h9:Pcs x8 x5.heap.size v' ((df L D++ff (aN A) 19)++jm (aN A) A):=by
      show World.ownsRow _ _ _ _ _ _ _;rw[eH,a0i,ae G];exact d
     exact pS h9 B5.size
def jc(T:List Tk)(k:Nat):List Int:=gr (inc (List.replicate 286 0) 256) ((T.take k).map iV)
def gt(T:List Tk)(k:Nat):List Int:=gr (List.replicate 30 0) ((T.take k).flatMap eo)
def pL(T:List Tk)(k:Nat):(jc T k).length=286:=by unfold jc;rw[er,ju,a0v]
def wI(T:List Tk)(k:Nat):(gt T k).length=30:=by unfold gt;rw[er,a0v]
def oY(T:List Tk)(k:Nat)(h:k<T.length):T.take (k+1)=T.take k++[T.getD k k0]:=by
 rw[a1b h]
 congr 1
 simp[List.getD,h]
def II(T:List Tk)(k:Nat)(h:k<T.length):jc T (k+1)=inc (jc T k) (iV (T.getD k k0)):=by
 unfold jc;rw[oY T k h,a0H,a2k,iu]
def IJ(T:List Tk):jc T 0=(List.replicate 286 (0:Int)).set 256 1:=by
 unfold jc inc;rw[a3g,iI];rfl
def Oh(T:List Tk)(k:Nat)(h:k<T.length)(hb:isB (T.getD k k0)=true):gt T (k+1)=gt T k:=by
 unfold gt;rw[oY T k h,a2u];have:[T.getD k k0].flatMap eo=[]:=by simp only[a0W,a13,a01];unfold eo;rw[a0c hb]
 rw[this,a01]
def Oi(T:List Tk)(k:Nat)(h:k<T.length)(hb:isB (T.getD k k0)=false):gt T (k+1)=inc (gt T k) (fnd 1 2 (T.getD k k0).2.2.toNat 29):=by
 unfold gt;rw[oY T k h,a2u];have:[T.getD k k0].flatMap eo=[fnd 1 2 (T.getD k k0).2.2.toNat 29]:=by simp only[a0W,a13,a01];unfold eo;rw[a0d (by rw[hb];exact Bool.false_ne_true)]
 rw[this,iu]
def F9(T:List Tk)(k j:Nat)(a:k<=300):0<=(jc T k).getD j 0/\(jc T k).getD j 0<=301:=by
 unfold jc;rw[lc,lK,iI];have:((T.take k).map iV).count j<=((T.take k).map iV).length:=a2Q;rw[a0K,a0w]at this
 split<;>split<;>omega
def zY(T:List Tk)(k j:Nat)(b:k<=300):0<=(gt T k).getD j 0/\(gt T k).getD j 0<=300:=by
 have a:=pG 30 ((T.take k).flatMap eo) j;have h2:=tW (T.take k);rw[a0w]at h2;unfold gt;omega
def Ly{t:Tk}(h:isB t=true):t.2.1=0:=by unfold isB at h;simp only[a0k,a0s]at h;exact h.1
def sO(w W:World)(B gl gd g4 c4 g6 c6:Nat)(A D:List Int):Prop:=
 (ap W w.heap.size (.slice gl 286 286) A/\ap W w.heap.size (.slice gd 30 30) D)/\(ap W B (.slice g4 28 c4) kg/\ap W B (.slice g6 30 c6) jZ)/\Below w.heap.size w W/\gl≠gd/\gl<B/\gd<B
def sO.drew(h:sO w W B gl gd g4 c4 g6 c6 A D):sO w W.drew B gl gd g4 c4 g6 c6 A D:=⟨h.1,h.2.1,h.2.2.1.drew,h.2.2.2⟩
def sO.putL(h:sO w W B gl gd g4 c4 g6 c6 A D)(i:A.length=286)(j:Nat)(x:Int):sO w (W.setCell ⟨gl,j,none⟩ (.int .i64 x)) B gl gd g4 c4 g6 c6 (A.set j x) D:=by
 obtain⟨⟨a,h2⟩,⟨b,c⟩,e,d,f,g⟩:=h;have e3:=b.below.1;have e4:=c.below.1;exact⟨⟨a.put i x,h2.setOther d _⟩,⟨b.setOther (by omega) _,c.setOther (by omega) _⟩,ai e a.below.1 _,d,f,g⟩
def sO.putD(h:sO w W B gl gd g4 c4 g6 c6 A D)(i:D.length=30)(j:Nat)(x:Int):sO w (W.setCell ⟨gd,j,none⟩ (.int .i64 x)) B gl gd g4 c4 g6 c6 A (D.set j x):=by
 obtain⟨⟨d,h2⟩,⟨a,b⟩,e,c,f,g⟩:=h;have e3:=a.below.1;have e4:=b.below.1;exact⟨⟨d.setOther c.symm _,h2.put i x⟩,⟨a.setOther (by omega) _,b.setOther (by omega) _⟩,ai e h2.below.1 _,c,f,g⟩
def yS(ta:Option Addr)(tcap tn:Nat)(T:List Tk)(w:World)(aa:T.length=tn)(hT:DF w ta T)(Z:tn<=300)(V:∀t∈T,okT t=true) :
  Calls prog 183 #[.slice ta tn tcap] w fun e w'=>(∃gl gd,e = .returned (.tuple #[.slice (some ⟨gl,0,none⟩) 286 286,.slice (some ⟨gd,0,none⟩) 30 30])/\ap w' w.heap.size (.slice (some ⟨gl,0,none⟩) 286 286) (f9 T)/\ap w' w.heap.size (.slice (some ⟨gd,0,none⟩) 30 30) (cz T))/\Below w.heap.size w w':=by
 obtain⟨i0,hi,ab,ac,ad⟩:=a0p Tryz.infoInt;have u:=af aa;have HT:=af hT;have L:=af Z;have ao:=af V;have bc:(tn:Int)<=300:=by omega
 clear aa hT Z V;go_enter func183,ntmps183;go_wp2_with (first
  | (at_make;refine a1t _ rfl _ _ 99 rfl w.heap.size 3 i0 (.int .i64 0) 1 underlying99 hi ab ac .i64 .i64 _ _ 286 rfl rfl rfl rfl (by rw[ad];omega) (by unfold maxLen;omega) (a0a _) ?_;intro x1 R O;have m:=gu O;have o1:=dm R;clear O R)
  | (at_make;refine a1t _ rfl _ _ 99 rfl w.heap.size 3 i0 (.int .i64 0) 1 underlying99 hi ab ac .i64 .i64 _ _ 30 rfl rfl rfl rfl (by rw[ad];omega) (by unfold maxLen;omega) m.size ?_;intro x2 S P;have n:=gu P;have o2:=dm S;clear P S))
 have lt1:=o1.below.2;have O1:=af (o1.later n (a0a _));have O2:=af o2;have B2:=af (aj m n);have lt2:=o2.below.2;obtain⟨gl,hgl⟩:∃g,w.heap.size=g:=⟨_,rfl⟩;obtain⟨gd,hgd⟩:∃g,x1.heap.size=g:=⟨_,rfl⟩;have a1:gl≠gd:=by omega
 have v:gl<x2.heap.size:=by omega
 have x:gd<x2.heap.size:=by omega
 rw[hgd]at O2;have K:Hid (ap x2 w.heap.size (.slice gl 286 286) (List.replicate 286 0)):=by show ap _ _ _ _;have:=ae O1;rw[hgl]at this ⊢;exact this
 rw[hgd];have eg:Value.slice w.heap.size 286 286 = .slice gl 286 286:=by rw[hgl]
 rw[eg];clear o1 o2 m n lt1 lt2 O1 eg hgl hgd;refine(oL _).mono ?_;rintro e x3⟨⟨g3,rfl,o3⟩,b3⟩;have R3:=af (o3.rowN rfl);have B3:=af b3;clear o3 b3;go_wp2_with fail;refine(jN _ 28 _ R3).mono ?_;rintro e x4⟨v4,rfl,o4,b4⟩;obtain⟨a4,c4,rfl⟩:=o4.formN fD;obtain⟨g4,rfl⟩:=o4.somes (by rw[fD];omega);have O4:=af (o4.mono B3.size);have B4:=af (aj B3 b4);clear o4 b4 B3 R3;go_wp2_with fail;refine(oB _).mono ?_;rintro e x5⟨⟨g5,rfl,o5⟩,b5⟩;have R5:=af (o5.rowN rfl);have B5:=af (aj B4 b5);have O4':=af (O4.later b5 (a0a _));clear o5 b5 O4;go_wp2_with fail;refine(jM _ 30 _ R5).mono ?_;rintro e x6⟨v6,rfl,o6,b6⟩;obtain⟨a6,c6,rfl⟩:=o6.formN fu;obtain⟨g6,rfl⟩:=o6.somes (by rw[fu];omega);have X:=B5.size;have O4:ap x6 x2.heap.size (.slice g4 28 c4) kg:=O4'.later b6 (a0a _);have O6:ap x6 x2.heap.size (.slice g6 30 c6) jZ:=o6.mono X;have B6:=aj B5 b6;have E:sO w x6 x2.heap.size gl gd g4 c4 g6 c6 (List.replicate 286 0) (List.replicate 30 0):=⟨⟨K.later B6 (a0a _),O2.later B6 (a0a _)⟩,⟨O4,O6⟩,aj B2 B6,a1,v,x⟩;have F:=E.putL (a0v ..) 256 1;have e1:(List.replicate 286 (0:Int)).set 256 1=jc T 0:=(IJ T).symm;rw[e1]at F;have M:sO w (x6.setCell ⟨gl,256,none⟩ (.int .i64 1)) x2.heap.size gl gd g4 c4 g6 c6 (jc T 0) (gt T 0):=F;obtain⟨f1,f2,_,_⟩:=E.1.1.at (j:=256) (a0v ..) (by omega);clear E F e1 O4 O6 B6 b6 o6 K O2 B2 B4 O4' X R5 B5 v x;generalize x2.heap.size=B at *
 go_wp2_with fail
 go_loopw [8,9] (fun i _ wr=>∃k:Nat,k<=tn/\i = .int .i64 k/\sO w wr B gl gd g4 c4 g6 c6 (jc T k) (gt T k)) (fun i _ _=>tn-(intOf i).toNat)
 case atStart=>exact⟨0,a0f _,rfl,M⟩
 case round=>
  obtain⟨k,hk,rfl,l⟩:=hrel;clear M f1 f2;by_cases H:k<tn
  .
   obtain⟨g,o,rfl,hg,N⟩:=HT (by rw[ae u];omega);obtain⟨c0,c1,c2⟩:=N k (by rw[ae u];exact H);have d0:=(l.2.2.1.cell (p:=⟨g,o+k*3,none⟩) hg).trans c0;have d1:=(l.2.2.1.cell (p:=⟨g,o+k*3+1,none⟩) hg).trans c1;have d2:=(l.2.2.1.cell (p:=⟨g,o+k*3+2,none⟩) hg).trans c2;have a0:g≠gl:=by have:=l.1.1.below.1;omega
   clear c0 c1 c2;have c:k<T.length:=by rw[ae u];exact H
   have Y:=ae ao (T.getD k k0) (by simp[List.getD,c]);have f:=af (II T k c);have a:k<=300:=by have:=ae L;omega
   have Hk:=af H;clear N;cases hb:isB (T.getD k k0)
   .
    have hK:isK (T.getD k k0)=true:=by unfold okT at Y;rw[hb]at Y;simpa using Y
    obtain⟨q1,q2,q3,q4⟩:=uo hK;have r:=af (Oi T k c hb);have e2:iV (T.getD k k0)=257+fnd 3 4 (T.getD k k0).2.1.toNat 27:=by unfold iV;rw[a0d (by rw[hb];exact Bool.false_ne_true)]
    rw[e2]at f;obtain⟨y,hy⟩:=a0o (show 0<=(T.getD k k0).2.1 by omega);obtain⟨z,A⟩:=a0o (show 0<=(T.getD k k0).2.2 by omega);rw[hy]at d1 q1 q2 f;rw[A]at d2 q3 q4 r;rw[a0n]at f r;have C:=af (fun W (h:br W (some ⟨g4,0,none⟩) kg)=>nJ (some ⟨g4,0,none⟩) c4 28 kg (y:Int) W fD h (by omega) (by omega));have D:=af (fun W (h:br W (some ⟨g6,0,none⟩) jZ)=>nJ (some ⟨g6,0,none⟩) c6 30 jZ (z:Int) W fu h (by omega) (by omega));rw[Bz y (by omega) (by omega)]at C;rw[zF z (by omega) (by omega)]at D;have k1:=gP 3 4 y 27;have k2:=gP 1 2 z 29;clear hb hK c e2 hy A Y;generalize fnd 3 4 y 27=p at *
    generalize fnd 1 2 z 29=q at *
    have m:=F9 T k (257+p) a;have n:=zY T k q a;obtain⟨m1,m2,_,_⟩:=l.1.1.at (j:=257+p) (pL T k) (by omega);have d:=l.putL (pL T k) (257+p) ((jc T k).getD (257+p) 0+1);have el:(jc T k).set (257+p) ((jc T k).getD (257+p) 0+1)=jc T (k+1):=f.symm;rw[el]at d;generalize (jc T k).getD (257+p) 0=ya at *
    obtain⟨m3,m4,_,_⟩:=d.1.2.at (j:=q) (wI T k) (by omega);have G:=d.putD (wI T k) q ((gt T k).getD q 0+1);have ed:(gt T k).set q ((gt T k).getD q 0+1)=gt T (k+1):=r.symm;rw[ed]at G;generalize (gt T k).getD q 0=za at *
    have R1:=af (ae C wr (l.2.1.1.rowN fD));have R2:=af (ae D _ (d.2.1.2.rowN fu));have a9:(wr.setCell ⟨gl,257+p,none⟩ (.int .i64 (ya+1))).cell? ⟨g,o+k*3+2,none⟩=some (.int .i64 (z:Int)):=by
     rw[World.cell?_setCell_other _ _ _ _ (by intro e;simp only[a0z]at e;exact a0 e.1.symm)];exact d2
    have an:=af G;have ba:(257:Int)+(p:Int)<286:=by omega
    have bb:(q:Int)<30:=by omega
    have a5:ya<=301:=m.2;have be:za<=300:=n.2;have a3:0<=ya:=m.1;have a8:0<=za:=n.1;have y0':¬ (y:Int)=0:=by omega
    clear l d G el ed m n k1 k2 q1 q2 q3 q4 C D a;go_wp2_with fail;refine R1.mono ?_;rintro e x7⟨rfl,b⟩;rw[b];clear b x7;go_wp2_with fail;refine R2.mono ?_;rintro e x7⟨rfl,b⟩;rw[b];clear b x7;go_wp2;go_roundw
    case rel=>exact⟨k+1,by have:=ae Hk;omega,by go_num,an⟩
    case measure=>have:=ae Hk;simp[intOf];omega
   .
    obtain⟨q1,q2⟩:=qW hb;have A:=Ly hb;have r:=af (Oh T k c hb);have e2:iV (T.getD k k0)=(T.getD k k0).1.toNat:=by unfold iV;rw[a0c hb]
    rw[e2]at f;obtain⟨y,hy⟩:=a0o q1;rw[hy]at d0 q2 f;rw[A]at d1;rw[a0n]at f;clear hb c e2 hy A Y d2 q1;have m:=F9 T k y a;obtain⟨m1,m2,_,_⟩:=l.1.1.at (j:=y) (pL T k) (by omega);have d:=l.drew.putL (pL T k) y ((jc T k).getD y 0+1);have el:(jc T k).set y ((jc T k).getD y 0+1)=jc T (k+1):=f.symm;rw[el,←ae r]at d;generalize (jc T k).getD y 0=ya at *
    have al:=af d;have a5:ya<=301:=m.2;have a3:0<=ya:=m.1;have bd:(y:Int)<286:=by omega
    clear l d el m a q2;go_wp2
    go_region
    go_wp2;go_roundw
    case rel=>exact⟨k+1,by have:=ae Hk;omega,by go_num,al⟩
    case measure=>have:=ae Hk;simp[intOf];omega
  .
   have c:T.take k=T:=a0t (by rw[ae u];omega);have Q:k<=300:=by have:=ae L;omega
   have eL:jc T k=f9 T:=by unfold jc;rw[c];exact EL T
   have eD:gt T k=fI T:=by unfold gt fI;rw[c]
   have n:=zY T k 0 Q;rw[eL,eD]at l;rw[eD]at n;have HU:=af (uC (some ⟨gd,0,none⟩) 30 30 (fI T) wr (fx T) (l.1.2.rowN (fx T)) (by omega));obtain⟨m1,m2,_,_⟩:=l.1.2.at (j:=0) (fx T) (by omega);have I:=af l;clear l c Q eL eD;by_cases J:us (fI T)=0
   .
    have A:(fI T).getD 0 0=0:=by have:=Gz J 0 (by rw[fx];omega);omega
    have s:=af (I.putD (fx T) 0 1);have e1:(fI T).set 0 1=cz T:=by unfold cz;rw[a0c J];unfold inc;rw[A];rfl
    rw[e1]at s;rw[J]at HU;clear e1 A n I J;go_wp2_with fail;refine HU.mono ?_;rintro e x7⟨rfl,b⟩;rw[b];clear b x7;go_wp2
    go_ret2
    exact⟨⟨gl,gd,rfl,s.1.1,s.1.2⟩,s.2.2.1⟩
   .
    have e1:fI T=cz T:=by unfold cz;rw[a0d J]
    have a2:((us (fI T):Nat):Int)≠0:=by omega
    have a7:(((us (fI T):Nat):Int) == 0)=false:=by simpa using a2
    rw[e1]at I;clear e1 n J;generalize us (fI T)=U at *
    go_wp2_with fail;refine HU.mono ?_;rintro e x7⟨rfl,b⟩;rw[b];clear b x7;go_wp2
    go_ret2
    exact⟨⟨gl,gd,rfl,I.1.1,I.1.2⟩,I.2.2.1⟩
def wV{g o:Nat}(c:∀i,i<l.length->w.cell? ⟨g,o+i,none⟩=some (.int .i64 (l.getD i 0))):∀j u,(l.map (Value.int .i64))[j]?=some u->w.cell? ((⟨g,o,none⟩:Addr).add j)=some u:=by
 intro j u d;have b:j<l.length:=by have:=(List.getElem?_eq_some_iff.1 d).1;simpa using this
 have a:(⟨g,o,none⟩:Addr).add j=⟨g,o+j,none⟩:=by unfold Addr.add;split<;>simp_all
 rw[a,c j b,←d];simp[List.getD,b]
def lh(l:List Int)(t:List Int):List (Int×Int):=t.map fun x=>pcM l x.toNat
def EJ(l t:List Int)(k:Nat)(h:k<t.length):lh l (t.take (k+1))=lh l (t.take k)++[pcM l (t.getD k 0).toNat]:=by
 unfold lh;rw[cn t k h,a0H];rfl
def Rr(L D:List Int):df L D++(ff (aN (L++D)) 19++lh (aN (L++D)) (L++D))=di L D:=rfl
def LR(W:World)(b:Nat)(A l:List Int)(gA g7 gc:Option Addr):Prop:=i7 W b gA A/\i7 W b g7 l/\i7 W b gc (aV l 15).2
def LR.keep{W':World}{b:Nat}{gA g7 gc:Option Addr}(h:LR W b A l gA g7 gc)(a:cb b W W'):LR W' b A l gA g7 gc:=⟨h.1.keep a,h.2.1.keep a,h.2.2.keep a⟩
def IC(b:Nat)(p:Nat×Nat)(a aD:Option Addr)(cL nL cD nD:Nat)(L D:List Int)(w:World)(ho:jX w b p)(hL:br w a L)(hD:br w aD D)(ao:L.length=nL)(an:D.length=nD)
  (l0:257<=nL) (l1:nL<=286) (d0:1<=nD) (d1:nD<=30) (kL:ar L=true) (kD:ar D=true) (hp:p.2<=1000) :
  Calls prog 186 #[.pointer b,.slice a nL cL,.slice aD nD cD] w fun e w'=>e = .returned (.tuple #[])/\jX w' b (bf p (di L D))/\KB b w w':=by
 obtain⟨i0,hi,bc,bd,be⟩:=a0p Tryz.infoInt;have ab:b<w.heap.size:=Out.lt ho;have HA:Hid (∀x∈L++D,0<=x/\x<=15):=by
  intro x F;rcases a0X.1 F with h|h
  . exact kf kL x h
  . exact kf kD x h
 obtain⟨nA,hnA⟩:∃nA,(L++D).length=nA:=⟨_,rfl⟩;have d2:nA=nL+nD:=by rw[←hnA,a0i,ao,an]
 have K:=af (uI (L++D) (by omega) (by omega) HA);have HQ:=af (Rr L D);have HU:=af (ym (L++D) (by omega) HA);have d4:=af (yl (L++D) (by omega));have HB:Hid (df L D=[((nL:Int)-257,5),((nD:Int)-1,5),(15,4)]):=by show df L D=_;unfold df;rw[ao,an]
 have bl:Hid (pOk ((nL:Int)-257) 5=true/\pOk ((nD:Int)-1) 5=true):=by
  have:p2 (5:Int).toNat=32:=by decide
  exact⟨aS.2 ⟨by omega,by omega,by rw[this];omega⟩,aS.2 ⟨by omega,by omega,by rw[this];omega⟩⟩
 obtain⟨g,o,rfl,hg,cy⟩:=hL (by omega);obtain⟨g',o',rfl,c5,a1⟩:=hD (by omega);have O:Below w.heap.size w (w.alloc (.cells #[] 3)):=bx;have a8:World.ownsRow (w.alloc (.cells #[] 3)) w.heap.size 3 1 (.slice w.heap.size 0 0) 0 []:=a0R w #[] 0 (a0a _) (by unfold maxLen;omega) rfl;have T:=af (wV (w:=w.alloc (.cells #[] 3)) (g:=g) (o:=o) (l:=L) (fun i hi=>by rw[O.cell (p:=⟨g,o+i,none⟩) hg];exact cy i hi));have E:Hid (∀W,Below w.heap.size w W->∀j u,(D.map (Value.int .i64))[j]?=some u->W.cell? ((⟨g',o',none⟩:Addr).add j)=some u):=fun W hW=>wV (fun i hi=>by rw[hW.cell (p:=⟨g',o'+i,none⟩) c5];exact a1 i hi);have ds:Hid ((L.map (Value.int .i64)).length=nL*1):=by show _=_;simp[ao]
 have dq:Hid ((D.map (Value.int .i64)).length=nD*1):=by show _=_;simp[an]
 have R:Hid ((0+nL<=maxLen/\(0+nL)*8<=140737488355328)/\(0+nL+nD<=maxLen/\(0+nL+nD)*8<=140737488355328)):=by show(_/\_)/\_/\_;unfold maxLen;omega
 have nLI:(nL:Int)<=286:=by omega
 have nDI:(nD:Int)<=30:=by omega
 have nLI0:(257:Int)<=(nL:Int):=by omega
 have nDI0:(1:Int)<=(nD:Int):=by omega
 have nAI:(nA:Int)<=316:=by omega
 have aa:Hid (1<=nA/\nA<=316/\nA=nL+nD):=by show _/\_;omega
 have HO:=af ho;have Hp:=af hp;clear hL hD kL kD l0 l1 d0 d1 ao an d2 ho hp cy a1 hg c5;generalize cc:L++D=A at *
 have bk:Hid (L.map (Value.int .i64)++D.map (Value.int .i64)=A.map (Value.int .i64)):=by show _=_;rw[←cc,a0H]
 have m:=af hnA;clear hnA cc;go_enter func186,ntmps186;go_wp2_with (first
  | (at_builtin;refine a0u _ rfl _ _ 99 rfl w.heap.size 3 i0 (.int .i64 0) 1 8 underlying99 hi bc bd be rfl (by decide) _ _ _ rfl a8 ⟨g,o,none⟩ nL cL (L.map (Value.int .i64)) rfl ds T (a1j .i64 _) R.1.1 R.1.2 O.size ?_;intro v1 x1 s t U;clear U;have Q:Below w.heap.size w x1:=O.grown t O.size (fun j hj=>(a0y a8 j hj).1))
  | (at_builtin;refine a0u _ rfl _ _ 99 rfl w.heap.size 3 i0 (.int .i64 0) 1 8 underlying99 hi bc bd be rfl (by decide) _ _ _ rfl s ⟨g',o',none⟩ nD cD (D.map (Value.int .i64)) rfl dq (E _ Q) (a1j .i64 _) R.2.1 R.2.2 Q.size ?_;intro v2 x2 X B U;clear U;have a6:Below w.heap.size w x2:=Q.grown B Q.size (fun j hj=>(a0y s j hj).1))
  | (at_make;refine a1t _ rfl _ _ 99 rfl w.heap.size 3 i0 (.int .i64 0) 1 underlying99 hi bc bd .i64 .i64 _ _ 19 rfl rfl rfl rfl (by rw[be];omega) (by unfold maxLen;omega) a6.size ?_;intro x3 Y C))
 have N:ap x2 w.heap.size v2 A:=by
  show World.ownsRow _ _ _ _ _ A.length _;rw[ae m,aa.2.2,←ae bk];simpa using X
 obtain⟨aA,cA,rfl⟩:=N.formN m;obtain⟨gA,rfl⟩:=N.somes (by have:=ae m;have:=ae aa;omega);have c6:=N.below.2;obtain⟨gC,hgC⟩:∃gC,x2.heap.size=gC:=⟨_,rfl⟩;have b3:=gu C;have o2:=dm Y;rw[hgC]at o2 c6;have cv:=aj a6 b3;have o1:=N.later b3 (a0a _);have eb:gC≠gA:=by omega
 rw[hgC];clear s X Y t B C b3 hgC c6 O Q a6 a8 T E ds dq R bk N
 go_loopw [8] (fun i wr=>∃k:Nat,k<=nA/\i = .int .i64 k/\ap wr w.heap.size (.slice gA nA cA) A/\ap wr w.heap.size (.slice gC 19 19) (gr (List.replicate 19 0) ((A.take k).map Int.toNat))/\Below w.heap.size w wr) (fun i _=>nA-(intOf i).toNat)
 case atStart=>exact⟨0,a0f _,rfl,o1,o2,cv⟩
 case round=>
  obtain⟨k,hk,rfl,M,H,r⟩:=hrel;clear o1 o2 cv;by_cases c:k<nA
  .
   obtain⟨c0,_,_,_⟩:=M.at m c;have c7:A.getD k 0∈A:=by have:=ae m;simp[List.getD,show k<A.length by omega]
   have n:=ae HA _ c7;have f:Hid ((A.take (k+1)).map Int.toNat=(A.take k).map Int.toNat++[(A.getD k 0).toNat]):=by
    show _=_;rw[cn A k (by rw[ae m];exact c),a0H];rfl
   have ba:(gr (List.replicate 19 0) ((A.take k).map Int.toNat)).length=19:=by rw[er,a0v]
   obtain⟨y,hy⟩:=a0o n.1;rw[hy]at f c0 n;rw[a0n]at f;have hb:=pG 19 ((A.take k).map Int.toNat) y;have d7:((A.take k).map Int.toNat).length<=nA:=by simp;omega
   obtain⟨e0,e1,e2,e3⟩:=H.at (j:=y) ba (by omega);have hP:=ap.put (w:=wr.drew) (j:=y) ba H ((gr (List.replicate 19 0) ((A.take k).map Int.toNat)).getD y 0+1);have cs:Hid (∀u,ap (wr.drew.setCell ⟨gC,y,none⟩ u) w.heap.size (.slice gA nA cA) A/\Below w.heap.size w (wr.drew.setCell ⟨gC,y,none⟩ u)):=fun u=>⟨ap.setOther (w:=wr.drew) M eb u,ai r.drew e2 u⟩;have HP:Hid (ap (wr.drew.setCell ⟨gC,y,none⟩ (.int .i64 ((gr (List.replicate 19 0) ((A.take k).map Int.toNat)).getD y 0+1))) w.heap.size (.slice gC 19 19) (gr (List.replicate 19 0) ((A.take (k+1)).map Int.toNat))):=by
    show ap _ _ _ _;rw[ae f,iu];exact hP
   generalize (gr (List.replicate 19 0) ((A.take k).map Int.toNat)).getD y 0=z at *
   have ei:(y:Int)<19:=by omega
   have ej:z<=400:=by have:=ae aa;omega
   have eg:0<=z:=hb.1;have Hk:=af hk;clear hP H M r d7 hb n hy c7 hk ba e2 e3;go_wp2
   go_region
   go_wp2;go_roundw
   case rel=>exact⟨k+1,by have:=ae Hk;omega,by go_num,(cs _).1,HP,(cs _).2⟩
   case measure=>simp[intOf];omega
  .
   have dl:A.take k=A:=a0t (by rw[ae m];omega);rw[dl]at H;have cg:ap wr w.heap.size (.slice gC 19 19) (oD A):=H;have HL:Hid (Calls prog 185 #[.slice gC 19 19,.int .i64 7] wr fun e w'=>(∃v,e = .returned v/\ap w' wr.heap.size v (aN A))/\Below wr.heap.size wr w'):=wY (some ⟨gC,0,none⟩) 19 19 6 (oD A) wr (fW A) (cg.rowN (fW A)) (by omega) (by omega) d4 (by rw[fm];have h2:=QJ;have:=HU.2;omega) (by omega);have ed:=r.size;have O1:=af M;have B1:=af r;clear dl H cg M r;go_wp2_with fail;refine HL.mono ?_;rintro e x3⟨⟨v3,rfl,o3⟩,b3⟩;obtain⟨a3,c3,rfl⟩:=o3.formN K.1;obtain⟨g3,rfl⟩:=o3.somes (by rw[K.1];omega);have O1':=af (O1.later b3 (a0a _));have B3:=af (aj B1 b3);have O3:=af (o3.mono ed);clear o3 b3 HL O1 B1;go_wp2_with fail;refine(rf (some ⟨g3,0,none⟩) c3 19 (aN A) x3 K.1 (O3.rowN K.1) (by omega)).mono ?_;rintro e x4⟨⟨g4,rfl,o4⟩,b4⟩;have hR:LR x4 b A (aN A) (some ⟨gA,0,none⟩) (some ⟨g3,0,none⟩) (some ⟨g4,0,none⟩):=⟨fB m (O1'.later b4 (a0a _)) ab,fB K.1 (O3.later b4 (a0a _)) ab,fB ((bz _ 15).trans K.1) (o4.mono B3.size) ab⟩;have a7:=aj B3 b4;have cp:jX x4 b p:=Out.kept HO a7;have ch:KB b w x4:=(KB.refl b w).below a7 (a0r ab);have HR:=af hR;have b2:=af cp;have bs:=af ch;clear hR o4 b4 a7 cp ch O1' O3 B3;go_wp2_with fail;refine(fi b p ((nL:Int)-257) 5 x4 b2 bl.1 (by have:=ae Hp;omega)).mono ?_;rintro e x5⟨rfl,o5,k5⟩;have b5:=af o5;have b7:=af (HR.keep k5.2);have b0:=af (bs.trans k5);have q5:=dU p [((nL:Int)-257,5)] (by intro x F;simp at F;subst F;simp);clear o5 k5 b2 HR bs;go_wp2_with fail;refine(fi b _ ((nD:Int)-1) 5 x5 b5 bl.2 (by have:=ae Hp;simp only[a0A,a0Q]at q5;omega)).mono ?_;rintro e x6⟨rfl,o6,k6⟩;rw[←bo]at o6;have b6:=af o6;have b9:=af (b7.keep k6.2);have b1:=af (b0.trans k6);have q6:=dU p ([((nL:Int)-257,5)]++[((nD:Int)-1,5)]) (by intro x F;simp at F;rcases F with rfl|rfl<;>simp);clear o6 k6 b5 b7 b0;go_wp2_with fail;refine(fi b _ 15 4 x6 b6 (by decide) (by have:=ae Hp;simp only[a0A,a0Q,a0i]at q6;omega)).mono ?_;rintro e x7⟨rfl,o7,k7⟩;rw[←bo]at o7;have o7':jX x7 b (bf p (df L D++ff (aN A) 0)):=by rw[ae HB];exact o7
   have cu:=b9.keep k7.2;have co:=b1.trans k7;clear o7 k7 b6 b9 b1 q5 q6;go_wp2_with fail;have d5:=af (dR K.2.1);have ca:Hid (∀l:List (Int×Int),(∀x∈l,x.2<=16)->l.length<=400->(bf p (df L D++l)).2<=100000):=by
    intro l h1 h2;have h3:=dU p (df L D++l) (by
     intro x F;rcases a0X.1 F with h|h
     . rw[ae HB]at h;simp at h;rcases h with rfl|rfl|rfl<;>simp
     . exact h1 x h)
    rw[a0i]at h3;have h4:(df L D).length=3:=rfl;have:=ae Hp;omega
   go_loopw [11] (fun i wr=>∃j:Nat,j<=19/\i = .int .i64 j/\jX wr b (bf p (df L D++ff (aN A) j))/\LR wr b A (aN A) (some ⟨gA,0,none⟩) (some ⟨g3,0,none⟩) (some ⟨g4,0,none⟩)/\KB b w wr) (fun i _=>19-(intOf i).toNat)
   case atStart=>exact⟨0,by omega,rfl,o7',cu,co⟩
   case round=>
    obtain⟨j,S,rfl,I,a0,al⟩:=hrel;clear o7' cu co;by_cases c:j<19
    .
     have f:Hid (bf p (df L D++ff (aN A) (j+1))=bf (bf p (df L D++ff (aN A) j)) [((aN A).getD (bC.getD j 0) 0,3)]):=by show _=_;rw[xl (aN A) j c,←a0I,bo]
     have bb:=zb j c;have d:=ae ca (ff (aN A) j) (by intro x F;unfold ff at F;obtain⟨i,_,rfl⟩:=a2t.1 F;simp) (by rw[vm _ _ S];omega);have n:=K.2.2 (bC.getD j 0) bb;have d3:=BO j c;have dv:=Out.lt I;have HJ:=af (a0b c (a0b I (a0b a0 al)));have d6:(j:Int)<19:=by omega
     clear I a0 al S;generalize bf p (df L D++ff (aN A) j)=P at *
     go_wp2_with fail;refine(Ba wr).mono ?_;rintro e x8⟨⟨g8,rfl,o8⟩,b8⟩;obtain⟨d8,_,_,_⟩:=o8.at (j:=j) BP c;rw[d3]at d8;have Z:=HJ.2.2.1.keep (bR b8);have a5:jX x8 b P:=Out.kept HJ.2.1 b8;have a2:=HJ.2.2.2.below b8 (a0r dv);obtain⟨g,o,e,_,dd⟩:=jB Z.2.1 (k:=bC.getD j 0) (by rw[K.1];exact bb);cases e
     rw[a0F]at dd;have cr:pOk ((aN A).getD (bC.getD j 0) 0) 3=true:=by
      have:p2 (3:Int).toNat=8:=by decide
      exact aS.2 ⟨by omega,n.1,by rw[this];omega⟩
     generalize (aN A).getD (bC.getD j 0) 0=y at *
     generalize bC.getD j 0=q at *
     have eh:(q:Int)<19:=by omega
     have HX:=af (a0b Z a2);have G:=af (fi b P y 3 x8 a5 cr d);have Hj:=af (ae HJ).1;clear o8 b8 Z a5 a2 HJ bb n d3 d cr c;go_wp2_with fail;refine G.mono ?_;rintro e x9⟨rfl,o9,k9⟩;rw[←ae f]at o9;have HY:=af (a0b o9 (a0b (HX.1.keep k9.2) (HX.2.trans k9)));clear o9 k9 HX G d8 dd f;go_wp2;go_roundw
     case rel=>exact⟨j+1,by have:=ae Hj;omega,by go_num,HY.1,HY.2.1,HY.2.2⟩
     case measure=>have:=ae Hj;simp[intOf];omega
    .
     have c8:j=19:=by omega
     have d6:¬ (j:Int)<19:=by omega
     rw[c8]at I;have a4:jX wr b (bf p (df L D++(ff (aN A) 19++lh (aN A) (A.take 0)))):=by
      have e0:ff (aN A) 19++lh (aN A) (A.take 0)=ff (aN A) 19:=by unfold lh;rw[a3g,a1B,a01]
      rw[e0];exact I
     clear I c S c8;go_wp2_with fail
     go_loopw [12] (fun i wr=>∃j:Nat,j<=nA/\i = .int .i64 j/\jX wr b (bf p (df L D++(ff (aN A) 19++lh (aN A) (A.take j))))/\LR wr b A (aN A) (some ⟨gA,0,none⟩) (some ⟨g3,0,none⟩) (some ⟨g4,0,none⟩)/\KB b w wr) (fun i _=>nA-(intOf i).toNat)
     case atStart=>exact⟨0,by omega,rfl,a4,a0,al⟩
     case round=>
      obtain⟨j,hj,rfl,V,J,ad⟩:=hrel;clear a4 a0 al;by_cases c:j<nA
      .
       have ac:j<A.length:=by rw[ae m];exact c
       have f:Hid (bf p (df L D++(ff (aN A) 19++lh (aN A) (A.take (j+1))))=bf (bf p (df L D++(ff (aN A) 19++lh (aN A) (A.take j)))) [pcM (aN A) (A.getD j 0).toNat]):=by show _=_;rw[EJ (aN A) A j ac,←bo,a0I,a0I]
       have d:=ae ca (ff (aN A) 19++lh (aN A) (A.take j)) (by
        intro x F;rcases a0X.1 F with h|h
        . unfold ff at h;obtain⟨i,_,rfl⟩:=a2t.1 h;simp
        . unfold lh at h;obtain⟨y,hy,rfl⟩:=a2t.1 h;have h1:=ae HA y (a10 hy);have h2:=K.2.2 y.toNat (by omega);show(aN A).getD y.toNat 0<=16;omega) (by rw[a0i,vm _ _ (a0a _)];unfold lh;rw[a0K,a0w];have:=ae aa;omega)
       have n:=ae HA (A.getD j 0) (by simp[List.getD,ac]);obtain⟨g,o,e,_,dd⟩:=jB J.1 (k:=j) ac;cases e
       rw[a0F]at dd;obtain⟨q,hq⟩:=a0o n.1;rw[hq]at dd n f;rw[a0n]at f;have a9:=ae d5 q (by rw[K.1];omega);have G:=af (qg b _ (some ⟨g3,0,none⟩) (some ⟨g4,0,none⟩) c3 19 19 q (aN A) wr V K.1 J.2.1.1 J.2.2.1 (by omega) (by omega) a9.1 a9.2 d);rw[←ae f]at G;have HX:=af (a0b J ad);have Hj:=af c;clear V J ad hj c ac f d n hq a9;go_wp2_with fail;refine G.mono ?_;rintro e x9⟨rfl,o9,k9⟩;have HY:=af (a0b o9 (a0b (HX.1.keep k9.2) (HX.2.trans k9)));clear o9 k9 HX G dd;go_wp2;go_roundw
       case rel=>exact⟨j+1,by have:=ae Hj;omega,by go_num,HY.1,HY.2.1,HY.2.2⟩
       case measure=>have:=ae Hj;simp[intOf];omega
      .
       have c9:A.take j=A:=a0t (by rw[ae m];omega);rw[c9,ae HQ]at V;have HY:=af (a0b V ad);clear V J ad c9;go_wp2
       go_end0
       exact⟨rfl,HY.1,HY.2⟩
def I2(T:List Tk)(a:T.length<=300)(b:∀t∈T,okT t=true):[(1,1),(2,2)]++(di (bE T) (cm T)++(T.flatMap (pcT (bE T) (cm T))++[pcS (bE T) 256]))=je T:=by
 unfold je;rw[rQ (gn T a) (iM T a) _ (fun t c=>mU T a b t c),nQ (gn T a) (by have:=(jP T a).1;omega)]
def yo(v1 v2 v3:Value)(A B C:List (Int×Int))(base:Nat)(w:World)(f:Pcs w base v1 A)(h2:Pcs w base v2 B)(g:Pcs w base v3 C)(k:A.length+(B.length+C.length)<=4000) :
  Calls prog 116 #[.slice w.heap.size 3 3] (w.alloc (.cells #[v1,v2,v3] 134)) fun e w'=>∃v,e = .returned v/\Pcs w' w.heap.size v (A++(B++C))/\Below w.heap.size w w':=by
 have a:Below w.heap.size w (w.alloc (.cells #[v1,v2,v3] 134)):=bx;have h:ik (w.alloc (.cells #[v1,v2,v3] 134)) w.heap.size base [(v1,aX A),(v2,aX B),(v3,aX C)]:=by
  intro i j
  match i,j with
  | 0,_=>exact⟨by simp,_,f.later a (a0a _),iz _⟩
  | 1,_=>exact⟨by simp,_,h2.later a (a0a _),iz _⟩
  | 2,_=>exact⟨by simp,_,g.later a (a0a _),iz _⟩
 have b:aK [(v1,aX A),(v2,aX B),(v3,aX C)]=(A++(B++C)).length:=by
  simp only[aK,bX,a0B,a1B,a0L,a28,lR,a0i];omega
 refine(zR w.heap.size base 3 3 _ _ rfl (by omega) (by omega) h (by rw[b,a0i,a0i];omega)).mono ?_;rintro e x5⟨v,rfl,d,hb⟩;refine⟨v,rfl,?_,aj a hb⟩;have c:ec [(v1,aX A),(v2,aX B),(v3,aX C)]=aX (A++(B++C)):=by
  simp only[ec,a0W,a13,eH,a01]
 rw[b,c]at d;exact pS (base:=(w.alloc (.cells #[v1,v2,v3] 134)).heap.size) d (by simp)
def AO(s:ByteArray)(w:World)(hs:s.size<=300)(hO:ef w) :
  CD 78 #[s] w (.string ⟨(mj s).toArray⟩):=by
 have hI:¬ (300:Int)<(s.size:Int):=by omega
 have a6:=cC
 have HS:=af hs;have HO:=af hO;have N:=af (sR s w hs);obtain⟨T,hT⟩:∃T,bj s.data.toList 0=T:=⟨_,rfl⟩;have a:Hid (T.length<=300):=by show _<=_;rw[←hT];exact iY s hs
 have U:Hid (∀t∈T,okT t=true):=by rw[←hT];exact eT s
 have bs:Hid (mj s=ct (je T)):=by show mj s=_;unfold mj;rw[hT]
 have HT:=af hT;rw[hT]at N;clear hs hO hT;go_enter func78,ntmps78;go_wp2_with fail;refine N.mono ?_;rintro e x1⟨⟨gl,gd,rfl,o1,o2⟩,b1⟩;have O:=af (jK (some ⟨gl,0,none⟩) 286 286 (f9 T) 15 x1 (fe T) (o1.rowN (fe T)) (by omega));rw[OS T a]at O;have O2:=af o2;have B1:=af b1;clear o1 o2 b1 N;go_wp2_with fail;refine O.mono ?_;rintro e x2⟨⟨v2,rfl,o3⟩,b2⟩;have k:=(LQ T a).1;obtain⟨a2,c2,rfl⟩:=o3.formN k;obtain⟨g2,rfl⟩:=o3.somes (by omega);have C:=af (rZ g2 0 c2 286 257 (dp 15 (f9 T)) x2 k (fun i hi=>by rw[a0F];exact(o3.at k hi).1) o3.cap.1 (by omega) (by omega));have e2:d9 (dp 15 (f9 T)) 257 286=(bE T).length:=by unfold bE;rw[iO,k]
 rw[e2]at C;have O3:Hid (ap x2 w.heap.size (.slice g2 (bE T).length c2) (bE T)):=by
  have G:=o3.cut (m:=(bE T).length) k (by have:=jP T a;omega) (by omega);have e3:(dp 15 (f9 T)).take (bE T).length=bE T:=by rw[←e2];unfold bE nW;rw[k]
  rw[e3]at G;exact G.mono B1.size
 have O2':=af (O2.later b2 (a0a _));have B2:=af (aj B1 b2);have p:=af (jP T a);obtain⟨nL,hnL⟩:∃n,(bE T).length=n:=⟨_,rfl⟩;rw[hnL]at C O3 p;have q:=af hnL;clear hnL e2 k o3 b2 O O2 B1;have P:=af (jK (some ⟨gd,0,none⟩) 30 30 (cz T) 15 x2 (fy T) (O2'.rowN (fy T)) (by omega));rw[KN T a]at P;clear O2';go_wp2_with fail;refine C.mono ?_;rintro e x3⟨rfl,bb⟩;rw[bb];clear bb x3 C;go_wp2_with fail;refine P.mono ?_;rintro e x3⟨⟨v3,rfl,o4⟩,b3⟩;have l:=(zX T a).1;obtain⟨a3,c3,rfl⟩:=o4.formN l;obtain⟨g3,rfl⟩:=o4.somes (by omega);have D:=af (rZ g3 0 c3 30 1 (dp 15 (cz T)) x3 l (fun i hi=>by rw[a0F];exact(o4.at l hi).1) o4.cap.1 (by omega) (by omega));have e2:d9 (dp 15 (cz T)) 1 30=(cm T).length:=by unfold cm;rw[iO,l]
 rw[e2]at D;have O4:Hid (ap x3 w.heap.size (.slice g3 (cm T).length c3) (cm T)):=by
  have G:=o4.cut (m:=(cm T).length) l (by have:=ln T a;omega) (by omega);have e3:(dp 15 (cz T)).take (cm T).length=cm T:=by rw[←e2];unfold cm nW;rw[l]
  rw[e3]at G;exact G.mono B2.size
 have O3':=af (O3.later b3 (a0a _));have B3:=af (aj B2 b3);have r:=af (ln T a);obtain⟨nD,hnD⟩:∃n,(cm T).length=n:=⟨_,rfl⟩;rw[hnD]at D O4 r;have u:=af hnD;clear hnD e2 l o4 b3 P O3 B2;go_wp2_with fail;refine D.mono ?_;rintro e x4⟨rfl,bc⟩;rw[bc];clear bc x4 D;have ad:=af (se (some ⟨g2,0,none⟩) c2 nL w.heap.size (bE T) x3 q (bP q (O3'.own q)) B3.size (by have:=ae p;omega));go_wp2_with fail;refine ad.mono ?_;rintro e x4⟨⟨c,rfl,k1⟩,b4⟩;have O3:=af (O3'.later b4 (a0a _));have O4':=af (O4.later b4 (a0a _));have B4:=af (aj B3 b4);have K1:=af k1;clear k1 b4 ad O3' O4 B3;have ac:=af (px (some ⟨g3,0,none⟩) c3 nD w.heap.size (cm T) x4 u (bP u (O4'.own u)) B4.size (by have:=ae r;omega));go_wp2_with fail;refine ac.mono ?_;rintro e x5⟨⟨d,rfl,k2⟩,b5⟩;have O3':=af (O3.later b5 (a0a _));have O4:=af (O4'.later b5 (a0a _));have B5:=af (aj B4 b5);have x:=af (K1.later b5);have K2:=af k2;have bl:=af (mw x K2);have L:=x.size;have M:=K2.size;have E:Hid ((c++d).size=38):=by show _=_;rw[a2c,L,M]
 have bd:Hid ((c++d).all (·.oneCell')=true):=by show _=true;rw[Array.all_append,x.one,K2.one];rfl
 have F:Hid ((x5.alloc (.cells kG 174)).there x5.heap.size 0 38):=iE x5 kG _ 38 rfl;have j:Hid (Below x5.heap.size x5 ((x5.alloc (.cells kG 174)).setCells x5.heap.size 0 (c++d).toList)):=below_setCells (a0a _) _ _ _ bx;have a7:Hid (((x5.alloc (.cells kG 174)).setCells x5.heap.size 0 (c++d).toList).rangeAt x5.heap.size 0 (c++d).toList):=World.rangeAt_setCells_same (x5.alloc (.cells kG 174)) x5.heap.size 0 (c++d).toList (by rw[a1Q,ae E];exact F);have ba:Hid (x5.heap.size<((x5.alloc (.cells kG 174)).setCells x5.heap.size 0 (c++d).toList).heap.size):=by show _<_;rw[size_setCells];simp
 unfold kG at F j a7 ba;clear L M k2 b5 K1 O3 O4' B4 ac;go_wp2_with (first
  | (refine jW rfl (.tmp 21) (.tmp 23) rfl c d rfl rfl bl ?_)
  | (refine wpList_store_mid rfl 174 (.tmp 5) (.tmp 24) rfl x5.heap.size 0 (c++d) rfl rfl (by rw[ae E];exact F) (by rw[ae E];exact Tryz.infoBooks) bd ?_;generalize cu:World.setCells _ x5.heap.size 0 (c++d).toList=x6 at *;clear cu F))
 have a0:=aj B5 j;have f:Hid (∀W,Below x6.heap.size x6 W->W.rangeAt x5.heap.size 0 (c++d).toList):=fun W h=>km a7 h ba;have a1:Below x6.heap.size x6 x6.drew:=(Below.refl _ x6).drew;have cs:(prog.info? 174).map (·.size)=some (c++d).size:=by rw[ae E];exact Tryz.infoBooks
 have B6:=af a0;have O36:=af (O3'.later j (a0a _));have O46:=af (O4.later j (a0a _));have bk:Hid (ee x6 w.heap.size (bE T) (cm T) (c++d)):=⟨c,d,rfl,x.later j,K2.later j⟩;clear a0 O3' O4 x K2 j B5;refine wp_region_held_drew (S:=fun W=>W.rangeAt x5.heap.size 0 (c++d).toList) a6 (f _ a1) (fun hS=>?_);refine ag 1 (.slice g2 nL c2) rfl (?_) hS ?_
 . intro W a5;go_simp
 refine ag 2 (.slice g3 nD c3) rfl (?_) hS ?_
 . intro W a5;go_simp
 refine aq 4 (.agg (c++d)) rfl (dx (by rfl) 174 (.tmp 5) rfl x5.heap.size 0 rfl (c++d) _ (fun _ h=>h) underlying174 rfl cs) hS ?_;refine ag 5 (.string s) rfl (?_) hS ?_
 . intro W a5;go_simp
 refine ah 0 fun K b=>?_;go_simp;go_at_call 108;refine(kJ 2 _).mono ?_;rintro e x7⟨rfl,ab⟩;have g:Below x6.heap.size x6 x7:=by rw[ab];exact a1.alloc (by simp) _
 have a4:Pcs x7 x6.heap.size (.slice x6.heap.size 2 2) [(1,1),(2,2)]:=by
  rw[ab];exact a0R x6.drew #[.int .i64 1,.int .i64 1,.int .i64 2,.int .i64 2] 2 (a0a _) (by unfold maxLen;omega) rfl
 have an:=af (yU g2 g3 nL c2 nD c3 w.heap.size (bE T) (cm T) x7 q u (O36.later g (a0a _)) (O46.later g (a0a _)) p.1 p.2 r.1 r.2 (gn T a) (iM T a) ((ef.later HO B6).later g));refine Shut.out b _ _ (f _ g) (fun ca=>?_);clear b K ab;refine ah 3 fun K b=>?_;go_simp;go_at_call 117;refine an.mono ?_;rintro e x8⟨v8,rfl,Z,b8⟩;obtain⟨n8,hn8⟩:∃n,(di (bE T) (cm T)).length=n:=⟨_,rfl⟩;obtain⟨a8,c8,rfl⟩:=Z.formN hn8;have z:Below x6.heap.size x6 x8:=aj g b8;have I:=a4.later b8 (a0a _);have J:Pcs x8 x6.heap.size (.slice a8 n8 c8) (di (bE T) (cm T)):=pS Z g.size;have Q:=af (vu s w.heap.size (bE T) (cm T) (c++d) x8 HS (bk.later z) (by have:=ae p;have:=ae q;omega) (by have:=ae r;have:=ae u;omega) (by have:=ae p;have:=ae q;omega) (by rw[ae HT];exact fun t ht=>mU T a U t ht));rw[ae HT]at Q;refine Shut.out b _ _ (f _ z) (fun cc=>?_);clear b K a4 Z b8 an g ca;refine ah 6 fun K b=>?_;go_simp;go_at_call 110;refine Q.mono ?_;rintro e x9⟨v9,rfl,aa,b9⟩;obtain⟨n9,hn9⟩:∃n,(T.flatMap (pcT (bE T) (cm T))++[pcS (bE T) 256]).length=n:=⟨_,rfl⟩;obtain⟨a9,c9,rfl⟩:=aa.formN hn9;have A:Below x6.heap.size x6 x9:=aj z b9;have p7:=I.later b9 (a0a _);have p8:=J.later b9 (a0a _);have p9:Pcs x9 x6.heap.size (.slice a9 n9 c9) (T.flatMap (pcT (bE T) (cm T))++[pcS (bE T) 256]):=pS aa z.size;refine Shut.out b _ _ (f _ A) (fun cg=>?_);clear b K I J aa b9 Q z cc;have V:=I2 T a U;have Y:=tk T a U;have X:(je T).length<=4000:=by
  have:=Y;unfold lOk at this;simp only[a0k,a0s]at this;exact this.2
 have HC:=af (yo (.slice x6.heap.size 2 2) (.slice a8 n8 c8) (.slice a9 n9 c9) [(1,1),(2,2)] (di (bE T) (cm T)) (T.flatMap (pcT (bE T) (cm T))++[pcS (bE T) 256]) x6.heap.size x9 p7 p8 p9 (by have G:=X;rw[←V]at G;simp only[a0i]at G ⊢;omega));rw[V]at HC;have H:Below x6.heap.size x6 (x9.alloc (.cells #[.slice x6.heap.size 2 2,.slice a8 n8 c8,.slice a9 n9 c9] 134)):=A.alloc A.size _;have ao:=af (a0b Y X);clear p7 p8 p9 V Y X hn8 hn9;refine ah 7 fun K b=>?_;go_simp;refine Shut.out b _ _ (f _ H) (fun ch=>?_);clear b K;refine ah 8 fun K b=>?_;go_simp;go_at_call 116;refine HC.mono ?_;rintro e x11⟨v11,rfl,B,b0⟩;have y:=aj A b0;obtain⟨a11,b7,rfl⟩:=B.form;refine Shut.out b _ _ (f _ y) (fun co=>?_);clear b K;have al:=af (gm a11 b7 (je T) x11 B.row (by have:=ao.2;omega));rw[dK ao.1]at al;refine ah 9 fun K b=>?_;go_simp;go_at_call 99;refine al.mono ?_;rintro e x12⟨rfl,b6⟩;have o:=aj y b6;refine Shut.out b _ _ (f _ o) (fun cp=>?_);clear b K;refine ah 10 fun K b=>?_;go_simp;refine Shut.out b _ _ (f _ o) (fun cr=>?_);clear b K;refine wpAnyH_done (by kernel_rfl) ?_ _;have be:=af (aj B6 o);clear o y H A hS cg ch co cp cr B;generalize hR:ct (je T)=R at *
 clear hR;go_wp2;go_ret;exact⟨by rw[ae bs];rfl,be⟩
def B9{base cap:Nat}(j:l.length=n)(h:ap w base (.slice a n cap) l):i7 w w.heap.size a l:=by
 refine⟨h.rowN j,fun k x ex=>?_⟩;subst ex;rcases h.2 with⟨e,_⟩|⟨g,b,f,e,i,d,_⟩
 . cases e
 . simp only[a0J,a0j]at e;obtain⟨rfl,_⟩:=e;refine⟨by have:=dy d;show g≠_;omega,fun c fr=>?_⟩;show w.heap[g]?≠_;rw[d];intro e;cases e
def Il{base cap:Nat}{l:List Tk}(j:l.length=n)(h:ij w base (.slice a n cap) l):rL w w.heap.size a l:=by
 refine⟨h.rowN j,fun k x ex=>?_⟩;subst ex;rcases h.2 with⟨e,_⟩|⟨g,b,f,e,i,d,_⟩
 . cases e
 . simp only[a0J,a0j]at e;obtain⟨rfl,_⟩:=e;refine⟨by have:=dy d;show g≠_;omega,fun c fr=>?_⟩;show w.heap[g]?≠_;rw[d];intro e;cases e
def wN(g:Nat)(n:Nat)(l:List Int)(w:World)(d:l.length=n)(h:br w (some ⟨g,0,none⟩) l)(a:1<=n)(c:n<=300)(b:okC l)(f:us l<=300) :
  Calls prog 185 #[.slice g n n,.int .i64 15] w fun e w'=>(∃v,e = .returned v/\ap w' w.heap.size v (dp 15 l))/\Below w.heap.size w w':=
 wY (some ⟨g,0,none⟩) n n 14 l w d h a c b (by rw[fm];have h2:=Cb;omega) (by omega)
def Ir(s:ByteArray)(w:World)(hs:s.size<=300) :
  CD 155 #[s] w (.string ⟨(mj s).toArray⟩):=by
 obtain⟨T,hT⟩:∃T,bj s.data.toList 0=T:=⟨_,rfl⟩;have a:Hid (T.length<=300):=by show _<=_;rw[←hT];exact iY s hs
 have u:Hid (∀t∈T,okT t=true):=by rw[←hT];exact eT s
 have aa:Hid (mj s=ct (je T)):=by show mj s=_;unfold mj;rw[hT]
 have c:=af (pH s w (by omega));rw[hT]at c;clear hs hT;obtain⟨tn,htn⟩:∃tn,T.length=tn:=⟨_,rfl⟩;have l:=af htn;have I:Hid (tn<=300):=by show _<=_;rw[←htn];exact a
 clear htn;go_enter func155,ntmps155;go_wp2_with fail;refine c.mono ?_;rintro e x1⟨v1,rfl,o1,b1⟩;obtain⟨a1,c1,rfl⟩:=o1.formN l;have B:=af (yS a1 c1 tn T x1 l (o1.rowN l) I u);have O1:=af o1;have B1:=af b1;clear o1 b1 c;go_wp2_with fail;refine B.mono ?_;rintro e x2⟨⟨gl,gd,rfl,o2,o3⟩,b2⟩;have O1':=af (dX O1 b2);have B2:=af (aj B1 b2);have D:=af (wN gl 286 (f9 T) x2 (fe T) (o2.rowN (fe T)) (by omega) (by omega) (yW T a) (by have:=(yX T).2;omega));have O3:=af (o3.mono B1.size);have y:Hid (w.heap.size<=x2.heap.size):=B2.size;clear o2 o3 b2 B O1 B1;go_wp2_with fail;refine D.mono ?_;rintro e x3⟨⟨v3,rfl,o4⟩,b3⟩;have d:=(LQ T a).1;obtain⟨a3,c3,rfl⟩:=o4.formN d;obtain⟨g3,rfl⟩:=o4.somes (by omega);have q:=af (uE g3 0 c3 286 257 (dp 15 (f9 T)) x3 d (fun i hi=>by rw[a0F];exact(o4.at d hi).1) o4.cap.1 (by omega) (by omega));have e2:d9 (dp 15 (f9 T)) 257 286=(bE T).length:=by unfold bE;rw[iO,d]
 rw[e2]at q;have O4:Hid (ap x3 w.heap.size (.slice g3 (bE T).length c3) (bE T)):=by
  have Q:=o4.cut (m:=(bE T).length) d (by have:=jP T a;omega) (by omega);have e3:(dp 15 (f9 T)).take (bE T).length=bE T:=by rw[←e2];unfold bE nW;rw[d]
  rw[e3]at Q;exact Q.mono y
 have O1:=af (dX O1' b3);have O3':=af (O3.later b3 (a0a _));have B3:=af (aj B2 b3);have b:=af (jP T a);obtain⟨nL,hnL⟩:∃n,(bE T).length=n:=⟨_,rfl⟩;rw[hnL]at q O4 b;have j:=af hnL;clear hnL e2 d o4 b3 D O3 B2 O1' y;go_wp2_with fail;refine q.mono ?_;rintro e x4⟨rfl,U⟩;rw[U];clear U x4 q;have E:=af (wN gd 30 (cz T) x3 (fy T) (O3'.rowN (fy T)) (by omega) (by omega) (tR T a) (by have:=(tS T).2;omega));go_wp2_with fail;refine E.mono ?_;rintro e x4⟨⟨v4,rfl,o5⟩,b4⟩;have f:=(zX T a).1;obtain⟨a4,c4,rfl⟩:=o5.formN f;obtain⟨g4,rfl⟩:=o5.somes (by omega);have r:=af (uE g4 0 c4 30 1 (dp 15 (cz T)) x4 f (fun i hi=>by rw[a0F];exact(o5.at f hi).1) o5.cap.1 (by omega) (by omega));have e2:d9 (dp 15 (cz T)) 1 30=(cm T).length:=by unfold cm;rw[iO,f]
 rw[e2]at r;have O5:Hid (ap x4 w.heap.size (.slice g4 (cm T).length c4) (cm T)):=by
  have Q:=o5.cut (m:=(cm T).length) f (by have:=ln T a;omega) (by omega);have e3:(dp 15 (cz T)).take (cm T).length=cm T:=by rw[←e2];unfold cm nW;rw[f]
  rw[e3]at Q;exact Q.mono B3.size
 have O1':=af (dX O1 b4);have O4':=af (O4.later b4 (a0a _));have B4:=af (aj B3 b4);have g:=af (ln T a);obtain⟨nD,hnD⟩:∃n,(cm T).length=n:=⟨_,rfl⟩;rw[hnD]at r O5 g;have k:=af hnD;clear hnD e2 f o5 b4 E O4 O1 O3' B3;go_wp2_with fail;refine r.mono ?_;rintro e x5⟨rfl,V⟩;rw[V];clear V x5 r;have h0:Hid (jX (x4.alloc (.cells #[.slice none 0 0,.int .i64 0,.int .i64 0] 273)) x4.heap.size (0,0)):=zc x4 273;have o:Below x4.heap.size x4 (x4.alloc (.cells #[.slice none 0 0,.int .i64 0,.int .i64 0] 273)):=bx;have RL:Hid (i7 (x4.alloc (.cells #[.slice none 0 0,.int .i64 0,.int .i64 0] 273)) x4.heap.size (some ⟨g3,0,none⟩) (bE T)):=(B9 j O4').below o;have RD:Hid (i7 (x4.alloc (.cells #[.slice none 0 0,.int .i64 0,.int .i64 0] 273)) x4.heap.size (some ⟨g4,0,none⟩) (cm T)):=(B9 k O5).below o;have RT:Hid (rL (x4.alloc (.cells #[.slice none 0 0,.int .i64 0,.int .i64 0] 273)) x4.heap.size a1 T):=(Il l O1').keep (bR o);have C:Hid (KB x4.heap.size x4 (x4.alloc (.cells #[.slice none 0 0,.int .i64 0,.int .i64 0] 273))):=(KB.refl _ _).below o (a0a _);clear o O1' O4' O5;go_wp2_with fail;refine(fi _ _ 1 1 _ h0 (by decide) (by show(0:Nat)<=_;omega)).mono ?_;rintro e x6⟨rfl,o6,W⟩;have H6:=af (a0b o6 (C.trans W));have L:=af (RL.keep W.2);have J:=af (RD.keep W.2);have N:=af (RT.keep W.2);clear o6 W h0 C RL RD RT;go_wp2_with fail;refine(fi _ _ 2 2 _ H6.1 (by decide) (by show(1:Nat)<=_;omega)).mono ?_;rintro e x7⟨rfl,o7,X⟩;have H7:=af (a0b o7 (H6.2.trans X));have A:=af (L.keep X.2);have z:=af (J.keep X.2);have O:=af (N.keep X.2);clear o7 X H6 L J N;have F:=af (IC x4.heap.size (bf (bf (0,0) [(1,1)]) [(2,2)]) (some ⟨g3,0,none⟩) (some ⟨g4,0,none⟩) c3 nL c4 nD (bE T) (cm T) x7 H7.1 A.1 z.1 j k b.1 b.2 g.1 g.2 (gn T a) (iM T a) (by show(3:Nat)<=1000;omega));go_wp2_with fail;refine F.mono ?_;rintro e x8⟨rfl,o8,Z⟩;have G:Hid (bf (bf (bf (0,0) [(1,1)]) [(2,2)]) (di (bE T) (cm T))=bf (0,0) ([(1,1),(2,2)]++di (bE T) (cm T))):=by
  show _=_;rw[←bo,←bo];rfl
 rw[ae G]at o8;have M:=A.keep Z.2;have K:=z.keep Z.2;have P:=O.keep Z.2;have K8:=af (H7.2.trans Z);have p:=De (gn T a) (iM T a) (by rw[ae j];exact b.1) (by rw[ae j];exact b.2) (by rw[ae k];exact g.1) (by rw[ae k];exact g.2);have S:(bf (0,0) ([(1,1),(2,2)]++di (bE T) (cm T))).2<=10000:=by
  have h1:=dU (0,0) ([(1,1),(2,2)]++di (bE T) (cm T)) (by
   intro x hx;rcases a0X.1 hx with h|h
   . simp at h;rcases h with rfl|rfl<;>simp
   . have h3:=p.1;unfold aY at h3;have:=a08.1 h3 x h;exact(aS.1 this).1.2)
  rw[a0i]at h1;have:=p.2;simp only[a0A,a0Q]at h1;omega
 have c:=af (sD x4.heap.size _ a1 (some ⟨g3,0,none⟩) (some ⟨g4,0,none⟩) c1 tn c3 nL c4 nD T (bE T) (cm T) x8 o8 P M K l j k (by have:=ae b;omega) (by have:=ae g;omega) (dR (gn T a)) (dR (iM T a)) (by have:=ae b;omega) (by have:=ae I;omega) S (fun t ht=>⟨u t ht,mU T a u t ht⟩));have H:Hid (bf (bf (0,0) ([(1,1),(2,2)]++di (bE T) (cm T))) (T.flatMap (cH (bE T) (cm T))++[pcM (bE T) 256])=aU (je T)):=by
  show bf _ _=_;rw[←bo,a0I];rfl
 rw[ae H]at c;have Hm:Hid ((aU (je T)).2<=90000):=by
  show _<=_;rw[←ae H,bo];have h1:=lF (bE T) (cm T) T (bf (0,0) ([(1,1),(2,2)]++di (bE T) (cm T))) (dR (gn T a)) (dR (iM T a)) (fun t ht=>mU T a u t ht);have h2:=dU (bf (bf (0,0) ([(1,1),(2,2)]++di (bE T) (cm T))) (T.flatMap (cH (bE T) (cm T)))) [pcM (bE T) 256] (fun x hx=>by simp only[a0V,a1p,a1k]at hx;subst hx;have:=(dR (gn T a) 256 (by have:=ae j;have:=ae b;omega)).1.2;show(bE T).getD 256 0<=16;omega);have h3:=ae a;simp only[a0A,a0Q]at h2;omega
 clear o8 Z M K P p S F A z O H7 G;go_wp2_with fail;refine c.mono ?_;rintro e x9⟨rfl,o9,k9⟩;have K9:=af (K8.trans k9).1;have O9:=af o9;clear o9 k9 c K8;go_wp2_with fail;refine(lZ _ _ _ _ O9 Hm).mono ?_;rintro e x10⟨rfl,h7,b7⟩;obtain⟨_,v,Th,Y⟩:=h7;have e8:8*(((aU (je T)).2+7)/8)/8=((aU (je T)).2+7)/8:=by omega
 rw[e8]at Y;have Y':Bys x10 x4.heap.size v (ct (je T)):=Y;have ac:=lB Y';have HB:=af (K9.trans b7);obtain⟨k0,k1,k2,f0,f1,f2,ab⟩:=Th;clear Y Y' e8 k1 k2 b7 O9;generalize hR:ct (je T)=R at *
 clear hR;go_wp2;go_ret;exact⟨by rw[ae aa];rfl,aj B4 HB⟩
def lP(s:ByteArray):List UInt8:=if s.size<=300 then mj s else []
def uk(s:ByteArray)(w:World)(d:s.size<=1048576)(b:ef w) :
  CD 78 #[s] w (.string ⟨(lP s).toArray⟩):=by
 by_cases h:s.size<=300
 . have a:Hid (lP s=mj s):=a0c h;rw[ae a];exact AO s w h b
 .
  have c:(300:Int)<(s.size:Int):=by omega
  have a:Hid (lP s=[]):=a0d h;clear h b;go_enter func78,ntmps78;go_wp2;go_ret;exact⟨by rw[ae a];rfl,Below.refl _ _⟩
