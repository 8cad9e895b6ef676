/- Of what the proof is made: 12 texts, one behind the other. -/
import Derived.Test.YtlpmnnjlmjffpaaGreatDoorM25
import Derived.Test.YtlpmnnjlmjffpaaGreatDoorM27
import Derived.Test.YtlpmnnjlmjffpaaGreatDoorM26
import Derived.Test.YtlpmnnjlmjffpaaGreatDoorM12
import Derived.Deep.RegionHeld3
import Derived.Deep.DeepCutAuto
import Derived.Test.YtlpmnnjlmjffpaaGreatDoorM20
import Derived.Test.YtlpmnnjlmjffpaaGreatDoorM9
import Derived.Test.YtlpmnnjlmjffpaaGreatDoorM21
import Derived.Test.YtlpmnnjlmjffpaaGreatDoorM3
import Derived.Test.YtlpmnnjlmjffpaaGreatDoorM11
import Derived.Test.YtlpmnnjlmjffpaaGreatDoorM13
import Derived.Test.YtlpmnnjlmjffpaaGreatDoorM14
import Derived.Lib.AppendZerosOnto
import Derived.Test.YtlpmnnjlmjffpaaGreatDoorM7
set_option maxRecDepth 100000
set_option linter.unusedSimpArgs false
set_option linter.unusedVariables false
set_option maxHeartbeats 6400000
namespace Go.Proofs.YtlpmnnjlmjffpaaGreatDoor
open Go.Proofs.Tryz
open Go.RowKit Go.Shelf Corb
attribute [local go_sem] Oper.semAt_some
def jp(L D:List Int)(t:Tk):Prop:=if isB t then t.1.toNat<L.length else 257+fnd 3 4 t.2.1.toNat 27<L.length/\fnd 1 2 t.2.2.toNat 29<D.length
theorem BU{t:Tk}(h:isK t=true):3<=t.2.1/\t.2.1<=60/\1<=t.2.2/\t.2.2<=250:=by
 unfold isK inB at h;simp only[a0h,a0o]at h;omega
theorem wP{t:Tk}(h:isB t=true):0<=t.1/\t.1<=255:=by
 unfold isB inB at h;simp only[a0h,a0o]at h;omega
end Go.Proofs.YtlpmnnjlmjffpaaGreatDoor
namespace Go.Proofs.YtlpmnnjlmjffpaaGreatDoor
open Go.Proofs.Tryz
open Go.RowKit Corb
variable {D L l:List Int}{a:Option Addr}{b k n:Nat}{w w':World}
def qk(w:World)(b:Nat)(a:Option Addr)(l:List Tk):Prop:=Be w a l/\(0<l.length->∀x,a=some x->x.block≠b/\∀cur fr,w.heap[x.block]?≠some (.cells cur 5 fr))
theorem qk.keep{l:List Tk}(h:qk w b a l)(k:bO b w w'):qk w' b a l:=by
 by_cases c:0<l.length
 .
  obtain⟨g,o,e,j,m⟩:=h.1 c;obtain⟨f,h2⟩:=h.2 c _ e;have hb:=k.2 g j f h2;refine⟨fun _=>⟨g,o,e,a0j j k.1,fun i n=>?_⟩,fun _ x ex=>?_⟩
  . obtain⟨c0,c1,c2⟩:=m i n;exact⟨by rw[←c0];exact World.cell?_of_block (w:=w) hb,by rw[←c1];exact World.cell?_of_block (w:=w) hb,by rw[←c2];exact World.cell?_of_block (w:=w) hb⟩
  .
   have:x=⟨g,o,none⟩:=by rw[ex]at e;exact a02 e
   subst this;exact⟨f,fun d fr=>by rw[hb];exact h2 d fr⟩
 . exact⟨fun h=>absurd h c,fun h=>absurd h c⟩
theorem FE{base cap:Nat}{l:List Tk}(k:l.length=n)(h:dI w base (.slice a n cap) l)(hb:b<base):qk w b a l:=by
 refine⟨h.rowN k,fun m x ex=>?_⟩;subst ex;rcases h.2 with⟨e,_⟩|⟨g,c,f,e,i,j,_⟩
 . cases e
 . simp only[a0L,a0k]at e;obtain⟨rfl,_⟩:=e;refine⟨by show g≠b;omega,fun d fr=>?_⟩;show w.heap[g]?≠_;rw[j];intro e;cases e
def ci(L D:List Int)(t:Tk):List (Int×Int):=
 if isB t then [pcM L t.1.toNat]
 else [pcM L (257+fnd 3 4 t.2.1.toNat 27),((t.2.1.toNat:Int)-((stF 3 4 (fnd 3 4 t.2.1.toNat 27)).1:Int),((stF 3 4 (fnd 3 4 t.2.1.toNat 27)).2:Nat)),pcM D (fnd 1 2 t.2.2.toNat 29),((t.2.2.toNat:Int)-((stF 1 2 (fnd 1 2 t.2.2.toNat 29)).1:Int),((stF 1 2 (fnd 1 2 t.2.2.toNat 29)).2:Nat))]
def RR(W:World)(b:Nat)(L D:List Int)(T:List Tk)(a a2 va vb vl vk at_:Option Addr):Prop:=
 (g9 W b a L/\g9 W b a2 D)/\(g9 W b va (bi L 15).2/\g9 W b vb (bi D 15).2)/\(g9 W b vl jt/\g9 W b vk jm)/\qk W b at_ T
theorem RR.keep{W W':World}{T:List Tk}{a2 va vb vl vk at_:Option Addr}(h:RR W b L D T a a2 va vb vl vk at_)(c:bO b W W'):RR W' b L D T a a2 va vb vl vk at_:=
 ⟨⟨h.1.1.keep c,h.1.2.keep c⟩,⟨h.2.1.1.keep c,h.2.1.2.keep c⟩,⟨h.2.2.1.1.keep c,h.2.2.1.2.keep c⟩,h.2.2.2.keep c⟩
def lA(l:List Int):Prop:=∀k,k<l.length->(0<=l.getD k 0/\l.getD k 0<=15)/\(0<=(bi l 15).2.getD k 0/\(bi l 15).2.getD k 0<65536)
theorem bo(h:Below w.heap.size w w'):bO b w w':=⟨h.size,fun k a _ _=>h.block k a⟩
theorem lw{g:Nat}{a:Array Value}{t:TypeId}(f:bO b w w')(h:w.heap[g]?=some (Obj.cells a t))(d:g≠b)(i:t≠5):w'.heap[g]?=some (Obj.cells a t):=by
 refine(f.2 g (mu h) d (fun c fr=>?_)).trans h;rw[h];intro e;cases e
 exact i rfl
theorem iC(h:g9 w b a l)(f:k<l.length):∃g o,a=some ⟨g,o,none⟩/\g<w.heap.size/\w.cell? ⟨g,o+k,none⟩=some (.int .i64 (l.getD k 0)):=by
 obtain⟨g,o,e,d,c⟩:=h.1 (by omega);exact⟨g,o,e,d,c k f⟩
theorem Af(y:Nat)(a:3<=y)(b:y<=60):pOk ((y:Int)-((stF 3 4 (fnd 3 4 y 27)).1:Int)) ((stF 3 4 (fnd 3 4 y 27)).2:Nat)=true:=by
 have:(List.range 61).all (fun y=>decide (y<3) || pOk ((y:Int)-((stF 3 4 (fnd 3 4 y 27)).1:Int)) ((stF 3 4 (fnd 3 4 y 27)).2:Nat))=true:=by decide +kernel
 have:=a05.1 this y (List.mem_range.2 (by omega));simp only[a1B,a0o]at this;rcases this with h|h
 . omega
 . exact h
theorem Ae(z:Nat)(a:1<=z)(b:z<=250):pOk ((z:Int)-((stF 1 2 (fnd 1 2 z 29)).1:Int)) ((stF 1 2 (fnd 1 2 z 29)).2:Nat)=true:=by
 have:(List.range 251).all (fun z=>decide (z<1) || pOk ((z:Int)-((stF 1 2 (fnd 1 2 z 29)).1:Int)) ((stF 1 2 (fnd 1 2 z 29)).2:Nat))=true:=by decide +kernel
 have:=a05.1 this z (List.mem_range.2 (by omega));simp only[a1B,a0o]at this;rcases this with h|h
 . omega
 . exact h
theorem dB(p:Nat×Nat)(l:List (Int×Int))(h:∀x∈l,x.2<=16):(aW p l).2<=p.2+16*l.length:=by
 unfold aW mR;induction l generalizing p with
 | nil=>simp[gU]
 | cons x r ih=>
  have b:=h x (by simp);have h2:=ih (p.1+x.1.toNat*2 ^ p.2,p.2+x.2.toNat) (fun y a=>h y (by simp[a]));simp only[a0E,gU,a0B]at *
  omega
theorem vz(L D:List Int)(t:Tk)(gL:lA L)(gD:lA D)(a:jp L D t):(∀x∈ci L D t,x.2<=16)/\(ci L D t).length<=4:=by
 unfold ci;unfold jp at a
 split
 . rename_i h;rw[a0e h]at a;refine⟨fun x b=>?_,by simp⟩;simp only[a1a,a1Y,a1L]at b;subst b;have:=(gL _ a).1.2;show L.getD _ 0<=16;omega
 .
  rename_i h;rw[a0d h]at a;refine⟨fun x b=>?_,by simp⟩;simp only[a1a,a1Y,a1L]at b;have s1:=tK (L:=3) (G:=4) (k:=fnd 3 4 t.2.1.toNat 27) (by omega) (by omega) (by omega) (by have:=iM 3 4 t.2.1.toNat 27;omega);have s2:=tK (L:=1) (G:=2) (k:=fnd 1 2 t.2.2.toNat 29) (by omega) (by omega) (by omega) (by have:=iM 1 2 t.2.2.toNat 29;omega);rcases b with rfl|rfl|rfl|rfl
  . have:=(gL _ a.1).1.2;show L.getD _ 0<=16;omega
  . show((_:Nat):Int)<=16;omega
  . have:=(gD _ a.2).1.2;show D.getD _ 0<=16;omega
  . show((_:Nat):Int)<=16;omega
theorem kA(L D:List Int)(T:List Tk)(p:Nat×Nat)(gL:lA L)(gD:lA D)(a:∀t∈T,jp L D t):(aW p (T.flatMap (ci L D))).2<=p.2+64*T.length:=by
 induction T generalizing p with
 | nil=>simp[aW,mR,gU]
 | cons t r ih=>
  rw[a07,aZ];obtain⟨b,h2⟩:=vz L D t gL gD (a t (by simp));have d:=dB p (ci L D t) b;have e:=ih (aW p (ci L D t)) (fun x c=>a x (by simp[c]));simp only[a0B];omega
theorem pJ(a:Option Addr)(cap n:Nat)(l:List Int)(w:World)(d:l.length=n)(h:bu w a l)(c:n<=300) :
  Calls prog 250 #[.slice a n cap] w fun e w'=>(∃g,e = .returned (.slice (some ⟨g,0,none⟩) n n)/\ay w' w.heap.size (.slice (some ⟨g,0,none⟩) n n) (bi l 15).2)/\Below w.heap.size w w':=
 (dH a cap n l w d h c).mono fun _ _ ⟨b,f,hb⟩=>⟨⟨_,b,f⟩,hb⟩
theorem nv(w:World):Calls prog 267 #[] w fun e w'=>(∃g,e = .returned (.slice (some ⟨g,0,none⟩) 28 28)/\ay w' w.heap.size (.slice (some ⟨g,0,none⟩) 28 28) qF)/\Below w.heap.size w w':=
 (iy w).mono fun _ _ ⟨a,b,hb⟩=>⟨⟨_,a,b⟩,hb⟩
theorem nd(w:World):Calls prog 268 #[] w fun e w'=>(∃g,e = .returned (.slice (some ⟨g,0,none⟩) 30 30)/\ay w' w.heap.size (.slice (some ⟨g,0,none⟩) 30 30) ql)/\Below w.heap.size w w':=
 (iq w).mono fun _ _ ⟨a,b,hb⟩=>⟨⟨_,a,b⟩,hb⟩
theorem eS:jt.length=28:=jS _ _ _
theorem eH:jm.length=30:=jS _ _ _
theorem qQ(b:Nat)(p:Nat×Nat)(ta a a2:Option Addr)(tcap tn cap n X n2:Nat)(T:List Tk)(L D:List Int)(w:World)(ho:jg w b p)(hT:qk w b ta T)(hL:g9 w b a L)(hD:g9 w b a2 D)
  (eg:T.length=tn) (hn:L.length=n) (d6:D.length=n2) (d7:n<=300) (d8:n2<=300) (gL:lA L) (gD:lA D) (a9:256<n) (fc:(tn:Int)<=300) (hp:p.2<=10000)
  (ed:∀t∈T,okT t=true/\jp L D t) :
  Calls prog 226 #[.pointer (some ⟨b,0,none⟩),.slice ta tn tcap,.slice a n cap,.slice a2 n2 X] w fun e w'=>e = .returned (.tuple #[])/\jg w' b (aW p (T.flatMap (ci L D)++[pcM L 256]))/\KB b w w':=by
 have Z:b<w.heap.size:=Out.lt ho;have bb:prog.follows .mixedOrders=true:=by kernel_rfl
 have HT:=af hT;have HO:=af ho;have HL:=af hL;have HD:=af hD;have V:=af eg;have F:=af hn;have B:=af d6;have a3:=af d7;have d0:=af d8;have s:=af gL;have U:=af gD;have M:=af a9;have Hp:=af hp;have b0:=af ed;clear hT ho hL hD eg hn d6 d7 d8 gL gD a9 hp ed;go_enter func226,ntmps226;go_wp2_with fail;refine(pJ a cap n L _ (ae F) (ae HL).1 (ae a3)).mono ?_;rintro e x1 ⟨⟨g1,rfl,o1⟩,b1⟩;have N1:=af (eQ ((bW L 15).trans (ae F)) o1 Z);have B1:=af b1;clear o1 b1;go_wp2_with fail;refine(pJ a2 X n2 D _ (ae B) ((ae HD).below (ae B1)).1 (ae d0)).mono ?_;rintro e x2 ⟨⟨g2,rfl,o2⟩,b2⟩;have N2:=af (eQ ((bW D 15).trans (ae B)) o2 (a0j Z (ae B1).size));have N1':=af ((ae N1).below b2);have B2:=af (ak (ae B1) b2);clear o2 b2 N1 B1;go_wp2_with fail;refine(nv _).mono ?_;rintro e x3 ⟨⟨g3,rfl,o3⟩,b3⟩;have R3:=af (o3.rowN rfl);have B3:=af (ak (ae B2) b3);have N1:=af ((ae N1').below b3);have N2':=af ((ae N2).below b3);clear o3 b3 B2 N1' N2;go_wp2_with fail;refine(iS _ 28 _ (ae R3)).mono ?_;rintro e x4 ⟨v4,rfl,o4,b4⟩;obtain⟨a4,c4,rfl⟩:=o4.formN eS;have N4:=af (eQ eS o4 (a0j Z (ae B3).size));have B4:=af (ak (ae B3) b4);have N1':=af ((ae N1).below b4);have N2:=af ((ae N2').below b4);clear o4 b4 B3 N1 N2' R3;go_wp2_with fail;refine(nd _).mono ?_;rintro e x5 ⟨⟨g5,rfl,o5⟩,b5⟩;have R5:=af (o5.rowN rfl);have B5:=af (ak (ae B4) b5);have N1:=af ((ae N1').below b5);have N2':=af ((ae N2).below b5);have N4':=af ((ae N4).below b5);clear o5 b5 B4 N1' N2 N4;go_wp2_with fail;refine(iR _ 30 _ (ae R5)).mono ?_;rintro e x6 ⟨v6,rfl,o6,b6⟩;obtain⟨a6,c6,rfl⟩:=o6.formN eH;have N6:=af (eQ eH o6 (a0j Z (ae B5).size));have B6:=af (ak (ae B5) b6);have ds:Hid (RR x6 b L D T a a2 (some ⟨g1,0,none⟩) (some ⟨g2,0,none⟩) a4 a6 ta):=
  ⟨⟨(ae HL).below (ae B6),(ae HD).below (ae B6)⟩,⟨(ae N1).below b6,(ae N2').below b6⟩,⟨(ae N4').below b6,ae N6⟩,(ae HT).keep (bo (ae B6))⟩
 have c7:Hid (jg x6 b (aW p ((T.take 0).flatMap (ci L D)))):=Out.kept (ae HO) (ae B6);have cs:Hid (KB b w x6):=(KB.refl b w).below (ae B6) (a0C Z);clear o6 b6 B5 N1 N2' N4' N6 R5 HT HO HL HD B6;go_wp2_with fail
 go_loopw [12,13,14] (fun i _ _ wr=>∃k:Nat,k<=tn/\i = .int .i64 k/\jg wr b (aW p ((T.take k).flatMap (ci L D)))/\RR wr b L D T a a2 (some ⟨g1,0,none⟩) (some ⟨g2,0,none⟩) a4 a6 ta/\KB b w wr) (fun i _ _ _=>tn-(intOf i).toNat)
 case atStart=>exact⟨0,a0g _,rfl,ae c7,ae ds,ae cs⟩
 case round=>
  obtain⟨k,hk,rfl,ho,cp,d5⟩:=hrel;clear c7 ds cs;have HO:=af ho;have a1:=af cp;have bk:=af d5;have HK:=af hk;have d4:Hid (b<wr.heap.size):=Out.lt ho;clear ho d5 hk;by_cases co:k<tn
  .
   have e8:(k:Int)<(tn:Int):=by omega
   obtain⟨g,o,rfl,hg,hc⟩:=cp.2.2.2.1 (by rw[ae V];omega);obtain⟨c0,c1,c2⟩:=hc k (by rw[ae V];exact co);have b7:Hid ((T.take (k+1)).flatMap (ci L D)=(T.take k).flatMap (ci L D)++ci L D (T.getD k k0)):=by
    show(T.take (k+1)).flatMap (ci L D)=_;rw[Dn T k (by rw[ae V];exact co)];simp
   obtain⟨A,G⟩:=ae b0 (T.getD k k0) (by simp[List.getD,show k<T.length by rw[ae V];exact co]);have q:Hid ((aW p ((T.take k).flatMap (ci L D))).2<=80000):=by
    show _<=_;have h1:=kA L D (T.take k) p (ae s) (ae U) (fun t ht=>(ae b0 t (a2w ht)).2);have h2:(T.take k).length<=k:=List.length_take_le _ _;have h3:=ae Hp;omega
   clear hc cp;generalize T.getD k k0=t at *
   have O:Hid (aW p ((T.take (k+1)).flatMap (ci L D))=aW (aW p ((T.take k).flatMap (ci L D))) (ci L D t)):=by
    show aW p _=_;rw[ae b7,aZ]
   generalize aW p ((T.take k).flatMap (ci L D))=P at *
   have a5:Below wr.heap.size wr (wr.alloc (.cells #[.int .i64 t.1,.int .i64 t.2.1,.int .i64 t.2.2] 330)):=(a0c _ _).alloc (a0a _) _;have ao:Hid (jg (wr.alloc (.cells #[.int .i64 t.1,.int .i64 t.2.1,.int .i64 t.2.2] 330)) b P):=Out.kept (ae HO) a5;have m:=af ((ae a1).keep (bo a5));have N:=af ((ae bk).below a5 (a0C (ae d4)));have bc:=af (alloc_at wr (.cells #[.int .i64 t.1,.int .i64 t.2.1,.int .i64 t.2.2] 330));clear a5 HO a1 bk;cases Y:isB t
   .
    have hK:isK t=true:=by unfold okT at A;rw[Y]at A;simpa using A
    obtain⟨y0,y1,z0,z1⟩:=BU hK;have eh:t.1=0:=by unfold isK at hK;simp only[a0h,a0o]at hK;exact hK.1.1
    have v:Hid (257+fnd 3 4 t.2.1.toNat 27<n/\fnd 1 2 t.2.2.toNat 29<n2):=by
     have:=G;unfold jp at this;rw[a0d (by simp[Y]),ae F,ae B]at this;exact this
    have a0:Hid (ci L D t=[pcM L (257+fnd 3 4 t.2.1.toNat 27),((t.2.1.toNat:Int)-((stF 3 4 (fnd 3 4 t.2.1.toNat 27)).1:Int),((stF 3 4 (fnd 3 4 t.2.1.toNat 27)).2:Nat)),pcM D (fnd 1 2 t.2.2.toNat 29),((t.2.2.toNat:Int)-((stF 1 2 (fnd 1 2 t.2.2.toNat 29)).1:Int),((stF 1 2 (fnd 1 2 t.2.2.toNat 29)).2:Nat))]):=by
     show ci L D t=_;unfold ci;rw[a0d (by simp[Y])]
    have hy:t.2.1=((t.2.1.toNat:Nat):Int):=by omega
    have hz:t.2.2=((t.2.2.toNat:Nat):Int):=by omega
    have J:3<=t.2.1.toNat/\t.2.1.toNat<=60:=by omega
    have K:1<=t.2.2.toNat/\t.2.2.toNat<=250:=by omega
    have Eok1:=af (Af t.2.1.toNat J.1 J.2);have Eok2:=af (Ae t.2.2.toNat K.1 K.2);have Sy1:=af (zi t.2.1.toNat J.1 J.2);have Sy2:=af (xA t.2.2.toNat K.1 K.2);have e5:=iM 3 4 t.2.1.toNat 27;have e6:=iM 1 2 t.2.2.toNat 29;have At1:=af (zf (fnd 3 4 t.2.1.toNat 27) (by omega));have At2:=af (xw (fnd 1 2 t.2.2.toNat 29) (by omega));have ek:=af (zh (fnd 3 4 t.2.1.toNat 27) (by omega));have el:=af (xz (fnd 1 2 t.2.2.toNat 29) (by omega));generalize stF 3 4 (fnd 3 4 t.2.1.toNat 27)=E at *
    generalize stF 1 2 (fnd 1 2 t.2.2.toNat 29)=E' at *
    generalize fnd 3 4 t.2.1.toNat 27=f at *
    generalize fnd 1 2 t.2.2.toNat 29=f' at *
    clear Y hK A G;obtain⟨tx,ty,tz⟩:=t;simp only at eh y0 y1 z0 z1 hy hz J K c0 c1 c2 m N ao bc a0 Eok1 Eok2 Sy1 Sy2 O;generalize ty.toNat=y at *
    generalize tz.toNat=z at *
    subst eh hy hz;have fb:(f:Int)<28:=by omega
    have e7:(f':Int)<30:=by omega
    have ab:Hid (f<28):=by show f<28;omega
    have ac:Hid (f'<30):=by show f'<30;omega
    have ev:=aR.1 (ae Eok1);have ey:=aR.1 (ae Eok2);have e9:=bw ((y:Int)-(E.1:Int)) (by omega) (by omega);have fa:=bw ((z:Int)-(E'.1:Int)) (by omega) (by omega);clear ev ey e5 e6 J K;obtain⟨gl,ol,rfl,e4,e2⟩:=iC (ae m).2.2.1.1 (by rw[eS];exact ae ab);obtain⟨gk,ok,rfl,e3,e1⟩:=iC (ae m).2.2.1.2 (by rw[eH];exact ae ac);have c5:=af (fun W (hR:g9 W b (some ⟨gl,ol,none⟩) jt)=>mx (some ⟨gl,ol,none⟩) c4 28 jt (y:Int) W eS hR.1 (by omega) (by omega));have cy:=af (fun W (hR:g9 W b (some ⟨gk,ok,none⟩) jm)=>mx (some ⟨gk,ok,none⟩) c6 30 jm (z:Int) W eH hR.1 (by omega) (by omega));rw[ae Sy1]at c5;rw[ae Sy2]at cy;have ad:Hid (wr.heap.size≠b):=by show _≠_;have:=ae d4;omega
    clear e2 e1 e4 e3;go_wp2_with fail;refine(ae c5 _ (ae m).2.2.1.1).mono ?_;rintro e w7 ⟨rfl,al⟩;rw[al];clear al;have eI:(257:Int)+(f:Int)=((257+f:Nat):Int):=by omega
    have j:=af (oW b P a (some ⟨g1,0,none⟩) cap n n (257+f) L _ (ae ao) (ae F) (ae m).1.1.1 (ae m).2.1.1.1 (ae v).1 (ae a3) ((ae s) _ (by rw[ae F];exact(ae v).1)).1 ((ae s) _ (by rw[ae F];exact(ae v).1)).2 (by have:=ae q;omega));rw[←eI]at j;clear eI;go_wp2_with fail;refine(ae j).mono ?_;rintro e x7 ⟨rfl,h7,k7⟩;have bq:=af h7;have bz:=af ((ae m).keep k7.2);have cu:=af ((ae N).trans k7);have bd:=af (lw k7.2 (ae bc) (ae ad) (by decide));have d1:Hid ((aW P [pcM L (257+f)]).2<=80100):=by
     show _<=_;have h1:=dB P [pcM L (257+f)] (fun x hx=>by simp only[a1a,a1Y,a1L]at hx;subst hx;have:=((ae s) (257+f) (by rw[ae F];exact(ae v).1)).1.2;show L.getD _ 0<=16;omega);have h2:=ae q;simp only[a0B,a0Q]at h1;omega
    have H:Hid (∀W,bO b x7 W->W.cell? ⟨wr.heap.size,1,none⟩=some (.int .i64 (y:Nat))/\W.cell? ⟨gl,ol+f,none⟩=some (.int .i64 (E.1:Nat))):=by
     intro W hW;refine⟨lv (lw hW (ae bd) (ae ad) (by decide)) 1,?_⟩;obtain⟨g',o',e',_,aa⟩:=iC ((ae bz).2.2.1.1.keep hW) (k:=f) (by rw[eS];exact ae ab);simp only[a0k,a0F,a03]at e';obtain⟨rfl,rfl⟩:=e';rw[ae At1]at aa;exact aa
    have dl:=af (fun W (hW:jg W b (aW P [pcM L (257+f)]))=>ez b (aW P [pcM L (257+f)]) ((y:Int)-(E.1:Int)) (E.2:Nat) W hW (ae Eok1) (by have:=ae d1;omega));clear h7 k7 j ao m N bc;go_wp2_with fail;have cc:Below x7.heap.size x7 x7.drew:=(a0c _ x7).drew;go_cut[] (fun wx=>jg wx b (aW (aW P [pcM L (257+f)]) [((y:Int)-(E.1:Int),(E.2:Nat))])/\KB b x7 wx)
    case first=>
     refine wp_region_held_drew (S:=fun W=>W.cell? ⟨wr.heap.size,1,none⟩=some (.int .i64 (y:Nat))/\W.cell? ⟨gl,ol+f,none⟩=some (.int .i64 (E.1:Nat))) bb (ae H _ (bo cc)) (fun u=>?_);refine ag 0 (.pointer (some ⟨b,0,none⟩)) rfl (by kernel_rfl) (fun _ _ _ h=>h) rfl (?_) u ?_
     . intro W c;obtain⟨s0,s1⟩:=c;go_simp
     refine ag 1 (.pointer (some ⟨wr.heap.size,1,none⟩)) rfl (by kernel_rfl) (fun _ _ _ h=>h) rfl (?_) u ?_
     . intro W c;obtain⟨s0,s1⟩:=c;go_simp
     refine ag 2 (.int .i64 (y:Nat)) rfl (by kernel_rfl) (fun _ _ _ h=>h) rfl (?_) u ?_
     . intro W c;obtain⟨s0,s1⟩:=c;go_simp
     refine ag 3 (.slice (some ⟨gl,ol,none⟩) 28 c4) rfl (by kernel_rfl) (fun _ _ _ h=>h) rfl (?_) u ?_
     . intro W c;obtain⟨s0,s1⟩:=c;go_simp
     refine ag 4 (.int .i64 (f:Nat)) rfl (by kernel_rfl) (fun _ _ _ h=>h) rfl (?_) u ?_
     . intro W c;obtain⟨s0,s1⟩:=c;go_simp
     refine ag 5 (.pointer (some ⟨gl,ol+f,none⟩)) rfl (by kernel_rfl) (fun _ _ _ h=>h) rfl (?_) u ?_
     . intro W c;obtain⟨s0,s1⟩:=c;go_simp
     refine ag 6 (.int .i64 (E.1:Nat)) rfl (by kernel_rfl) (fun _ _ _ h=>h) rfl (?_) u ?_
     . intro W c;obtain⟨s0,s1⟩:=c;go_simp
     refine ag 7 (.int .i64 ((y:Int)-(E.1:Int))) rfl (by kernel_rfl) (fun _ _ _ h=>h) rfl (?_) u ?_
     . intro W c;obtain⟨s0,s1⟩:=c;go_simp
     refine ag 9 (.int .i64 (f:Nat)) rfl (by kernel_rfl) (fun _ _ _ h=>h) rfl (?_) u ?_
     . intro W c;obtain⟨s0,s1⟩:=c;go_simp
     refine ah 8 (by kernel_rfl) rfl fun C d=>?_;go_simp;go_at_call 267;refine(nv _).mono ?_;rintro e x8 ⟨⟨g8,rfl,o8⟩,b8⟩;have l:Below x7.heap.size x7 x8:=ak cc b8;have cg:=(o8.at rfl (ae ab)).1;rw[ae ek]at cg;have bs:=af (Out.kept (ae bq) l);clear o8 b8;refine Shut.out d _ _ (ae H _ (bo l)) (fun e0=>?_);clear d C;refine ah 10 (by kernel_rfl) rfl fun C d=>?_;go_simp;refine Shut.out d _ _ (ae H _ (bo l)) (fun _=>?_);clear d C;refine ah 11 (by kernel_rfl) rfl fun C d=>?_;go_simp;refine Shut.out d _ _ (ae H _ (bo l)) (fun _=>?_);clear d C;refine ah 12 (by kernel_rfl) rfl fun C d=>?_;go_simp;go_at_call 224;refine(ae dl _ (ae bs)).mono ?_;rintro e x9 ⟨rfl,h9,k9⟩;have I:=af (a0b h9 (((KB.refl b x7).below l (a0C (Out.lt (ae bq)))).trans k9));refine Shut.out d _ _ (ae H _ ((bo l).trans k9.2)) (fun _=>?_);clear d C h9 k9;refine wpAnyH_done (by kernel_rfl) ?_ _;go_wp2_with fail
     go_meet
     case rel=>exact ae I
    case rest=>
     obtain⟨eb,a7⟩:=hcut;have c8:=af eb;have Q:=af ((ae bz).keep a7.2);have cv:=af ((ae cu).trans a7);have be:=af (lw a7.2 (ae bd) (ae ad) (by decide));have d2:Hid ((aW (aW P [pcM L (257+f)]) [((y:Int)-(E.1:Int),((E.2:Nat):Int))]).2<=80200):=by
      show _<=_;have h1:=dB (aW P [pcM L (257+f)]) [((y:Int)-(E.1:Int),((E.2:Nat):Int))] (fun x hx=>by simp only[a1a,a1Y,a1L]at hx;subst hx;exact(aR.1 (ae Eok1)).1.2);have h2:=ae d1;simp only[a0B,a0Q]at h1;omega
     have HE:Hid (∀r,aW P (pcM L (257+f) :: ((y:Int)-(E.1:Int),((E.2:Nat):Int)) :: r)=aW (aW (aW P [pcM L (257+f)]) [((y:Int)-(E.1:Int),((E.2:Nat):Int))]) r):=fun r=>by
      show aW P _=_;rw[←aZ,←aZ];rfl
     generalize aW (aW P [pcM L (257+f)]) [((y:Int)-(E.1:Int),((E.2:Nat):Int))]=P2 at *
     have ba:=lv (ae be) 2;simp at ba;clear eb a7 bq bz cu bd H dl cc;go_wp2_with fail;refine(ae cy _ (ae Q).2.2.1.2).mono ?_;rintro e w7 ⟨rfl,al⟩;rw[al];clear al;have j:=af (oW b P2 a2 (some ⟨g2,0,none⟩) X n2 n2 f' D _ (ae c8) (ae B) (ae Q).1.2.1 (ae Q).2.1.2.1 (ae v).2 (ae d0) ((ae U) _ (by rw[ae B];exact(ae v).2)).1 ((ae U) _ (by rw[ae B];exact(ae v).2)).2 (by have:=ae d2;omega));go_wp2_with fail;refine(ae j).mono ?_;rintro e xa ⟨rfl,ha,ka⟩;have dd:=af ha;have dv:=af ((ae Q).keep ka.2);have en:=af ((ae cv).trans ka);have em:=af (lw ka.2 (ae be) (ae ad) (by decide));have eu:Hid ((aW P2 [pcM D f']).2<=80300):=by
      show _<=_;have h1:=dB P2 [pcM D f'] (fun x hx=>by simp only[a1a,a1Y,a1L]at hx;subst hx;have:=((ae U) f' (by rw[ae B];exact(ae v).2)).1.2;show D.getD _ 0<=16;omega);have h2:=ae d2;simp only[a0B,a0Q]at h1;omega
     have R:Hid (∀W,bO b xa W->W.cell? ⟨wr.heap.size,2,none⟩=some (.int .i64 (z:Nat))/\W.cell? ⟨gk,ok+f',none⟩=some (.int .i64 (E'.1:Nat))):=by
      intro W hW;refine⟨lv (lw hW (ae em) (ae ad) (by decide)) 2,?_⟩;obtain⟨g',o',e',_,aa⟩:=iC ((ae dv).2.2.1.2.keep hW) (k:=f') (by rw[eH];exact ae ac);simp only[a0k,a0F,a03]at e';obtain⟨rfl,rfl⟩:=e';rw[ae At2]at aa;exact aa
     have dq:=af (fun W (hW:jg W b (aW P2 [pcM D f']))=>ez b (aW P2 [pcM D f']) ((z:Int)-(E'.1:Int)) (E'.2:Nat) W hW (ae Eok2) (by have:=ae eu;omega));have cr:Hid (aW (aW P2 [pcM D f']) [((z:Int)-(E'.1:Int),((E'.2:Nat):Int))]=aW P2 [pcM D f',((z:Int)-(E'.1:Int),((E'.2:Nat):Int))]):=(aZ P2 [pcM D f'] _).symm;clear ha ka j c8 Q cv be ba;go_wp2_with fail;have d3:Below xa.heap.size xa xa.drew:=(a0c _ xa).drew;refine wp_region_held_drew (S:=fun W=>W.cell? ⟨wr.heap.size,2,none⟩=some (.int .i64 (z:Nat))/\W.cell? ⟨gk,ok+f',none⟩=some (.int .i64 (E'.1:Nat))) bb (ae R _ (bo d3)) (fun u=>?_);refine ag 0 (.pointer (some ⟨b,0,none⟩)) rfl (by kernel_rfl) (fun _ _ _ h=>h) rfl (?_) u ?_
     . intro W c;obtain⟨s0,s1⟩:=c;go_simp
     refine ag 1 (.pointer (some ⟨wr.heap.size,2,none⟩)) rfl (by kernel_rfl) (fun _ _ _ h=>h) rfl (?_) u ?_
     . intro W c;obtain⟨s0,s1⟩:=c;go_simp
     refine ag 2 (.int .i64 (z:Nat)) rfl (by kernel_rfl) (fun _ _ _ h=>h) rfl (?_) u ?_
     . intro W c;obtain⟨s0,s1⟩:=c;go_simp
     refine ag 3 (.slice (some ⟨gk,ok,none⟩) 30 c6) rfl (by kernel_rfl) (fun _ _ _ h=>h) rfl (?_) u ?_
     . intro W c;obtain⟨s0,s1⟩:=c;go_simp
     refine ag 4 (.int .i64 (f':Nat)) rfl (by kernel_rfl) (fun _ _ _ h=>h) rfl (?_) u ?_
     . intro W c;obtain⟨s0,s1⟩:=c;go_simp
     refine ag 5 (.pointer (some ⟨gk,ok+f',none⟩)) rfl (by kernel_rfl) (fun _ _ _ h=>h) rfl (?_) u ?_
     . intro W c;obtain⟨s0,s1⟩:=c;go_simp
     refine ag 6 (.int .i64 (E'.1:Nat)) rfl (by kernel_rfl) (fun _ _ _ h=>h) rfl (?_) u ?_
     . intro W c;obtain⟨s0,s1⟩:=c;go_simp
     refine ag 7 (.int .i64 ((z:Int)-(E'.1:Int))) rfl (by kernel_rfl) (fun _ _ _ h=>h) rfl (?_) u ?_
     . intro W c;obtain⟨s0,s1⟩:=c;go_simp
     refine ag 9 (.int .i64 (f':Nat)) rfl (by kernel_rfl) (fun _ _ _ h=>h) rfl (?_) u ?_
     . intro W c;obtain⟨s0,s1⟩:=c;go_simp
     refine ah 8 (by kernel_rfl) rfl fun C d=>?_;go_simp;go_at_call 268;refine(nd _).mono ?_;rintro e x8 ⟨⟨g8,rfl,o8⟩,b8⟩;have l:Below xa.heap.size xa x8:=ak d3 b8;have cg:=(o8.at rfl (ae ac)).1;rw[ae el]at cg;have bs:=af (Out.kept (ae dd) l);clear o8 b8;refine Shut.out d _ _ (ae R _ (bo l)) (fun e0=>?_);clear d C;refine ah 10 (by kernel_rfl) rfl fun C d=>?_;go_simp;refine Shut.out d _ _ (ae R _ (bo l)) (fun _=>?_);clear d C;refine ah 11 (by kernel_rfl) rfl fun C d=>?_;go_simp;refine Shut.out d _ _ (ae R _ (bo l)) (fun _=>?_);clear d C;refine ah 12 (by kernel_rfl) rfl fun C d=>?_;go_simp;go_at_call 224;refine(ae dq _ (ae bs)).mono ?_;rintro e x9 ⟨rfl,h9,k9⟩;have I:=af (a0b h9 (((KB.refl b xa).below l (a0C (Out.lt (ae dd)))).trans k9));refine Shut.out d _ _ (ae R _ ((bo l).trans k9.2)) (fun _=>?_);clear d C h9 k9;refine wpAnyH_done (by kernel_rfl) ?_ _;have HX:=af (a0b (ae I).1 (a0b ((ae dv).keep (ae I).2.2) ((ae en).trans (ae I).2)));clear I;go_wp2;go_roundw
     case rel=>exact⟨k+1,by omega,by go_num,by rw[ae O,ae a0,ae HE,←ae cr];exact(ae HX).1,(ae HX).2.1,(ae HX).2.2⟩
     case measure=>simp[intOf];omega
   .
    obtain⟨q1,q2⟩:=wP Y;have ch:Hid (t.1.toNat<n):=by
     have:=G;unfold jp at this;rw[a0e Y,ae F]at this;exact this
    have a0:Hid (ci L D t=[pcM L t.1.toNat]):=by show ci L D t=_;unfold ci;rw[a0e Y]
    have ei:t.2.1=0:=by unfold isB at Y;simp only[a0h,a0o]at Y;exact Y.1
    have hx:t.1=((t.1.toNat:Nat):Int):=by omega
    have j:=af (oW b P a (some ⟨g1,0,none⟩) cap n n t.1.toNat L _ (ae ao) (ae F) (ae m).1.1.1 (ae m).2.1.1.1 (ae ch) (ae a3) ((ae s) _ (by rw[ae F];exact ae ch)).1 ((ae s) _ (by rw[ae F];exact ae ch)).2 (by have:=ae q;omega));rw[←hx]at j;generalize t.1.toNat=xN at *
    clear Y A G hx;obtain⟨tx,ty,tz⟩:=t;simp only at ei q1 q2 c0 c1 c2 j m N;subst ei;go_wp2_with fail;refine(ae j).mono ?_;rintro e x7 ⟨rfl,h7,k7⟩;have HX:=af (a0b h7 (a0b ((ae m).keep k7.2) ((ae N).trans k7)));clear h7 k7 j;go_wp2;go_roundw
    case rel=>exact⟨k+1,by omega,by go_num,by rw[ae O,ae a0];exact(ae HX).1,(ae HX).2.1,(ae HX).2.2⟩
    case measure=>simp[intOf];omega
  .
   obtain rfl:k=tn:=by have:=ae HK;omega
   have O:Hid (aW p (T.flatMap (ci L D)++[pcM L 256])=aW (aW p ((T.take k).flatMap (ci L D))) [pcM L 256]):=by
    show aW p _=_;rw[a0A (by rw[ae V];exact a0a _),aZ]
   have q:Hid ((aW p ((T.take k).flatMap (ci L D))).2<=80000):=by
    show _<=_;have h1:=kA L D (T.take k) p (ae s) (ae U) (fun t ht=>(ae b0 t (a2w ht)).2);have h2:(T.take k).length<=k:=List.length_take_le _ _;have h3:=ae Hp;omega
   generalize aW p ((T.take k).flatMap (ci L D))=P at *
   have j:=af (oW b P a (some ⟨g1,0,none⟩) cap n n 256 L _ (ae HO) (ae F) (ae a1).1.1.1 (ae a1).2.1.1.1 (ae M) (ae a3) ((ae s) _ (by rw[ae F];exact ae M)).1 ((ae s) _ (by rw[ae F];exact ae M)).2 (by have:=ae q;omega));go_wp2_with fail;refine(ae j).mono ?_;rintro e x7 ⟨rfl,h7,k7⟩;have HX:=af (a0b h7 ((ae bk).trans k7));clear h7 k7 j;go_wp2
   go_end0
   exact⟨rfl,by rw[ae O];exact(ae HX).1,(ae HX).2⟩
theorem LQ(h:av l=true)(b:k<l.length):pOk ((bi l 15).2.getD k 0) (l.getD k 0)=true:=by
 have hb:=lE (fO h) b;rw[uG h b];by_cases a:1<=l.getD k 0
 . rw[a0e a];have:=(pp h b a).1;exact aR.2 ⟨⟨hb.1,by omega⟩,by omega,by omega⟩
 .
  rw[a0d a];have e:l.getD k 0=0:=by omega
  rw[e];decide
theorem dx(h:av l=true):lA l:=by
 intro k a;have hb:=lE (fO h) a;obtain⟨_,c0,c1⟩:=aR.1 (LQ h a);refine⟨hb,c0,?_⟩;have b:p2 (l.getD k 0).toNat<=p2 15:=a0K (by omega) (by omega);have h2:p2 15=32768:=by decide
 omega
theorem M2(gL:lA L)(gD:lA D){t:Tk}(c:okT t=true)(a:jp L D t):aY (ci L D t)=true:=by
 unfold ci;unfold jp at a;unfold aY
 split
 . rename_i h;rw[a0e h]at a;simp only[a18,a2N,a2S];exact nG (gL _ a).1
 .
  rename_i h;rw[a0d h]at a;have d:isK t=true:=by unfold okT at c;simp only[a1B]at c;rcases c with b|b;exact absurd b h;exact b
  obtain⟨y0,y1,z0,z1⟩:=BU d;simp only[a18,a2N,a2S,a0h];exact⟨nG (gL _ a.1).1,Af _ (by omega) (by omega),nG (gD _ a.2).1,Ae _ (by omega) (by omega)⟩
theorem yl(gL:lA L)(gD:lA D)(T:List Tk)(h:∀t∈T,okT t=true/\jp L D t):aY (T.flatMap (ci L D))=true/\(T.flatMap (ci L D)).length<=4*T.length:=by
 induction T with
 | nil=>exact⟨rfl,by simp⟩
 | cons t r ih=>
  obtain⟨b,h2⟩:=ih (fun x e=>h x (by simp[e]));obtain⟨c,a⟩:=h t (by simp);have f:=(vz L D t gL gD a).2;refine⟨?_,by simp only[a07,a0m,a0B];omega⟩;have d:=M2 gL gD c a;unfold aY at *
  rw[a07,a17,d,b];rfl
theorem vQ(L:List UInt8):∀n p,L.length-p<=n->∀t∈cG L p,okT t=true:=by
 intro n;induction n with
 | zero=>
  intro p b t a;rw[fe (by omega)]at a;cases a
 | succ n ih=>
  intro p b t a;by_cases h:p<L.length
  .
   rw[jb h]at a;rcases a1a.1 a with rfl|a
   . exact Nn L p
   . exact ih (p+jl L p) (by have:=(gW L p).1;omega) t a
  . rw[fe h]at a;cases a
theorem gh(s:ByteArray):∀t∈cG s.data.toList 0,okT t=true:=vQ s.data.toList s.data.toList.length 0 (by omega)
def iQ:List Int:=List.replicate 32 5
theorem j6:av (bT 288)=true:=by decide +kernel
theorem oA:av iQ=true:=by decide +kernel
theorem mw{t:Tk}(_:okT t=true):jp (bT 288) iQ t:=by
 unfold jp
 split
 . rename_i hB;have:=wP hB;rw[dA];omega
 . have a:=iM 3 4 t.2.1.toNat 27;have h2:=iM 1 2 t.2.2.toNat 29;rw[dA];exact⟨by omega,by show _<(List.replicate 32 (5:Int)).length;rw[a0z];omega⟩
def kz(s:ByteArray):List (Int×Int):=[(1,1),(1,2)]++((cG s.data.toList 0).flatMap (ci (bT 288) iQ)++[pcM (bT 288) 256])
theorem jc(s:ByteArray)(b:s.size<=300):(cG s.data.toList 0).length<=300:=by
 have h2:=GV s.data.toList s.data.toList.length 0 (by omega);have a:s.data.toList.length=s.size:=by simp
 omega
theorem wF(s:ByteArray)(f:s.size<=300):lOk (kz s)=true:=by
 obtain⟨b,h2⟩:=yl (dx j6) (dx oA) (cG s.data.toList 0) (fun t a=>⟨gh s t a,mw (gh s t a)⟩);have g:=jc s f;have c:pOk (pcM (bT 288) 256).1 (pcM (bT 288) 256).2=true:=nG (dx j6 256 (by rw[dA];omega)).1;unfold lOk;have d:aY (kz s)=true:=by
  unfold kz;unfold aY at *
  rw[a17,a17,b];simp only[a18,a2N,c];decide
 have e:(kz s).length<=4000:=by unfold kz;simp only[a0m,a0B,a0Q];omega
 rw[d];simpa using e
def fp(s:ByteArray):List UInt8:=cm (kz s)
theorem yT(s:ByteArray)(w:World)(p:s.size<=300) :
  CD 185 #[.string s] w (.string ⟨(fp s).toArray⟩):=by
 have B:Hid (jg (w.alloc (.cells #[.slice none 0 0,.int .i64 0,.int .i64 0] 294)) w.heap.size (0,0)):=xd w 294;have d:Hid (KB w.heap.size w (w.alloc (.cells #[.slice none 0 0,.int .i64 0,.int .i64 0] 294))):=(KB.refl _ _).below ((a0c _ _).alloc (a0a _) _) (a0a _);have r:=af p;have u:Hid (aW (aW (aW (0,0) [(1,1)]) [(1,2)]) ((cG s.data.toList 0).flatMap (ci (bT 288) iQ)++[pcM (bT 288) 256])=aX (kz s)):=by
  show aW _ _=_;rw[←aZ,←aZ];rfl
 have H:Hid ((aX (kz s)).2<=90000):=by
  show _<=_;rw[←ae u,aZ];have N:=kA (bT 288) iQ (cG s.data.toList 0) (aW (aW (0,0) [(1,1)]) [(1,2)]) (dx j6) (dx oA) (fun t g=>mw (gh s t g));have h2:=dB (aW (aW (aW (0,0) [(1,1)]) [(1,2)]) ((cG s.data.toList 0).flatMap (ci (bT 288) iQ))) [pcM (bT 288) 256] (fun x D=>by simp only[a1a,a1Y,a1L]at D;subst D;have:=(dx j6 256 (by rw[dA];omega)).1.2;show(bT 288).getD 256 0<=16;omega);have O:=jc s p;have P:(aW (aW (0,0) [(1,1)]) [(1,2)]).2=3:=rfl;simp only[a0B,a0Q]at h2;omega
 clear p;go_enter func185,ntmps185;go_wp2_with fail;refine(ez _ _ 1 1 _ (ae B) (by decide) (by show(0:Nat)<=_;omega)).mono ?_;rintro e x1 ⟨rfl,o1,h⟩;have m:=af (a0b o1 ((ae d).trans h));clear o1 h B d;go_wp2_with fail;refine(ez _ _ 1 2 _ (ae m).1 (by decide) (by show(1:Nat)<=_;omega)).mono ?_;rintro e x2 ⟨rfl,o2,i⟩;have n:=af (a0b o2 ((ae m).2.trans i));have a:Hid (w.heap.size<x2.heap.size):=Out.lt o2;clear o2 i m;go_wp2_with fail;refine(oB s _ (by have:=ae r;omega)).mono ?_;rintro e x3 ⟨v3,rfl,o3,z⟩;obtain⟨tn,htn⟩:∃tn,(cG s.data.toList 0).length=tn:=⟨_,rfl⟩;obtain⟨a3,c3,rfl⟩:=o3.formN htn;have N3:=af (FE htn o3 (ae a));have j:=af z;clear o3 z;go_wp2_with fail;refine(qC _).mono ?_;rintro e x4 ⟨v4,rfl,o4,o⟩;obtain⟨a4,c4,rfl⟩:=o4.formN (dA 288);have N4:=af (eQ (dA 288) o4 (a0j (ae a) (ae j).size));have N3':=af ((ae N3).keep (bo o));have k:=af (ak (ae j) o);clear o4 o N3 j;go_wp2_with fail;refine(qB _).mono ?_;rintro e x5 ⟨v5,rfl,o5,f⟩;have b:(List.replicate 32 (5:Int)).length=32:=a0z;obtain⟨a5,J,rfl⟩:=o5.formN b;have N5:=af (eQ b o5 (a0j (ae a) (ae k).size));have N3:=af ((ae N3').keep (bo f));have N4':=af ((ae N4).below f);have l:=af (ak (ae k) f);have O5:=af (Out.kept (ae n).1 (ae l));have y:=af ((ae n).2.below (ae l) (a0C (ae a)));have q:Hid ((tn:Int)<=300):=by show(tn:Int)<=300;have:=jc s (ae r);omega
 have c:=af (qQ w.heap.size (aW (aW (0,0) [(1,1)]) [(1,2)]) a3 a4 a5 c3 tn c4 288 J 32 (cG s.data.toList 0) (bT 288) iQ x5 (ae O5) (ae N3) (ae N4') (ae N5) htn (dA 288) b (by omega) (by omega) (dx j6) (dx oA) (by omega) (ae q) (by show(3:Nat)<=10000;omega) (fun t g=>⟨gh s t g,mw (gh s t g)⟩));rw[ae u]at c;clear o5 f N3' N4 N5 k b htn;go_wp2_with fail;refine(ae c).mono ?_;rintro e x6 ⟨rfl,o6,E⟩;have I:=af ((ae y).trans E).1;have O6:=af o6;clear o6 E c N3 N4' O5 y l n;go_wp2_with fail;refine(kW _ _ _ _ (ae O6) (ae H)).mono ?_;rintro e x7 ⟨rfl,K,A⟩;obtain⟨_,v,T,Y⟩:=K;have e8:8*(((aX (kz s)).2+7)/8)/8=((aX (kz s)).2+7)/8:=by omega
 rw[e8]at Y;have Y':Bys x7 w.heap.size v (fp s):=Y;have M:=kw Y';have F:=af ((ae I).trans A);obtain⟨k0,h,i,f0,f1,f2,L⟩:=T;clear Y Y' e8 h i A O6;generalize C:fp s=R at *
 have G:=af C;clear C;go_wp2;go_ret;exact⟨by rw[ae G];rfl,ae F⟩
def sq(s:ByteArray):List UInt8:=if s.size<=300 then fp s else []
def byS(s:ByteArray):ByteArray:=⟨(jH s.data.toList).toArray⟩
def byF(s:ByteArray):ByteArray:=⟨(sq s).toArray⟩
theorem xH(s:ByteArray)(h:¬ s.size<=300):byS s=⟨#[]⟩:=by
 have:jH s.data.toList=[]:=by unfold jH;rw[a0d (by rw[jy];exact h)]
 unfold byS;rw[this]
theorem xF(s:ByteArray)(h:¬ s.size<=300):byF s=⟨#[]⟩:=by unfold byF sq;rw[a0d h]
def inc(o:List Int)(k:Nat):List Int:=o.set k (o.getD k 0+1)
def jh(o:List Int)(s:List Nat):List Int:=s.foldl inc o
theorem iv(o:List Int)(k:Nat):(inc o k).length=o.length:=by simp[inc]
theorem fZ(o:List Int)(s:List Nat):(jh o s).length=o.length:=by
 induction s generalizing o with
 | nil=>rfl
 | cons x s ih=>show(jh (inc o x) s).length=_;rw[ih,iv]
theorem pF(o:List Int)(s:List Nat)(x:Nat):jh o (s++[x])=inc (jh o s) x:=by simp[jh]
theorem kF(o:List Int)(k j:Nat):(inc o k).getD j 0=o.getD j 0+(if j=k/\k<o.length then 1 else 0):=by
 unfold inc;simp only[List.getD_eq_getElem?_getD,List.getElem?_set];by_cases h:k=j
 .
  subst h;by_cases a:k<o.length
  . simp[a]
  . simp[a]
 . have:¬ j=k:=fun e=>h e.symm;simp[h,this]
theorem jZ(o:List Int)(s:List Nat)(j:Nat):(jh o s).getD j 0=o.getD j 0+(if j<o.length then(s.count j:Int)else 0):=by
 induction s generalizing o with
 | nil=>simp[jh]
 | cons x s ih=>
  show(jh (inc o x) s).getD j 0=_;rw[ih,kF,iv,List.count_cons];by_cases h:j=x
  .
   subst h;by_cases a:j<o.length
   . simp[a];omega
   . simp[a]
  .
   have:(x == j)=false:=by simp;exact fun e=>h e.symm
   simp[h,this]
theorem F3{a b:List Int}(d:a.length=b.length)(h:∀j,j<a.length->a.getD j 0=b.getD j 0):a=b:=by
 apply a2H d;intro i c h2;have:=h i c;simpa[List.getD,c,h2]using this
theorem gK(n j:Nat):(List.replicate n (0:Int)).getD j 0=0:=by
 by_cases h:j<n<;>simp[List.getD,h]
theorem xp   (hk : k < l.length) (h : 0 < l.getD k 0) : 1 ≤ us l := by
  induction l generalizing k with
  | nil => simp at hk
  | cons b l ih =>
    simp only [us, a0E, a0N] at ih ⊢
    cases k with
    | zero => have : 0 < b := by simpa using h
              rw [a0e this]; omega
    | succ k => have := ih (k := k) (by simpa using hk) (by simpa using h); omega
theorem Nu(h:us l=0)(k:Nat)(a:k<l.length):¬ 0<l.getD k 0:=fun b=>by have:=xp a b;omega
def kM(t:Tk):Nat:=if isB t then t.1.toNat else 257+fnd 3 4 t.2.1.toNat 27
def fV(t:Tk):List Nat:=if isB t then []else [fnd 1 2 t.2.2.toNat 29]
theorem Mz{t:Tk}(_:okT t=true):kM t<286:=by
 unfold kM
 split
 . rename_i hB;have:=wP hB;omega
 . have:=iM 3 4 t.2.1.toNat 27;omega
theorem IP{t:Tk} : ∀x∈fV t,x<30:=by
 unfold fV;intro x a
 split at a
 . simp at a
 . have:=iM 1 2 t.2.2.toNat 29;simp at a;omega
def jj(T:List Tk):List Int:=inc (jh (List.replicate 286 0) (T.map kM)) 256
def fK(T:List Tk):List Int:=jh (List.replicate 30 0) (T.flatMap fV)
def dG(T:List Tk):List Int:=if us (fK T)=0 then inc (fK T) 0 else fK T
theorem gT(T:List Tk):(jj T).length=286:=by unfold jj;rw[iv,fZ,a0z]
theorem eJ(T:List Tk):(fK T).length=30:=by unfold fK;rw[fZ,a0z]
theorem iA(T:List Tk):(dG T).length=30:=by unfold dG;split;rw[iv,eJ];exact eJ T
theorem oE(T:List Tk)(j:Nat)(a:j<286):(jj T).getD j 0=((T.map kM).count j:Int)+(if j=256 then 1 else 0):=by
 unfold jj;rw[kF,jZ,fZ,a0z,gK,a0e a];by_cases h:j=256<;>simp[h]
theorem pr(T:List Tk)(j:Nat)(a:j<30):(fK T).getD j 0=((T.flatMap fV).count j:Int):=by
 unfold fK;rw[jZ,a0z,gK,a0e a];simp
theorem Cl(T:List Tk):jh (inc (List.replicate 286 0) 256) (T.map kM)=jj T:=by
 apply F3
 . rw[fZ,iv,gT,a0z]
 . intro j a;rw[fZ,iv,a0z]at a;rw[oE T j a,jZ,kF,iv,a0z,gK,a0e a];by_cases h:j=256<;>simp[h];omega
theorem ym(T:List Tk):(T.flatMap fV).length<=T.length:=by
 induction T with
 | nil=>simp
 | cons t r ih=>
  have:(fV t).length<=1:=by unfold fV;split<;>simp
  simp only[a07,a0m,a0B];omega
theorem Ee(T:List Tk)(c:T.length<=300):okC (jj T):=by
 intro i a;rw[gT]at a;rw[oE T i a];have b:(T.map kM).count i<=(T.map kM).length:=a3i;rw[a1o]at b
 split<;>omega
theorem IM(T:List Tk)(c:T.length<=300):∀i,i<30->0<=(fK T).getD i 0/\(fK T).getD i 0<=300:=by
 intro i a;rw[pr T i a];have b:(T.flatMap fV).count i<=(T.flatMap fV).length:=a3i;have h2:=ym T;omega
theorem xW(T:List Tk)(b:T.length<=300):okC (dG T):=by
 intro i a;rw[iA]at a;have:=IM T b i a;unfold dG
 split
 . rw[kF];split<;>omega
 . omega
theorem Ef(T:List Tk):1<=us (jj T)/\us (jj T)<=286:=by
 refine⟨xp (k:=256) (by rw[gT];omega) ?_,by have:=AF (jj T);rw[gT]at this;exact this⟩;rw[oE T 256 (by omega),a0e rfl];omega
theorem xX(T:List Tk):1<=us (dG T)/\us (dG T)<=30:=by
 refine⟨?_,by have:=AF (dG T);rw[iA]at this;exact this⟩;unfold dG
 split
 . rename_i h;refine xp (k:=0) (by rw[iv,eJ];omega) ?_;rw[kF,pr T 0 (by omega),eJ,a0e (by omega)];omega
 . omega
theorem Fh(T:List Tk)(j:Nat)(h:0<(fK T).getD j 0):0<(dG T).getD j 0:=by
 unfold dG
 split
 . rw[kF];split<;>omega
 . exact h
def fQ(l:List Int)(least:Nat):Nat->Nat
 | 0=>0
 | n+1=>if least<n+1/\l.getD n 0=0 then fQ l least n else n+1
def ou(l:List Int)(least:Nat):List Int:=l.take (fQ l least l.length)
theorem uH{least:Nat}(h:least<n+1/\l.getD n 0=0):fQ l least (n+1)=fQ l least n:=by simp only[fQ];rw[a0e h]
theorem uI{least:Nat}(h:¬ (least<n/\l.getD (n-1) 0=0)):fQ l least n=n:=by
 cases n with
 | zero=>rfl
 | succ n=>rw[Nat.add_sub_cancel]at h;simp only[fQ];rw[a0d h]
theorem rt(l:List Int)(least n:Nat):fQ l least n<=n:=by
 induction n with
 | zero=>exact a0a _
 | succ n ih=>simp only[fQ];split<;>omega
theorem sf (l : List Int) (least n : Nat) (h : least ≤ n) : least ≤ fQ l least n := by
  induction n with
  | zero => exact h
  | succ n ih => simp only [fQ]; split
                 . exact ih (by omega)
                 . exact h
theorem uJ(l:List Int)(least n j:Nat)(a:fQ l least n<=j)(h2:j<n):l.getD j 0=0:=by
 induction n with
 | zero=>omega
 | succ n ih=>
  by_cases b:least<n+1/\l.getD n 0=0
  .
   rw[uH b]at a;by_cases e:j=n
   . subst e;exact b.2
   . exact ih a (by omega)
  . simp only[fQ]at a;rw[a0d b]at a;omega
theorem jU(l:List Int)(least:Nat):(ou l least).length=fQ l least l.length:=by
 unfold ou;rw[a0v];have:=rt l least l.length;omega
theorem Le(l:List Int)(c j:Nat)(h:j<c):(l.take c).getD j 0=l.getD j 0:=by
 simp[List.getD,h]
theorem xQ(l:List Int)(least j:Nat)(h:j<l.length):(ou l least).getD j 0=l.getD j 0:=by
 by_cases a:j<fQ l least l.length
 . exact Le l _ j a
 .
  rw[uJ l least l.length j (by omega) h];have:(ou l least).length<=j:=by rw[jU];omega
  simp[List.getD,this]
theorem Ho(h:∀x∈l,x=0):kr l=0/\us l=0:=by
 induction l with
 | nil=>exact⟨rfl,rfl⟩
 | cons b l ih=>
  obtain⟨a,h2⟩:=ih (fun x c=>h x (by simp[c]));have hb:b=0:=h b (by simp);subst hb;simp only[kr,us,a0E,a0N]at a h2 ⊢;rw[a,h2];exact⟨rfl,rfl⟩
theorem IK(l:List Int)(least:Nat):kr (ou l least)=kr l/\us (ou l least)=us l:=by
 have h:∀x∈l.drop (fQ l least l.length),x=0:=by
  intro x c;obtain⟨i,b,rfl⟩:=List.mem_iff_getElem.1 c;rw[List.getElem_drop];rw[a0X]at b;have:=uJ l least l.length (fQ l least l.length+i) (by omega) (by omega);have a:fQ l least l.length+i<l.length:=by omega
  simpa[List.getD,a]using this
 obtain⟨d,h2⟩:=Ho h;have e:l=ou l least++l.drop (fQ l least l.length):=(a1E _ _).symm;have f:kr l=kr (ou l least)+kr (l.drop (fQ l least l.length)):=by
  conv=>lhs;rw[e]
  simp[kr]
 have g:us l=us (ou l least)+us (l.drop (fQ l least l.length)):=by
  conv=>lhs;rw[e]
  simp[us]
 omega
theorem sY(least:Nat)(h:av l=true):av (ou l least)=true:=by
 obtain⟨b,h2⟩:=IK l least;unfold av kV at h ⊢;rw[b,h2];simp only[a0h,a0o]at h ⊢;obtain⟨⟨a,hb⟩,c⟩:=h;refine⟨⟨?_,by rw[jU];have:=rt l least l.length;omega⟩,c⟩;unfold inL at a ⊢;rw[a05]at a ⊢;intro x d;exact a x (a2w d)
def de(T:List Tk):List Int:=ou (fR 15 (jj T)) 257
def dS(T:List Tk):List Int:=ou (fR 15 (dG T)) 1
theorem Kq:p2 14=16384:=by decide
theorem Pq:p2 6=64:=by decide
theorem My(T:List Tk)(a:T.length<=300):(fR 15 (jj T)).length=286/\av (fR 15 (jj T))=true/\∀i,i<286->0<=(fR 15 (jj T)).getD i 0/\(fR 15 (jj T)).getD i 0<=15/\(0<(fR 15 (jj T)).getD i 0<->0<(jj T).getD i 0):=by
 have b:=Ef T;have h:=s9 (m:=14) (Ee T a) (by rw[gT];omega) (by rw[gV];omega) (by rw[gV];have h2:=Kq;omega) (by omega);rw[gT]at h;exact h
theorem DU(T:List Tk)(a:T.length<=300):(fR 15 (dG T)).length=30/\av (fR 15 (dG T))=true/\∀i,i<30->0<=(fR 15 (dG T)).getD i 0/\(fR 15 (dG T)).getD i 0<=15/\(0<(fR 15 (dG T)).getD i 0<->0<(dG T).getD i 0):=by
 have b:=xX T;have h:=s9 (m:=14) (xW T a) (by rw[iA];omega) (by rw[gV];omega) (by rw[gV];have h2:=Kq;omega) (by omega);rw[iA]at h;exact h
theorem oN(T:List Tk)(b:T.length<=300):257<=(de T).length/\(de T).length<=286:=by
 obtain⟨a,_,_⟩:=My T b;unfold de;rw[jU,a];exact⟨sf _ _ _ (by omega),rt _ _ _⟩
theorem oM(T:List Tk)(b:T.length<=300):1<=(dS T).length/\(dS T).length<=30:=by
 obtain⟨a,_,_⟩:=DU T b;unfold dS;rw[jU,a];exact⟨sf _ _ _ (by omega),rt _ _ _⟩
theorem iz(T:List Tk)(a:T.length<=300):av (de T)=true:=sY 257 (My T a).2.1
theorem jv(T:List Tk)(a:T.length<=300):av (dS T)=true:=sY 1 (DU T a).2.1
theorem BM{j:Nat}(h:0<l.getD j 0):j<l.length:=by
 rcases a08 j l.length with a|a
 . exact a
 . simp[List.getD,a]at h
theorem zL(T:List Tk)(d:T.length<=300)(k:Nat)(b:k=256∨k∈T.map kM)(a:k<286):0<(de T).getD k 0:=by
 obtain⟨e,_,c⟩:=My T d;unfold de;rw[xQ _ _ _ (by omega)];refine(c k a).2.2.2 ?_;rw[oE T k a];rcases b with rfl|b
 . rw[a0e rfl];omega
 .
  have:=List.count_pos_iff.2 b
  split<;>omega
theorem Kh(T:List Tk)(c:T.length<=300)(k:Nat)(d:k∈T.flatMap fV)(a:k<30):0<(dS T).getD k 0:=by
 obtain⟨e,_,b⟩:=DU T c;unfold dS;rw[xQ _ _ _ (by omega)];refine(b k a).2.2.2 (Fh T k ?_);rw[pr T k a];have:=List.count_pos_iff.2 d;omega
theorem Es(T:List Tk)(c:T.length<=300)(a:∀t∈T,okT t=true)(t:Tk)(b:t∈T):0<(de T).getD (kM t) 0/\∀k∈fV t,0<(dS T).getD k 0:=by
 refine⟨zL T c _ (.inr (a2W b)) (Mz (a t b)),fun k d=>Kh T c k ?_ (IP k d)⟩;exact List.mem_flatMap.2 ⟨t,b,d⟩
theorem tu(T:List Tk)(c:T.length<=300)(b:∀t∈T,okT t=true)(t:Tk)(d:t∈T):jp (de T) (dS T) t:=by
 obtain⟨a,h2⟩:=Es T c b t d;unfold jp;unfold kM at a;unfold fV at h2
 split
 . rename_i h;rw[a0e h]at a;exact BM a
 . rename_i h;rw[a0d h]at a h2;exact⟨BM a,BM (h2 _ (by simp))⟩
def q7(A:List Int):List Int:=jh (List.replicate 19 0) (A.map Int.toNat)
def bl(A:List Int):List Int:=fR 7 (q7 A)
theorem iI(A:List Int):(q7 A).length=19:=by unfold q7;rw[fZ,a0z]
theorem r9(A:List Int)(j:Nat)(a:j<19):(q7 A).getD j 0=((A.map Int.toNat).count j:Int):=by
 unfold q7;rw[jZ,a0z,gK,a0e a];simp
theorem DN(A:List Int)(c:A.length<=400):okC (q7 A):=by
 intro i a;rw[iI]at a;rw[r9 A i a];have b:(A.map Int.toNat).count i<=(A.map Int.toNat).length:=a3i;rw[a1o]at b;omega
theorem DO(A:List Int)(a:0<A.length)(b:∀x∈A,0<=x/\x<=15):1<=us (q7 A)/\us (q7 A)<=19:=by
 refine⟨?_,by have:=AF (q7 A);rw[iI]at this;exact this⟩;have c:=b A[0] (a1Q a);refine xp (k:=(A[0]).toNat) (by rw[iI];omega) ?_;rw[r9 A _ (by omega)];have:=List.count_pos_iff.2 (a2W (f:=Int.toNat) (a1Q a));omega
theorem wV(A:List Int)(a:0<A.length)(b:A.length<=400)(c:∀x∈A,0<=x/\x<=15):(bl A).length=19/\av (bl A)=true/\∀i,i<19->0<=(bl A).getD i 0/\(bl A).getD i 0<=7/\(0<(bl A).getD i 0<->0<(q7 A).getD i 0):=by
 have d:=DO A a c;have h:=s9 (m:=6) (DN A b) (by rw[iI];omega) (by rw[gV];omega) (by rw[gV];have h2:=Pq;omega) (by omega);rw[iI]at h;exact h
theorem FW(A:List Int)(c:0<A.length)(d:A.length<=400)(a:∀x∈A,0<=x/\x<=15)(x:Int)(b:x∈A):0<(bl A).getD x.toNat 0:=by
 have e:=a x b;refine((wV A c d a).2.2 x.toNat (by omega)).2.2.2 ?_;rw[r9 A _ (by omega)];have:=List.count_pos_iff.2 (a2W (f:=Int.toNat) b);omega
def dT(L D:List Int):List (Int×Int):=
 [((L.length:Int)-257,5),((D.length:Int)-1,5),(15,4)]++(bp.map (fun i=>((bl (L++D)).getD i 0,(3:Int)))++(L++D).map (fun x=>pcM (bl (L++D)) x.toNat))
def kO(T:List Tk):List (Int×Int):=[(1,1),(2,2)]++(dT (de T) (dS T)++(T.flatMap (ci (de T) (dS T))++[pcM (de T) 256]))
theorem mB(h:av l=true):∀x∈l,0<=x/\x<=15:=by
 intro x b;obtain⟨i,a,rfl⟩:=List.mem_iff_getElem.1 b;have:=lE (fO h) a;simpa[List.getD,a]using this
theorem Av(g:av L=true)(f:av D=true)(l0:257<=L.length)(l1:L.length<=286)(m:1<=D.length)(n:D.length<=30):aY (dT L D)=true/\(dT L D).length<=338:=by
 have c:∀x∈L++D,0<=x/\x<=15:=by
  intro x b;rcases a1b.1 b with h|h
  . exact mB g x h
  . exact mB f x h
 obtain⟨d,h2,e⟩:=wV (L++D) (by rw[a0m];omega) (by rw[a0m];omega) c;refine⟨?_,?_⟩
 .
  unfold dT aY;rw[a17,a17];simp only[a0h];refine⟨?_,?_,?_⟩
  .
   simp only[a18,a2N,a2S,a0h];refine⟨aR.2 ⟨by omega,by omega,?_⟩,aR.2 ⟨by omega,by omega,?_⟩,by decide⟩
   .
    have:p2 (5:Int).toNat=32:=by decide
    rw[this];omega
   .
    have:p2 (5:Int).toNat=32:=by decide
    rw[this];omega
  .
   rw[a05];intro x b;obtain⟨i,j,rfl⟩:=a2L.1 b;have a:i<19:=by
    have:∀i∈bp,i<19:=by decide
    exact this i j
   have:=e i a;refine aR.2 ⟨by omega,this.1,?_⟩;have:p2 (3:Int).toNat=8:=by decide
   rw[this];omega
  . rw[a05];intro x b;obtain⟨y,k,rfl⟩:=a2L.1 b;have l:=c y k;exact nG (lE (fO h2) (by rw[d];omega))
 . unfold dT;simp only[a0m,a1o,a0B,a0Q];have:bp.length=19:=rfl;omega
theorem xe(T:List Tk)(a:T.length<=300)(b:∀t∈T,okT t=true):lOk (kO T)=true:=by
 have gL:=dx (iz T a);have gD:=dx (jv T a);obtain⟨l0,l1⟩:=oN T a;obtain⟨d,e⟩:=oM T a;obtain⟨f,h2⟩:=yl gL gD T (fun t c=>⟨b t c,tu T a b t c⟩);obtain⟨t1,t2⟩:=Av (iz T a) (jv T a) l0 l1 d e;have g:pOk (pcM (de T) 256).1 (pcM (de T) 256).2=true:=nG (gL 256 (by omega)).1;unfold lOk;have h:aY (kO T)=true:=by
  unfold kO;unfold aY at *
  rw[a17,a17,a17,f,t1];simp only[a18,a2N,g];decide
 have i:(kO T).length<=4000:=by unfold kO;simp only[a0m,a0B,a0Q];omega
 rw[h];simpa using i
def pN(s:ByteArray):List UInt8:=cm (kO (cG s.data.toList 0))
theorem sT(g o:Nat)(cap n least:Nat)(l:List Int)(w:World)(G:l.length=n)(h:∀i,i<n->w.cell? ⟨g,o+i,none⟩=some (.int .i64 (l.getD i 0)))(v:n<=cap)(E:n<=300)(D:least<=n) :
  Calls prog 229 #[.slice (some ⟨g,o,none⟩) n cap,.int .i64 (least:Nat)] w fun e w'=>e = .returned (.slice (some ⟨g,o,none⟩) (fQ l least n) cap)/\w'=w:=by
 have A:(n:Int)<=(cap:Int):=by omega
 have F:(n:Int)<=300:=by omega
 have H:=af h;clear h G v E D;go_enter func229,ntmps229;go_wp2
 go_loop [5] (fun x=>∃k:Nat,k<=n/\x = .int .i64 k/\fQ l least n=fQ l least k) (fun x=>(intOf x).toNat)
 case atStart=>exact⟨n,a0a _,rfl,rfl⟩
 case round=>
  obtain⟨k,q,rfl,c⟩:=hrel;have f:=af c;have p:=af q;have C:(k:Int)<=(n:Int):=by omega
  clear c q;by_cases b:least<k
  .
   have r:decide ((least:Int)<(k:Int))=true:=a0y (by omega);have d:(least:Int)<(k:Int):=by omega
   obtain⟨j,hj⟩:∃j,k=j+1:=⟨k-1,by omega⟩;subst hj;have z:=ae H j (by have:=ae p;omega);have J:=af (fun h=>uH (l:=l) (least:=least) (n:=j) h);have I:=af (fun h=>uI (l:=l) (least:=least) (n:=j+1) h);have B:(j:Int)<(n:Int):=by omega
   generalize s:l.getD j 0=y at *
   have u:=af s;clear s;by_cases m:y=0
   .
    subst m;have a:Hid (fQ l least n=fQ l least j):=(ae f).trans (ae J ⟨b,rfl⟩);have t:Hid (j<=n):=by show j<=n;have:=ae p;omega
    clear b;go_wp2
    go_round
    case rel=>exact⟨j,ae t,by go_num,ae a⟩
    case measure=>simp[intOf]
   .
    have K:(y == 0)=false:=by simpa using m
    have a:Hid (fQ l least n=j+1):=(ae f).trans (ae I (by rw[Nat.add_sub_cancel,ae u];exact fun h=>m h.2));clear b;go_wp2;go_ret;exact⟨by rw[ae a];rfl,rfl⟩
  .
   have d:¬ (least:Int)<(k:Int):=by omega
   have a:Hid (fQ l least n=k):=(ae f).trans (uI (fun h=>b h.1));clear b;go_wp2;go_ret;exact⟨by rw[ae a];rfl,rfl⟩
end Go.Proofs.YtlpmnnjlmjffpaaGreatDoor
namespace Go.Proofs.YtlpmnnjlmjffpaaGreatDoor
open Go.Proofs.Tryz
open Go.RowKit Go.Shelf Corb
attribute [local go_sem] Oper.semAt_some
theorem lB{W W':World}(h:W.grownBy W' none):Below W.heap.size W W':=(a0c _ _).grown h (a0a _) (fun j a=>by cases a)
theorem Ea(n:Nat)(l:List Nat)(k:Nat):0<=(jh (List.replicate n 0) l).getD k 0/\(jh (List.replicate n 0) l).getD k 0<=(l.length:Int):=by
 rw[jZ,gK];have:l.count k<=l.length:=a3i
 split<;>omega
end Go.Proofs.YtlpmnnjlmjffpaaGreatDoor
namespace Go.Proofs.YtlpmnnjlmjffpaaGreatDoor
open Go.Proofs.Tryz
open Go.RowKit Corb
variable {A D l:List Int}{B c4 c6 g4 g6 gd gl n:Nat}{W w:World}{a:Option Addr}
theorem ay.cut{base m cap:Nat}(j:l.length=n)(h:ay w base (.slice a n cap) l)(p:m<=n)(k:0<n):ay w base (.slice a m cap) (l.take m):=by
 subst j;rcases h.2 with⟨_,e⟩|⟨g,c,b,e,hb,i,o,h2,d,f⟩
 . omega
 .
  simp only[a0L]at e;obtain⟨rfl,_,rfl⟩:=e;refine⟨by simp,.inr ⟨g,cap,b,by rw[a0v];congr 1;omega,hb,i,by rw[a0v];omega,h2,d,?_⟩⟩;rw[a0v,List.map_take,←f,a2O]
  congr 1
  omega
theorem ay.cap{base cap g:Nat}(h:ay w base (.slice (some ⟨g,0,none⟩) n cap) l):n<=cap/\cap<=maxLen:=by
 rcases h.2 with⟨e,_⟩|⟨g',a,b,e,hb,i,c,h2,d,f⟩
 . cases e
 . simp only[a0L]at e;obtain⟨_,rfl,rfl⟩:=e;exact⟨c,h2⟩
def ij(L D:List Int):List (Int×Int):=[((L.length:Int)-257,5),((D.length:Int)-1,5),(15,4)]
def jG(l:List Int)(k:Nat):List (Int×Int):=(bp.take k).map fun i=>(l.getD i 0,(3:Int))
theorem Gr(l:List Int)(k:Nat)(h:k<19):jG l (k+1)=jG l k++[(l.getD (bp.getD k 0) 0,3)]:=by
 unfold jG;have a:k<bp.length:=h;rw[a1r a,a06];simp[List.getD,a]
theorem zF(l:List Int)(k:Nat)(h:k<=19):(jG l k).length=k:=by unfold jG;have:bp.length=19:=rfl;simp;omega
def hH(T:List Tk)(k:Nat):List Int:=jh (inc (List.replicate 286 0) 256) ((T.take k).map kM)
def fL(T:List Tk)(k:Nat):List Int:=jh (List.replicate 30 0) ((T.take k).flatMap fV)
theorem oF(T:List Tk)(k:Nat):(hH T k).length=286:=by unfold hH;rw[fZ,iv,a0z]
theorem uK(T:List Tk)(k:Nat):(fL T k).length=30:=by unfold fL;rw[fZ,a0z]
theorem nP(T:List Tk)(k:Nat)(h:k<T.length):T.take (k+1)=T.take k++[T.getD k k0]:=by
 rw[a1r h]
 congr 1
 simp[List.getD,h]
theorem F5(T:List Tk)(k:Nat)(h:k<T.length):hH T (k+1)=inc (hH T k) (kM (T.getD k k0)):=by
 unfold hH;rw[nP T k h,a06,List.map_singleton,pF]
theorem F6(T:List Tk):hH T 0=(List.replicate 286 (0:Int)).set 256 1:=by
 unfold hH inc;rw[List.take_zero,gK];rfl
theorem L9(T:List Tk)(k:Nat)(h:k<T.length)(hb:isB (T.getD k k0)=true):fL T (k+1)=fL T k:=by
 unfold fL;rw[nP T k h,a28];have:[T.getD k k0].flatMap fV=[]:=by simp only[a07,a2M,a1k];unfold fV;rw[a0e hb]
 rw[this,a1k]
theorem Ma(T:List Tk)(k:Nat)(h:k<T.length)(hb:isB (T.getD k k0)=false):fL T (k+1)=inc (fL T k) (fnd 1 2 (T.getD k k0).2.2.toNat 29):=by
 unfold fL;rw[nP T k h,a28];have:[T.getD k k0].flatMap fV=[fnd 1 2 (T.getD k k0).2.2.toNat 29]:=by simp only[a07,a2M,a1k];unfold fV;rw[a0d (by rw[hb];exact Bool.false_ne_true)]
 rw[this,pF]
theorem Eg(T:List Tk)(k j:Nat)(a:k<=300):0<=(hH T k).getD j 0/\(hH T k).getD j 0<=301:=by
 unfold hH;rw[jZ,kF,gK];have:((T.take k).map kM).count j<=((T.take k).map kM).length:=a3i;rw[a1o,a0v]at this
 split<;>split<;>omega
theorem xY(T:List Tk)(k j:Nat)(b:k<=300):0<=(fL T k).getD j 0/\(fL T k).getD j 0<=300:=by
 have a:=Ea 30 ((T.take k).flatMap fV) j;have h2:=ym (T.take k);rw[a0v]at h2;unfold fL;omega
theorem Jp{t:Tk}(h:isB t=true):t.2.1=0:=by unfold isB at h;simp only[a0h,a0o]at h;exact h.1
def qY(w W:World)(B gl gd g4 c4 g6 c6:Nat)(A D:List Int):Prop:=
 (ay W w.heap.size (.slice (some ⟨gl,0,none⟩) 286 286) A/\ay W w.heap.size (.slice (some ⟨gd,0,none⟩) 30 30) D)/\(ay W B (.slice (some ⟨g4,0,none⟩) 28 c4) jt/\ay W B (.slice (some ⟨g6,0,none⟩) 30 c6) jm)/\Below w.heap.size w W/\gl≠gd/\gl<B/\gd<B
theorem qY.drew(h:qY w W B gl gd g4 c4 g6 c6 A D):qY w W.drew B gl gd g4 c4 g6 c6 A D:=⟨h.1,h.2.1,h.2.2.1.drew,h.2.2.2⟩
theorem qY.putL(h:qY w W B gl gd g4 c4 g6 c6 A D)(i:A.length=286)(j:Nat)(x:Int):qY w (W.setCell ⟨gl,j,none⟩ (.int .i64 x)) B gl gd g4 c4 g6 c6 (A.set j x) D:=by
 obtain⟨⟨a,h2⟩,⟨b,c⟩,e,d,f,g⟩:=h;have e3:=b.below.1;have e4:=c.below.1;exact⟨⟨a.put i x,h2.setOther d _⟩,⟨b.setOther (by omega) _,c.setOther (by omega) _⟩,aj e a.below.1 _,d,f,g⟩
theorem qY.putD(h:qY w W B gl gd g4 c4 g6 c6 A D)(i:D.length=30)(j:Nat)(x:Int):qY w (W.setCell ⟨gd,j,none⟩ (.int .i64 x)) B gl gd g4 c4 g6 c6 A (D.set j x):=by
 obtain⟨⟨d,h2⟩,⟨a,b⟩,e,c,f,g⟩:=h;have e3:=a.below.1;have e4:=b.below.1;exact⟨⟨d.setOther c.symm _,h2.put i x⟩,⟨a.setOther (by omega) _,b.setOther (by omega) _⟩,aj e h2.below.1 _,c,f,g⟩
theorem wT(ta:Option Addr)(tcap tn:Nat)(T:List Tk)(w:World)(aa:T.length=tn)(hT:Be w ta T)(Z:tn<=300)(V:∀t∈T,okT t=true) :
  Calls prog 228 #[.slice ta tn tcap] w fun e w'=>(∃gl gd,e = .returned (.tuple #[.slice (some ⟨gl,0,none⟩) 286 286,.slice (some ⟨gd,0,none⟩) 30 30])/\ay w' w.heap.size (.slice (some ⟨gl,0,none⟩) 286 286) (jj T)/\ay w' w.heap.size (.slice (some ⟨gd,0,none⟩) 30 30) (dG T))/\Below w.heap.size w w':=by
 obtain⟨i0,hi,ab,ac,ad⟩:=a0w Tryz.infoInt;have u:=af aa;have HT:=af hT;have L:=af Z;have a0:=af V;have be:(tn:Int)<=300:=by omega
 clear aa hT Z V;go_enter func228,ntmps228;go_wp2_with (first
  | (at_make;refine a19 _ rfl _ _ 65 rfl w.heap.size 3 i0 (.int .i64 0) 1 a0I hi ab ac .i64 .i64 _ _ 286 rfl rfl rfl rfl (by rw[ad];omega) (by unfold maxLen;omega) (a0a _) ?_;intro x1 R O;have m:=lB O;have o1:=eT R;clear O R)
  | (at_make;refine a19 _ rfl _ _ 65 rfl w.heap.size 3 i0 (.int .i64 0) 1 a0I hi ab ac .i64 .i64 _ _ 30 rfl rfl rfl rfl (by rw[ad];omega) (by unfold maxLen;omega) m.size ?_;intro x2 S P;have n:=lB P;have o2:=eT S;clear P S))
 have lt1:=o1.below.2;have O1:=af (o1.later n (a0a _));have O2:=af o2;have B2:=af (ak m n);have lt2:=o2.below.2;obtain⟨gl,hgl⟩:∃g,w.heap.size=g:=⟨_,rfl⟩;obtain⟨gd,hgd⟩:∃g,x1.heap.size=g:=⟨_,rfl⟩;have a2:gl≠gd:=by omega
 have v:gl<x2.heap.size:=by omega
 have x:gd<x2.heap.size:=by omega
 rw[hgd]at O2;have K:Hid (ay x2 w.heap.size (.slice (some ⟨gl,0,none⟩) 286 286) (List.replicate 286 0)):=by show ay _ _ _ _;have:=ae O1;rw[hgl]at this ⊢;exact this
 rw[hgd];have eg:Value.slice (some ⟨w.heap.size,0,none⟩) 286 286 = .slice (some ⟨gl,0,none⟩) 286 286:=by rw[hgl]
 rw[eg];clear o1 o2 m n lt1 lt2 O1 eg hgl hgd;refine(nv _).mono ?_;rintro e x3 ⟨⟨g3,rfl,o3⟩,b3⟩;have R3:=af (o3.rowN rfl);have B3:=af b3;clear o3 b3;go_wp2_with fail;refine(iS _ 28 _ (ae R3)).mono ?_;rintro e x4 ⟨v4,rfl,o4,b4⟩;obtain⟨a4,c4,rfl⟩:=o4.formN eS;obtain⟨g4,rfl⟩:=o4.somes (by rw[eS];omega);have O4:=af (o4.mono (ae B3).size);have B4:=af (ak (ae B3) b4);clear o4 b4 B3 R3;go_wp2_with fail;refine(nd _).mono ?_;rintro e x5 ⟨⟨g5,rfl,o5⟩,b5⟩;have R5:=af (o5.rowN rfl);have B5:=af (ak (ae B4) b5);have O4':=af ((ae O4).later b5 (a0a _));clear o5 b5 O4;go_wp2_with fail;refine(iR _ 30 _ (ae R5)).mono ?_;rintro e x6 ⟨v6,rfl,o6,b6⟩;obtain⟨a6,c6,rfl⟩:=o6.formN eH;obtain⟨g6,rfl⟩:=o6.somes (by rw[eH];omega);have X:=(ae B5).size;have O4:ay x6 x2.heap.size (.slice (some ⟨g4,0,none⟩) 28 c4) jt:=(ae O4').later b6 (a0a _);have O6:ay x6 x2.heap.size (.slice (some ⟨g6,0,none⟩) 30 c6) jm:=o6.mono X;have B6:=ak (ae B5) b6;have E:qY w x6 x2.heap.size gl gd g4 c4 g6 c6 (List.replicate 286 0) (List.replicate 30 0):=⟨⟨(ae K).later B6 (a0a _),(ae O2).later B6 (a0a _)⟩,⟨O4,O6⟩,ak (ae B2) B6,a2,v,x⟩;have F:=E.putL (a0z ..) 256 1;have e1:(List.replicate 286 (0:Int)).set 256 1=hH T 0:=(F6 T).symm;rw[e1]at F;have M:qY w (x6.setCell ⟨gl,256,none⟩ (.int .i64 1)) x2.heap.size gl gd g4 c4 g6 c6 (hH T 0) (fL T 0):=F;obtain⟨f1,f2,_,_⟩:=E.1.1.at (j:=256) (a0z ..) (by omega);clear E F e1 O4 O6 B6 b6 o6 K O2 B2 B4 O4' X R5 B5 v x;generalize x2.heap.size=B at *
 go_wp2_with fail
 go_loopw [8,9] (fun i _ wr=>∃k:Nat,k<=tn/\i = .int .i64 k/\qY w wr B gl gd g4 c4 g6 c6 (hH T k) (fL T k)) (fun i _ _=>tn-(intOf i).toNat)
 case atStart=>exact⟨0,a0g _,rfl,M⟩
 case round=>
  obtain⟨k,hk,rfl,l⟩:=hrel;clear M f1 f2;by_cases H:k<tn
  .
   obtain⟨g,o,rfl,hg,N⟩:=(ae HT) (by rw[ae u];omega);obtain⟨c0,c1,c2⟩:=N k (by rw[ae u];exact H);have d0:=(l.2.2.1.cell (p:=⟨g,o+k*3,none⟩) hg).trans c0;have d1:=(l.2.2.1.cell (p:=⟨g,o+k*3+1,none⟩) hg).trans c1;have d2:=(l.2.2.1.cell (p:=⟨g,o+k*3+2,none⟩) hg).trans c2;have a1:g≠gl:=by have:=l.1.1.below.1;omega
   clear c0 c1 c2;have c:k<T.length:=by rw[ae u];exact H
   have Y:=ae a0 (T.getD k k0) (by simp[List.getD,c]);have f:=af (F5 T k c);have a:k<=300:=by have:=ae L;omega
   have Hk:=af H;clear N;cases hb:isB (T.getD k k0)
   .
    have hK:isK (T.getD k k0)=true:=by unfold okT at Y;rw[hb]at Y;simpa using Y
    obtain⟨q1,q2,q3,q4⟩:=BU hK;have r:=af (Ma T k c hb);have e2:kM (T.getD k k0)=257+fnd 3 4 (T.getD k k0).2.1.toNat 27:=by unfold kM;rw[a0d (by rw[hb];exact Bool.false_ne_true)]
    rw[e2]at f;obtain⟨y,hy⟩:=a0r (show 0<=(T.getD k k0).2.1 by omega);obtain⟨z,A⟩:=a0r (show 0<=(T.getD k k0).2.2 by omega);rw[hy]at d1 q1 q2 f;rw[A]at d2 q3 q4 r;rw[a0l]at f r;have C:=af (fun W (h:bu W (some ⟨g4,0,none⟩) jt)=>mx (some ⟨g4,0,none⟩) c4 28 jt (y:Int) W eS h (by omega) (by omega));have D:=af (fun W (h:bu W (some ⟨g6,0,none⟩) jm)=>mx (some ⟨g6,0,none⟩) c6 30 jm (z:Int) W eH h (by omega) (by omega));rw[zi y (by omega) (by omega)]at C;rw[xA z (by omega) (by omega)]at D;have k1:=iM 3 4 y 27;have k2:=iM 1 2 z 29;clear hb hK c e2 hy A Y;generalize fnd 3 4 y 27=p at *
    generalize fnd 1 2 z 29=q at *
    have m:=Eg T k (257+p) a;have n:=xY T k q a;obtain⟨m1,m2,_,_⟩:=l.1.1.at (j:=257+p) (oF T k) (by omega);have d:=l.putL (oF T k) (257+p) ((hH T k).getD (257+p) 0+1);have el:(hH T k).set (257+p) ((hH T k).getD (257+p) 0+1)=hH T (k+1):=(ae f).symm;rw[el]at d;generalize (hH T k).getD (257+p) 0=ya at *
    obtain⟨m3,m4,_,_⟩:=d.1.2.at (j:=q) (uK T k) (by omega);have G:=d.putD (uK T k) q ((fL T k).getD q 0+1);have ed:(fL T k).set q ((fL T k).getD q 0+1)=fL T (k+1):=(ae r).symm;rw[ed]at G;generalize (fL T k).getD q 0=za at *
    have R1:=af (ae C wr (l.2.1.1.rowN eS));have R2:=af (ae D _ (d.2.1.2.rowN eH));have bb:(wr.setCell ⟨gl,257+p,none⟩ (.int .i64 (ya+1))).cell? ⟨g,o+k*3+2,none⟩=some (.int .i64 (z:Int)):=by
     rw[World.cell?_setCell_other _ _ _ _ (by intro e;simp only[a0F]at e;exact a1 e.1.symm)];exact d2
    have ao:=af G;have bc:(257:Int)+(p:Int)<286:=by omega
    have bd:(q:Int)<30:=by omega
    have a7:ya<=301:=m.2;have bq:za<=300:=n.2;have a5:0<=ya:=m.1;have ba:0<=za:=n.1;have y0':¬ (y:Int)=0:=by omega
    clear l d G el ed m n k1 k2 q1 q2 q3 q4 C D a;go_wp2_with fail;refine(ae R1).mono ?_;rintro e x7 ⟨rfl,b⟩;rw[b];clear b x7;go_wp2_with fail;refine(ae R2).mono ?_;rintro e x7 ⟨rfl,b⟩;rw[b];clear b x7;go_wp2;go_roundw
    case rel=>exact⟨k+1,by have:=ae Hk;omega,by go_num,ae ao⟩
    case measure=>have:=ae Hk;simp[intOf];omega
   .
    obtain⟨q1,q2⟩:=wP hb;have A:=Jp hb;have r:=af (L9 T k c hb);have e2:kM (T.getD k k0)=(T.getD k k0).1.toNat:=by unfold kM;rw[a0e hb]
    rw[e2]at f;obtain⟨y,hy⟩:=a0r q1;rw[hy]at d0 q2 f;rw[A]at d1;rw[a0l]at f;clear hb c e2 hy A Y d2 q1;have m:=Eg T k y a;obtain⟨m1,m2,_,_⟩:=l.1.1.at (j:=y) (oF T k) (by omega);have d:=l.drew.putL (oF T k) y ((hH T k).getD y 0+1);have el:(hH T k).set y ((hH T k).getD y 0+1)=hH T (k+1):=(ae f).symm;rw[el,←ae r]at d;generalize (hH T k).getD y 0=ya at *
    have al:=af d;have a7:ya<=301:=m.2;have a5:0<=ya:=m.1;have bk:(y:Int)<286:=by omega
    clear l d el m a q2;go_wp2
    go_region
    go_wp2;go_roundw
    case rel=>exact⟨k+1,by have:=ae Hk;omega,by go_num,ae al⟩
    case measure=>have:=ae Hk;simp[intOf];omega
  .
   have c:T.take k=T:=a0A (by rw[ae u];omega);have Q:k<=300:=by have:=ae L;omega
   have eL:hH T k=jj T:=by unfold hH;rw[c];exact Cl T
   have eD:fL T k=fK T:=by unfold fL fK;rw[c]
   have n:=xY T k 0 Q;rw[eL,eD]at l;rw[eD]at n;have HU:=af (sR (some ⟨gd,0,none⟩) 30 30 (fK T) wr (eJ T) (l.1.2.rowN (eJ T)) (by omega));obtain⟨m1,m2,_,_⟩:=l.1.2.at (j:=0) (eJ T) (by omega);have I:=af l;clear l c Q eL eD;by_cases J:us (fK T)=0
   .
    have A:(fK T).getD 0 0=0:=by have:=Nu J 0 (by rw[eJ];omega);omega
    have s:=af ((ae I).putD (eJ T) 0 1);have e1:(fK T).set 0 1=dG T:=by unfold dG;rw[a0e J];unfold inc;rw[A];rfl
    rw[e1]at s;rw[J]at HU;clear e1 A n I J;go_wp2_with fail;refine(ae HU).mono ?_;rintro e x7 ⟨rfl,b⟩;rw[b];clear b x7;go_wp2
    go_ret2
    exact⟨⟨gl,gd,rfl,(ae s).1.1,(ae s).1.2⟩,(ae s).2.2.1⟩
   .
    have e1:fK T=dG T:=by unfold dG;rw[a0d J]
    have a3:((us (fK T):Nat):Int)≠0:=by omega
    have a9:(((us (fK T):Nat):Int) == 0)=false:=by simpa using a3
    rw[e1]at I;clear e1 n J;generalize us (fK T)=U at *
    go_wp2_with fail;refine(ae HU).mono ?_;rintro e x7 ⟨rfl,b⟩;rw[b];clear b x7;go_wp2
    go_ret2
    exact⟨⟨gl,gd,rfl,(ae I).1.1,(ae I).1.2⟩,(ae I).2.2.1⟩
theorem uY{g o:Nat}(c:∀i,i<l.length->w.cell? ⟨g,o+i,none⟩=some (.int .i64 (l.getD i 0))):∀j u,(l.map (Value.int .i64))[j]?=some u->w.cell? ((⟨g,o,none⟩:Addr).add j)=some u:=by
 intro j u d;have b:j<l.length:=by have:=(List.getElem?_eq_some_iff.1 d).1;simpa using this
 have a:(⟨g,o,none⟩:Addr).add j=⟨g,o+j,none⟩:=by unfold Addr.add;split<;>simp_all
 rw[a,c j b,←d];simp[List.getD,b]
def j7(l:List Int)(t:List Int):List (Int×Int):=t.map fun x=>pcM l x.toNat
theorem Cj(l t:List Int)(k:Nat)(h:k<t.length):j7 l (t.take (k+1))=j7 l (t.take k)++[pcM l (t.getD k 0).toNat]:=by
 unfold j7;rw[dL t k h,a06];rfl
theorem Pv(L D:List Int):ij L D++(jG (bl (L++D)) 19++j7 (bl (L++D)) (L++D))=dT L D:=rfl
def LR(W:World)(b:Nat)(A l:List Int)(gA g7 gc:Option Addr):Prop:=g9 W b gA A/\g9 W b g7 l/\g9 W b gc (bi l 15).2
theorem LR.keep{W':World}{b:Nat}{gA g7 gc:Option Addr}(h:LR W b A l gA g7 gc)(a:bO b W W'):LR W' b A l gA g7 gc:=⟨h.1.keep a,h.2.1.keep a,h.2.2.keep a⟩
theorem FX(b:Nat)(p:Nat×Nat)(a aD:Option Addr)(cL nL cD nD:Nat)(L D:List Int)(w:World)(ho:jg w b p)(hL:bu w a L)(hD:bu w aD D)(a0:L.length=nL)(ao:D.length=nD)
  (l0:257<=nL) (l1:nL<=286) (d0:1<=nD) (d1:nD<=30) (kL:av L=true) (kD:av D=true) (hp:p.2<=1000) :
  Calls prog 231 #[.pointer (some ⟨b,0,none⟩),.slice a nL cL,.slice aD nD cD] w fun e w'=>e = .returned (.tuple #[])/\jg w' b (aW p (dT L D))/\KB b w w':=by
 obtain⟨i0,hi,be,bk,bq⟩:=a0w Tryz.infoInt;have ab:b<w.heap.size:=Out.lt ho;have HA:Hid (∀x∈L++D,0<=x/\x<=15):=by
  intro x F;rcases a1b.1 F with h|h
  . exact mB kL x h
  . exact mB kD x h
 obtain⟨nA,hnA⟩:∃nA,(L++D).length=nA:=⟨_,rfl⟩;have d6:nA=nL+nD:=by rw[←hnA,a0m,a0,ao]
 have K:=af (wV (L++D) (by omega) (by omega) (ae HA));have HQ:=af (Pv L D);have HU:=af (DO (L++D) (by omega) (ae HA));have eb:=af (DN (L++D) (by omega));have HB:Hid (ij L D=[((nL:Int)-257,5),((nD:Int)-1,5),(15,4)]):=by show ij L D=_;unfold ij;rw[a0,ao]
 have bz:Hid (pOk ((nL:Int)-257) 5=true/\pOk ((nD:Int)-1) 5=true):=by
  have:p2 (5:Int).toNat=32:=by decide
  exact⟨aR.2 ⟨by omega,by omega,by rw[this];omega⟩,aR.2 ⟨by omega,by omega,by rw[this];omega⟩⟩
 obtain⟨g,o,rfl,hg,c7⟩:=hL (by omega);obtain⟨g',o',rfl,c8,a2⟩:=hD (by omega);have O:Below w.heap.size w (w.alloc (.cells #[] 3)):=(a0c _ _).alloc (a0a _) _;have ba:World.ownsRow (w.alloc (.cells #[] 3)) w.heap.size 3 1 (.slice (some ⟨w.heap.size,0,none⟩) 0 0) 0 []:=a0Y w #[] 0 (a0a _) (by unfold maxLen;omega) rfl;have T:=af (uY (w:=w.alloc (.cells #[] 3)) (g:=g) (o:=o) (l:=L) (fun i hi=>by rw[O.cell (p:=⟨g,o+i,none⟩) hg];exact c7 i hi));have E:Hid (∀W,Below w.heap.size w W->∀j u,(D.map (Value.int .i64))[j]?=some u->W.cell? ((⟨g',o',none⟩:Addr).add j)=some u):=fun W hW=>uY (fun i hi=>by rw[hW.cell (p:=⟨g',o'+i,none⟩) c8];exact a2 i hi);have d4:Hid ((L.map (Value.int .i64)).length=nL*1):=by show _=_;simp[a0]
 have d3:Hid ((D.map (Value.int .i64)).length=nD*1):=by show _=_;simp[ao]
 have R:Hid ((0+nL<=maxLen/\(0+nL)*8<=140737488355328)/\(0+nL+nD<=maxLen/\(0+nL+nD)*8<=140737488355328)):=by show(_/\_)/\_/\_;unfold maxLen;omega
 have nLI:(nL:Int)<=286:=by omega
 have nDI:(nD:Int)<=30:=by omega
 have nLI0:(257:Int)<=(nL:Int):=by omega
 have nDI0:(1:Int)<=(nD:Int):=by omega
 have nAI:(nA:Int)<=316:=by omega
 have aa:Hid (1<=nA/\nA<=316/\nA=nL+nD):=by show _/\_;omega
 have HO:=af ho;have Hp:=af hp;clear hL hD kL kD l0 l1 d0 d1 a0 ao d6 ho hp c7 a2 hg c8;generalize co:L++D=A at *
 have bs:Hid (L.map (Value.int .i64)++D.map (Value.int .i64)=A.map (Value.int .i64)):=by show _=_;rw[←co,a06]
 have m:=af hnA;clear hnA co;go_enter func231,ntmps231;go_wp2_with (first
  | (at_builtin;refine a0x _ rfl _ _ 65 rfl w.heap.size 3 i0 (.int .i64 0) 1 8 a0I hi be bk bq rfl (by decide) _ _ _ rfl ba ⟨g,o,none⟩ nL cL (L.map (Value.int .i64)) rfl (ae d4) (ae T) (a2a .i64 _) (ae R).1.1 (ae R).1.2 O.size ?_;intro v1 x1 s t U;clear U;have Q:Below w.heap.size w x1:=O.grown t O.size (fun j hj=>(a0D ba j hj).1))
  | (at_builtin;refine a0x _ rfl _ _ 65 rfl w.heap.size 3 i0 (.int .i64 0) 1 8 a0I hi be bk bq rfl (by decide) _ _ _ rfl s ⟨g',o',none⟩ nD cD (D.map (Value.int .i64)) rfl (ae d3) (ae E _ Q) (a2a .i64 _) (ae R).2.1 (ae R).2.2 Q.size ?_;intro v2 x2 X B U;clear U;have a7:Below w.heap.size w x2:=Q.grown B Q.size (fun j hj=>(a0D s j hj).1))
  | (at_make;refine a19 _ rfl _ _ 65 rfl w.heap.size 3 i0 (.int .i64 0) 1 a0I hi be bk .i64 .i64 _ _ 19 rfl rfl rfl rfl (by rw[bq];omega) (by unfold maxLen;omega) a7.size ?_;intro x3 Y C))
 have N:ay x2 w.heap.size v2 A:=by
  show World.ownsRow _ _ _ _ _ A.length _;rw[ae m,(ae aa).2.2,←ae bs];simpa using X
 obtain⟨aA,cA,rfl⟩:=N.formN (ae m);obtain⟨gA,rfl⟩:=N.somes (by have:=ae m;have:=ae aa;omega);have dl:=N.below.2;obtain⟨gC,hgC⟩:∃gC,x2.heap.size=gC:=⟨_,rfl⟩;have b3:=lB C;have o2:=eT Y;rw[hgC]at o2 dl;have c6:=ak a7 b3;have o1:=N.later b3 (a0a _);have ei:gC≠gA:=by omega
 rw[hgC];clear s X Y t B C b3 hgC dl O Q a7 ba T E d4 d3 R bs N
 go_loopw [8] (fun i wr=>∃k:Nat,k<=nA/\i = .int .i64 k/\ay wr w.heap.size (.slice (some ⟨gA,0,none⟩) nA cA) A/\ay wr w.heap.size (.slice (some ⟨gC,0,none⟩) 19 19) (jh (List.replicate 19 0) ((A.take k).map Int.toNat))/\Below w.heap.size w wr) (fun i _=>nA-(intOf i).toNat)
 case atStart=>exact⟨0,a0g _,rfl,o1,o2,c6⟩
 case round=>
  obtain⟨k,hk,rfl,M,H,r⟩:=hrel;clear o1 o2 c6;by_cases c:k<nA
  .
   obtain⟨c0,_,_,_⟩:=M.at (ae m) c;have dq:A.getD k 0∈A:=by have:=ae m;simp[List.getD,show k<A.length by omega]
   have n:=ae HA _ dq;have f:Hid ((A.take (k+1)).map Int.toNat=(A.take k).map Int.toNat++[(A.getD k 0).toNat]):=by
    show _=_;rw[dL A k (by rw[ae m];exact c),a06];rfl
   have bc:(jh (List.replicate 19 0) ((A.take k).map Int.toNat)).length=19:=by rw[fZ,a0z]
   obtain⟨y,hy⟩:=a0r n.1;rw[hy]at f c0 n;rw[a0l]at f;have hb:=Ea 19 ((A.take k).map Int.toNat) y;have eh:((A.take k).map Int.toNat).length<=nA:=by simp;omega
   obtain⟨e0,e1,e2,e3⟩:=H.at (j:=y) bc (by omega);have hP:=ay.put (w:=wr.drew) (j:=y) bc H ((jh (List.replicate 19 0) ((A.take k).map Int.toNat)).getD y 0+1);have cy:Hid (∀u,ay (wr.drew.setCell ⟨gC,y,none⟩ u) w.heap.size (.slice (some ⟨gA,0,none⟩) nA cA) A/\Below w.heap.size w (wr.drew.setCell ⟨gC,y,none⟩ u)):=fun u=>⟨ay.setOther (w:=wr.drew) M ei u,aj r.drew e2 u⟩;have HP:Hid (ay (wr.drew.setCell ⟨gC,y,none⟩ (.int .i64 ((jh (List.replicate 19 0) ((A.take k).map Int.toNat)).getD y 0+1))) w.heap.size (.slice (some ⟨gC,0,none⟩) 19 19) (jh (List.replicate 19 0) ((A.take (k+1)).map Int.toNat))):=by
    show ay _ _ _ _;rw[ae f,pF];exact hP
   generalize (jh (List.replicate 19 0) ((A.take k).map Int.toNat)).getD y 0=z at *
   have en:(y:Int)<19:=by omega
   have eu:z<=400:=by have:=ae aa;omega
   have el:0<=z:=hb.1;have Hk:=af hk;clear hP H M r eh hb n hy dq hk bc e2 e3;go_wp2
   go_region
   go_wp2;go_roundw
   case rel=>exact⟨k+1,by have:=ae Hk;omega,by go_num,(ae cy _).1,ae HP,(ae cy _).2⟩
   case measure=>simp[intOf];omega
  .
   have d2:A.take k=A:=a0A (by rw[ae m];omega);rw[d2]at H;have cp:ay wr w.heap.size (.slice (some ⟨gC,0,none⟩) 19 19) (q7 A):=H;have HL:Hid (Calls prog 230 #[.slice (some ⟨gC,0,none⟩) 19 19,.int .i64 7] wr fun e w'=>(∃v,e = .returned v/\ay w' wr.heap.size v (bl A))/\Below wr.heap.size wr w'):=vf (some ⟨gC,0,none⟩) 19 19 6 (q7 A) wr (iI A) (cp.rowN (iI A)) (by omega) (by omega) (ae eb) (by rw[gV];have h2:=Pq;have:=(ae HU).2;omega) (by omega);have ek:=r.size;have O1:=af M;have B1:=af r;clear d2 H cp M r;go_wp2_with fail;refine(ae HL).mono ?_;rintro e x3 ⟨⟨v3,rfl,o3⟩,b3⟩;obtain⟨a3,c3,rfl⟩:=o3.formN (ae K).1;obtain⟨g3,rfl⟩:=o3.somes (by rw[(ae K).1];omega);have O1':=af ((ae O1).later b3 (a0a _));have B3:=af (ak (ae B1) b3);have O3:=af (o3.mono ek);clear o3 b3 HL O1 B1;go_wp2_with fail;refine(pJ (some ⟨g3,0,none⟩) c3 19 (bl A) x3 (ae K).1 ((ae O3).rowN (ae K).1) (by omega)).mono ?_;rintro e x4 ⟨⟨g4,rfl,o4⟩,b4⟩;have hR:LR x4 b A (bl A) (some ⟨gA,0,none⟩) (some ⟨g3,0,none⟩) (some ⟨g4,0,none⟩):=⟨eQ (ae m) ((ae O1').later b4 (a0a _)) ab,eQ (ae K).1 ((ae O3).later b4 (a0a _)) ab,eQ ((bW _ 15).trans (ae K).1) (o4.mono (ae B3).size) ab⟩;have a9:=ak (ae B3) b4;have cu:jg x4 b p:=Out.kept (ae HO) a9;have cr:KB b w x4:=(KB.refl b w).below a9 (a0C ab);have HR:=af hR;have b5:=af cu;have b0:=af cr;clear hR o4 b4 a9 cu cr O1' O3 B3;go_wp2_with fail;refine(ez b p ((nL:Int)-257) 5 x4 (ae b5) (ae bz).1 (by have:=ae Hp;omega)).mono ?_;rintro e x5 ⟨rfl,o5,k5⟩;have b6:=af o5;have cc:=af ((ae HR).keep k5.2);have b1:=af ((ae b0).trans k5);have q5:=dB p [((nL:Int)-257,5)] (by intro x F;simp at F;subst F;simp);clear o5 k5 b5 HR b0;go_wp2_with fail;refine(ez b _ ((nD:Int)-1) 5 x5 (ae b6) (ae bz).2 (by have:=ae Hp;simp only[a0B,a0Q]at q5;omega)).mono ?_;rintro e x6 ⟨rfl,o6,k6⟩;rw[←aZ]at o6;have b7:=af o6;have cg:=af ((ae cc).keep k6.2);have b2:=af ((ae b1).trans k6);have q6:=dB p ([((nL:Int)-257,5)]++[((nD:Int)-1,5)]) (by intro x F;simp at F;rcases F with rfl|rfl<;>simp);clear o6 k6 b6 cc b1;go_wp2_with fail;refine(ez b _ 15 4 x6 (ae b7) (by decide) (by have:=ae Hp;simp only[a0B,a0Q,a0m]at q6;omega)).mono ?_;rintro e x7 ⟨rfl,o7,k7⟩;rw[←aZ]at o7;have o7':jg x7 b (aW p (ij L D++jG (bl A) 0)):=by rw[ae HB];exact o7
   have c5:=(ae cg).keep k7.2;have cs:=(ae b2).trans k7;clear o7 k7 b7 cg b2 q5 q6;go_wp2_with fail;have ed:=af (dx (ae K).2.1);have ch:Hid (∀l:List (Int×Int),(∀x∈l,x.2<=16)->l.length<=400->(aW p (ij L D++l)).2<=100000):=by
    intro l h1 h2;have h3:=dB p (ij L D++l) (by
     intro x F;rcases a1b.1 F with h|h
     . rw[ae HB]at h;simp at h;rcases h with rfl|rfl|rfl<;>simp
     . exact h1 x h)
    rw[a0m]at h3;have h4:(ij L D).length=3:=rfl;have:=ae Hp;omega
   go_loopw [11] (fun i wr=>∃j:Nat,j<=19/\i = .int .i64 j/\jg wr b (aW p (ij L D++jG (bl A) j))/\LR wr b A (bl A) (some ⟨gA,0,none⟩) (some ⟨g3,0,none⟩) (some ⟨g4,0,none⟩)/\KB b w wr) (fun i _=>19-(intOf i).toNat)
   case atStart=>exact⟨0,by omega,rfl,o7',c5,cs⟩
   case round=>
    obtain⟨j,S,rfl,I,a1,al⟩:=hrel;clear o7' c5 cs;by_cases c:j<19
    .
     have f:Hid (aW p (ij L D++jG (bl A) (j+1))=aW (aW p (ij L D++jG (bl A) j)) [((bl A).getD (bp.getD j 0) 0,3)]):=by show _=_;rw[Gr (bl A) j c,←a0H,aZ]
     have bd:=Cv j c;have d:=ae ch (jG (bl A) j) (by intro x F;unfold jG at F;obtain⟨i,_,rfl⟩:=a2L.1 F;simp) (by rw[zF _ _ S];omega);have n:=(ae K).2.2 (bp.getD j 0) bd;have d7:=zD j c;have d5:=Out.lt I;have HJ:=af (a0b c (a0b I (a0b a1 al)));have eg:(j:Int)<19:=by omega
     clear I a1 al S;generalize aW p (ij L D++jG (bl A) j)=P at *
     go_wp2_with fail;refine(yU wr).mono ?_;rintro e x8 ⟨⟨g8,rfl,o8⟩,b8⟩;obtain⟨d8,_,_,_⟩:=o8.at (j:=j) zE c;rw[d7]at d8;have Z:=(ae HJ).2.2.1.keep (bo b8);have a6:jg x8 b P:=Out.kept (ae HJ).2.1 b8;have a4:=(ae HJ).2.2.2.below b8 (a0C d5);obtain⟨g,o,e,_,dd⟩:=iC Z.2.1 (k:=bp.getD j 0) (by rw[(ae K).1];exact bd);cases e
     rw[a0J]at dd;have cv:pOk ((bl A).getD (bp.getD j 0) 0) 3=true:=by
      have:p2 (3:Int).toNat=8:=by decide
      exact aR.2 ⟨by omega,n.1,by rw[this];omega⟩
     generalize (bl A).getD (bp.getD j 0) 0=y at *
     generalize bp.getD j 0=q at *
     have em:(q:Int)<19:=by omega
     have HX:=af (a0b Z a4);have G:=af (ez b P y 3 x8 a6 cv d);have Hj:=af (ae HJ).1;clear o8 b8 Z a6 a4 HJ bd n d7 d cv c;go_wp2_with fail;refine(ae G).mono ?_;rintro e x9 ⟨rfl,o9,k9⟩;rw[←ae f]at o9;have HY:=af (a0b o9 (a0b ((ae HX).1.keep k9.2) ((ae HX).2.trans k9)));clear o9 k9 HX G d8 dd f;go_wp2;go_roundw
     case rel=>exact⟨j+1,by have:=ae Hj;omega,by go_num,(ae HY).1,(ae HY).2.1,(ae HY).2.2⟩
     case measure=>have:=ae Hj;simp[intOf];omega
    .
     have ds:j=19:=by omega
     have eg:¬ (j:Int)<19:=by omega
     rw[ds]at I;have a5:jg wr b (aW p (ij L D++(jG (bl A) 19++j7 (bl A) (A.take 0)))):=by
      have e0:jG (bl A) 19++j7 (bl A) (A.take 0)=jG (bl A) 19:=by unfold j7;rw[List.take_zero,a2i,a1k]
      rw[e0];exact I
     clear I c S ds;go_wp2_with fail
     go_loopw [12] (fun i wr=>∃j:Nat,j<=nA/\i = .int .i64 j/\jg wr b (aW p (ij L D++(jG (bl A) 19++j7 (bl A) (A.take j))))/\LR wr b A (bl A) (some ⟨gA,0,none⟩) (some ⟨g3,0,none⟩) (some ⟨g4,0,none⟩)/\KB b w wr) (fun i _=>nA-(intOf i).toNat)
     case atStart=>exact⟨0,by omega,rfl,a5,a1,al⟩
     case round=>
      obtain⟨j,hj,rfl,V,J,ad⟩:=hrel;clear a5 a1 al;by_cases c:j<nA
      .
       have ac:j<A.length:=by rw[ae m];exact c
       have f:Hid (aW p (ij L D++(jG (bl A) 19++j7 (bl A) (A.take (j+1))))=aW (aW p (ij L D++(jG (bl A) 19++j7 (bl A) (A.take j)))) [pcM (bl A) (A.getD j 0).toNat]):=by show _=_;rw[Cj (bl A) A j ac,←aZ,a0H,a0H]
       have d:=ae ch (jG (bl A) 19++j7 (bl A) (A.take j)) (by
        intro x F;rcases a1b.1 F with h|h
        . unfold jG at h;obtain⟨i,_,rfl⟩:=a2L.1 h;simp
        . unfold j7 at h;obtain⟨y,hy,rfl⟩:=a2L.1 h;have h1:=ae HA y (a2w hy);have h2:=(ae K).2.2 y.toNat (by omega);show(bl A).getD y.toNat 0<=16;omega) (by rw[a0m,zF _ _ (a0a _)];unfold j7;rw[a1o,a0v];have:=ae aa;omega)
       have n:=ae HA (A.getD j 0) (by simp[List.getD,ac]);obtain⟨g,o,e,_,dd⟩:=iC J.1 (k:=j) ac;cases e
       rw[a0J]at dd;obtain⟨q,hq⟩:=a0r n.1;rw[hq]at dd n f;rw[a0l]at f;have bb:=ae ed q (by rw[(ae K).1];omega);have G:=af (oW b _ (some ⟨g3,0,none⟩) (some ⟨g4,0,none⟩) c3 19 19 q (bl A) wr V (ae K).1 J.2.1.1 J.2.2.1 (by omega) (by omega) bb.1 bb.2 d);rw[←ae f]at G;have HX:=af (a0b J ad);have Hj:=af c;clear V J ad hj c ac f d n hq bb;go_wp2_with fail;refine(ae G).mono ?_;rintro e x9 ⟨rfl,o9,k9⟩;have HY:=af (a0b o9 (a0b ((ae HX).1.keep k9.2) ((ae HX).2.trans k9)));clear o9 k9 HX G dd;go_wp2;go_roundw
       case rel=>exact⟨j+1,by have:=ae Hj;omega,by go_num,(ae HY).1,(ae HY).2.1,(ae HY).2.2⟩
       case measure=>have:=ae Hj;simp[intOf];omega
      .
       have dv:A.take j=A:=a0A (by rw[ae m];omega);rw[dv,ae HQ]at V;have HY:=af (a0b V ad);clear V J ad dv;go_wp2
       go_end0
       exact⟨rfl,(ae HY).1,(ae HY).2⟩
theorem zN{base cap:Nat}(j:l.length=n)(h:ay w base (.slice a n cap) l):g9 w w.heap.size a l:=by
 refine⟨h.rowN j,fun k x ex=>?_⟩;subst ex;rcases h.2 with⟨e,_⟩|⟨g,b,f,e,i,d,_⟩
 . cases e
 . simp only[a0L,a0k]at e;obtain⟨rfl,_⟩:=e;refine⟨by have:=mu d;show g≠_;omega,fun c fr=>?_⟩;show w.heap[g]?≠_;rw[d];intro e;cases e
theorem FD{base cap:Nat}{l:List Tk}(j:l.length=n)(h:dI w base (.slice a n cap) l):qk w w.heap.size a l:=by
 refine⟨h.rowN j,fun k x ex=>?_⟩;subst ex;rcases h.2 with⟨e,_⟩|⟨g,b,f,e,i,d,_⟩
 . cases e
 . simp only[a0L,a0k]at e;obtain⟨rfl,_⟩:=e;refine⟨by have:=mu d;show g≠_;omega,fun c fr=>?_⟩;show w.heap[g]?≠_;rw[d];intro e;cases e
theorem uN(g:Nat)(n:Nat)(l:List Int)(w:World)(d:l.length=n)(h:bu w (some ⟨g,0,none⟩) l)(a:1<=n)(c:n<=300)(b:okC l)(f:us l<=300) :
  Calls prog 230 #[.slice (some ⟨g,0,none⟩) n n,.int .i64 15] w fun e w'=>(∃v,e = .returned v/\ay w' w.heap.size v (fR 15 l))/\Below w.heap.size w w':=
 vf (some ⟨g,0,none⟩) n n 14 l w d h a c b (by rw[gV];have h2:=Kq;omega) (by omega)
theorem FI(s:ByteArray)(w:World)(hs:s.size<=300) :
  CD 186 #[.string s] w (.string ⟨(pN s).toArray⟩):=by
 obtain⟨T,hT⟩:∃T,cG s.data.toList 0=T:=⟨_,rfl⟩;have a:Hid (T.length<=300):=by show _<=_;rw[←hT];exact jc s hs
 have u:Hid (∀t∈T,okT t=true):=by rw[←hT];exact gh s
 have aa:Hid (pN s=cm (kO T)):=by show pN s=_;unfold pN;rw[hT]
 have c:=af (oB s w (by omega));rw[hT]at c;clear hs hT;obtain⟨tn,htn⟩:∃tn,T.length=tn:=⟨_,rfl⟩;have l:=af htn;have I:Hid (tn<=300):=by show _<=_;rw[←htn];exact ae a
 clear htn;go_enter func186,ntmps186;go_wp2_with fail;refine(ae c).mono ?_;rintro e x1 ⟨v1,rfl,o1,b1⟩;obtain⟨a1,c1,rfl⟩:=o1.formN (ae l);have B:=af (wT a1 c1 tn T x1 (ae l) (o1.rowN (ae l)) (ae I) (ae u));have O1:=af o1;have B1:=af b1;clear o1 b1 c;go_wp2_with fail;refine(ae B).mono ?_;rintro e x2 ⟨⟨gl,gd,rfl,o2,o3⟩,b2⟩;have O1':=af (pV (ae O1) b2);have B2:=af (ak (ae B1) b2);have D:=af (uN gl 286 (jj T) x2 (gT T) (o2.rowN (gT T)) (by omega) (by omega) (Ee T (ae a)) (by have:=(Ef T).2;omega));have O3:=af (o3.mono (ae B1).size);have y:Hid (w.heap.size<=x2.heap.size):=(ae B2).size;clear o2 o3 b2 B O1 B1;go_wp2_with fail;refine(ae D).mono ?_;rintro e x3 ⟨⟨v3,rfl,o4⟩,b3⟩;have d:=(My T (ae a)).1;obtain⟨a3,c3,rfl⟩:=o4.formN d;obtain⟨g3,rfl⟩:=o4.somes (by omega);have q:=af (sT g3 0 c3 286 257 (fR 15 (jj T)) x3 d (fun i hi=>by rw[a0J];exact(o4.at d hi).1) o4.cap.1 (by omega) (by omega));have e2:fQ (fR 15 (jj T)) 257 286=(de T).length:=by unfold de;rw[jU,d]
 rw[e2]at q;have O4:Hid (ay x3 w.heap.size (.slice (some ⟨g3,0,none⟩) (de T).length c3) (de T)):=by
  have Q:=o4.cut (m:=(de T).length) d (by have:=oN T (ae a);omega) (by omega);have e3:(fR 15 (jj T)).take (de T).length=de T:=by rw[←e2];unfold de ou;rw[d]
  rw[e3]at Q;exact Q.mono (ae y)
 have O1:=af (pV (ae O1') b3);have O3':=af ((ae O3).later b3 (a0a _));have B3:=af (ak (ae B2) b3);have b:=af (oN T (ae a));obtain⟨nL,hnL⟩:∃n,(de T).length=n:=⟨_,rfl⟩;rw[hnL]at q O4 b;have j:=af hnL;clear hnL e2 d o4 b3 D O3 B2 O1' y;go_wp2_with fail;refine(ae q).mono ?_;rintro e x4 ⟨rfl,U⟩;rw[U];clear U x4 q;have E:=af (uN gd 30 (dG T) x3 (iA T) ((ae O3').rowN (iA T)) (by omega) (by omega) (xW T (ae a)) (by have:=(xX T).2;omega));go_wp2_with fail;refine(ae E).mono ?_;rintro e x4 ⟨⟨v4,rfl,o5⟩,b4⟩;have f:=(DU T (ae a)).1;obtain⟨a4,c4,rfl⟩:=o5.formN f;obtain⟨g4,rfl⟩:=o5.somes (by omega);have r:=af (sT g4 0 c4 30 1 (fR 15 (dG T)) x4 f (fun i hi=>by rw[a0J];exact(o5.at f hi).1) o5.cap.1 (by omega) (by omega));have e2:fQ (fR 15 (dG T)) 1 30=(dS T).length:=by unfold dS;rw[jU,f]
 rw[e2]at r;have O5:Hid (ay x4 w.heap.size (.slice (some ⟨g4,0,none⟩) (dS T).length c4) (dS T)):=by
  have Q:=o5.cut (m:=(dS T).length) f (by have:=oM T (ae a);omega) (by omega);have e3:(fR 15 (dG T)).take (dS T).length=dS T:=by rw[←e2];unfold dS ou;rw[f]
  rw[e3]at Q;exact Q.mono (ae B3).size
 have O1':=af (pV (ae O1) b4);have O4':=af ((ae O4).later b4 (a0a _));have B4:=af (ak (ae B3) b4);have g:=af (oM T (ae a));obtain⟨nD,hnD⟩:∃n,(dS T).length=n:=⟨_,rfl⟩;rw[hnD]at r O5 g;have k:=af hnD;clear hnD e2 f o5 b4 E O4 O1 O3' B3;go_wp2_with fail;refine(ae r).mono ?_;rintro e x5 ⟨rfl,V⟩;rw[V];clear V x5 r;have h0:Hid (jg (x4.alloc (.cells #[.slice none 0 0,.int .i64 0,.int .i64 0] 294)) x4.heap.size (0,0)):=xd x4 294;have o:Below x4.heap.size x4 (x4.alloc (.cells #[.slice none 0 0,.int .i64 0,.int .i64 0] 294)):=(a0c _ _).alloc (a0a _) _;have RL:Hid (g9 (x4.alloc (.cells #[.slice none 0 0,.int .i64 0,.int .i64 0] 294)) x4.heap.size (some ⟨g3,0,none⟩) (de T)):=(zN (ae j) (ae O4')).below o;have RD:Hid (g9 (x4.alloc (.cells #[.slice none 0 0,.int .i64 0,.int .i64 0] 294)) x4.heap.size (some ⟨g4,0,none⟩) (dS T)):=(zN (ae k) (ae O5)).below o;have RT:Hid (qk (x4.alloc (.cells #[.slice none 0 0,.int .i64 0,.int .i64 0] 294)) x4.heap.size a1 T):=(FD (ae l) (ae O1')).keep (bo o);have C:Hid (KB x4.heap.size x4 (x4.alloc (.cells #[.slice none 0 0,.int .i64 0,.int .i64 0] 294))):=(KB.refl _ _).below o (a0a _);clear o O1' O4' O5;go_wp2_with fail;refine(ez _ _ 1 1 _ (ae h0) (by decide) (by show(0:Nat)<=_;omega)).mono ?_;rintro e x6 ⟨rfl,o6,W⟩;have H6:=af (a0b o6 ((ae C).trans W));have L:=af ((ae RL).keep W.2);have J:=af ((ae RD).keep W.2);have N:=af ((ae RT).keep W.2);clear o6 W h0 C RL RD RT;go_wp2_with fail;refine(ez _ _ 2 2 _ (ae H6).1 (by decide) (by show(1:Nat)<=_;omega)).mono ?_;rintro e x7 ⟨rfl,o7,X⟩;have H7:=af (a0b o7 ((ae H6).2.trans X));have A:=af ((ae L).keep X.2);have z:=af ((ae J).keep X.2);have O:=af ((ae N).keep X.2);clear o7 X H6 L J N;have F:=af (FX x4.heap.size (aW (aW (0,0) [(1,1)]) [(2,2)]) (some ⟨g3,0,none⟩) (some ⟨g4,0,none⟩) c3 nL c4 nD (de T) (dS T) x7 (ae H7).1 (ae A).1 (ae z).1 (ae j) (ae k) (ae b).1 (ae b).2 (ae g).1 (ae g).2 (iz T (ae a)) (jv T (ae a)) (by show(3:Nat)<=1000;omega));go_wp2_with fail;refine(ae F).mono ?_;rintro e x8 ⟨rfl,o8,Z⟩;have G:Hid (aW (aW (aW (0,0) [(1,1)]) [(2,2)]) (dT (de T) (dS T))=aW (0,0) ([(1,1),(2,2)]++dT (de T) (dS T))):=by
  show _=_;rw[←aZ,←aZ];rfl
 rw[ae G]at o8;have M:=(ae A).keep Z.2;have K:=(ae z).keep Z.2;have P:=(ae O).keep Z.2;have K8:=af ((ae H7).2.trans Z);have p:=Av (iz T (ae a)) (jv T (ae a)) (by rw[ae j];exact(ae b).1) (by rw[ae j];exact(ae b).2) (by rw[ae k];exact(ae g).1) (by rw[ae k];exact(ae g).2);have S:(aW (0,0) ([(1,1),(2,2)]++dT (de T) (dS T))).2<=10000:=by
  have h1:=dB (0,0) ([(1,1),(2,2)]++dT (de T) (dS T)) (by
   intro x hx;rcases a1b.1 hx with h|h
   . simp at h;rcases h with rfl|rfl<;>simp
   . have h3:=p.1;unfold aY at h3;have:=a05.1 h3 x h;exact(aR.1 this).1.2)
  rw[a0m]at h1;have:=p.2;simp only[a0B,a0Q]at h1;omega
 have c:=af (qQ x4.heap.size _ a1 (some ⟨g3,0,none⟩) (some ⟨g4,0,none⟩) c1 tn c3 nL c4 nD T (de T) (dS T) x8 o8 P M K (ae l) (ae j) (ae k) (by have:=ae b;omega) (by have:=ae g;omega) (dx (iz T (ae a))) (dx (jv T (ae a))) (by have:=ae b;omega) (by have:=ae I;omega) S (fun t ht=>⟨ae u t ht,tu T (ae a) (ae u) t ht⟩));have H:Hid (aW (aW (0,0) ([(1,1),(2,2)]++dT (de T) (dS T))) (T.flatMap (ci (de T) (dS T))++[pcM (de T) 256])=aX (kO T)):=by
  show aW _ _=_;rw[←aZ,a0H];rfl
 rw[ae H]at c;have Hm:Hid ((aX (kO T)).2<=90000):=by
  show _<=_;rw[←ae H,aZ];have h1:=kA (de T) (dS T) T (aW (0,0) ([(1,1),(2,2)]++dT (de T) (dS T))) (dx (iz T (ae a))) (dx (jv T (ae a))) (fun t ht=>tu T (ae a) (ae u) t ht);have h2:=dB (aW (aW (0,0) ([(1,1),(2,2)]++dT (de T) (dS T))) (T.flatMap (ci (de T) (dS T)))) [pcM (de T) 256] (fun x hx=>by simp only[a1a,a1Y,a1L]at hx;subst hx;have:=(dx (iz T (ae a)) 256 (by have:=ae j;have:=ae b;omega)).1.2;show(de T).getD 256 0<=16;omega);have h3:=ae a;simp only[a0B,a0Q]at h2;omega
 clear o8 Z M K P p S F A z O H7 G;go_wp2_with fail;refine(ae c).mono ?_;rintro e x9 ⟨rfl,o9,k9⟩;have K9:=af ((ae K8).trans k9).1;have O9:=af o9;clear o9 k9 c K8;go_wp2_with fail;refine(kW _ _ _ _ (ae O9) (ae Hm)).mono ?_;rintro e x10 ⟨rfl,h7,b7⟩;obtain⟨_,v,Th,Y⟩:=h7;have e8:8*(((aX (kO T)).2+7)/8)/8=((aX (kO T)).2+7)/8:=by omega
 rw[e8]at Y;have Y':Bys x10 x4.heap.size v (cm (kO T)):=Y;have ac:=kw Y';have HB:=af ((ae K9).trans b7);obtain⟨k0,k1,k2,f0,f1,f2,ab⟩:=Th;clear Y Y' e8 k1 k2 b7 O9;generalize hR:cm (kO T)=R at *
 clear hR;go_wp2;go_ret;exact⟨by rw[ae aa];rfl,ak (ae B4) (ae HB)⟩
def tw(s:ByteArray):List UInt8:=if s.size<=300 then pN s else []
end Go.Proofs.YtlpmnnjlmjffpaaGreatDoor
