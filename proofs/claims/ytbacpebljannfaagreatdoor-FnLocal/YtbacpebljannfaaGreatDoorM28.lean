/- Of what the proof is made: 13 texts, one behind the other. -/
import Derived.Test.YtbacpebljannfaaGreatDoorFk3
import Derived.Test.YtbacpebljannfaaGreatDoorM27
import Derived.Test.YtbacpebljannfaaGreatDoorM10
import Derived.Deep.RegionHeld3
import Derived.Deep.DeepCutAuto
import Derived.Test.YtbacpebljannfaaGreatDoorM19
import Derived.Test.YtbacpebljannfaaGreatDoorM20
import Derived.Test.YtbacpebljannfaaGreatDoorM3
import Derived.Test.YtbacpebljannfaaGreatDoorM11
import Derived.Test.YtbacpebljannfaaGreatDoorM24
import Derived.Test.YtbacpebljannfaaGreatDoorFs4
import Derived.Test.YtbacpebljannfaaGreatDoorM22
import Derived.Test.YtbacpebljannfaaGreatDoorM13
import Derived.Test.YtbacpebljannfaaGreatDoorM12
set_option linter.unusedSimpArgs false
set_option maxHeartbeats 12800000
namespace Go.Proofs.YtbacpebljannfaaGreatDoor
open Go.RowKit Corb
def pC(w:World)(b:Nat)(a:Option Addr)(l:List Tk):Prop:=yM w a l/\(0<l.length->∀x,a=some x->x.block≠b/\∀cur fr,w.heap[x.block]?≠some (.cells cur 5 fr))
theorem pC.keep{w w':World}{b:Nat}{a:Option Addr}{l:List Tk}(h:pC w b a l)(hk:ce b w w'):pC w' b a l:=by
 by_cases h0:0<l.length
 ·
  obtain⟨g,o,e,hg,hc⟩:=h.1 h0;obtain⟨h1,h2⟩:=h.2 h0 _ e;have hb:=hk.2 g hg h1 h2;refine⟨fun _=>⟨g,o,e,a0g hg hk.1,fun i hi=>?_⟩,fun _ x ex=>?_⟩
  · obtain⟨c0,c1,c2⟩:=hc i hi;exact⟨by rw[←c0];exact World.cell?_of_block (w:=w) hb,by rw[←c1];exact World.cell?_of_block (w:=w) hb,by rw[←c2];exact World.cell?_of_block (w:=w) hb⟩
  ·
   have:x=⟨g,o,none⟩:=by rw[ex]at e;exact a2a e
   subst this;exact⟨h1,fun cur fr=>by rw[hb];exact h2 cur fr⟩
 · exact⟨fun h=>absurd h h0,fun h=>absurd h h0⟩
theorem Cz{w:World}{b base n cap:Nat}{a:Option Addr}{l:List Tk}(hn:l.length=n)(h:dR w base (.slice a n cap) l)(hb:b<base):pC w b a l:=by
 refine⟨h.rowN hn,fun h0 x ex=>?_⟩;subst ex;rcases h.2 with⟨e,_⟩|⟨g,cap',cur,e,hbg,hg,_⟩
 · cases e
 · simp only[a0N,a0j]at e;obtain⟨rfl,_⟩:=e;refine⟨by show g≠b;omega,fun cur' fr=>?_⟩;show w.heap[g]?≠_;rw[hg];intro e;cases e
def cz(L D:List Int)(t:Tk):List (Int×Int):=
 if isB t then [pcM L t.1.toNat]
 else [pcM L (257+fnd 3 4 t.2.1.toNat 27),((t.2.1.toNat:Int)-((stF 3 4 (fnd 3 4 t.2.1.toNat 27)).1:Int),((stF 3 4 (fnd 3 4 t.2.1.toNat 27)).2:Nat)),pcM D (fnd 1 2 t.2.2.toNat 29),((t.2.2.toNat:Int)-((stF 1 2 (fnd 1 2 t.2.2.toNat 29)).1:Int),((stF 1 2 (fnd 1 2 t.2.2.toNat 29)).2:Nat))]
def RR(W:World)(b:Nat)(L D:List Int)(T:List Tk)(a a2 va vb vl vk at_:Option Addr):Prop:=
 (ia W b a L/\ia W b a2 D)/\(ia W b va (aI L 15).2/\ia W b vb (aI D 15).2)/\(ia W b vl jN/\ia W b vk jA)/\pC W b at_ T
theorem RR.keep{W W':World}{b:Nat}{L D:List Int}{T:List Tk}{a a2 va vb vl vk at_:Option Addr}(h:RR W b L D T a a2 va vb vl vk at_)(hk:ce b W W'):RR W' b L D T a a2 va vb vl vk at_:=
 ⟨⟨h.1.1.keep hk,h.1.2.keep hk⟩,⟨h.2.1.1.keep hk,h.2.1.2.keep hk⟩,⟨h.2.2.1.1.keep hk,h.2.2.1.2.keep hk⟩,h.2.2.2.keep hk⟩
def lr(l:List Int):Prop:=∀k,k<l.length->(0<=l.getD k 0/\l.getD k 0<=15)/\(0<=(aI l 15).2.getD k 0/\(aI l 15).2.getD k 0<65536)
theorem bJ{b:Nat}{w w':World}(h:Below w.heap.size w w'):ce b w w':=⟨h.size,fun k hk _ _=>h.block k hk⟩
theorem lh{b g:Nat}{w w':World}{cs:Array Value}{t:TypeId}(hk:ce b w w')(h:w.heap[g]?=some (Obj.cells cs t))(hg:g≠b)(ht:t≠5):w'.heap[g]?=some (Obj.cells cs t):=by
 refine(hk.2 g (dr h) hg (fun cur fr=>?_)).trans h;rw[h];intro e;cases e
 exact ht rfl
theorem iB{w:World}{b k:Nat}{a:Option Addr}{l:List Int}(h:ia w b a l)(hk:k<l.length):∃g o,a=some ⟨g,o,none⟩/\g<w.heap.size/\w.cell? ⟨g,o+k,none⟩=some (.int .i64 (l.getD k 0)):=by
 obtain⟨g,o,e,hg,hc⟩:=h.1 (by omega);exact⟨g,o,e,hg,hc k hk⟩
theorem yj(y:Nat)(h0:3<=y)(h1:y<=60):pOk ((y:Int)-((stF 3 4 (fnd 3 4 y 27)).1:Int)) ((stF 3 4 (fnd 3 4 y 27)).2:Nat)=true:=by
 have:(List.range 61).all (fun y=>decide (y<3) || pOk ((y:Int)-((stF 3 4 (fnd 3 4 y 27)).1:Int)) ((stF 3 4 (fnd 3 4 y 27)).2:Nat))=true:=by decide +kernel
 have:=a1j.1 this y (List.mem_range.2 (by omega));simp only[a1f,a0z]at this;rcases this with h|h
 · omega
 · exact h
theorem yi(z:Nat)(h0:1<=z)(h1:z<=250):pOk ((z:Int)-((stF 1 2 (fnd 1 2 z 29)).1:Int)) ((stF 1 2 (fnd 1 2 z 29)).2:Nat)=true:=by
 have:(List.range 251).all (fun z=>decide (z<1) || pOk ((z:Int)-((stF 1 2 (fnd 1 2 z 29)).1:Int)) ((stF 1 2 (fnd 1 2 z 29)).2:Nat))=true:=by decide +kernel
 have:=a1j.1 this z (List.mem_range.2 (by omega));simp only[a1f,a0z]at this;rcases this with h|h
 · omega
 · exact h
theorem dA(p:Nat×Nat)(l:List (Int×Int))(h:∀x∈l,x.2<=16):(bh p l).2<=p.2+16*l.length:=by
 unfold bh mG;induction l generalizing p with
 | nil=>simp[gZ]
 | cons x r ih=>
  have h1:=h x (by simp);have h2:=ih (p.1+x.1.toNat*2 ^ p.2,p.2+x.2.toNat) (fun y hy=>h y (by simp[hy]));simp only[a0C,gZ,a0E]at *
  omega
theorem ua(L D:List Int)(t:Tk)(gL:lr L)(gD:lr D)(hf:fs L D t):(∀x∈cz L D t,x.2<=16)/\(cz L D t).length<=4:=by
 unfold cz;unfold fs at hf
 split
 · rename_i h;rw[a0d h]at hf;refine⟨fun x hx=>?_,by simp⟩;simp only[a06,a17,a1P]at hx;subst hx;have:=(gL _ hf).1.2;show L.getD _ 0<=16;omega
 ·
  rename_i h;rw[a0e h]at hf;refine⟨fun x hx=>?_,by simp⟩;simp only[a06,a17,a1P]at hx;have s1:=pA (L:=3) (G:=4) (k:=fnd 3 4 t.2.1.toNat 27) (by omega) (by omega) (by omega) (by have:=ez 3 4 t.2.1.toNat 27;omega);have s2:=pA (L:=1) (G:=2) (k:=fnd 1 2 t.2.2.toNat 29) (by omega) (by omega) (by omega) (by have:=ez 1 2 t.2.2.toNat 29;omega);rcases hx with rfl|rfl|rfl|rfl
  · have:=(gL _ hf.1).1.2;show L.getD _ 0<=16;omega
  · show((_:Nat):Int)<=16;omega
  · have:=(gD _ hf.2).1.2;show D.getD _ 0<=16;omega
  · show((_:Nat):Int)<=16;omega
theorem kj(L D:List Int)(T:List Tk)(p:Nat×Nat)(gL:lr L)(gD:lr D)(hf:∀t∈T,fs L D t):(bh p (T.flatMap (cz L D))).2<=p.2+64*T.length:=by
 induction T generalizing p with
 | nil=>simp[bh,mG,gZ]
 | cons t r ih=>
  rw[a03,bq];obtain⟨h1,h2⟩:=ua L D t gL gD (hf t (by simp));have h3:=dA p (cz L D t) h1;have h4:=ih (bh p (cz L D t)) (fun x hx=>hf x (by simp[hx]));simp only[a0E];omega
theorem pj(a:Option Addr)(cap n:Nat)(l:List Int)(w:World)(hn:l.length=n)(h:be w a l)(hm:n<=300) :
  Calls Tryz.prog 161 #[.slice a n cap] w fun e w'=>(∃g,e = .returned (.slice (some ⟨g,0,none⟩) n n)/\ak w' w.heap.size (.slice (some ⟨g,0,none⟩) n n) (aI l 15).2)/\Below w.heap.size w w':=
 (wS a cap n l w hn h hm).mono fun _ _ ⟨he,ho,hb⟩=>⟨⟨_,he,ho⟩,hb⟩
theorem na(w:World):Calls Tryz.prog 163 #[] w fun e w'=>(∃g,e = .returned (.slice (some ⟨g,0,none⟩) 28 28)/\ak w' w.heap.size (.slice (some ⟨g,0,none⟩) 28 28) pT)/\Below w.heap.size w w':=
 (vo w).mono fun _ _ ⟨he,ho,hb⟩=>⟨⟨_,he,ho⟩,hb⟩
theorem mR(w:World):Calls Tryz.prog 164 #[] w fun e w'=>(∃g,e = .returned (.slice (some ⟨g,0,none⟩) 30 30)/\ak w' w.heap.size (.slice (some ⟨g,0,none⟩) 30 30) pD)/\Below w.heap.size w w':=
 (uC w).mono fun _ _ ⟨he,ho,hb⟩=>⟨⟨_,he,ho⟩,hb⟩
theorem eU:jN.length=28:=oJ _ _ _
theorem eO:jA.length=30:=oJ _ _ _
set_option maxRecDepth 100000 in
theorem qd(b:Nat)(p:Nat×Nat)(ta a a2:Option Addr)(tcap tn cap n cap2 n2:Nat)(T:List Tk)(L D:List Int)(w:World)(ho:iT w b p)(hT:pC w b ta T)(hL:ia w b a L)(hD:ia w b a2 D)
  (htn:T.length=tn) (hn:L.length=n) (hn2:D.length=n2) (hn3:n<=300) (hn4:n2<=300) (gL:lr L) (gD:lr D) (h256:256<n) (htm:(tn:Int)<=300) (hp:p.2<=10000)
  (hok:∀t∈T,okT t=true/\fs L D t) :
  Calls Tryz.prog 127 #[.pointer (some ⟨b,0,none⟩),.slice ta tn tcap,.slice a n cap,.slice a2 n2 cap2] w fun e w'=>e = .returned (.tuple #[])/\iT w' b (bh p (T.flatMap (cz L D)++[pcM L 256]))/\KB b w w':=by
 have hbw:b<w.heap.size:=Out.lt ho;have hmix:Tryz.prog.follows .mixedOrders=true:=by kernel_rfl
 have HT:=af hT;have HO:=af ho;have HL:=af hL;have HD:=af hD;have Htn:=af htn;have Hn:=af hn;have Hn2:=af hn2;have Hn3:=af hn3;have Hn4:=af hn4;have HgL:=af gL;have HgD:=af gD;have H256:=af h256;have Hp:=af hp;have Hok:=af hok;have hnI:(n:Int)<=300:=by omega
 have hnI2:(n2:Int)<=300:=by omega
 clear hT ho hL hD htn hn hn2 hn3 hn4 gL gD h256 hp hok;go_enter Tryz.func127,Tryz.ntmps127;go_wp2_with fail;refine(pj a cap n L _ (ae Hn) (ae HL).1 (ae Hn3)).mono ?_;rintro e x1 ⟨⟨g1,rfl,o1⟩,b1⟩;have N1:=af (eT ((bA L 15).trans (ae Hn)) o1 hbw);have B1:=af b1;clear o1 b1;go_wp2_with fail;refine(pj a2 cap2 n2 D _ (ae Hn2) ((ae HD).below (ae B1)).1 (ae Hn4)).mono ?_;rintro e x2 ⟨⟨g2,rfl,o2⟩,b2⟩;have N2:=af (eT ((bA D 15).trans (ae Hn2)) o2 (a0g hbw (ae B1).size));have N1':=af ((ae N1).below b2);have B2:=af (am (ae B1) b2);clear o2 b2 N1 B1;go_wp2_with fail;refine(na _).mono ?_;rintro e x3 ⟨⟨g3,rfl,o3⟩,b3⟩;have R3:=af (o3.rowN rfl);have B3:=af (am (ae B2) b3);have N1:=af ((ae N1').below b3);have N2':=af ((ae N2).below b3);clear o3 b3 B2 N1' N2;go_wp2_with fail;refine(lC _ 28 _ (ae R3)).mono ?_;rintro e x4 ⟨v4,rfl,o4,b4⟩;obtain⟨a4,c4,rfl⟩:=o4.formN eU;have N4:=af (eT eU o4 (a0g hbw (ae B3).size));have B4:=af (am (ae B3) b4);have N1':=af ((ae N1).below b4);have N2:=af ((ae N2').below b4);clear o4 b4 B3 N1 N2' R3;go_wp2_with fail;refine(mR _).mono ?_;rintro e x5 ⟨⟨g5,rfl,o5⟩,b5⟩;have R5:=af (o5.rowN rfl);have B5:=af (am (ae B4) b5);have N1:=af ((ae N1').below b5);have N2':=af ((ae N2).below b5);have N4':=af ((ae N4).below b5);clear o5 b5 B4 N1' N2 N4;go_wp2_with fail;refine(lB _ 30 _ (ae R5)).mono ?_;rintro e x6 ⟨v6,rfl,o6,b6⟩;obtain⟨a6,c6,rfl⟩:=o6.formN eO;have N6:=af (eT eO o6 (a0g hbw (ae B5).size));have B6:=af (am (ae B5) b6);have HR6:Hid (RR x6 b L D T a a2 (some ⟨g1,0,none⟩) (some ⟨g2,0,none⟩) a4 a6 ta):=
  ⟨⟨(ae HL).below (ae B6),(ae HD).below (ae B6)⟩,⟨(ae N1).below b6,(ae N2').below b6⟩,⟨(ae N4').below b6,ae N6⟩,(ae HT).keep (bJ (ae B6))⟩
 have HO6:Hid (iT x6 b (bh p ((T.take 0).flatMap (cz L D)))):=Out.kept (ae HO) (ae B6);have HK6:Hid (KB b w x6):=(KB.refl b w).below (ae B6) (a0x hbw);clear o6 b6 B5 N1 N2' N4' N6 R5 HT HO HL HD B6;go_wp2_with fail
 go_loopw [12,13,14] (fun i _ _ wr=>∃k:Nat,k<=tn/\i = .int .i64 k/\iT wr b (bh p ((T.take k).flatMap (cz L D)))/\RR wr b L D T a a2 (some ⟨g1,0,none⟩) (some ⟨g2,0,none⟩) a4 a6 ta/\KB b w wr) (fun i _ _ _=>tn-(intOf i).toNat)
 case atStart=>exact⟨0,a0l _,rfl,ae HO6,ae HR6,ae HK6⟩
 case round=>
  obtain⟨k,hk,rfl,ho,hrr,hkb⟩:=hrel;clear HO6 HR6 HK6;have HO:=af ho;have HRR:=af hrr;have HKB:=af hkb;have HK:=af hk;have hbr:Hid (b<wr.heap.size):=Out.lt ho;clear ho hkb hk;by_cases hlt:k<tn
  ·
   have hltI:(k:Int)<(tn:Int):=by omega
   obtain⟨g,o,rfl,hg,hc⟩:=hrr.2.2.2.1 (by rw[ae Htn];omega);obtain⟨c0,c1,c2⟩:=hc k (by rw[ae Htn];exact hlt);have Hstep:Hid ((T.take (k+1)).flatMap (cz L D)=(T.take k).flatMap (cz L D)++cz L D (T.getD k k0)):=by
    show(T.take (k+1)).flatMap (cz L D)=_;rw[Aq T k (by rw[ae Htn];exact hlt)];simp
   obtain⟨hokk,hfit⟩:=ae Hok (T.getD k k0) (by simp[List.getD,show k<T.length by rw[ae Htn];exact hlt]);have Hbits:Hid ((bh p ((T.take k).flatMap (cz L D))).2<=80000):=by
    show _<=_;have h1:=kj L D (T.take k) p (ae HgL) (ae HgD) (fun t ht=>(ae Hok t (a12 ht)).2);have h2:(T.take k).length<=k:=List.length_take_le _ _;have h3:=ae Hp;omega
   clear hc hrr;generalize T.getD k k0=t at *
   have HPE:Hid (bh p ((T.take (k+1)).flatMap (cz L D))=bh (bh p ((T.take k).flatMap (cz L D))) (cz L D t)):=by
    show bh p _=_;rw[ae Hstep,bq]
   generalize bh p ((T.take k).flatMap (cz L D))=P at *
   have hbA:Below wr.heap.size wr (wr.alloc (.cells #[.int .i64 t.1,.int .i64 t.2.1,.int .i64 t.2.2] 215)):=(a0c _ _).alloc (a0a _) _;have HO1:Hid (iT (wr.alloc (.cells #[.int .i64 t.1,.int .i64 t.2.1,.int .i64 t.2.2] 215)) b P):=Out.kept (ae HO) hbA;have HR1:=af ((ae HRR).keep (bJ hbA));have HK1:=af ((ae HKB).below hbA (a0x (ae hbr)));have HB1:=af (alloc_at wr (.cells #[.int .i64 t.1,.int .i64 t.2.1,.int .i64 t.2.2] 215));clear hbA HO HRR HKB;cases hB:isB t
   ·
    have hK:isK t=true:=by unfold okT at hokk;rw[hB]at hokk;simpa using hokk
    obtain⟨y0,y1,z0,z1⟩:=rt hK;have hx0:t.1=0:=by unfold isK at hK;simp only[a0n,a0z]at hK;exact hK.1.1
    have hf2:Hid (257+fnd 3 4 t.2.1.toNat 27<n/\fnd 1 2 t.2.2.toNat 29<n2):=by
     have:=hfit;unfold fs at this;rw[a0e (by simp[hB]),ae Hn,ae Hn2]at this;exact this
    have HPc:Hid (cz L D t=[pcM L (257+fnd 3 4 t.2.1.toNat 27),((t.2.1.toNat:Int)-((stF 3 4 (fnd 3 4 t.2.1.toNat 27)).1:Int),((stF 3 4 (fnd 3 4 t.2.1.toNat 27)).2:Nat)),pcM D (fnd 1 2 t.2.2.toNat 29),((t.2.2.toNat:Int)-((stF 1 2 (fnd 1 2 t.2.2.toNat 29)).1:Int),((stF 1 2 (fnd 1 2 t.2.2.toNat 29)).2:Nat))]):=by
     show cz L D t=_;unfold cz;rw[a0e (by simp[hB])]
    have hy:t.2.1=((t.2.1.toNat:Nat):Int):=by omega
    have hz:t.2.2=((t.2.2.toNat:Nat):Int):=by omega
    have hyN:3<=t.2.1.toNat/\t.2.1.toNat<=60:=by omega
    have hzN:1<=t.2.2.toNat/\t.2.2.toNat<=250:=by omega
    have Eok1:=af (yj t.2.1.toNat hyN.1 hyN.2);have Eok2:=af (yi t.2.2.toNat hzN.1 hzN.2);have Sy1:=af (xy t.2.1.toNat hyN.1 hyN.2);have Sy2:=af (vN t.2.2.toNat hzN.1 hzN.2);have hl1:=ez 3 4 t.2.1.toNat 27;have hl2:=ez 1 2 t.2.2.toNat 29;have At1:=af (Fj (fnd 3 4 t.2.1.toNat 27) (by omega));have At2:=af (Ee (fnd 1 2 t.2.2.toNat 29) (by omega));have Bt1:=af (Fo (fnd 3 4 t.2.1.toNat 27) (by omega));have Bt2:=af (Eh (fnd 1 2 t.2.2.toNat 29) (by omega));generalize stF 3 4 (fnd 3 4 t.2.1.toNat 27)=E at *
    generalize stF 1 2 (fnd 1 2 t.2.2.toNat 29)=E' at *
    generalize fnd 3 4 t.2.1.toNat 27=f at *
    generalize fnd 1 2 t.2.2.toNat 29=f' at *
    clear hB hK hokk hfit;obtain⟨tx,ty,tz⟩:=t;simp only at hx0 y0 y1 z0 z1 hy hz hyN hzN c0 c1 c2 HR1 HK1 HO1 HB1 HPc Eok1 Eok2 Sy1 Sy2 HPE;generalize ty.toNat=y at *
    generalize tz.toNat=z at *
    subst hx0 hy hz;have hfI:(f:Int)<28:=by omega
    have hfI':(f':Int)<30:=by omega
    have hf28:Hid (f<28):=by show f<28;omega
    have hf30:Hid (f'<30):=by show f'<30;omega
    have hE1:=aV.1 (ae Eok1);have hE2:=aV.1 (ae Eok2);have e1a:0<=(y:Int)-(E.1:Int):=hE1.2.1;have e2a:0<=(z:Int)-(E'.1:Int):=hE2.2.1;have yI:(y:Int)<=60:=by omega
    have zI:(z:Int)<=250:=by omega
    have y3:¬ (y:Int)=0:=by omega
    have hwr1:=cY ((y:Int)-(E.1:Int)) (by omega) (by omega);have hwr2:=cY ((z:Int)-(E'.1:Int)) (by omega) (by omega);clear hE1 hE2 hl1 hl2 hyN hzN;obtain⟨gl,ol,rfl,hgl,hcl⟩:=iB (ae HR1).2.2.1.1 (by rw[eU];exact ae hf28);obtain⟨gk,ok,rfl,hgk,hck⟩:=iB (ae HR1).2.2.1.2 (by rw[eO];exact ae hf30);have HLs:=af (fun W (hR:ia W b (some ⟨gl,ol,none⟩) jN)=>ml (some ⟨gl,ol,none⟩) c4 28 jN (y:Int) W eU hR.1 (by omega) (by omega));have HKs:=af (fun W (hR:ia W b (some ⟨gk,ok,none⟩) jA)=>ml (some ⟨gk,ok,none⟩) c6 30 jA (z:Int) W eO hR.1 (by omega) (by omega));rw[ae Sy1]at HLs;rw[ae Sy2]at HKs;have hne:Hid (wr.heap.size≠b):=by show _≠_;have:=ae hbr;omega
    clear hcl hck hgl hgk;go_wp2_with fail;refine(ae HLs _ (ae HR1).2.2.1.1).mono ?_;rintro e w7 ⟨rfl,hw7⟩;rw[hw7];clear hw7;have eI:(257:Int)+(f:Int)=((257+f:Nat):Int):=by omega
    have HSy:=af (oA b P a (some ⟨g1,0,none⟩) cap n n (257+f) L _ (ae HO1) (ae Hn) (ae HR1).1.1.1 (ae HR1).2.1.1.1 (ae hf2).1 (ae Hn3) ((ae HgL) _ (by rw[ae Hn];exact(ae hf2).1)).1 ((ae HgL) _ (by rw[ae Hn];exact(ae hf2).1)).2 (by have:=ae Hbits;omega));rw[←eI]at HSy;clear eI;go_wp2_with fail;refine(ae HSy).mono ?_;rintro e x7 ⟨rfl,h7,k7⟩;have HO7:=af h7;have HR7:=af ((ae HR1).keep k7.2);have HK7:=af ((ae HK1).trans k7);have HB7:=af (lh k7.2 (ae HB1) (ae hne) (by decide));have Hp7:Hid ((bh P [pcM L (257+f)]).2<=80100):=by
     show _<=_;have h1:=dA P [pcM L (257+f)] (fun x hx=>by simp only[a06,a17,a1P]at hx;subst hx;have:=((ae HgL) (257+f) (by rw[ae Hn];exact(ae hf2).1)).1.2;show L.getD _ 0<=16;omega);have h2:=ae Hbits;simp only[a0E,a01]at h1;omega
    have HS7:Hid (∀W,ce b x7 W->W.cell? ⟨wr.heap.size,1,none⟩=some (.int .i64 (y:Nat))/\W.cell? ⟨gl,ol+f,none⟩=some (.int .i64 (E.1:Nat))):=by
     intro W hW;refine⟨bp (lh hW (ae HB7) (ae hne) (by decide)) 1,?_⟩;obtain⟨g',o',e',_,hcc⟩:=iB ((ae HR7).2.2.1.1.keep hW) (k:=f) (by rw[eU];exact ae hf28);simp only[a0j,a0y,a0Q]at e';obtain⟨rfl,rfl⟩:=e';rw[ae At1]at hcc;exact hcc
    have HPT:=af (fun W (hW:iT W b (bh P [pcM L (257+f)]))=>eG b (bh P [pcM L (257+f)]) ((y:Int)-(E.1:Int)) (E.2:Nat) W hW (ae Eok1) (by have:=ae Hp7;omega));clear h7 k7 HSy HO1 HR1 HK1 HB1;go_wp2_with fail;have hD7:Below x7.heap.size x7 x7.drew:=(a0c _ x7).drew;go_cut[] (fun wx=>iT wx b (bh (bh P [pcM L (257+f)]) [((y:Int)-(E.1:Int),(E.2:Nat))])/\KB b x7 wx)
    case first=>
     refine wp_region_held_drew (S:=fun W=>W.cell? ⟨wr.heap.size,1,none⟩=some (.int .i64 (y:Nat))/\W.cell? ⟨gl,ol+f,none⟩=some (.int .i64 (E.1:Nat))) hmix (ae HS7 _ (bJ hD7)) (fun hS=>?_);refine ah 0 (.pointer (some ⟨b,0,none⟩)) rfl (by kernel_rfl) (fun _ _ _ h=>h) rfl (?_) hS ?_
     · intro W hSw;obtain⟨s0,s1⟩:=hSw;go_simp
     refine ah 1 (.pointer (some ⟨wr.heap.size,1,none⟩)) rfl (by kernel_rfl) (fun _ _ _ h=>h) rfl (?_) hS ?_
     · intro W hSw;obtain⟨s0,s1⟩:=hSw;go_simp
     refine ah 2 (.int .i64 (y:Nat)) rfl (by kernel_rfl) (fun _ _ _ h=>h) rfl (?_) hS ?_
     · intro W hSw;obtain⟨s0,s1⟩:=hSw;go_simp
     refine ah 3 (.slice (some ⟨gl,ol,none⟩) 28 c4) rfl (by kernel_rfl) (fun _ _ _ h=>h) rfl (?_) hS ?_
     · intro W hSw;obtain⟨s0,s1⟩:=hSw;go_simp
     refine ah 4 (.int .i64 (f:Nat)) rfl (by kernel_rfl) (fun _ _ _ h=>h) rfl (?_) hS ?_
     · intro W hSw;obtain⟨s0,s1⟩:=hSw;go_simp
     refine ah 5 (.pointer (some ⟨gl,ol+f,none⟩)) rfl (by kernel_rfl) (fun _ _ _ h=>h) rfl (?_) hS ?_
     · intro W hSw;obtain⟨s0,s1⟩:=hSw;go_simp
     refine ah 6 (.int .i64 (E.1:Nat)) rfl (by kernel_rfl) (fun _ _ _ h=>h) rfl (?_) hS ?_
     · intro W hSw;obtain⟨s0,s1⟩:=hSw;go_simp
     refine ah 7 (.int .i64 ((y:Int)-(E.1:Int))) rfl (by kernel_rfl) (fun _ _ _ h=>h) rfl (?_) hS ?_
     · intro W hSw;obtain⟨s0,s1⟩:=hSw;go_simp
     refine ah 9 (.int .i64 (f:Nat)) rfl (by kernel_rfl) (fun _ _ _ h=>h) rfl (?_) hS ?_
     · intro W hSw;obtain⟨s0,s1⟩:=hSw;go_simp
     refine ai 8 (by kernel_rfl) rfl fun Kk hKk=>?_;go_simp;go_at_call 163;refine(na _).mono ?_;rintro e x8 ⟨⟨g8,rfl,o8⟩,b8⟩;have hb8:Below x7.heap.size x7 x8:=am hD7 b8;have hc8:=(o8.at rfl (ae hf28)).1;rw[ae Bt1]at hc8;have HO8:=af (Out.kept (ae HO7) hb8);clear o8 b8;refine Shut.out hKk _ _ (ae HS7 _ (bJ hb8)) (fun hS2=>?_);clear hKk Kk;refine ai 10 (by kernel_rfl) rfl fun Kk hKk=>?_;go_simp;refine Shut.out hKk _ _ (ae HS7 _ (bJ hb8)) (fun _=>?_);clear hKk Kk;refine ai 11 (by kernel_rfl) rfl fun Kk hKk=>?_;go_simp;refine Shut.out hKk _ _ (ae HS7 _ (bJ hb8)) (fun _=>?_);clear hKk Kk;refine ai 12 (by kernel_rfl) rfl fun Kk hKk=>?_;go_simp;go_at_call 125;refine(ae HPT _ (ae HO8)).mono ?_;rintro e x9 ⟨rfl,h9,k9⟩;have HX9:=af (a0b h9 (((KB.refl b x7).below hb8 (a0x (Out.lt (ae HO7)))).trans k9));refine Shut.out hKk _ _ (ae HS7 _ ((bJ hb8).trans k9.2)) (fun _=>?_);clear hKk Kk h9 k9;refine wpAnyH_done (by kernel_rfl) ?_ _;go_wp2_with fail
     go_meet
     case rel=>exact ae HX9
    case rest=>
     obtain⟨ho9,hk9⟩:=hcut;have HO9:=af ho9;have HR9:=af ((ae HR7).keep hk9.2);have HK9:=af ((ae HK7).trans hk9);have HB9:=af (lh hk9.2 (ae HB7) (ae hne) (by decide));have Hp9:Hid ((bh (bh P [pcM L (257+f)]) [((y:Int)-(E.1:Int),((E.2:Nat):Int))]).2<=80200):=by
      show _<=_;have h1:=dA (bh P [pcM L (257+f)]) [((y:Int)-(E.1:Int),((E.2:Nat):Int))] (fun x hx=>by simp only[a06,a17,a1P]at hx;subst hx;exact(aV.1 (ae Eok1)).1.2);have h2:=ae Hp7;simp only[a0E,a01]at h1;omega
     have HE:Hid (∀r,bh P (pcM L (257+f) :: ((y:Int)-(E.1:Int),((E.2:Nat):Int)) :: r)=bh (bh (bh P [pcM L (257+f)]) [((y:Int)-(E.1:Int),((E.2:Nat):Int))]) r):=fun r=>by
      show bh P _=_;rw[←bq,←bq];rfl
     generalize bh (bh P [pcM L (257+f)]) [((y:Int)-(E.1:Int),((E.2:Nat):Int))]=P2 at *
     have hc2b:=bp (ae HB9) 2;simp at hc2b;clear ho9 hk9 HO7 HR7 HK7 HB7 HS7 HPT hD7;go_wp2_with fail;refine(ae HKs _ (ae HR9).2.2.1.2).mono ?_;rintro e w7 ⟨rfl,hw7⟩;rw[hw7];clear hw7;have HSy:=af (oA b P2 a2 (some ⟨g2,0,none⟩) cap2 n2 n2 f' D _ (ae HO9) (ae Hn2) (ae HR9).1.2.1 (ae HR9).2.1.2.1 (ae hf2).2 (ae Hn4) ((ae HgD) _ (by rw[ae Hn2];exact(ae hf2).2)).1 ((ae HgD) _ (by rw[ae Hn2];exact(ae hf2).2)).2 (by have:=ae Hp9;omega));go_wp2_with fail;refine(ae HSy).mono ?_;rintro e xa ⟨rfl,ha,ka⟩;have HOa:=af ha;have HRa:=af ((ae HR9).keep ka.2);have HKa:=af ((ae HK9).trans ka);have HBa:=af (lh ka.2 (ae HB9) (ae hne) (by decide));have Hpa:Hid ((bh P2 [pcM D f']).2<=80300):=by
      show _<=_;have h1:=dA P2 [pcM D f'] (fun x hx=>by simp only[a06,a17,a1P]at hx;subst hx;have:=((ae HgD) f' (by rw[ae Hn2];exact(ae hf2).2)).1.2;show D.getD _ 0<=16;omega);have h2:=ae Hp9;simp only[a0E,a01]at h1;omega
     have HSa:Hid (∀W,ce b xa W->W.cell? ⟨wr.heap.size,2,none⟩=some (.int .i64 (z:Nat))/\W.cell? ⟨gk,ok+f',none⟩=some (.int .i64 (E'.1:Nat))):=by
      intro W hW;refine⟨bp (lh hW (ae HBa) (ae hne) (by decide)) 2,?_⟩;obtain⟨g',o',e',_,hcc⟩:=iB ((ae HRa).2.2.1.2.keep hW) (k:=f') (by rw[eO];exact ae hf30);simp only[a0j,a0y,a0Q]at e';obtain⟨rfl,rfl⟩:=e';rw[ae At2]at hcc;exact hcc
     have HPTa:=af (fun W (hW:iT W b (bh P2 [pcM D f']))=>eG b (bh P2 [pcM D f']) ((z:Int)-(E'.1:Int)) (E'.2:Nat) W hW (ae Eok2) (by have:=ae Hpa;omega));have HFin:Hid (bh (bh P2 [pcM D f']) [((z:Int)-(E'.1:Int),((E'.2:Nat):Int))]=bh P2 [pcM D f',((z:Int)-(E'.1:Int),((E'.2:Nat):Int))]):=(bq P2 [pcM D f'] _).symm;clear ha ka HSy HO9 HR9 HK9 HB9 hc2b;go_wp2_with fail;have hDa:Below xa.heap.size xa xa.drew:=(a0c _ xa).drew;refine wp_region_held_drew (S:=fun W=>W.cell? ⟨wr.heap.size,2,none⟩=some (.int .i64 (z:Nat))/\W.cell? ⟨gk,ok+f',none⟩=some (.int .i64 (E'.1:Nat))) hmix (ae HSa _ (bJ hDa)) (fun hS=>?_);refine ah 0 (.pointer (some ⟨b,0,none⟩)) rfl (by kernel_rfl) (fun _ _ _ h=>h) rfl (?_) hS ?_
     · intro W hSw;obtain⟨s0,s1⟩:=hSw;go_simp
     refine ah 1 (.pointer (some ⟨wr.heap.size,2,none⟩)) rfl (by kernel_rfl) (fun _ _ _ h=>h) rfl (?_) hS ?_
     · intro W hSw;obtain⟨s0,s1⟩:=hSw;go_simp
     refine ah 2 (.int .i64 (z:Nat)) rfl (by kernel_rfl) (fun _ _ _ h=>h) rfl (?_) hS ?_
     · intro W hSw;obtain⟨s0,s1⟩:=hSw;go_simp
     refine ah 3 (.slice (some ⟨gk,ok,none⟩) 30 c6) rfl (by kernel_rfl) (fun _ _ _ h=>h) rfl (?_) hS ?_
     · intro W hSw;obtain⟨s0,s1⟩:=hSw;go_simp
     refine ah 4 (.int .i64 (f':Nat)) rfl (by kernel_rfl) (fun _ _ _ h=>h) rfl (?_) hS ?_
     · intro W hSw;obtain⟨s0,s1⟩:=hSw;go_simp
     refine ah 5 (.pointer (some ⟨gk,ok+f',none⟩)) rfl (by kernel_rfl) (fun _ _ _ h=>h) rfl (?_) hS ?_
     · intro W hSw;obtain⟨s0,s1⟩:=hSw;go_simp
     refine ah 6 (.int .i64 (E'.1:Nat)) rfl (by kernel_rfl) (fun _ _ _ h=>h) rfl (?_) hS ?_
     · intro W hSw;obtain⟨s0,s1⟩:=hSw;go_simp
     refine ah 7 (.int .i64 ((z:Int)-(E'.1:Int))) rfl (by kernel_rfl) (fun _ _ _ h=>h) rfl (?_) hS ?_
     · intro W hSw;obtain⟨s0,s1⟩:=hSw;go_simp
     refine ah 9 (.int .i64 (f':Nat)) rfl (by kernel_rfl) (fun _ _ _ h=>h) rfl (?_) hS ?_
     · intro W hSw;obtain⟨s0,s1⟩:=hSw;go_simp
     refine ai 8 (by kernel_rfl) rfl fun Kk hKk=>?_;go_simp;go_at_call 164;refine(mR _).mono ?_;rintro e x8 ⟨⟨g8,rfl,o8⟩,b8⟩;have hb8:Below xa.heap.size xa x8:=am hDa b8;have hc8:=(o8.at rfl (ae hf30)).1;rw[ae Bt2]at hc8;have HO8:=af (Out.kept (ae HOa) hb8);clear o8 b8;refine Shut.out hKk _ _ (ae HSa _ (bJ hb8)) (fun hS2=>?_);clear hKk Kk;refine ai 10 (by kernel_rfl) rfl fun Kk hKk=>?_;go_simp;refine Shut.out hKk _ _ (ae HSa _ (bJ hb8)) (fun _=>?_);clear hKk Kk;refine ai 11 (by kernel_rfl) rfl fun Kk hKk=>?_;go_simp;refine Shut.out hKk _ _ (ae HSa _ (bJ hb8)) (fun _=>?_);clear hKk Kk;refine ai 12 (by kernel_rfl) rfl fun Kk hKk=>?_;go_simp;go_at_call 125;refine(ae HPTa _ (ae HO8)).mono ?_;rintro e x9 ⟨rfl,h9,k9⟩;have HX9:=af (a0b h9 (((KB.refl b xa).below hb8 (a0x (Out.lt (ae HOa)))).trans k9));refine Shut.out hKk _ _ (ae HSa _ ((bJ hb8).trans k9.2)) (fun _=>?_);clear hKk Kk h9 k9;refine wpAnyH_done (by kernel_rfl) ?_ _;have HX:=af (a0b (ae HX9).1 (a0b ((ae HRa).keep (ae HX9).2.2) ((ae HKa).trans (ae HX9).2)));clear HX9;go_wp2;go_roundw
     case rel=>exact⟨k+1,by omega,by go_num,by rw[ae HPE,ae HPc,ae HE,←ae HFin];exact(ae HX).1,(ae HX).2.1,(ae HX).2.2⟩
     case measure=>simp[intOf];omega
   ·
    obtain⟨q1,q2⟩:=pd hB;have hfB:Hid (t.1.toNat<n):=by
     have:=hfit;unfold fs at this;rw[a0d hB,ae Hn]at this;exact this
    have HPc:Hid (cz L D t=[pcM L t.1.toNat]):=by show cz L D t=_;unfold cz;rw[a0d hB]
    have hz0:t.2.1=0:=by unfold isB at hB;simp only[a0n,a0z]at hB;exact hB.1
    have hx:t.1=((t.1.toNat:Nat):Int):=by omega
    have HSy:=af (oA b P a (some ⟨g1,0,none⟩) cap n n t.1.toNat L _ (ae HO1) (ae Hn) (ae HR1).1.1.1 (ae HR1).2.1.1.1 (ae hfB) (ae Hn3) ((ae HgL) _ (by rw[ae Hn];exact ae hfB)).1 ((ae HgL) _ (by rw[ae Hn];exact ae hfB)).2 (by have:=ae Hbits;omega));rw[←hx]at HSy;generalize t.1.toNat=xN at *
    clear hB hokk hfit hx;obtain⟨tx,ty,tz⟩:=t;simp only at hz0 q1 q2 c0 c1 c2 HSy HR1 HK1;subst hz0;go_wp2_with fail;refine(ae HSy).mono ?_;rintro e x7 ⟨rfl,h7,k7⟩;have HX:=af (a0b h7 (a0b ((ae HR1).keep k7.2) ((ae HK1).trans k7)));clear h7 k7 HSy;go_wp2;go_roundw
    case rel=>exact⟨k+1,by omega,by go_num,by rw[ae HPE,ae HPc];exact(ae HX).1,(ae HX).2.1,(ae HX).2.2⟩
    case measure=>simp[intOf];omega
  ·
   obtain rfl:k=tn:=by have:=ae HK;omega
   have HPE:Hid (bh p (T.flatMap (cz L D)++[pcM L 256])=bh (bh p ((T.take k).flatMap (cz L D))) [pcM L 256]):=by
    show bh p _=_;rw[a0F (by rw[ae Htn];exact a0a _),bq]
   have Hbits:Hid ((bh p ((T.take k).flatMap (cz L D))).2<=80000):=by
    show _<=_;have h1:=kj L D (T.take k) p (ae HgL) (ae HgD) (fun t ht=>(ae Hok t (a12 ht)).2);have h2:(T.take k).length<=k:=List.length_take_le _ _;have h3:=ae Hp;omega
   generalize bh p ((T.take k).flatMap (cz L D))=P at *
   have HSy:=af (oA b P a (some ⟨g1,0,none⟩) cap n n 256 L _ (ae HO) (ae Hn) (ae HRR).1.1.1 (ae HRR).2.1.1.1 (ae H256) (ae Hn3) ((ae HgL) _ (by rw[ae Hn];exact ae H256)).1 ((ae HgL) _ (by rw[ae Hn];exact ae H256)).2 (by have:=ae Hbits;omega));go_wp2_with fail;refine(ae HSy).mono ?_;rintro e x7 ⟨rfl,h7,k7⟩;have HX:=af (a0b h7 ((ae HKB).trans k7));clear h7 k7 HSy;go_wp2
   go_end0
   exact⟨rfl,by rw[ae HPE];exact(ae HX).1,(ae HX).2⟩
theorem AP{l:List Int}(h:aw l=true){k:Nat}(hk:k<l.length):pOk ((aI l 15).2.getD k 0) (l.getD k 0)=true:=by
 have hb:=ly (fL h) hk;rw[BW h hk];by_cases h1:1<=l.getD k 0
 · rw[a0d h1];have:=(tj h hk h1).1;exact aV.2 ⟨⟨hb.1,by omega⟩,by omega,by omega⟩
 ·
  rw[a0e h1];have e:l.getD k 0=0:=by omega
  rw[e];decide
theorem dI{l:List Int}(h:aw l=true):lr l:=by
 intro k hk;have hb:=ly (fL h) hk;obtain⟨_,c0,c1⟩:=aV.1 (AP h hk);refine⟨hb,c0,?_⟩;have h1:p2 (l.getD k 0).toNat<=p2 15:=a0T (by omega) (by omega);have h2:p2 15=32768:=by decide
 omega
theorem mr{l:List Int}(h:aw l=true){k:Nat}(hk:k<l.length):pcS l k=pcM l k:=by
 unfold pcS pcM;rw[AL (AP h hk)]
theorem FW{L D:List Int}(hL:aw L=true)(hD:aw D=true){t:Tk}(hf:fs L D t):pcT L D t=cz L D t:=by
 unfold pcT cz;unfold fs at hf
 split
 · rename_i h;rw[a0d h]at hf;rw[mr hL hf]
 · rename_i h;rw[a0e h]at hf;rw[mr hL hf.1,mr hD hf.2]
theorem pH{L D:List Int}(hL:aw L=true)(hD:aw D=true)(T:List Tk)(hf:∀t∈T,fs L D t):T.flatMap (pcT L D)=T.flatMap (cz L D):=by
 induction T with
 | nil=>rfl
 | cons t r ih=>rw[a03,a03,FW hL hD (hf t (by simp)),ih (fun x hx=>hf x (by simp[hx]))]
theorem IG{L D:List Int}(gL:lr L)(gD:lr D){t:Tk}(hk:okT t=true)(hf:fs L D t):bj (cz L D t)=true:=by
 unfold cz;unfold fs at hf;unfold bj
 split
 · rename_i h;rw[a0d h]at hf;simp only[a1L,a2J,a2O];exact ni (gL _ hf).1
 ·
  rename_i h;rw[a0e h]at hf;have hK:isK t=true:=by unfold okT at hk;simp only[a1f]at hk;rcases hk with h'|h';exact absurd h' h;exact h'
  obtain⟨y0,y1,z0,z1⟩:=rt hK;simp only[a1L,a2J,a2O,a0n];exact⟨ni (gL _ hf.1).1,yj _ (by omega) (by omega),ni (gD _ hf.2).1,yi _ (by omega) (by omega)⟩
theorem wv{L D:List Int}(gL:lr L)(gD:lr D)(T:List Tk)(h:∀t∈T,okT t=true/\fs L D t):bj (T.flatMap (cz L D))=true/\(T.flatMap (cz L D)).length<=4*T.length:=by
 induction T with
 | nil=>exact⟨rfl,by simp⟩
 | cons t r ih=>
  obtain⟨h1,h2⟩:=ih (fun x hx=>h x (by simp[hx]));obtain⟨h3,h4⟩:=h t (by simp);have h5:=(ua L D t gL gD h4).2;refine⟨?_,by simp only[a03,a0m,a0E];omega⟩;have h6:=IG gL gD h3 h4;unfold bj at *
  rw[a03,a1K,h6,h1];rfl
theorem uw(L:List UInt8):∀n p,L.length-p<=n->∀t∈bm L p,okT t=true:=by
 intro n;induction n with
 | zero=>
  intro p hp t ht;rw[ee (by omega)]at ht;cases ht
 | succ n ih=>
  intro p hp t ht;by_cases h:p<L.length
  ·
   rw[fH h]at ht;rcases a06.1 ht with rfl|ht
   · exact qH L p
   · exact ih (p+fS L p) (by have:=(fX L p).1;omega) t ht
  · rw[ee h]at ht;cases ht
theorem ep(s:ByteArray):∀t∈bm s.data.toList 0,okT t=true:=uw s.data.toList s.data.toList.length 0 (by omega)
def f8:List Int:=List.replicate 32 5
theorem gT:aw (bY 288)=true:=by decide +kernel
theorem lA:aw f8=true:=by decide +kernel
theorem iC{t:Tk}(_:okT t=true):fs (bY 288) f8 t:=by
 unfold fs
 split
 · rename_i hB;have:=pd hB;rw[cT];omega
 · have h1:=ez 3 4 t.2.1.toNat 27;have h2:=ez 1 2 t.2.2.toNat 29;rw[cT];exact⟨by omega,by show _<(List.replicate 32 (5:Int)).length;rw[a0A];omega⟩
def gm(s:ByteArray):List (Int×Int):=[(1,1),(1,2)]++((bm s.data.toList 0).flatMap (cz (bY 288) f8)++[pcM (bY 288) 256])
theorem g9(s:ByteArray)(hs:s.size<=300):(bm s.data.toList 0).length<=300:=by
 have h2:=uv s.data.toList s.data.toList.length 0 (by omega);have h3:s.data.toList.length=s.size:=by simp
 omega
theorem nS(s:ByteArray)(hs:s.size<=300):lOk (gm s)=true:=by
 obtain⟨h1,h2⟩:=wv (dI gT) (dI lA) (bm s.data.toList 0) (fun t ht=>⟨ep s t ht,iC (ep s t ht)⟩);have h3:=g9 s hs;have h4:pOk (pcM (bY 288) 256).1 (pcM (bY 288) 256).2=true:=ni (dI gT 256 (by rw[cT];omega)).1;unfold lOk;have h5:bj (gm s)=true:=by
  unfold gm;unfold bj at *
  rw[a1K,a1K,h1];simp only[a1L,a2J,h4];decide
 have h6:(gm s).length<=4000:=by unfold gm;simp only[a0m,a0E,a01];omega
 rw[h5];simpa using h6
def dL(s:ByteArray):List UInt8:=cH (gm s)
theorem wW(s:ByteArray)(w:World)(hs:s.size<=300) :
  Calls Tryz.prog 98 #[.string s] w fun e w'=>e = .returned (.string ⟨(dL s).toArray⟩)/\Below w.heap.size w w':=by
 have h0:Hid (iT (w.alloc (.cells #[.slice none 0 0,.int .i64 0,.int .i64 0] 168)) w.heap.size (0,0)):=vv w 168;have hB0:Hid (KB w.heap.size w (w.alloc (.cells #[.slice none 0 0,.int .i64 0,.int .i64 0] 168))):=(KB.refl _ _).below ((a0c _ _).alloc (a0a _) _) (a0a _);have HS:=af hs;have HV:Hid (bh (bh (bh (0,0) [(1,1)]) [(1,2)]) ((bm s.data.toList 0).flatMap (cz (bY 288) f8)++[pcM (bY 288) 256])=bi (gm s)):=by
  show bh _ _=_;rw[←bq,←bq];rfl
 have Hm:Hid ((bi (gm s)).2<=90000):=by
  show _<=_;rw[←ae HV,bq];have h1:=kj (bY 288) f8 (bm s.data.toList 0) (bh (bh (0,0) [(1,1)]) [(1,2)]) (dI gT) (dI lA) (fun t ht=>iC (ep s t ht));have h2:=dA (bh (bh (bh (0,0) [(1,1)]) [(1,2)]) ((bm s.data.toList 0).flatMap (cz (bY 288) f8))) [pcM (bY 288) 256] (fun x hx=>by simp only[a06,a17,a1P]at hx;subst hx;have:=(dI gT 256 (by rw[cT];omega)).1.2;show(bY 288).getD 256 0<=16;omega);have h3:=g9 s hs;have h4:(bh (bh (0,0) [(1,1)]) [(1,2)]).2=3:=rfl;simp only[a0E,a01]at h2;omega
 clear hs;go_enter Tryz.func98,Tryz.ntmps98;go_wp2_with fail;refine(eG _ _ 1 1 _ (ae h0) (by decide) (by show(0:Nat)<=_;omega)).mono ?_;rintro e x1 ⟨rfl,o1,k1⟩;have H1:=af (a0b o1 ((ae hB0).trans k1));clear o1 k1 h0 hB0;go_wp2_with fail;refine(eG _ _ 1 2 _ (ae H1).1 (by decide) (by show(1:Nat)<=_;omega)).mono ?_;rintro e x2 ⟨rfl,o2,k2⟩;have H2:=af (a0b o2 ((ae H1).2.trans k2));have hl2:Hid (w.heap.size<x2.heap.size):=Out.lt o2;clear o2 k2 H1;go_wp2_with fail;refine(oc s _ (by have:=ae HS;omega)).mono ?_;rintro e x3 ⟨v3,rfl,o3,b3⟩;obtain⟨tn,htn⟩:∃tn,(bm s.data.toList 0).length=tn:=⟨_,rfl⟩;obtain⟨a3,c3,rfl⟩:=o3.formN htn;have N3:=af (Cz htn o3 (ae hl2));have B3:=af b3;clear o3 b3;go_wp2_with fail;refine(wV _).mono ?_;rintro e x4 ⟨v4,rfl,o4,b4⟩;obtain⟨a4,c4,rfl⟩:=o4.formN (cT 288);have N4:=af (eT (cT 288) o4 (a0g (ae hl2) (ae B3).size));have N3':=af ((ae N3).keep (bJ b4));have B4:=af (am (ae B3) b4);clear o4 b4 N3 B3;go_wp2_with fail;refine(wU _).mono ?_;rintro e x5 ⟨v5,rfl,o5,b5⟩;have hn5:(List.replicate 32 (5:Int)).length=32:=a0A;obtain⟨a5,c5,rfl⟩:=o5.formN hn5;have N5:=af (eT hn5 o5 (a0g (ae hl2) (ae B4).size));have N3:=af ((ae N3').keep (bJ b5));have N4':=af ((ae N4).below b5);have B5:=af (am (ae B4) b5);have O5:=af (Out.kept (ae H2).1 (ae B5));have K5:=af ((ae H2).2.below (ae B5) (a0x (ae hl2)));have htI:Hid ((tn:Int)<=300):=by show(tn:Int)<=300;have:=g9 s (ae HS);omega
 have HTk:=af (qd w.heap.size (bh (bh (0,0) [(1,1)]) [(1,2)]) a3 a4 a5 c3 tn c4 288 c5 32 (bm s.data.toList 0) (bY 288) f8 x5 (ae O5) (ae N3) (ae N4') (ae N5) htn (cT 288) hn5 (by omega) (by omega) (dI gT) (dI lA) (by omega) (ae htI) (by show(3:Nat)<=10000;omega) (fun t ht=>⟨ep s t ht,iC (ep s t ht)⟩));rw[ae HV]at HTk;clear o5 b5 N3' N4 N5 B4 hn5 htn;go_wp2_with fail;refine(ae HTk).mono ?_;rintro e x6 ⟨rfl,o6,k6⟩;have K6:=af ((ae K5).trans k6).1;have O6:=af o6;clear o6 k6 HTk N3 N4' O5 K5 B5 H2;go_wp2_with fail;refine(kM _ _ _ _ (ae O6) (ae Hm)).mono ?_;rintro e x7 ⟨rfl,h7,b7⟩;obtain⟨_,v,T,Y⟩:=h7;have e8:8*(((bi (gm s)).2+7)/8)/8=((bi (gm s)).2+7)/8:=by omega
 rw[e8]at Y;have Y':Bys x7 w.heap.size v (dL s):=Y;have hcv:=kf Y';have HB:=af ((ae K6).trans b7);obtain⟨k0,k1,k2,f0,f1,f2,hbw⟩:=T;clear Y Y' e8 k1 k2 b7 O6;generalize hR:dL s=R at *
 have HR:=af hR;clear hR;go_wp2;go_ret;exact⟨by rw[ae HR];rfl,ae HB⟩
def ki(s:ByteArray):List UInt8:=if s.size<=300 then dL s else []
theorem Cl(s:ByteArray):[(1,1),(1,2)]++((bm s.data.toList 0).flatMap (pcT (bY 288) f8)++[pcS (bY 288) 256])=gm s:=by
 unfold gm;rw[pH gT lA _ (fun t ht=>iC (ep s t ht)),mr gT (by rw[cT];omega)]
theorem Dz{w:World}{base n cap:Nat}{a:Option Addr}{l:List (Int×Int)}(hn:l.length=n)(h:Pcs w base (.slice a n cap) l)(h0:0<n):∃g,a=some ⟨g,0,none⟩/\∀(j:Nat) (u:Value),(aQ l)[j]?=some u->w.cell? ((⟨g,0,none⟩:Addr).add j)=some u:=by
 rcases h.2 with⟨_,e⟩|⟨g,cap',cur,e,_⟩
 · omega
 · simp only[a0N]at e;obtain⟨rfl,_,rfl⟩:=e;exact⟨g,rfl,a1V h rfl⟩
theorem sU(s:ByteArray)(w:World)(hs:s.size<=300) :
  Calls Tryz.prog 76 #[.string s] w fun e w'=>e = .returned (.string ⟨(dL s).toArray⟩)/\Below w.heap.size w w':=by
 obtain⟨i0,hi,hz0,hz1,hz2⟩:=a0w Tryz.infoPiece;have hsI:(s.size:Int)<=300:=by omega
 have hI:¬ (300:Int)<(s.size:Int):=by omega
 have hP0:Hid ((w.alloc (.cells #[.int .i64 1,.int .i64 1,.int .i64 1,.int .i64 2] 114)).ownsRow w.heap.size 114 2 (.slice (some ⟨w.heap.size,0,none⟩) 2 2) 2 [.int .i64 1,.int .i64 1,.int .i64 1,.int .i64 2]):=a08 w #[.int .i64 1,.int .i64 1,.int .i64 1,.int .i64 2] 2 (a0a _) (by unfold maxLen;omega) rfl;have hB0:Hid (Below w.heap.size w (w.alloc (.cells #[.int .i64 1,.int .i64 1,.int .i64 1,.int .i64 2] 114))):=(a0c _ _).alloc (a0a _) _;have HS:=af hs;have HE:=af (Cl s);have HP:Hid (ot (gm s)=dL s):=d6 (nS s hs);have HLn:Hid ((gm s).length<=4000):=by
  have:=nS s hs;unfold lOk at this;simp only[a0n,a0z]at this;exact this.2
 clear hs;go_enter Tryz.func76,Tryz.ntmps76;go_wp2_with fail;refine(jk 1 w).mono ?_;rintro e x1 ⟨rfl,hx1⟩;have h1P:=af (show x1.ownsRow w.heap.size 114 2 (.slice (some ⟨w.heap.size,0,none⟩) 2 2) 2 [.int .i64 1,.int .i64 1,.int .i64 1,.int .i64 2] by rw[hx1];exact ae hP0);have h1B:=af (show Below w.heap.size w x1 by rw[hx1];exact ae hB0);clear hx1 hP0 hB0;go_wp2_with fail;refine(lq _).mono ?_;rintro e x2 ⟨⟨C,rfl,hBk⟩,hb2⟩;have h2P:=af (aN (ae h1P) hb2);have h2B:=af (am (ae h1B) hb2);have HBk:=af hBk;clear hBk hb2 h1P h1B;go_wp2_with fail;refine(sl s _ (bY 288) f8 C _ (ae HS) (ae HBk) (by rw[cT];omega) (by show(List.replicate 32 (5:Int)).length<=300;rw[a0A];omega) (by rw[cT];omega) (fun t ht=>iC (ep s t ht))).mono ?_;rintro e x3 ⟨v,rfl,hp3,hb3⟩;have h3P:=af (aN (ae h2P) hb3);have h3B:=af (am (ae h2B) hb3);clear hb3 h2P h2B HBk;generalize hR:(bm s.data.toList 0).flatMap (pcT (bY 288) f8)++[pcS (bY 288) 256]=R at *
 have hR0:0<R.length:=by rw[←hR];simp
 obtain⟨m,hm⟩:∃m,R.length=m:=⟨_,rfl⟩;obtain⟨va,vc,rfl⟩:∃a cap,v = .slice a m cap:=by
  rcases hp3.2 with⟨_,h0⟩|⟨g,cap,_,e,_⟩
  · omega
  · exact⟨_,cap,by rw[←hm];exact e⟩
 obtain⟨g3,rfl,hc3⟩:=Dz hm hp3 (by omega);have HC3:=af hc3;have Hm:=af hm;have bd:Hid (2+m<=maxLen/\(2+m)*16<=140737488355328):=by
  show _/\_;have h1:=ae HLn;rw[←ae HE,a0m,hm]at h1;unfold maxLen;simp only[a0E,a01]at h1;omega
 have hbs:=(ae h3B).size;clear hR hR0 hp3 hc3 hm;go_wp2_with (at_builtin;refine a0B _ rfl _ _ 111 rfl w.heap.size 114 i0 (.agg #[.int .i64 0,.int .i64 0]) 2 16 a0W hi hz0 hz1 hz2 rfl (by decide) (.slice (some ⟨w.heap.size,0,none⟩) 2 2) _ _ rfl (ae h3P) ⟨g3,0,none⟩ m vc (aQ R) rfl (by rw[dk,ae Hm]) (ae HC3) (cB R) (ae bd).1 (ae bd).2 hbs ?_;intro v' x4 hown hgrow hnil;clear hnil);have hX:([.int .i64 1,.int .i64 1,.int .i64 1,.int .i64 2]:List Value)++aQ R=aQ (gm s):=by rw[←ae HE,ec];rfl
 have hN:2+m=(gm s).length:=by rw[←ae HE,a0m,ae Hm];rfl
 rw[hX,hN]at hown;have hP4:Pcs x4 w.heap.size v' (gm s):=hown;obtain⟨a4,c4,rfl⟩:=hP4.form;have hb4:Below w.heap.size w x4:=(ae h3B).grown hgrow hbs (fun j hj=>(a0G (ae h3P) j hj).1);refine(fB a4 c4 (gm s) _ hP4.row (by have:=ae HLn;omega)).mono ?_;rintro e x5 ⟨rfl,hb5⟩;rw[ae HP];have HB5:=af (am hb4 hb5);clear hX hN hown hP4 hb4 hb5 hgrow;generalize hR:dL s=Q at *
 have HR:=af hR;clear hR;go_wp2;go_ret;exact⟨by rw[ae HR];rfl,ae HB5⟩
theorem oV(s:ByteArray)(w:World)(hs:s.size<=1048576) :
  Calls Tryz.prog 76 #[.string s] w fun e w'=>e = .returned (.string ⟨(ki s).toArray⟩)/\Below w.heap.size w w':=by
 have hsI:(s.size:Int)<=1048576:=by omega
 by_cases h:s.size<=300
 · have HF:Hid (ki s=dL s):=a0d h;rw[ae HF];exact sU s w h
 ·
  have hI:(300:Int)<(s.size:Int):=by omega
  have HF:Hid (ki s=[]):=a0e h;clear h;go_enter Tryz.func76,Tryz.ntmps76;go_wp2;go_ret;exact⟨by rw[ae HF];rfl,a0c _ _⟩
def byS(s:ByteArray):ByteArray:=⟨(fj s.data.toList).toArray⟩
def byF(s:ByteArray):ByteArray:=⟨(ki s).toArray⟩
theorem vS(s:ByteArray)(h:¬ s.size<=300):byS s=⟨#[]⟩:=by
 have:fj s.data.toList=[]:=by unfold fj;rw[a0e (by rw[fE];exact h)]
 unfold byS;rw[this]
theorem vQ(s:ByteArray)(h:¬ s.size<=300):byF s=⟨#[]⟩:=by unfold byF ki;rw[a0e h]
def inc(o:List Int)(k:Nat):List Int:=o.set k (o.getD k 0+1)
def fF(o:List Int)(s:List Nat):List Int:=s.foldl inc o
theorem iA(o:List Int)(k:Nat):(inc o k).length=o.length:=by simp[inc]
theorem dY(o:List Int)(s:List Nat):(fF o s).length=o.length:=by
 induction s generalizing o with
 | nil=>rfl
 | cons x s ih=>show(fF (inc o x) s).length=_;rw[ih,iA]
theorem gr(o:List Int)(s:List Nat)(x:Nat):fF o (s++[x])=inc (fF o s) x:=by simp[fF]
theorem kv(o:List Int)(k j:Nat):(inc o k).getD j 0=o.getD j 0+(if j=k/\k<o.length then 1 else 0):=by
 unfold inc;simp only[List.getD_eq_getElem?_getD,List.getElem?_set];by_cases h:k=j
 ·
  subst h;by_cases hk:k<o.length
  · simp[hk]
  · simp[hk]
 · have:¬ j=k:=fun e=>h e.symm;simp[h,this]
theorem jL(o:List Int)(s:List Nat)(j:Nat):(fF o s).getD j 0=o.getD j 0+(if j<o.length then(s.count j:Int)else 0):=by
 induction s generalizing o with
 | nil=>simp[fF]
 | cons x s ih=>
  show(fF (inc o x) s).getD j 0=_;rw[ih,kv,iA,List.count_cons];by_cases h:j=x
  ·
   subst h;by_cases hk:j<o.length
   · simp[hk];omega
   · simp[hk]
  ·
   have:(x == j)=false:=by simp;exact fun e=>h e.symm
   simp[h,this]
theorem CZ{a b:List Int}(hl:a.length=b.length)(h:∀j,j<a.length->a.getD j 0=b.getD j 0):a=b:=by
 apply a2e hl;intro i h1 h2;have:=h i h1;simpa[List.getD,h1,h2]using this
theorem gz(n j:Nat):(List.replicate n (0:Int)).getD j 0=0:=by
 by_cases h:j<n<;>simp[List.getD,h]
theorem vI {l : List Int} {k : Nat} (hk : k < l.length) (h : 0 < l.getD k 0) : 1 ≤ us l := by
  induction l generalizing k with
  | nil => simp at hk
  | cons b l ih =>
    simp only [us, a0C, a0R] at ih ⊢
    cases k with
    | zero => have : 0 < b := by simpa using h
              rw [a0d this]; omega
    | succ k => have := ih (k := k) (by simpa using hk) (by simpa using h); omega
theorem BH{l:List Int}(h:us l=0)(k:Nat)(hk:k<l.length):¬ 0<l.getD k 0:=fun hp=>by have:=vI hk hp;omega
def gV(t:Tk):Nat:=if isB t then t.1.toNat else 257+fnd 3 4 t.2.1.toNat 27
def dX(t:Tk):List Nat:=if isB t then []else [fnd 1 2 t.2.2.toNat 29]
theorem Iq{t:Tk}(_:okT t=true):gV t<286:=by
 unfold gV
 split
 · rename_i hB;have:=pd hB;omega
 · have:=ez 3 4 t.2.1.toNat 27;omega
theorem Eu{t:Tk} : ∀x∈dX t,x<30:=by
 unfold dX;intro x hx
 split at hx
 · simp at hx
 · have:=ez 1 2 t.2.2.toNat 29;simp at hx;omega
def fu(T:List Tk):List Int:=inc (fF (List.replicate 286 0) (T.map gV)) 256
def eW(T:List Tk):List Int:=fF (List.replicate 30 0) (T.flatMap dX)
def ct(T:List Tk):List Int:=if us (eW T)=0 then inc (eW T) 0 else eW T
theorem eC(T:List Tk):(fu T).length=286:=by unfold fu;rw[iA,dY,a0A]
theorem eQ(T:List Tk):(eW T).length=30:=by unfold eW;rw[dY,a0A]
theorem eR(T:List Tk):(ct T).length=30:=by unfold ct;split;rw[iA,eQ];exact eQ T
theorem oe(T:List Tk)(j:Nat)(hj:j<286):(fu T).getD j 0=((T.map gV).count j:Int)+(if j=256 then 1 else 0):=by
 unfold fu;rw[kv,jL,dY,a0A,gz,a0d hj];by_cases h:j=256<;>simp[h]
theorem oO(T:List Tk)(j:Nat)(hj:j<30):(eW T).getD j 0=((T.flatMap dX).count j:Int):=by
 unfold eW;rw[jL,a0A,gz,a0d hj];simp
theorem zK(T:List Tk):fF (inc (List.replicate 286 0) 256) (T.map gV)=fu T:=by
 apply CZ
 · rw[dY,iA,eC,a0A]
 · intro j hj;rw[dY,iA,a0A]at hj;rw[oe T j hj,jL,kv,iA,a0A,gz,a0d hj];by_cases h:j=256<;>simp[h];omega
theorem qY(T:List Tk):(T.flatMap dX).length<=T.length:=by
 induction T with
 | nil=>simp
 | cons t r ih=>
  have:(dX t).length<=1:=by unfold dX;split<;>simp
  simp only[a03,a0m,a0E];omega
theorem vi(T:List Tk)(hT:T.length<=300):okC (fu T):=by
 intro i hi;rw[eC]at hi;rw[oe T i hi];have h1:(T.map gV).count i<=(T.map gV).length:=a26;rw[a0P]at h1
 split<;>omega
theorem Et(T:List Tk)(hT:T.length<=300):∀i,i<30->0<=(eW T).getD i 0/\(eW T).getD i 0<=300:=by
 intro i hi;rw[oO T i hi];have h1:(T.flatMap dX).count i<=(T.flatMap dX).length:=a26;have h2:=qY T;omega
theorem qT(T:List Tk)(hT:T.length<=300):okC (ct T):=by
 intro i hi;rw[eR]at hi;have:=Et T hT i hi;unfold ct
 split
 · rw[kv];split<;>omega
 · omega
theorem vj(T:List Tk):1<=us (fu T)/\us (fu T)<=286:=by
 refine⟨vI (k:=256) (by rw[eC];omega) ?_,by have:=qh (fu T);rw[eC]at this;exact this⟩;rw[oe T 256 (by omega),a0d rfl];omega
theorem qU(T:List Tk):1<=us (ct T)/\us (ct T)<=30:=by
 refine⟨?_,by have:=qh (ct T);rw[eR]at this;exact this⟩;unfold ct
 split
 · rename_i h;refine vI (k:=0) (by rw[iA,eQ];omega) ?_;rw[kv,oO T 0 (by omega),eQ,a0d (by omega)];omega
 · omega
theorem Cb(T:List Tk)(j:Nat)(h:0<(eW T).getD j 0):0<(ct T).getD j 0:=by
 unfold ct
 split
 · rw[kv];split<;>omega
 · exact h
def dS(l:List Int)(least:Nat):Nat->Nat
 | 0=>0
 | n+1=>if least<n+1/\l.getD n 0=0 then dS l least n else n+1
def mE(l:List Int)(least:Nat):List Int:=l.take (dS l least l.length)
theorem oN{l:List Int}{least n:Nat}(h:least<n+1/\l.getD n 0=0):dS l least (n+1)=dS l least n:=by simp only[dS];rw[a0d h]
theorem l7{l:List Int}{least n:Nat}(h:¬ (least<n/\l.getD (n-1) 0=0)):dS l least n=n:=by
 cases n with
 | zero=>rfl
 | succ n=>rw[a3p]at h;simp only[dS];rw[a0e h]
theorem qz(l:List Int)(least n:Nat):dS l least n<=n:=by
 induction n with
 | zero=>exact a0a _
 | succ n ih=>simp only[dS];split<;>omega
theorem qS (l : List Int) (least n : Nat) (h : least ≤ n) : least ≤ dS l least n := by
  induction n with
  | zero => exact h
  | succ n ih => simp only [dS]; split
                 · exact ih (by omega)
                 · exact h
theorem tk(l:List Int)(least n j:Nat)(h1:dS l least n<=j)(h2:j<n):l.getD j 0=0:=by
 induction n with
 | zero=>omega
 | succ n ih=>
  by_cases hc:least<n+1/\l.getD n 0=0
  ·
   rw[oN hc]at h1;by_cases e:j=n
   · subst e;exact hc.2
   · exact ih h1 (by omega)
  · simp only[dS]at h1;rw[a0e hc]at h1;omega
theorem gN(l:List Int)(least:Nat):(mE l least).length=dS l least l.length:=by
 unfold mE;rw[a0L];have:=qz l least l.length;omega
theorem GB(l:List Int)(c j:Nat)(h:j<c):(l.take c).getD j 0=l.getD j 0:=by
 simp[List.getD,h]
theorem vZ(l:List Int)(least j:Nat)(h:j<l.length):(mE l least).getD j 0=l.getD j 0:=by
 by_cases hc:j<dS l least l.length
 · exact GB l _ j hc
 ·
  rw[tk l least l.length j (by omega) h];have:(mE l least).length<=j:=by rw[gN];omega
  simp[List.getD,this]
theorem Ea{l:List Int}(h:∀x∈l,x=0):kr l=0/\us l=0:=by
 induction l with
 | nil=>exact⟨rfl,rfl⟩
 | cons b l ih=>
  obtain⟨h1,h2⟩:=ih (fun x hx=>h x (by simp[hx]));have hb:b=0:=h b (by simp);subst hb;simp only[kr,us,a0C,a0R]at h1 h2 ⊢;rw[h1,h2];exact⟨rfl,rfl⟩
theorem Er(l:List Int)(least:Nat):kr (mE l least)=kr l/\us (mE l least)=us l:=by
 have h:∀x∈l.drop (dS l least l.length),x=0:=by
  intro x hx;obtain⟨i,hi,rfl⟩:=List.mem_iff_getElem.1 hx;rw[List.getElem_drop];rw[a1B]at hi;have:=tk l least l.length (dS l least l.length+i) (by omega) (by omega);have hlt:dS l least l.length+i<l.length:=by omega
  simpa[List.getD,hlt]using this
 obtain⟨h1,h2⟩:=Ea h;have e:l=mE l least++l.drop (dS l least l.length):=(a2B _ _).symm;have k1:kr l=kr (mE l least)+kr (l.drop (dS l least l.length)):=by
  conv=>lhs;rw[e]
  simp[kr]
 have k2:us l=us (mE l least)+us (l.drop (dS l least l.length)):=by
  conv=>lhs;rw[e]
  simp[us]
 omega
theorem rK{l:List Int}(least:Nat)(h:aw l=true):aw (mE l least)=true:=by
 obtain⟨h1,h2⟩:=Er l least;unfold aw nE at h ⊢;rw[h1,h2];simp only[a0n,a0z]at h ⊢;obtain⟨⟨ha,hb⟩,hc⟩:=h;refine⟨⟨?_,by rw[gN];have:=qz l least l.length;omega⟩,hc⟩;unfold inL at ha ⊢;rw[a1j]at ha ⊢;intro x hx;exact ha x (a12 hx)
def bD(T:List Tk):List Int:=mE (df 15 (fu T)) 257
def ck(T:List Tk):List Int:=mE (df 15 (ct T)) 1
theorem xT:p2 14=16384:=by decide
theorem JD:p2 6=64:=by decide
theorem Fe(T:List Tk)(hT:T.length<=300):(df 15 (fu T)).length=286/\aw (df 15 (fu T))=true/\∀i,i<286->0<=(df 15 (fu T)).getD i 0/\(df 15 (fu T)).getD i 0<=15/\(0<(df 15 (fu T)).getD i 0<->0<(fu T).getD i 0):=by
 have h1:=vj T;have h:=rM (m:=14) (vi T hT) (by rw[eC];omega) (by rw[eJ];omega) (by rw[eJ];have h2:=xT;omega) (by omega);rw[eC]at h;exact h
theorem we(T:List Tk)(hT:T.length<=300):(df 15 (ct T)).length=30/\aw (df 15 (ct T))=true/\∀i,i<30->0<=(df 15 (ct T)).getD i 0/\(df 15 (ct T)).getD i 0<=15/\(0<(df 15 (ct T)).getD i 0<->0<(ct T).getD i 0):=by
 have h1:=qU T;have h:=rM (m:=14) (qT T hT) (by rw[eR];omega) (by rw[eJ];omega) (by rw[eJ];have h2:=xT;omega) (by omega);rw[eR]at h;exact h
theorem iK(T:List Tk)(hT:T.length<=300):257<=(bD T).length/\(bD T).length<=286:=by
 obtain⟨h1,_,_⟩:=Fe T hT;unfold bD;rw[gN,h1];exact⟨qS _ _ _ (by omega),qz _ _ _⟩
theorem jP(T:List Tk)(hT:T.length<=300):1<=(ck T).length/\(ck T).length<=30:=by
 obtain⟨h1,_,_⟩:=we T hT;unfold ck;rw[gN,h1];exact⟨qS _ _ _ (by omega),qz _ _ _⟩
theorem fD(T:List Tk)(hT:T.length<=300):aw (bD T)=true:=rK 257 (Fe T hT).2.1
theorem gE(T:List Tk)(hT:T.length<=300):aw (ck T)=true:=rK 1 (we T hT).2.1
theorem zk{l:List Int}{j:Nat}(h:0<l.getD j 0):j<l.length:=by
 rcases a1O j l.length with h'|h'
 · exact h'
 · simp[List.getD,h']at h
theorem xP(T:List Tk)(hT:T.length<=300)(k:Nat)(hk:k=256∨k∈T.map gV)(h286:k<286):0<(bD T).getD k 0:=by
 obtain⟨h1,_,h3⟩:=Fe T hT;unfold bD;rw[vZ _ _ _ (by omega)];refine(h3 k h286).2.2.2 ?_;rw[oe T k h286];rcases hk with rfl|hk
 · rw[a0d rfl];omega
 ·
  have:=List.count_pos_iff.2 hk
  split<;>omega
theorem FN(T:List Tk)(hT:T.length<=300)(k:Nat)(hk:k∈T.flatMap dX)(h30:k<30):0<(ck T).getD k 0:=by
 obtain⟨h1,_,h3⟩:=we T hT;unfold ck;rw[vZ _ _ _ (by omega)];refine(h3 k h30).2.2.2 (Cb T k ?_);rw[oO T k h30];have:=List.count_pos_iff.2 hk;omega
theorem Bq(T:List Tk)(hT:T.length<=300)(hok:∀t∈T,okT t=true)(t:Tk)(ht:t∈T):0<(bD T).getD (gV t) 0/\∀k∈dX t,0<(ck T).getD k 0:=by
 refine⟨xP T hT _ (.inr (a2p ht)) (Iq (hok t ht)),fun k hk=>FN T hT k ?_ (Eu k hk)⟩;exact List.mem_flatMap.2 ⟨t,ht,hk⟩
theorem lF(T:List Tk)(hT:T.length<=300)(hok:∀t∈T,okT t=true)(t:Tk)(ht:t∈T):fs (bD T) (ck T) t:=by
 obtain⟨h1,h2⟩:=Bq T hT hok t ht;unfold fs;unfold gV at h1;unfold dX at h2
 split
 · rename_i h;rw[a0d h]at h1;exact zk h1
 · rename_i h;rw[a0e h]at h1 h2;exact⟨zk h1,zk (h2 _ (by simp))⟩
def mT(A:List Int):List Int:=fF (List.replicate 19 0) (A.map Int.toNat)
def aO(A:List Int):List Int:=df 7 (mT A)
theorem fq(A:List Int):(mT A).length=19:=by unfold mT;rw[dY,a0A]
theorem qR(A:List Int)(j:Nat)(hj:j<19):(mT A).getD j 0=((A.map Int.toNat).count j:Int):=by
 unfold mT;rw[jL,a0A,gz,a0d hj];simp
theorem uE(A:List Int)(hA:A.length<=400):okC (mT A):=by
 intro i hi;rw[fq]at hi;rw[qR A i hi];have h1:(A.map Int.toNat).count i<=(A.map Int.toNat).length:=a26;rw[a0P]at h1;omega
theorem uF(A:List Int)(h0:0<A.length)(hA:∀x∈A,0<=x/\x<=15):1<=us (mT A)/\us (mT A)<=19:=by
 refine⟨?_,by have:=qh (mT A);rw[fq]at this;exact this⟩;have h1:=hA A[0] (a2o h0);refine vI (k:=(A[0]).toNat) (by rw[fq];omega) ?_;rw[qR A _ (by omega)];have:=List.count_pos_iff.2 (a2p (f:=Int.toNat) (a2o h0));omega
theorem rJ(A:List Int)(h0:0<A.length)(h4:A.length<=400)(hA:∀x∈A,0<=x/\x<=15):(aO A).length=19/\aw (aO A)=true/\∀i,i<19->0<=(aO A).getD i 0/\(aO A).getD i 0<=7/\(0<(aO A).getD i 0<->0<(mT A).getD i 0):=by
 have h1:=uF A h0 hA;have h:=rM (m:=6) (uE A h4) (by rw[fq];omega) (by rw[eJ];omega) (by rw[eJ];have h2:=JD;omega) (by omega);rw[fq]at h;exact h
theorem CV(A:List Int)(h0:0<A.length)(h4:A.length<=400)(hA:∀x∈A,0<=x/\x<=15)(x:Int)(hx:x∈A):0<(aO A).getD x.toNat 0:=by
 have h1:=hA x hx;refine((rJ A h0 h4 hA).2.2 x.toNat (by omega)).2.2.2 ?_;rw[qR A _ (by omega)];have:=List.count_pos_iff.2 (a2p (f:=Int.toNat) hx);omega
def da(L D:List Int):List (Int×Int):=
 [((L.length:Int)-257,5),((D.length:Int)-1,5),(15,4)]++(bH.map (fun i=>((aO (L++D)).getD i 0,(3:Int)))++(L++D).map (fun x=>pcM (aO (L++D)) x.toNat))
def ij(T:List Tk):List (Int×Int):=[(1,1),(2,2)]++(da (bD T) (ck T)++(T.flatMap (cz (bD T) (ck T))++[pcM (bD T) 256]))
theorem iY{l:List Int}(h:aw l=true):∀x∈l,0<=x/\x<=15:=by
 intro x hx;obtain⟨i,hi,rfl⟩:=List.mem_iff_getElem.1 hx;have:=ly (fL h) hi;simpa[List.getD,hi]using this
theorem sM{L D:List Int}(hL:aw L=true)(hD:aw D=true)(l0:257<=L.length)(l1:L.length<=286)(d0:1<=D.length)(d1:D.length<=30):bj (da L D)=true/\(da L D).length<=338:=by
 have hA:∀x∈L++D,0<=x/\x<=15:=by
  intro x hx;rcases a0X.1 hx with h|h
  · exact iY hL x h
  · exact iY hD x h
 obtain⟨h1,h2,h3⟩:=rJ (L++D) (by rw[a0m];omega) (by rw[a0m];omega) hA;refine⟨?_,?_⟩
 ·
  unfold da bj;rw[a1K,a1K];simp only[a0n];refine⟨?_,?_,?_⟩
  ·
   simp only[a1L,a2J,a2O,a0n];refine⟨aV.2 ⟨by omega,by omega,?_⟩,aV.2 ⟨by omega,by omega,?_⟩,by decide⟩
   ·
    have:p2 (5:Int).toNat=32:=by decide
    rw[this];omega
   ·
    have:p2 (5:Int).toNat=32:=by decide
    rw[this];omega
  ·
   rw[a1j];intro x hx;obtain⟨i,hi,rfl⟩:=a2z.1 hx;have hi19:i<19:=by
    have:∀i∈bH,i<19:=by decide
    exact this i hi
   have:=h3 i hi19;refine aV.2 ⟨by omega,this.1,?_⟩;have:p2 (3:Int).toNat=8:=by decide
   rw[this];omega
  · rw[a1j];intro x hx;obtain⟨y,hy,rfl⟩:=a2z.1 hx;have hy2:=hA y hy;exact ni (ly (fL h2) (by rw[h1];omega))
 · unfold da;simp only[a0m,a0P,a0E,a01];have:bH.length=19:=rfl;omega
theorem qE(T:List Tk)(hT:T.length<=300)(hok:∀t∈T,okT t=true):lOk (ij T)=true:=by
 have gL:=dI (fD T hT);have gD:=dI (gE T hT);obtain⟨l0,l1⟩:=iK T hT;obtain⟨d0,d1⟩:=jP T hT;obtain⟨h1,h2⟩:=wv gL gD T (fun t ht=>⟨hok t ht,lF T hT hok t ht⟩);obtain⟨t1,t2⟩:=sM (fD T hT) (gE T hT) l0 l1 d0 d1;have h4:pOk (pcM (bD T) 256).1 (pcM (bD T) 256).2=true:=ni (gL 256 (by omega)).1;unfold lOk;have h5:bj (ij T)=true:=by
  unfold ij;unfold bj at *
  rw[a1K,a1K,a1K,h1,t1];simp only[a1L,a2J,h4];decide
 have h6:(ij T).length<=4000:=by unfold ij;simp only[a0m,a0E,a01];omega
 rw[h5];simpa using h6
def kV(s:ByteArray):List UInt8:=cH (ij (bm s.data.toList 0))
theorem pP(g o:Nat)(cap n least:Nat)(l:List Int)(w:World)(hn:l.length=n)(h:∀i,i<n->w.cell? ⟨g,o+i,none⟩=some (.int .i64 (l.getD i 0)))(hc:n<=cap)(hm:n<=300)(hl:least<=n) :
  Calls Tryz.prog 105 #[.slice (some ⟨g,o,none⟩) n cap,.int .i64 (least:Nat)] w fun e w'=>e = .returned (.slice (some ⟨g,o,none⟩) (dS l least n) cap)/\w'=w:=by
 have hcI:(n:Int)<=(cap:Int):=by omega
 have hmI:(n:Int)<=300:=by omega
 have hlI:(least:Int)<=(n:Int):=by omega
 have H:=af h;have HN:=af hn;clear h hn hc hm hl;go_enter Tryz.func105,Tryz.ntmps105;go_wp2
 go_loop [5] (fun x=>∃k:Nat,k<=n/\x = .int .i64 k/\dS l least n=dS l least k) (fun x=>(intOf x).toNat)
 case atStart=>exact⟨n,a0a _,rfl,rfl⟩
 case round=>
  obtain⟨k,hk,rfl,hcut⟩:=hrel;have HC:=af hcut;have HK:=af hk;have hkI:(k:Int)<=(n:Int):=by omega
  clear hcut hk;by_cases hlt:least<k
  ·
   have hltI:decide ((least:Int)<(k:Int))=true:=a0t (by omega);have hltI':(least:Int)<(k:Int):=by omega
   obtain⟨j,hj⟩:∃j,k=j+1:=⟨k-1,by omega⟩;subst hj;have hc0:=ae H j (by have:=ae HK;omega);have hs:=af (fun h=>oN (l:=l) (least:=least) (n:=j) h);have hp:=af (fun h=>l7 (l:=l) (least:=least) (n:=j+1) h);have hjI:((j+1:Nat):Int)-1=(j:Int):=by omega
   have hjn:(j:Int)<(n:Int):=by omega
   generalize hy:l.getD j 0=y at *
   have HY:=af hy;clear hy;by_cases hz:y=0
   ·
    subst hz;have HC2:Hid (dS l least n=dS l least j):=(ae HC).trans (ae hs ⟨hlt,rfl⟩);have HJ:Hid (j<=n):=by show j<=n;have:=ae HK;omega
    clear hlt;go_wp2
    go_round
    case rel=>exact⟨j,ae HJ,by go_num,ae HC2⟩
    case measure=>simp[intOf]
   ·
    have hzb:(y == 0)=false:=by simpa using hz
    have HC2:Hid (dS l least n=j+1):=(ae HC).trans (ae hp (by rw[a3p,ae HY];exact fun h=>hz h.2));have h0:(0:Int)<=((j+1:Nat):Int):=by omega
    clear hlt;go_wp2;go_ret;exact⟨by rw[ae HC2];rfl,rfl⟩
  ·
   have hltI:decide ((least:Int)<(k:Int))=false:=a0s (by omega);have hltI':¬ (least:Int)<(k:Int):=by omega
   have HC2:Hid (dS l least n=k):=(ae HC).trans (l7 (fun h=>hlt h.1));clear hlt;go_wp2;go_ret;exact⟨by rw[ae HC2];rfl,rfl⟩
theorem rG(g o:Nat)(cap n least:Nat)(l:List Int)(w:World)(hn:l.length=n)(h:∀i,i<n->w.cell? ⟨g,o+i,none⟩=some (.int .i64 (l.getD i 0)))(hc:n<=cap)(hm:n<=300)(hl:least<=n) :
  Calls Tryz.prog 132 #[.slice (some ⟨g,o,none⟩) n cap,.int .i64 (least:Nat)] w fun e w'=>e = .returned (.slice (some ⟨g,o,none⟩) (dS l least n) cap)/\w'=w:=by
 have hcI:(n:Int)<=(cap:Int):=by omega
 have hmI:(n:Int)<=300:=by omega
 have hlI:(least:Int)<=(n:Int):=by omega
 have H:=af h;have HN:=af hn;clear h hn hc hm hl;go_enter Tryz.func132,Tryz.ntmps132;go_wp2
 go_loop [5] (fun x=>∃k:Nat,k<=n/\x = .int .i64 k/\dS l least n=dS l least k) (fun x=>(intOf x).toNat)
 case atStart=>exact⟨n,a0a _,rfl,rfl⟩
 case round=>
  obtain⟨k,hk,rfl,hcut⟩:=hrel;have HC:=af hcut;have HK:=af hk;have hkI:(k:Int)<=(n:Int):=by omega
  clear hcut hk;by_cases hlt:least<k
  ·
   have hltI:decide ((least:Int)<(k:Int))=true:=a0t (by omega);have hltI':(least:Int)<(k:Int):=by omega
   obtain⟨j,hj⟩:∃j,k=j+1:=⟨k-1,by omega⟩;subst hj;have hc0:=ae H j (by have:=ae HK;omega);have hs:=af (fun h=>oN (l:=l) (least:=least) (n:=j) h);have hp:=af (fun h=>l7 (l:=l) (least:=least) (n:=j+1) h);have hjI:((j+1:Nat):Int)-1=(j:Int):=by omega
   have hjn:(j:Int)<(n:Int):=by omega
   generalize hy:l.getD j 0=y at *
   have HY:=af hy;clear hy;by_cases hz:y=0
   ·
    subst hz;have HC2:Hid (dS l least n=dS l least j):=(ae HC).trans (ae hs ⟨hlt,rfl⟩);have HJ:Hid (j<=n):=by show j<=n;have:=ae HK;omega
    clear hlt;go_wp2
    go_round
    case rel=>exact⟨j,ae HJ,by go_num,ae HC2⟩
    case measure=>simp[intOf]
   ·
    have hzb:(y == 0)=false:=by simpa using hz
    have HC2:Hid (dS l least n=j+1):=(ae HC).trans (ae hp (by rw[a3p,ae HY];exact fun h=>hz h.2));have h0:(0:Int)<=((j+1:Nat):Int):=by omega
    clear hlt;go_wp2;go_ret;exact⟨by rw[ae HC2];rfl,rfl⟩
  ·
   have hltI:decide ((least:Int)<(k:Int))=false:=a0s (by omega);have hltI':¬ (least:Int)<(k:Int):=by omega
   have HC2:Hid (dS l least n=k):=(ae HC).trans (l7 (fun h=>hlt h.1));clear hlt;go_wp2;go_ret;exact⟨by rw[ae HC2];rfl,rfl⟩
theorem Tryz.infoLenK:(Tryz.prog.info? 199).map (·.size)=some 19:=by kernel_rfl
theorem xi(a:Option Addr)(cap n base:Nat)(l:List Int)(w:World)(hn:l.length=n)(h:dW w base a l)(hB:base<=w.heap.size)(hm:n<=300) :
  Calls Tryz.prog 147 #[.slice a n cap] w fun e w'=>(∃C,e = .returned (.agg C)/\bu w' base l C)/\Below w.heap.size w w':=by
 refine(Len.codeBook_any a cap n l w hn h.1 hm).mono ?_;rintro e w' ⟨vs,C,rfl,hC,h1,h2,hb⟩;obtain⟨q,sc,rfl⟩:=h2.form;subst hn;exact⟨⟨C,rfl,a,cap,_,_,q,sc,hC,h.later hb,(cm (bA l 15) (h1.own (bA l 15))).mono (by omega),(cm rfl h2).mono (by omega)⟩,hb⟩
theorem zE(k:Nat)(l:List Int)(C:Array Value)(base:Nat)(w:World)(hB:bu w base l C)(hk:k<l.length)(hm:l.length<=300) :
  Calls Tryz.prog 149 #[.agg C,.int .i64 (k:Int)] w fun e w'=>e = .returned (.agg #[.int .i64 (btI ((aI l 15).2.getD k 0) (l.getD k 0)),.int .i64 (l.getD k 0)])/\Below w.heap.size w w':=by
 obtain⟨a,cap,ac,cc,q,sc,e,h1,h2,h3⟩:=hB;exact Len.bookPut_any a ac cap l.length cc k _ _ C l (aI l 15).2 w e rfl (bA l 15) h1.1 h2.1 hk hm
def qM(w:World)(b base:Nat)(l:List Int)(C:Array Value):Prop:=bu w base l C/\w.rangeAt b 0 C.toList/\b<w.heap.size
theorem qM.later{w w':World}{b base:Nat}{l:List Int}{C:Array Value}(h:qM w b base l C)(hb:Below w.heap.size w w'):qM w' b base l C:=
 ⟨h.1.later hb,jb h.2.1 hb h.2.2,a0g h.2.2 hb.size⟩
theorem yB(k b base:Nat)(l:List Int)(C:Array Value)(w:World)(hB:qM w b base l C)(hk:k<l.length)(hm:l.length<=300) :
  Calls Tryz.prog 148 #[.int .i64 (k:Int),.pointer (some ⟨b,0,none⟩)] w fun e w'=>e = .returned (.agg #[.int .i64 (pcS l k).1,.int .i64 (pcS l k).2])/\Below w.heap.size w w':=by
 have hA:Below w.heap.size w (w.alloc (.cells #[.int .i64 0,.int .i64 0] 114)):=(a0c _ _).alloc (a0a _) _;have HA:=af hA;have HR:=af (hB.later hA).2.1;have HS:=af hB.1.size;have HP:=af (zE k l C base _ (hB.later hA).1 hk hm);have HPc:Hid (pcS l k=(btI ((aI l 15).2.getD k 0) (l.getD k 0),l.getD k 0)):=rfl;generalize btI ((aI l 15).2.getD k 0) (l.getD k 0)=u at *
 generalize l.getD k 0=v at *
 clear hB hk hm hA;go_enter Tryz.func148,Tryz.ntmps148;go_wp2_with (first
  | (refine bn rfl 199 (.tmp 1) rfl b 0 rfl C _ (ae HR) a13 rfl (by rw[ae HS];exact Tryz.infoLenK) ?_)
  | (go_at_call 149;refine(ae HP).mono ?_;rintro e x1 ⟨rfl,hb1⟩;have k1:=rx hb1;obtain⟨m0,m1,_⟩:=di k1;obtain⟨n0,n1⟩:=mh k1))
 have k2:=pe k1 (.int .i64 u) (.int .i64 v);obtain⟨r0,r1,_⟩:=di k2;refine a0u (v:=.agg #[.int .i64 u,.int .i64 v]) (by simp[results,Tryz.results148,go_sem,r0,r1]) rfl ⟨by rw[ae HPc],?_⟩;exact ag (ag (am (ae HA) hb1) (a0a _) _) (a0a _) _
def iq(l:List Int)(t:List Int):List (Int×Int):=t.map fun x=>pcS l x.toNat
theorem zJ(l t:List Int)(k:Nat)(h:k<t.length):iq l (t.take (k+1))=iq l (t.take k)++[pcS l (t.getD k 0).toNat]:=by
 unfold iq;rw[cn t k h,a0K];rfl
theorem Ce(a:Option Addr)(cap n b base:Nat)(t l:List Int)(C:Array Value)(w:World)(hn:t.length=n)(h:be w a t)(hm:n<=1000)(hB:qM w b base l C)(hl:l.length<=300)(hall:∀i,i<t.length->0<=t.getD i 0/\t.getD i 0<(l.length:Int)) :
  Calls Tryz.prog 85 #[.slice a n cap,.func (.func 148) #[] #[.pointer (some ⟨b,0,none⟩)]] w fun e w'=>∃v,e = .returned v/\Pcs w' w.heap.size v (iq l t)/\Below w.heap.size w w':=by
 have hmI:(n:Int)<=1000:=by omega
 have Hn:=af hn;have Hm:=af hm;have Hl:=af hl;have HA:=af hall;have HB:=af hB;clear hn hm hall hl hB;obtain⟨i0,hi,hz0,hz1,hz2⟩:=a0w Tryz.infoPiece;go_enter Tryz.func85,Tryz.ntmps85;go_wp2_with fail
 go_loopw [5,7,10] (fun o _ i wr=>∃k:Nat,k<=n/\i = .int .i64 k/\Pcs wr w.heap.size o (iq l (t.take k))/\Below w.heap.size w wr) (fun _ _ i _=>n-(intOf i).toNat)
 case atStart=>exact⟨0,a0l _,rfl,a00 _ _ _ _,a0c _ _⟩
 case round=>
  obtain⟨k,hk,rfl,hq,hbel⟩:=hrel;have hbs:=hbel.size;by_cases hlt:k<n
  ·
   obtain⟨g,o,rfl,hg,hcc⟩:=(h.later hbel) (by rw[ae Hn];omega);have c0:=hcc k (by rw[ae Hn];exact hlt);have hst:=af (zJ l t k (by rw[ae Hn];exact hlt));have hlk:Hid ((iq l (t.take k)).length=k):=by show(iq l (t.take k)).length=k;unfold iq;have:=ae Hn;simp;omega
   obtain⟨y0,y1⟩:=ae HA k (by rw[ae Hn];exact hlt);have Hk:=af hk;clear hcc hk h;generalize t.getD k 0=y at *
   obtain⟨q,rfl⟩:=a0r y0;rw[a0p]at hst;have HP:=af (yB q b base l C wr ((ae HB).later hbel) (by omega) (ae Hl));generalize hR:pcS l q=R at *
   clear hR;obtain⟨R1,R2⟩:=R;go_wp2_with fail;refine(ae HP).mono ?_;rintro e x1 ⟨rfl,hb1⟩;have hq1:=Pcs.later hq hb1 (a0a _);have hbel1:=am hbel hb1;have hbs1:=hbel1.size;have hlen1:Hid ((iq l (t.take k)).length+1<=maxLen/\((iq l (t.take k)).length+1)*16<=140737488355328):=by
    show _/\_;rw[ae hlk];have:=ae Hm;unfold maxLen;omega
   clear hq hbel hb1 HP;go_wp2_with (at_builtin;refine a0B _ rfl _ _ 111 rfl w.heap.size 114 i0 (.agg #[.int .i64 0,.int .i64 0]) 2 16 a0W hi hz0 hz1 hz2 rfl (by decide) _ _ _ rfl (a0o hq1 _) ⟨x1.heap.size,0,none⟩ 1 1 [.int .i64 R1,.int .i64 R2] rfl rfl (qK x1 _ _ _) (qJ _ _) (ae hlen1).1 (ae hlen1).2 (az hbs1 _) ?_;intro v' x2 hown hgrow hnil;clear hnil);have hb2:=aF (v:=u5) hgrow hq1 (a0a _) hbs1 hbel1;have hq2:=lH hown;rw[←ae hst]at hq2;clear hown hgrow hq1;go_wp2;go_roundw
   case rel=>exact⟨k+1,by have:=ae Hk;omega,by go_num,hq2,hb2⟩
   case measure=>simp[intOf];omega
  · have hlk2:t.take k=t:=a0F (by rw[ae Hn];omega);rw[hlk2]at hq;obtain⟨va,vc,rfl⟩:=hq.form;clear hlk2 h;go_wp2;go_ret;exact⟨_,rfl,hq,hbel⟩
end Go.Proofs.YtbacpebljannfaaGreatDoor
namespace Go.Proofs.YtbacpebljannfaaGreatDoor
open Go.RowKit Go.Shelf Corb
attribute [local go_sem] Oper.semAt_some
theorem av{F:Fence}{n:Nat}{P:Program}{ops:Array Oper}{o:Oper}{a:Act}{w:World}{K:Act->World->Prop}{Q:Exit->Act->World->Prop}{E:Prop}
  (hg:o.guard=none) (l c:Operand) (t:TypeId) (hop:o.op=Op.makeSlice t l c)
  (base:Nat) (e:TypeId) (i:TypeInfo) (z:Value) (size:Nat) (h1:P.underlying t=some (.slice e)) (h2:P.info? e=some i) (h3:i.zero=some z) (h4:i.size=size)
  (kl kc:IntKind) (L C:Int) (k:Nat) (hl:a.eval l = .int kl L) (hc:a.eval c = .int kc C) (hL:L=(k:Int)) (hC:C=(k:Int)) (b2:i.bytes*k<=281474976710656) (b3:k<=maxLen) (b4:base<=w.heap.size)
  (hK:∀g w',w.heap.size=g->w'.ownsRow base e size (.slice (some ⟨g,0,none⟩) k k) k (madeCells z.cells (k*size)).toList->w.grownBy w' none->K (a.put o.dst (.slice (some ⟨g,0,none⟩) k k)) w') :
  if Region.wanted o (yielded ops a.tmps)=true then Oper.wpIn F n P o a w K Q else E:=by
 have hw:Region.wanted o (yielded ops a.tmps)=true:=by simp[Region.wanted,hg]
 rw[a0d hw];obtain⟨w',hrun,r1,r2⟩:=run_make_full (P:=P) w base t e i z size h1 h2 h3 h4 kl kc k b2 b3 b4;subst hL;subst hC;unfold Oper.wpIn;refine⟨?_,?_⟩
 · simp[Oper.about,hop]
 · rw[Oper.semAt_plain F _ _ (by rw[hop];intro c hc';cases hc')];simp[execOp,hop,hl,hc,hrun,Result.andThen];exact hK _ w' rfl r1 r2
theorem wO{β:Type}(n₀:Nat)(v:Value)(f:β->List Int):Own (fun(b:β) W=>ak W n₀ v (f b)):=fun b X _ row hs hg hrow=>by
 refine a1Y hs hg ?_;rcases hs.2 with⟨rfl,_⟩|⟨g,cap,cur,rfl,_,hgb,_⟩
 · exact .inl rfl
 ·
  refine .inr fun e'=>?_;obtain⟨o,ho,hc⟩:=hrow g e'.symm;rw[show X.heap[g]?=_ from hgb]at ho;cases ho
  cases hc
def Sts(n₀:Nat)(w W:World)(r10 r11:Option Nat)(r4 r5:Option (Nat×Value)):Prop:=
 Below n₀ w W/\(∀g,r10=some g->ak W n₀ (.slice (some ⟨g,0,none⟩) 286 286) (List.replicate 286 0))/\(∀g,r11=some g->ak W n₀ (.slice (some ⟨g,0,none⟩) 30 30) (List.replicate 30 0)) /\
 (∀b v,r4=some (b,v)->n₀<=b/\Boxed W b 84 v)/\(∀b v,r5=some (b,v)->n₀<=b/\Boxed W b 84 v)/\(∀g g',r10=some g->r11=some g'->g≠g')/\(∀b v b' v',r4=some (b,v)->r5=some (b',v')->b≠b')/\n₀<=W.heap.size
theorem fJ{W W':World}(h:W.grownBy W' none):Below W.heap.size W W':=(a0c _ _).grown h (a0a _) (fun j hj=>by cases hj)
theorem Sts.later{n₀:Nat}{w W W':World}{r10 r11:Option Nat}{r4 r5:Option (Nat×Value)}(h:Sts n₀ w W r10 r11 r4 r5)(hb:Below W.heap.size W W'):Sts n₀ w W' r10 r11 r4 r5:=by
 obtain⟨h0,h1,h2,h3,h4,h5,h6,h7⟩:=h;exact⟨h0.trans (hb.mono h7),fun g e=>(h1 g e).later hb (a0a _),fun g e=>(h2 g e).later hb (a0a _),fun b v e=>⟨(h3 b v e).1,Boxed.later (h3 b v e).2 hb⟩,fun b v e=>⟨(h4 b v e).1,Boxed.later (h4 b v e).2 hb⟩,h5,h6,a0I h7 hb.size⟩
theorem Sts.make10{n₀:Nat}{w W W':World}{r11:Option Nat}{r4 r5:Option (Nat×Value)}(h:Sts n₀ w W none r11 r4 r5){g:Nat}(hg:W.grownBy W' none)(hgs:W.heap.size=g)(hn:ak W' n₀ (.slice (some ⟨g,0,none⟩) 286 286) (List.replicate 286 0)):Sts n₀ w W' (some g) r11 r4 r5:=by
 subst hgs;have hlt:∀g,r11=some g->g<W.heap.size:=fun g e=>(h.2.2.1 g e).below.2;obtain⟨h0,h1,h2,h3,h4,h5,h6,h7⟩:=h.later (fJ hg);exact⟨h0,fun g e=>by cases e;exact hn,h2,h3,h4,fun g g' e e'=>by cases e;have:=hlt g' e';omega,h6,h7⟩
theorem Sts.make11{n₀:Nat}{w W W':World}{r10:Option Nat}{r4 r5:Option (Nat×Value)}(h:Sts n₀ w W r10 none r4 r5){g:Nat}(hg:W.grownBy W' none)(hgs:W.heap.size=g)(hn:ak W' n₀ (.slice (some ⟨g,0,none⟩) 30 30) (List.replicate 30 0)):Sts n₀ w W' r10 (some g) r4 r5:=by
 subst hgs;have hlt:∀g,r10=some g->g<W.heap.size:=fun g e=>(h.2.1 g e).below.2;obtain⟨h0,h1,h2,h3,h4,h5,h6,h7⟩:=h.later (fJ hg);exact⟨h0,h1,fun g e=>by cases e;exact hn,h3,h4,fun g g' e e'=>by cases e';have:=hlt g e;omega,h6,h7⟩
theorem Sts.box4{n₀:Nat}{w W:World}{r10 r11:Option Nat}{r5:Option (Nat×Value)}(h:Sts n₀ w W r10 r11 none r5)(v:Value):Sts n₀ w (W.alloc (.cells #[v] 84)) r10 r11 (some (W.heap.size,v)) r5:=by
 have hlt:∀b v,r5=some (b,v)->b<W.heap.size:=fun b v e=>(h.2.2.2.2.1 b v e).2.lt;have h8:=h.2.2.2.2.2.2.2;obtain⟨h0,h1,h2,h3,h4,h5,h6,h7⟩:=h.later ((a0c _ W).alloc (a0a _) (.cells #[v] 84));exact⟨h0,h1,h2,fun b u e=>by cases e;exact⟨h8,Boxed.new _ _ _⟩,h4,h5,fun b u b' u' e e'=>by cases e;have:=hlt b' u' e';omega,h7⟩
theorem Sts.box5{n₀:Nat}{w W:World}{r10 r11:Option Nat}{r4:Option (Nat×Value)}(h:Sts n₀ w W r10 r11 r4 none)(v:Value):Sts n₀ w (W.alloc (.cells #[v] 84)) r10 r11 r4 (some (W.heap.size,v)):=by
 have hlt:∀b v,r4=some (b,v)->b<W.heap.size:=fun b v e=>(h.2.2.2.1 b v e).2.lt;have h8:=h.2.2.2.2.2.2.2;obtain⟨h0,h1,h2,h3,h4,h5,h6,h7⟩:=h.later ((a0c _ W).alloc (a0a _) (.cells #[v] 84));exact⟨h0,h1,h2,h3,fun b u e=>by cases e;exact⟨h8,Boxed.new _ _ _⟩,h5,fun b u b' u' e e'=>by cases e';have:=hlt b u e;omega,h7⟩
theorem cK{W:World}{n₀ b g n:Nat}{v:Value}{l:List Int}(h:Boxed W b 84 v)(hr:ak W n₀ (.slice (some ⟨g,0,none⟩) n n) l):b≠g:=by
 intro e;exact h.not_row (by decide) hr (by rw[e];rfl)
theorem kC{W:World}{n₀ b g n:Nat}{v:Value}{l:List Int}(h:Boxed W b 9 v)(hr:ak W n₀ (.slice (some ⟨g,0,none⟩) n n) l):b≠g:=by
 intro e;exact h.not_row (by decide) hr (by rw[e];rfl)
theorem dc{W:World}{B b o:Nat}{t:TypeId}{v:Value}(h:Boxed W B t v)(hne:B≠b)(u:Value):Boxed (W.setCell ⟨b,o,none⟩ u) B t v:=(a0O _ _ _ B hne).trans h
theorem uc{W:World}{n₀ D g n:Nat}{r:Option (List Deferred)}{l:List Int}(h:W.heap[D]?=some (.deferred r))(hr:ak W n₀ (.slice (some ⟨g,0,none⟩) n n) l):D≠g:=by
 rintro rfl;rcases hr.2 with⟨e,_⟩|⟨g,cap,cur,e,_,hgb,_⟩
 · cases e
 · simp only[a0N,a0j,a0y,a0Q]at e;rw[←e.1]at hgb;rw[h]at hgb;cases hgb
theorem Iw(l:List Int):bP l l.length=0<->us l=0:=by
 have hp:∀k,0<=bP l k:=by
  intro k;induction k with
  | zero=>exact a2u _
  | succ k ih=>simp only[bP];split<;>omega
 constructor
 ·
  intro h;rcases a2Y (us l)with h1|h1
  · exact h1
  ·
   exfalso;have:∃k,k<l.length/\0<l.getD k 0:=by
    clear h hp;induction l with
    | nil=>simp[us]at h1
    | cons b l ih=>
     by_cases hb:0<b
     · exact⟨0,by simp,by simpa using hb⟩
     · obtain⟨k,hk,hp⟩:=ih (by simp only[us,a0C,a0R,a0e hb]at h1;simpa[us]using h1);exact⟨k+1,by simpa using hk,by simpa using hp⟩
   obtain⟨k,hk,hp⟩:=this;have:=Bh l l.length k hk;omega
 ·
  intro h;have:∀k,k<=l.length->bP l k=0:=by
   intro k;induction k with
   | zero=>exact fun _=>rfl
   | succ k ih=>
    intro hk;have h1:=BH h k (by omega);simp only[bP];rw[ih (by omega),a0e h1]
  exact this _ (a0a _)
theorem Sts.put4{n₀ b:Nat}{w W:World}{v:Value}{r10 r11:Option Nat}{r5:Option (Nat×Value)}(h:Sts n₀ w W r10 r11 (some (b,v)) r5)(u:Value):Sts n₀ w (W.setCell ⟨b,0,none⟩ u) r10 r11 (some (b,u)) r5:=by
 obtain⟨h0,h1,h2,h3,h4,h5,h6,h7⟩:=h;have hb:=h3 b v rfl;exact⟨ag h0 hb.1 u,fun g e=>(h1 g e).setOther (cK hb.2 (h1 g e)) u,fun g e=>(h2 g e).setOther (cK hb.2 (h2 g e)) u,fun b' v' e=>by cases e;exact⟨hb.1,hb.2.set u⟩,fun b' v' e=>⟨(h4 b' v' e).1,(h4 b' v' e).2.other (h6 b v b' v' rfl e).symm u⟩,h5,fun b' v' b'' v'' e e'=>by cases e;exact h6 b v b'' v'' rfl e',by simpa using h7⟩
theorem Sts.put5{n₀ b:Nat}{w W:World}{v:Value}{r10 r11:Option Nat}{r4:Option (Nat×Value)}(h:Sts n₀ w W r10 r11 r4 (some (b,v)))(u:Value):Sts n₀ w (W.setCell ⟨b,0,none⟩ u) r10 r11 r4 (some (b,u)):=by
 obtain⟨h0,h1,h2,h3,h4,h5,h6,h7⟩:=h;have hb:=h4 b v rfl;exact⟨ag h0 hb.1 u,fun g e=>(h1 g e).setOther (cK hb.2 (h1 g e)) u,fun g e=>(h2 g e).setOther (cK hb.2 (h2 g e)) u,fun b' v' e=>⟨(h3 b' v' e).1,(h3 b' v' e).2.other (h6 b' v' b v e rfl) u⟩,fun b' v' e=>by cases e;exact⟨hb.1,hb.2.set u⟩,h5,fun b' v' b'' v'' e e'=>by cases e';exact h6 b' v' b v e rfl,by simpa using h7⟩
def jo{s:ByteArray}(pre:List (TkS s)):List Int:=fF (List.replicate 286 0) ((pre.map Subtype.val).map gV)
def cR{s:ByteArray}(pre:List (TkS s)):List Int:=fF (List.replicate 30 0) ((pre.map Subtype.val).flatMap dX)
theorem lD{s:ByteArray}(pre:List (TkS s)):(jo pre).length=286:=by unfold jo;rw[dY,a0A]
theorem jH{s:ByteArray}(pre:List (TkS s)):(cR pre).length=30:=by unfold cR;rw[dY,a0A]
theorem zM{s:ByteArray}(pre:List (TkS s))(x:TkS s)(h:isB x.1=true):jo (pre++[x])=inc (jo pre) x.1.1.toNat:=by
 unfold jo;rw[a0K,a0K,a2i,a2i,gr];have:gV x.1=x.1.1.toNat:=by unfold gV;rw[a0d h]
 rw[this]
theorem zN{s:ByteArray}(pre:List (TkS s))(x:TkS s)(h:isB x.1=false):jo (pre++[x])=inc (jo pre) (257+fnd 3 4 x.1.2.1.toNat 27):=by
 unfold jo;rw[a0K,a0K,a2i,a2i,gr];have:gV x.1=257+fnd 3 4 x.1.2.1.toNat 27:=by unfold gV;rw[a0e (by simp[h])]
 rw[this]
theorem wi{s:ByteArray}(pre:List (TkS s))(x:TkS s)(h:isB x.1=true):cR (pre++[x])=cR pre:=by
 unfold cR;rw[a0K,a2D,a2i];have:[x.1].flatMap dX=[]:=by simp[dX,h]
 rw[this,a1e]
theorem wj{s:ByteArray}(pre:List (TkS s))(x:TkS s)(h:isB x.1=false):cR (pre++[x])=inc (cR pre) (fnd 1 2 x.1.2.2.toNat 29):=by
 unfold cR;rw[a0K,a2D,a2i];have:[x.1].flatMap dX=[fnd 1 2 x.1.2.2.toNat 29]:=by simp[dX,h]
 rw[this,gr]
theorem nW(n:Nat)(l:List Nat)(k:Nat):0<=(fF (List.replicate n 0) l).getD k 0/\(fF (List.replicate n 0) l).getD k 0<=(l.length:Int):=by
 rw[jL,gz];have:l.count k<=l.length:=a26
 split<;>omega
theorem vm{s:ByteArray}(pre:List (TkS s))(k:Nat):0<=(jo pre).getD k 0/\(jo pre).getD k 0<=(pre.length:Int):=by
 have:=nW 286 ((pre.map Subtype.val).map gV) k;rw[a0P,a0P]at this;exact this
theorem qV{s:ByteArray}(pre:List (TkS s))(k:Nat):0<=(cR pre).getD k 0/\(cR pre).getD k 0<=(pre.length:Int):=by
 have h1:=nW 30 ((pre.map Subtype.val).flatMap dX) k;have h2:=qY (pre.map Subtype.val);rw[a0P]at h2;exact⟨h1.1,by have:=h1.2;unfold cR;omega⟩
set_option maxRecDepth 100000 in
theorem qk(s:ByteArray)(w:World)(hs:s.size<=300)  :
  Calls Tryz.prog 104 #[.string s] w fun e w'=>(∃gl gd,e = .returned (.tuple #[.slice (some ⟨gl,0,none⟩) 286 286,.slice (some ⟨gd,0,none⟩) 30 30])/\ak w' w.heap.size (.slice (some ⟨gl,0,none⟩) 286 286) (fu (bm s.data.toList 0))/\ak w' w.heap.size (.slice (some ⟨gd,0,none⟩) 30 30) (ct (bm s.data.toList 0)))/\Below w.heap.size w w':=by
 obtain⟨i0,hi,hz0,hz1,hz2⟩:=a0w Tryz.infoInt;have hsI:(s.size:Int)<=300:=by omega
 have hmx:Tryz.prog.follows .mixedOrders=true:=by kernel_rfl
 refine(callsIn_wide (n:=6)).1 ?_;refine callsIn_of_wp_marks Tryz.func104 rfl trivial ?_ rfl;simp only[Tryz.ntmps104,a2v,a0E,a01,Nat.reduceAdd,Nat.reduceSub,Array.replicate_succ,Array.replicate_zero,List.push_toArray,List.append_toArray,a09,a1n]
 gi_wp2
 rename_i Q' K hKr
 suffices hK:∀(gl gd bl bd:Nat) (W:World),Sts w.heap.size w W (some gl) (some gd) (some (bl,.slice (some ⟨gl,0,none⟩) 286 286)) (some (bd,.slice (some ⟨gd,0,none⟩) 30 30)) ->
   K { tmps:=#[.string s,undef,.slice none 0 0,.slice none 0 0,.pointer (some ⟨bl,0,none⟩),.pointer (some ⟨bd,0,none⟩),undef,undef,undef,undef,.slice (some ⟨gl,0,none⟩) 286 286,.slice (some ⟨gd,0,none⟩) 30 30,undef,undef,undef,undef,undef,undef,undef,undef,undef,undef,undef,undef,undef,undef,undef,undef,undef,undef,undef,undef,undef,undef,undef,undef,undef,undef,undef,undef,undef,undef,undef,undef,undef,undef,undef,undef,undef,undef,undef,undef,undef,undef,undef,undef,undef,undef,undef],defers:=[] } W by
  clear hKr;have hs0:Sts w.heap.size w w.drew none none none none:=⟨(a0c _ _).drew,nofun,nofun,nofun,nofun,nofun,nofun,a0a _⟩;refine wpIn_region_any hmx ?_;change wpAnyIn _ _ _ _ _ _ _ _ _ (World.drew _);generalize w.drew=W0 at hs0 ⊢;refine wpAnyIn_ready (rs:=[0,1,2,3]) (by kernel_rfl) (by simp) ?_;refine AllReadyIn.cons rfl (fun K1 hK1=>?_) (AllReadyIn.cons rfl (fun K1 hK1=>?_) (AllReadyIn.cons rfl (fun K1 hK1=>?_) (AllReadyIn.cons rfl (fun K1 hK1=>?_) (AllReadyIn.nil))))
  ·
   refine av rfl _ _ 84 rfl w.heap.size 3 i0 (.int .i64 0) 1 a0h hi hz0 hz1 .i64 .i64 286 286 286 rfl rfl rfl rfl (by rw[hz2];omega) (by unfold maxLen;omega) hs0.2.2.2.2.2.2.2 ?_;intro g1 W1 hg1 ho hgr;have s1:=hs0.make10 hgr hg1 (ay ho);refine hK1 _ _ ?_;clear hK1 K1 ho hgr hg1 hs0;refine wpAnyIn_ready (rs:=[1,2,3]) (by kernel_rfl) (by simp) ?_;refine AllReadyIn.cons rfl (fun K1 hK1=>?_) (AllReadyIn.cons rfl (fun K1 hK1=>?_) (AllReadyIn.cons rfl (fun K1 hK1=>?_) (AllReadyIn.nil)))
   ·
    refine av rfl _ _ 84 rfl w.heap.size 3 i0 (.int .i64 0) 1 a0h hi hz0 hz1 .i64 .i64 30 30 30 rfl rfl rfl rfl (by rw[hz2];omega) (by unfold maxLen;omega) s1.2.2.2.2.2.2.2 ?_;intro g2 W2 hg2 ho hgr;have s2:=s1.make11 hgr hg2 (ay ho);refine hK1 _ _ ?_;clear hK1 K1 ho hgr hg2 s1;refine wpAnyIn_ready (rs:=[2,3]) (by kernel_rfl) (by simp) ?_;refine AllReadyIn.cons rfl (fun K1 hK1=>?_) (AllReadyIn.cons rfl (fun K1 hK1=>?_) (AllReadyIn.nil))
    · have s3:=s2.box4 (.slice none 0 0);go_simp;refine hK1 _ _ ?_;clear hK1 K1 s2;generalize W2.alloc (.cells #[.slice none 0 0] 84)=W3 at s3 ⊢;generalize W2.heap.size=g3 at s3 ⊢;refine aj 3 (by kernel_rfl) rfl fun K1 hK1=>?_;have s4:=s3.box5 (.slice none 0 0);go_simp;refine hK1 _ _ ?_;clear hK1 K1 s3;generalize W3.alloc (.cells #[.slice none 0 0] 84)=W4 at s4 ⊢;generalize W3.heap.size=g4 at s4 ⊢;refine aj 4 (by kernel_rfl) rfl fun K1 hK1=>?_;have hc:=(s4.2.2.2.1 _ _ rfl).2.cell;have hf:=(s4.2.2.2.1 _ _ rfl).2.frozen;have s5:=s4.put4 (.slice (some ⟨g1,0,none⟩) 286 286);go_simp;refine hK1 _ _ ?_;clear hK1 K1 hc hf s4;generalize W4.setCell ⟨g3,0,none⟩ (.slice (some ⟨g1,0,none⟩) 286 286)=W5 at s5 ⊢;refine aj 5 (by kernel_rfl) rfl fun K1 hK1=>?_;have hc:=(s5.2.2.2.2.1 _ _ rfl).2.cell;have hf:=(s5.2.2.2.2.1 _ _ rfl).2.frozen;have s6:=s5.put5 (.slice (some ⟨g2,0,none⟩) 30 30);go_simp;refine hK1 _ _ ?_;clear hK1 K1 hc hf s5;generalize W5.setCell ⟨g4,0,none⟩ (.slice (some ⟨g2,0,none⟩) 30 30)=W6 at s6 ⊢;refine wpAnyIn_done (by kernel_rfl) ?_ _;exact hK _ _ _ _ _ s6
    · have s7:=s2.box5 (.slice none 0 0);go_simp;refine hK1 _ _ ?_;clear hK1 K1 s2;generalize W2.alloc (.cells #[.slice none 0 0] 84)=W7 at s7 ⊢;generalize W2.heap.size=g7 at s7 ⊢;refine aj 2 (by kernel_rfl) rfl fun K1 hK1=>?_;have s8:=s7.box4 (.slice none 0 0);go_simp;refine hK1 _ _ ?_;clear hK1 K1 s7;generalize W7.alloc (.cells #[.slice none 0 0] 84)=W8 at s8 ⊢;generalize W7.heap.size=g8 at s8 ⊢;refine aj 4 (by kernel_rfl) rfl fun K1 hK1=>?_;have hc:=(s8.2.2.2.1 _ _ rfl).2.cell;have hf:=(s8.2.2.2.1 _ _ rfl).2.frozen;have s9:=s8.put4 (.slice (some ⟨g1,0,none⟩) 286 286);go_simp;refine hK1 _ _ ?_;clear hK1 K1 hc hf s8;generalize W8.setCell ⟨g8,0,none⟩ (.slice (some ⟨g1,0,none⟩) 286 286)=W9 at s9 ⊢;refine aj 5 (by kernel_rfl) rfl fun K1 hK1=>?_;have hc:=(s9.2.2.2.2.1 _ _ rfl).2.cell;have hf:=(s9.2.2.2.2.1 _ _ rfl).2.frozen;have s10:=s9.put5 (.slice (some ⟨g2,0,none⟩) 30 30);go_simp;refine hK1 _ _ ?_;clear hK1 K1 hc hf s9;generalize W9.setCell ⟨g7,0,none⟩ (.slice (some ⟨g2,0,none⟩) 30 30)=W10 at s10 ⊢;refine wpAnyIn_done (by kernel_rfl) ?_ _;exact hK _ _ _ _ _ s10
   ·
    have s11:=s1.box4 (.slice none 0 0);go_simp;refine hK1 _ _ ?_;clear hK1 K1 s1;generalize W1.alloc (.cells #[.slice none 0 0] 84)=W11 at s11 ⊢;generalize W1.heap.size=g11 at s11 ⊢;refine wpAnyIn_ready (rs:=[1,3]) (by kernel_rfl) (by simp) ?_;refine AllReadyIn.cons rfl (fun K1 hK1=>?_) (AllReadyIn.cons rfl (fun K1 hK1=>?_) (AllReadyIn.nil))
    · refine av rfl _ _ 84 rfl w.heap.size 3 i0 (.int .i64 0) 1 a0h hi hz0 hz1 .i64 .i64 30 30 30 rfl rfl rfl rfl (by rw[hz2];omega) (by unfold maxLen;omega) s11.2.2.2.2.2.2.2 ?_;intro g12 W12 hg12 ho hgr;have s12:=s11.make11 hgr hg12 (ay ho);refine hK1 _ _ ?_;clear hK1 K1 ho hgr hg12 s11;refine aj 3 (by kernel_rfl) rfl fun K1 hK1=>?_;have s13:=s12.box5 (.slice none 0 0);go_simp;refine hK1 _ _ ?_;clear hK1 K1 s12;generalize W12.alloc (.cells #[.slice none 0 0] 84)=W13 at s13 ⊢;generalize W12.heap.size=g13 at s13 ⊢;refine aj 4 (by kernel_rfl) rfl fun K1 hK1=>?_;have hc:=(s13.2.2.2.1 _ _ rfl).2.cell;have hf:=(s13.2.2.2.1 _ _ rfl).2.frozen;have s14:=s13.put4 (.slice (some ⟨g1,0,none⟩) 286 286);go_simp;refine hK1 _ _ ?_;clear hK1 K1 hc hf s13;generalize W13.setCell ⟨g11,0,none⟩ (.slice (some ⟨g1,0,none⟩) 286 286)=W14 at s14 ⊢;refine aj 5 (by kernel_rfl) rfl fun K1 hK1=>?_;have hc:=(s14.2.2.2.2.1 _ _ rfl).2.cell;have hf:=(s14.2.2.2.2.1 _ _ rfl).2.frozen;have s15:=s14.put5 (.slice (some ⟨g12,0,none⟩) 30 30);go_simp;refine hK1 _ _ ?_;clear hK1 K1 hc hf s14;generalize W14.setCell ⟨g13,0,none⟩ (.slice (some ⟨g12,0,none⟩) 30 30)=W15 at s15 ⊢;refine wpAnyIn_done (by kernel_rfl) ?_ _;exact hK _ _ _ _ _ s15
    ·
     have s16:=s11.box5 (.slice none 0 0);go_simp;refine hK1 _ _ ?_;clear hK1 K1 s11;generalize W11.alloc (.cells #[.slice none 0 0] 84)=W16 at s16 ⊢;generalize W11.heap.size=g16 at s16 ⊢;refine wpAnyIn_ready (rs:=[1,4]) (by kernel_rfl) (by simp) ?_;refine AllReadyIn.cons rfl (fun K1 hK1=>?_) (AllReadyIn.cons rfl (fun K1 hK1=>?_) (AllReadyIn.nil))
     · refine av rfl _ _ 84 rfl w.heap.size 3 i0 (.int .i64 0) 1 a0h hi hz0 hz1 .i64 .i64 30 30 30 rfl rfl rfl rfl (by rw[hz2];omega) (by unfold maxLen;omega) s16.2.2.2.2.2.2.2 ?_;intro g17 W17 hg17 ho hgr;have s17:=s16.make11 hgr hg17 (ay ho);refine hK1 _ _ ?_;clear hK1 K1 ho hgr hg17 s16;refine aj 4 (by kernel_rfl) rfl fun K1 hK1=>?_;have hc:=(s17.2.2.2.1 _ _ rfl).2.cell;have hf:=(s17.2.2.2.1 _ _ rfl).2.frozen;have s18:=s17.put4 (.slice (some ⟨g1,0,none⟩) 286 286);go_simp;refine hK1 _ _ ?_;clear hK1 K1 hc hf s17;generalize W17.setCell ⟨g11,0,none⟩ (.slice (some ⟨g1,0,none⟩) 286 286)=W18 at s18 ⊢;refine aj 5 (by kernel_rfl) rfl fun K1 hK1=>?_;have hc:=(s18.2.2.2.2.1 _ _ rfl).2.cell;have hf:=(s18.2.2.2.2.1 _ _ rfl).2.frozen;have s19:=s18.put5 (.slice (some ⟨g17,0,none⟩) 30 30);go_simp;refine hK1 _ _ ?_;clear hK1 K1 hc hf s18;generalize W18.setCell ⟨g16,0,none⟩ (.slice (some ⟨g17,0,none⟩) 30 30)=W19 at s19 ⊢;refine wpAnyIn_done (by kernel_rfl) ?_ _;exact hK _ _ _ _ _ s19
     · have hc:=(s16.2.2.2.1 _ _ rfl).2.cell;have hf:=(s16.2.2.2.1 _ _ rfl).2.frozen;have s20:=s16.put4 (.slice (some ⟨g1,0,none⟩) 286 286);go_simp;refine hK1 _ _ ?_;clear hK1 K1 hc hf s16;generalize W16.setCell ⟨g11,0,none⟩ (.slice (some ⟨g1,0,none⟩) 286 286)=W20 at s20 ⊢;refine aj 1 (by kernel_rfl) rfl fun K1 hK1=>?_;refine av rfl _ _ 84 rfl w.heap.size 3 i0 (.int .i64 0) 1 a0h hi hz0 hz1 .i64 .i64 30 30 30 rfl rfl rfl rfl (by rw[hz2];omega) (by unfold maxLen;omega) s20.2.2.2.2.2.2.2 ?_;intro g21 W21 hg21 ho hgr;have s21:=s20.make11 hgr hg21 (ay ho);refine hK1 _ _ ?_;clear hK1 K1 ho hgr hg21 s20;refine aj 5 (by kernel_rfl) rfl fun K1 hK1=>?_;have hc:=(s21.2.2.2.2.1 _ _ rfl).2.cell;have hf:=(s21.2.2.2.2.1 _ _ rfl).2.frozen;have s22:=s21.put5 (.slice (some ⟨g21,0,none⟩) 30 30);go_simp;refine hK1 _ _ ?_;clear hK1 K1 hc hf s21;generalize W21.setCell ⟨g16,0,none⟩ (.slice (some ⟨g21,0,none⟩) 30 30)=W22 at s22 ⊢;refine wpAnyIn_done (by kernel_rfl) ?_ _;exact hK _ _ _ _ _ s22
   ·
    have s23:=s1.box5 (.slice none 0 0);go_simp;refine hK1 _ _ ?_;clear hK1 K1 s1;generalize W1.alloc (.cells #[.slice none 0 0] 84)=W23 at s23 ⊢;generalize W1.heap.size=g23 at s23 ⊢;refine wpAnyIn_ready (rs:=[1,2]) (by kernel_rfl) (by simp) ?_;refine AllReadyIn.cons rfl (fun K1 hK1=>?_) (AllReadyIn.cons rfl (fun K1 hK1=>?_) (AllReadyIn.nil))
    · refine av rfl _ _ 84 rfl w.heap.size 3 i0 (.int .i64 0) 1 a0h hi hz0 hz1 .i64 .i64 30 30 30 rfl rfl rfl rfl (by rw[hz2];omega) (by unfold maxLen;omega) s23.2.2.2.2.2.2.2 ?_;intro g24 W24 hg24 ho hgr;have s24:=s23.make11 hgr hg24 (ay ho);refine hK1 _ _ ?_;clear hK1 K1 ho hgr hg24 s23;refine aj 2 (by kernel_rfl) rfl fun K1 hK1=>?_;have s25:=s24.box4 (.slice none 0 0);go_simp;refine hK1 _ _ ?_;clear hK1 K1 s24;generalize W24.alloc (.cells #[.slice none 0 0] 84)=W25 at s25 ⊢;generalize W24.heap.size=g25 at s25 ⊢;refine aj 4 (by kernel_rfl) rfl fun K1 hK1=>?_;have hc:=(s25.2.2.2.1 _ _ rfl).2.cell;have hf:=(s25.2.2.2.1 _ _ rfl).2.frozen;have s26:=s25.put4 (.slice (some ⟨g1,0,none⟩) 286 286);go_simp;refine hK1 _ _ ?_;clear hK1 K1 hc hf s25;generalize W25.setCell ⟨g25,0,none⟩ (.slice (some ⟨g1,0,none⟩) 286 286)=W26 at s26 ⊢;refine aj 5 (by kernel_rfl) rfl fun K1 hK1=>?_;have hc:=(s26.2.2.2.2.1 _ _ rfl).2.cell;have hf:=(s26.2.2.2.2.1 _ _ rfl).2.frozen;have s27:=s26.put5 (.slice (some ⟨g24,0,none⟩) 30 30);go_simp;refine hK1 _ _ ?_;clear hK1 K1 hc hf s26;generalize W26.setCell ⟨g23,0,none⟩ (.slice (some ⟨g24,0,none⟩) 30 30)=W27 at s27 ⊢;refine wpAnyIn_done (by kernel_rfl) ?_ _;exact hK _ _ _ _ _ s27
    ·
     have s28:=s23.box4 (.slice none 0 0);go_simp;refine hK1 _ _ ?_;clear hK1 K1 s23;generalize W23.alloc (.cells #[.slice none 0 0] 84)=W28 at s28 ⊢;generalize W23.heap.size=g28 at s28 ⊢;refine wpAnyIn_ready (rs:=[1,4]) (by kernel_rfl) (by simp) ?_;refine AllReadyIn.cons rfl (fun K1 hK1=>?_) (AllReadyIn.cons rfl (fun K1 hK1=>?_) (AllReadyIn.nil))
     · refine av rfl _ _ 84 rfl w.heap.size 3 i0 (.int .i64 0) 1 a0h hi hz0 hz1 .i64 .i64 30 30 30 rfl rfl rfl rfl (by rw[hz2];omega) (by unfold maxLen;omega) s28.2.2.2.2.2.2.2 ?_;intro g29 W29 hg29 ho hgr;have s29:=s28.make11 hgr hg29 (ay ho);refine hK1 _ _ ?_;clear hK1 K1 ho hgr hg29 s28;refine aj 4 (by kernel_rfl) rfl fun K1 hK1=>?_;have hc:=(s29.2.2.2.1 _ _ rfl).2.cell;have hf:=(s29.2.2.2.1 _ _ rfl).2.frozen;have s30:=s29.put4 (.slice (some ⟨g1,0,none⟩) 286 286);go_simp;refine hK1 _ _ ?_;clear hK1 K1 hc hf s29;generalize W29.setCell ⟨g28,0,none⟩ (.slice (some ⟨g1,0,none⟩) 286 286)=W30 at s30 ⊢;refine aj 5 (by kernel_rfl) rfl fun K1 hK1=>?_;have hc:=(s30.2.2.2.2.1 _ _ rfl).2.cell;have hf:=(s30.2.2.2.2.1 _ _ rfl).2.frozen;have s31:=s30.put5 (.slice (some ⟨g29,0,none⟩) 30 30);go_simp;refine hK1 _ _ ?_;clear hK1 K1 hc hf s30;generalize W30.setCell ⟨g23,0,none⟩ (.slice (some ⟨g29,0,none⟩) 30 30)=W31 at s31 ⊢;refine wpAnyIn_done (by kernel_rfl) ?_ _;exact hK _ _ _ _ _ s31
     · have hc:=(s28.2.2.2.1 _ _ rfl).2.cell;have hf:=(s28.2.2.2.1 _ _ rfl).2.frozen;have s32:=s28.put4 (.slice (some ⟨g1,0,none⟩) 286 286);go_simp;refine hK1 _ _ ?_;clear hK1 K1 hc hf s28;generalize W28.setCell ⟨g28,0,none⟩ (.slice (some ⟨g1,0,none⟩) 286 286)=W32 at s32 ⊢;refine aj 1 (by kernel_rfl) rfl fun K1 hK1=>?_;refine av rfl _ _ 84 rfl w.heap.size 3 i0 (.int .i64 0) 1 a0h hi hz0 hz1 .i64 .i64 30 30 30 rfl rfl rfl rfl (by rw[hz2];omega) (by unfold maxLen;omega) s32.2.2.2.2.2.2.2 ?_;intro g33 W33 hg33 ho hgr;have s33:=s32.make11 hgr hg33 (ay ho);refine hK1 _ _ ?_;clear hK1 K1 ho hgr hg33 s32;refine aj 5 (by kernel_rfl) rfl fun K1 hK1=>?_;have hc:=(s33.2.2.2.2.1 _ _ rfl).2.cell;have hf:=(s33.2.2.2.2.1 _ _ rfl).2.frozen;have s34:=s33.put5 (.slice (some ⟨g33,0,none⟩) 30 30);go_simp;refine hK1 _ _ ?_;clear hK1 K1 hc hf s33;generalize W33.setCell ⟨g23,0,none⟩ (.slice (some ⟨g33,0,none⟩) 30 30)=W34 at s34 ⊢;refine wpAnyIn_done (by kernel_rfl) ?_ _;exact hK _ _ _ _ _ s34
  ·
   refine av rfl _ _ 84 rfl w.heap.size 3 i0 (.int .i64 0) 1 a0h hi hz0 hz1 .i64 .i64 30 30 30 rfl rfl rfl rfl (by rw[hz2];omega) (by unfold maxLen;omega) hs0.2.2.2.2.2.2.2 ?_;intro g35 W35 hg35 ho hgr;have s35:=hs0.make11 hgr hg35 (ay ho);refine hK1 _ _ ?_;clear hK1 K1 ho hgr hg35 hs0;refine wpAnyIn_ready (rs:=[0,2,3]) (by kernel_rfl) (by simp) ?_;refine AllReadyIn.cons rfl (fun K1 hK1=>?_) (AllReadyIn.cons rfl (fun K1 hK1=>?_) (AllReadyIn.cons rfl (fun K1 hK1=>?_) (AllReadyIn.nil)))
   ·
    refine av rfl _ _ 84 rfl w.heap.size 3 i0 (.int .i64 0) 1 a0h hi hz0 hz1 .i64 .i64 286 286 286 rfl rfl rfl rfl (by rw[hz2];omega) (by unfold maxLen;omega) s35.2.2.2.2.2.2.2 ?_;intro g36 W36 hg36 ho hgr;have s36:=s35.make10 hgr hg36 (ay ho);refine hK1 _ _ ?_;clear hK1 K1 ho hgr hg36 s35;refine wpAnyIn_ready (rs:=[2,3]) (by kernel_rfl) (by simp) ?_;refine AllReadyIn.cons rfl (fun K1 hK1=>?_) (AllReadyIn.cons rfl (fun K1 hK1=>?_) (AllReadyIn.nil))
    · have s37:=s36.box4 (.slice none 0 0);go_simp;refine hK1 _ _ ?_;clear hK1 K1 s36;generalize W36.alloc (.cells #[.slice none 0 0] 84)=W37 at s37 ⊢;generalize W36.heap.size=g37 at s37 ⊢;refine aj 3 (by kernel_rfl) rfl fun K1 hK1=>?_;have s38:=s37.box5 (.slice none 0 0);go_simp;refine hK1 _ _ ?_;clear hK1 K1 s37;generalize W37.alloc (.cells #[.slice none 0 0] 84)=W38 at s38 ⊢;generalize W37.heap.size=g38 at s38 ⊢;refine aj 4 (by kernel_rfl) rfl fun K1 hK1=>?_;have hc:=(s38.2.2.2.1 _ _ rfl).2.cell;have hf:=(s38.2.2.2.1 _ _ rfl).2.frozen;have s39:=s38.put4 (.slice (some ⟨g36,0,none⟩) 286 286);go_simp;refine hK1 _ _ ?_;clear hK1 K1 hc hf s38;generalize W38.setCell ⟨g37,0,none⟩ (.slice (some ⟨g36,0,none⟩) 286 286)=W39 at s39 ⊢;refine aj 5 (by kernel_rfl) rfl fun K1 hK1=>?_;have hc:=(s39.2.2.2.2.1 _ _ rfl).2.cell;have hf:=(s39.2.2.2.2.1 _ _ rfl).2.frozen;have s40:=s39.put5 (.slice (some ⟨g35,0,none⟩) 30 30);go_simp;refine hK1 _ _ ?_;clear hK1 K1 hc hf s39;generalize W39.setCell ⟨g38,0,none⟩ (.slice (some ⟨g35,0,none⟩) 30 30)=W40 at s40 ⊢;refine wpAnyIn_done (by kernel_rfl) ?_ _;exact hK _ _ _ _ _ s40
    · have s41:=s36.box5 (.slice none 0 0);go_simp;refine hK1 _ _ ?_;clear hK1 K1 s36;generalize W36.alloc (.cells #[.slice none 0 0] 84)=W41 at s41 ⊢;generalize W36.heap.size=g41 at s41 ⊢;refine aj 2 (by kernel_rfl) rfl fun K1 hK1=>?_;have s42:=s41.box4 (.slice none 0 0);go_simp;refine hK1 _ _ ?_;clear hK1 K1 s41;generalize W41.alloc (.cells #[.slice none 0 0] 84)=W42 at s42 ⊢;generalize W41.heap.size=g42 at s42 ⊢;refine aj 4 (by kernel_rfl) rfl fun K1 hK1=>?_;have hc:=(s42.2.2.2.1 _ _ rfl).2.cell;have hf:=(s42.2.2.2.1 _ _ rfl).2.frozen;have s43:=s42.put4 (.slice (some ⟨g36,0,none⟩) 286 286);go_simp;refine hK1 _ _ ?_;clear hK1 K1 hc hf s42;generalize W42.setCell ⟨g42,0,none⟩ (.slice (some ⟨g36,0,none⟩) 286 286)=W43 at s43 ⊢;refine aj 5 (by kernel_rfl) rfl fun K1 hK1=>?_;have hc:=(s43.2.2.2.2.1 _ _ rfl).2.cell;have hf:=(s43.2.2.2.2.1 _ _ rfl).2.frozen;have s44:=s43.put5 (.slice (some ⟨g35,0,none⟩) 30 30);go_simp;refine hK1 _ _ ?_;clear hK1 K1 hc hf s43;generalize W43.setCell ⟨g41,0,none⟩ (.slice (some ⟨g35,0,none⟩) 30 30)=W44 at s44 ⊢;refine wpAnyIn_done (by kernel_rfl) ?_ _;exact hK _ _ _ _ _ s44
   ·
    have s45:=s35.box4 (.slice none 0 0);go_simp;refine hK1 _ _ ?_;clear hK1 K1 s35;generalize W35.alloc (.cells #[.slice none 0 0] 84)=W45 at s45 ⊢;generalize W35.heap.size=g45 at s45 ⊢;refine wpAnyIn_ready (rs:=[0,3]) (by kernel_rfl) (by simp) ?_;refine AllReadyIn.cons rfl (fun K1 hK1=>?_) (AllReadyIn.cons rfl (fun K1 hK1=>?_) (AllReadyIn.nil))
    · refine av rfl _ _ 84 rfl w.heap.size 3 i0 (.int .i64 0) 1 a0h hi hz0 hz1 .i64 .i64 286 286 286 rfl rfl rfl rfl (by rw[hz2];omega) (by unfold maxLen;omega) s45.2.2.2.2.2.2.2 ?_;intro g46 W46 hg46 ho hgr;have s46:=s45.make10 hgr hg46 (ay ho);refine hK1 _ _ ?_;clear hK1 K1 ho hgr hg46 s45;refine aj 3 (by kernel_rfl) rfl fun K1 hK1=>?_;have s47:=s46.box5 (.slice none 0 0);go_simp;refine hK1 _ _ ?_;clear hK1 K1 s46;generalize W46.alloc (.cells #[.slice none 0 0] 84)=W47 at s47 ⊢;generalize W46.heap.size=g47 at s47 ⊢;refine aj 4 (by kernel_rfl) rfl fun K1 hK1=>?_;have hc:=(s47.2.2.2.1 _ _ rfl).2.cell;have hf:=(s47.2.2.2.1 _ _ rfl).2.frozen;have s48:=s47.put4 (.slice (some ⟨g46,0,none⟩) 286 286);go_simp;refine hK1 _ _ ?_;clear hK1 K1 hc hf s47;generalize W47.setCell ⟨g45,0,none⟩ (.slice (some ⟨g46,0,none⟩) 286 286)=W48 at s48 ⊢;refine aj 5 (by kernel_rfl) rfl fun K1 hK1=>?_;have hc:=(s48.2.2.2.2.1 _ _ rfl).2.cell;have hf:=(s48.2.2.2.2.1 _ _ rfl).2.frozen;have s49:=s48.put5 (.slice (some ⟨g35,0,none⟩) 30 30);go_simp;refine hK1 _ _ ?_;clear hK1 K1 hc hf s48;generalize W48.setCell ⟨g47,0,none⟩ (.slice (some ⟨g35,0,none⟩) 30 30)=W49 at s49 ⊢;refine wpAnyIn_done (by kernel_rfl) ?_ _;exact hK _ _ _ _ _ s49
    · have s50:=s45.box5 (.slice none 0 0);go_simp;refine hK1 _ _ ?_;clear hK1 K1 s45;generalize W45.alloc (.cells #[.slice none 0 0] 84)=W50 at s50 ⊢;generalize W45.heap.size=g50 at s50 ⊢;refine aj 0 (by kernel_rfl) rfl fun K1 hK1=>?_;refine av rfl _ _ 84 rfl w.heap.size 3 i0 (.int .i64 0) 1 a0h hi hz0 hz1 .i64 .i64 286 286 286 rfl rfl rfl rfl (by rw[hz2];omega) (by unfold maxLen;omega) s50.2.2.2.2.2.2.2 ?_;intro g51 W51 hg51 ho hgr;have s51:=s50.make10 hgr hg51 (ay ho);refine hK1 _ _ ?_;clear hK1 K1 ho hgr hg51 s50;refine aj 4 (by kernel_rfl) rfl fun K1 hK1=>?_;have hc:=(s51.2.2.2.1 _ _ rfl).2.cell;have hf:=(s51.2.2.2.1 _ _ rfl).2.frozen;have s52:=s51.put4 (.slice (some ⟨g51,0,none⟩) 286 286);go_simp;refine hK1 _ _ ?_;clear hK1 K1 hc hf s51;generalize W51.setCell ⟨g45,0,none⟩ (.slice (some ⟨g51,0,none⟩) 286 286)=W52 at s52 ⊢;refine aj 5 (by kernel_rfl) rfl fun K1 hK1=>?_;have hc:=(s52.2.2.2.2.1 _ _ rfl).2.cell;have hf:=(s52.2.2.2.2.1 _ _ rfl).2.frozen;have s53:=s52.put5 (.slice (some ⟨g35,0,none⟩) 30 30);go_simp;refine hK1 _ _ ?_;clear hK1 K1 hc hf s52;generalize W52.setCell ⟨g50,0,none⟩ (.slice (some ⟨g35,0,none⟩) 30 30)=W53 at s53 ⊢;refine wpAnyIn_done (by kernel_rfl) ?_ _;exact hK _ _ _ _ _ s53
   ·
    have s54:=s35.box5 (.slice none 0 0);go_simp;refine hK1 _ _ ?_;clear hK1 K1 s35;generalize W35.alloc (.cells #[.slice none 0 0] 84)=W54 at s54 ⊢;generalize W35.heap.size=g54 at s54 ⊢;refine wpAnyIn_ready (rs:=[0,2]) (by kernel_rfl) (by simp) ?_;refine AllReadyIn.cons rfl (fun K1 hK1=>?_) (AllReadyIn.cons rfl (fun K1 hK1=>?_) (AllReadyIn.nil))
    · refine av rfl _ _ 84 rfl w.heap.size 3 i0 (.int .i64 0) 1 a0h hi hz0 hz1 .i64 .i64 286 286 286 rfl rfl rfl rfl (by rw[hz2];omega) (by unfold maxLen;omega) s54.2.2.2.2.2.2.2 ?_;intro g55 W55 hg55 ho hgr;have s55:=s54.make10 hgr hg55 (ay ho);refine hK1 _ _ ?_;clear hK1 K1 ho hgr hg55 s54;refine aj 2 (by kernel_rfl) rfl fun K1 hK1=>?_;have s56:=s55.box4 (.slice none 0 0);go_simp;refine hK1 _ _ ?_;clear hK1 K1 s55;generalize W55.alloc (.cells #[.slice none 0 0] 84)=W56 at s56 ⊢;generalize W55.heap.size=g56 at s56 ⊢;refine aj 4 (by kernel_rfl) rfl fun K1 hK1=>?_;have hc:=(s56.2.2.2.1 _ _ rfl).2.cell;have hf:=(s56.2.2.2.1 _ _ rfl).2.frozen;have s57:=s56.put4 (.slice (some ⟨g55,0,none⟩) 286 286);go_simp;refine hK1 _ _ ?_;clear hK1 K1 hc hf s56;generalize W56.setCell ⟨g56,0,none⟩ (.slice (some ⟨g55,0,none⟩) 286 286)=W57 at s57 ⊢;refine aj 5 (by kernel_rfl) rfl fun K1 hK1=>?_;have hc:=(s57.2.2.2.2.1 _ _ rfl).2.cell;have hf:=(s57.2.2.2.2.1 _ _ rfl).2.frozen;have s58:=s57.put5 (.slice (some ⟨g35,0,none⟩) 30 30);go_simp;refine hK1 _ _ ?_;clear hK1 K1 hc hf s57;generalize W57.setCell ⟨g54,0,none⟩ (.slice (some ⟨g35,0,none⟩) 30 30)=W58 at s58 ⊢;refine wpAnyIn_done (by kernel_rfl) ?_ _;exact hK _ _ _ _ _ s58
    · have s59:=s54.box4 (.slice none 0 0);go_simp;refine hK1 _ _ ?_;clear hK1 K1 s54;generalize W54.alloc (.cells #[.slice none 0 0] 84)=W59 at s59 ⊢;generalize W54.heap.size=g59 at s59 ⊢;refine aj 0 (by kernel_rfl) rfl fun K1 hK1=>?_;refine av rfl _ _ 84 rfl w.heap.size 3 i0 (.int .i64 0) 1 a0h hi hz0 hz1 .i64 .i64 286 286 286 rfl rfl rfl rfl (by rw[hz2];omega) (by unfold maxLen;omega) s59.2.2.2.2.2.2.2 ?_;intro g60 W60 hg60 ho hgr;have s60:=s59.make10 hgr hg60 (ay ho);refine hK1 _ _ ?_;clear hK1 K1 ho hgr hg60 s59;refine aj 4 (by kernel_rfl) rfl fun K1 hK1=>?_;have hc:=(s60.2.2.2.1 _ _ rfl).2.cell;have hf:=(s60.2.2.2.1 _ _ rfl).2.frozen;have s61:=s60.put4 (.slice (some ⟨g60,0,none⟩) 286 286);go_simp;refine hK1 _ _ ?_;clear hK1 K1 hc hf s60;generalize W60.setCell ⟨g59,0,none⟩ (.slice (some ⟨g60,0,none⟩) 286 286)=W61 at s61 ⊢;refine aj 5 (by kernel_rfl) rfl fun K1 hK1=>?_;have hc:=(s61.2.2.2.2.1 _ _ rfl).2.cell;have hf:=(s61.2.2.2.2.1 _ _ rfl).2.frozen;have s62:=s61.put5 (.slice (some ⟨g35,0,none⟩) 30 30);go_simp;refine hK1 _ _ ?_;clear hK1 K1 hc hf s61;generalize W61.setCell ⟨g54,0,none⟩ (.slice (some ⟨g35,0,none⟩) 30 30)=W62 at s62 ⊢;refine wpAnyIn_done (by kernel_rfl) ?_ _;exact hK _ _ _ _ _ s62
  ·
   have s63:=hs0.box4 (.slice none 0 0);go_simp;refine hK1 _ _ ?_;clear hK1 K1 hs0;generalize W0.alloc (.cells #[.slice none 0 0] 84)=W63 at s63 ⊢;generalize W0.heap.size=g63 at s63 ⊢;refine wpAnyIn_ready (rs:=[0,1,3]) (by kernel_rfl) (by simp) ?_;refine AllReadyIn.cons rfl (fun K1 hK1=>?_) (AllReadyIn.cons rfl (fun K1 hK1=>?_) (AllReadyIn.cons rfl (fun K1 hK1=>?_) (AllReadyIn.nil)))
   ·
    refine av rfl _ _ 84 rfl w.heap.size 3 i0 (.int .i64 0) 1 a0h hi hz0 hz1 .i64 .i64 286 286 286 rfl rfl rfl rfl (by rw[hz2];omega) (by unfold maxLen;omega) s63.2.2.2.2.2.2.2 ?_;intro g64 W64 hg64 ho hgr;have s64:=s63.make10 hgr hg64 (ay ho);refine hK1 _ _ ?_;clear hK1 K1 ho hgr hg64 s63;refine wpAnyIn_ready (rs:=[1,3]) (by kernel_rfl) (by simp) ?_;refine AllReadyIn.cons rfl (fun K1 hK1=>?_) (AllReadyIn.cons rfl (fun K1 hK1=>?_) (AllReadyIn.nil))
    · refine av rfl _ _ 84 rfl w.heap.size 3 i0 (.int .i64 0) 1 a0h hi hz0 hz1 .i64 .i64 30 30 30 rfl rfl rfl rfl (by rw[hz2];omega) (by unfold maxLen;omega) s64.2.2.2.2.2.2.2 ?_;intro g65 W65 hg65 ho hgr;have s65:=s64.make11 hgr hg65 (ay ho);refine hK1 _ _ ?_;clear hK1 K1 ho hgr hg65 s64;refine aj 3 (by kernel_rfl) rfl fun K1 hK1=>?_;have s66:=s65.box5 (.slice none 0 0);go_simp;refine hK1 _ _ ?_;clear hK1 K1 s65;generalize W65.alloc (.cells #[.slice none 0 0] 84)=W66 at s66 ⊢;generalize W65.heap.size=g66 at s66 ⊢;refine aj 4 (by kernel_rfl) rfl fun K1 hK1=>?_;have hc:=(s66.2.2.2.1 _ _ rfl).2.cell;have hf:=(s66.2.2.2.1 _ _ rfl).2.frozen;have s67:=s66.put4 (.slice (some ⟨g64,0,none⟩) 286 286);go_simp;refine hK1 _ _ ?_;clear hK1 K1 hc hf s66;generalize W66.setCell ⟨g63,0,none⟩ (.slice (some ⟨g64,0,none⟩) 286 286)=W67 at s67 ⊢;refine aj 5 (by kernel_rfl) rfl fun K1 hK1=>?_;have hc:=(s67.2.2.2.2.1 _ _ rfl).2.cell;have hf:=(s67.2.2.2.2.1 _ _ rfl).2.frozen;have s68:=s67.put5 (.slice (some ⟨g65,0,none⟩) 30 30);go_simp;refine hK1 _ _ ?_;clear hK1 K1 hc hf s67;generalize W67.setCell ⟨g66,0,none⟩ (.slice (some ⟨g65,0,none⟩) 30 30)=W68 at s68 ⊢;refine wpAnyIn_done (by kernel_rfl) ?_ _;exact hK _ _ _ _ _ s68
    ·
     have s69:=s64.box5 (.slice none 0 0);go_simp;refine hK1 _ _ ?_;clear hK1 K1 s64;generalize W64.alloc (.cells #[.slice none 0 0] 84)=W69 at s69 ⊢;generalize W64.heap.size=g69 at s69 ⊢;refine wpAnyIn_ready (rs:=[1,4]) (by kernel_rfl) (by simp) ?_;refine AllReadyIn.cons rfl (fun K1 hK1=>?_) (AllReadyIn.cons rfl (fun K1 hK1=>?_) (AllReadyIn.nil))
     · refine av rfl _ _ 84 rfl w.heap.size 3 i0 (.int .i64 0) 1 a0h hi hz0 hz1 .i64 .i64 30 30 30 rfl rfl rfl rfl (by rw[hz2];omega) (by unfold maxLen;omega) s69.2.2.2.2.2.2.2 ?_;intro g70 W70 hg70 ho hgr;have s70:=s69.make11 hgr hg70 (ay ho);refine hK1 _ _ ?_;clear hK1 K1 ho hgr hg70 s69;refine aj 4 (by kernel_rfl) rfl fun K1 hK1=>?_;have hc:=(s70.2.2.2.1 _ _ rfl).2.cell;have hf:=(s70.2.2.2.1 _ _ rfl).2.frozen;have s71:=s70.put4 (.slice (some ⟨g64,0,none⟩) 286 286);go_simp;refine hK1 _ _ ?_;clear hK1 K1 hc hf s70;generalize W70.setCell ⟨g63,0,none⟩ (.slice (some ⟨g64,0,none⟩) 286 286)=W71 at s71 ⊢;refine aj 5 (by kernel_rfl) rfl fun K1 hK1=>?_;have hc:=(s71.2.2.2.2.1 _ _ rfl).2.cell;have hf:=(s71.2.2.2.2.1 _ _ rfl).2.frozen;have s72:=s71.put5 (.slice (some ⟨g70,0,none⟩) 30 30);go_simp;refine hK1 _ _ ?_;clear hK1 K1 hc hf s71;generalize W71.setCell ⟨g69,0,none⟩ (.slice (some ⟨g70,0,none⟩) 30 30)=W72 at s72 ⊢;refine wpAnyIn_done (by kernel_rfl) ?_ _;exact hK _ _ _ _ _ s72
     · have hc:=(s69.2.2.2.1 _ _ rfl).2.cell;have hf:=(s69.2.2.2.1 _ _ rfl).2.frozen;have s73:=s69.put4 (.slice (some ⟨g64,0,none⟩) 286 286);go_simp;refine hK1 _ _ ?_;clear hK1 K1 hc hf s69;generalize W69.setCell ⟨g63,0,none⟩ (.slice (some ⟨g64,0,none⟩) 286 286)=W73 at s73 ⊢;refine aj 1 (by kernel_rfl) rfl fun K1 hK1=>?_;refine av rfl _ _ 84 rfl w.heap.size 3 i0 (.int .i64 0) 1 a0h hi hz0 hz1 .i64 .i64 30 30 30 rfl rfl rfl rfl (by rw[hz2];omega) (by unfold maxLen;omega) s73.2.2.2.2.2.2.2 ?_;intro g74 W74 hg74 ho hgr;have s74:=s73.make11 hgr hg74 (ay ho);refine hK1 _ _ ?_;clear hK1 K1 ho hgr hg74 s73;refine aj 5 (by kernel_rfl) rfl fun K1 hK1=>?_;have hc:=(s74.2.2.2.2.1 _ _ rfl).2.cell;have hf:=(s74.2.2.2.2.1 _ _ rfl).2.frozen;have s75:=s74.put5 (.slice (some ⟨g74,0,none⟩) 30 30);go_simp;refine hK1 _ _ ?_;clear hK1 K1 hc hf s74;generalize W74.setCell ⟨g69,0,none⟩ (.slice (some ⟨g74,0,none⟩) 30 30)=W75 at s75 ⊢;refine wpAnyIn_done (by kernel_rfl) ?_ _;exact hK _ _ _ _ _ s75
   ·
    refine av rfl _ _ 84 rfl w.heap.size 3 i0 (.int .i64 0) 1 a0h hi hz0 hz1 .i64 .i64 30 30 30 rfl rfl rfl rfl (by rw[hz2];omega) (by unfold maxLen;omega) s63.2.2.2.2.2.2.2 ?_;intro g76 W76 hg76 ho hgr;have s76:=s63.make11 hgr hg76 (ay ho);refine hK1 _ _ ?_;clear hK1 K1 ho hgr hg76 s63;refine wpAnyIn_ready (rs:=[0,3]) (by kernel_rfl) (by simp) ?_;refine AllReadyIn.cons rfl (fun K1 hK1=>?_) (AllReadyIn.cons rfl (fun K1 hK1=>?_) (AllReadyIn.nil))
    · refine av rfl _ _ 84 rfl w.heap.size 3 i0 (.int .i64 0) 1 a0h hi hz0 hz1 .i64 .i64 286 286 286 rfl rfl rfl rfl (by rw[hz2];omega) (by unfold maxLen;omega) s76.2.2.2.2.2.2.2 ?_;intro g77 W77 hg77 ho hgr;have s77:=s76.make10 hgr hg77 (ay ho);refine hK1 _ _ ?_;clear hK1 K1 ho hgr hg77 s76;refine aj 3 (by kernel_rfl) rfl fun K1 hK1=>?_;have s78:=s77.box5 (.slice none 0 0);go_simp;refine hK1 _ _ ?_;clear hK1 K1 s77;generalize W77.alloc (.cells #[.slice none 0 0] 84)=W78 at s78 ⊢;generalize W77.heap.size=g78 at s78 ⊢;refine aj 4 (by kernel_rfl) rfl fun K1 hK1=>?_;have hc:=(s78.2.2.2.1 _ _ rfl).2.cell;have hf:=(s78.2.2.2.1 _ _ rfl).2.frozen;have s79:=s78.put4 (.slice (some ⟨g77,0,none⟩) 286 286);go_simp;refine hK1 _ _ ?_;clear hK1 K1 hc hf s78;generalize W78.setCell ⟨g63,0,none⟩ (.slice (some ⟨g77,0,none⟩) 286 286)=W79 at s79 ⊢;refine aj 5 (by kernel_rfl) rfl fun K1 hK1=>?_;have hc:=(s79.2.2.2.2.1 _ _ rfl).2.cell;have hf:=(s79.2.2.2.2.1 _ _ rfl).2.frozen;have s80:=s79.put5 (.slice (some ⟨g76,0,none⟩) 30 30);go_simp;refine hK1 _ _ ?_;clear hK1 K1 hc hf s79;generalize W79.setCell ⟨g78,0,none⟩ (.slice (some ⟨g76,0,none⟩) 30 30)=W80 at s80 ⊢;refine wpAnyIn_done (by kernel_rfl) ?_ _;exact hK _ _ _ _ _ s80
    · have s81:=s76.box5 (.slice none 0 0);go_simp;refine hK1 _ _ ?_;clear hK1 K1 s76;generalize W76.alloc (.cells #[.slice none 0 0] 84)=W81 at s81 ⊢;generalize W76.heap.size=g81 at s81 ⊢;refine aj 0 (by kernel_rfl) rfl fun K1 hK1=>?_;refine av rfl _ _ 84 rfl w.heap.size 3 i0 (.int .i64 0) 1 a0h hi hz0 hz1 .i64 .i64 286 286 286 rfl rfl rfl rfl (by rw[hz2];omega) (by unfold maxLen;omega) s81.2.2.2.2.2.2.2 ?_;intro g82 W82 hg82 ho hgr;have s82:=s81.make10 hgr hg82 (ay ho);refine hK1 _ _ ?_;clear hK1 K1 ho hgr hg82 s81;refine aj 4 (by kernel_rfl) rfl fun K1 hK1=>?_;have hc:=(s82.2.2.2.1 _ _ rfl).2.cell;have hf:=(s82.2.2.2.1 _ _ rfl).2.frozen;have s83:=s82.put4 (.slice (some ⟨g82,0,none⟩) 286 286);go_simp;refine hK1 _ _ ?_;clear hK1 K1 hc hf s82;generalize W82.setCell ⟨g63,0,none⟩ (.slice (some ⟨g82,0,none⟩) 286 286)=W83 at s83 ⊢;refine aj 5 (by kernel_rfl) rfl fun K1 hK1=>?_;have hc:=(s83.2.2.2.2.1 _ _ rfl).2.cell;have hf:=(s83.2.2.2.2.1 _ _ rfl).2.frozen;have s84:=s83.put5 (.slice (some ⟨g76,0,none⟩) 30 30);go_simp;refine hK1 _ _ ?_;clear hK1 K1 hc hf s83;generalize W83.setCell ⟨g81,0,none⟩ (.slice (some ⟨g76,0,none⟩) 30 30)=W84 at s84 ⊢;refine wpAnyIn_done (by kernel_rfl) ?_ _;exact hK _ _ _ _ _ s84
   ·
    have s85:=s63.box5 (.slice none 0 0);go_simp;refine hK1 _ _ ?_;clear hK1 K1 s63;generalize W63.alloc (.cells #[.slice none 0 0] 84)=W85 at s85 ⊢;generalize W63.heap.size=g85 at s85 ⊢;refine wpAnyIn_ready (rs:=[0,1]) (by kernel_rfl) (by simp) ?_;refine AllReadyIn.cons rfl (fun K1 hK1=>?_) (AllReadyIn.cons rfl (fun K1 hK1=>?_) (AllReadyIn.nil))
    ·
     refine av rfl _ _ 84 rfl w.heap.size 3 i0 (.int .i64 0) 1 a0h hi hz0 hz1 .i64 .i64 286 286 286 rfl rfl rfl rfl (by rw[hz2];omega) (by unfold maxLen;omega) s85.2.2.2.2.2.2.2 ?_;intro g86 W86 hg86 ho hgr;have s86:=s85.make10 hgr hg86 (ay ho);refine hK1 _ _ ?_;clear hK1 K1 ho hgr hg86 s85;refine wpAnyIn_ready (rs:=[1,4]) (by kernel_rfl) (by simp) ?_;refine AllReadyIn.cons rfl (fun K1 hK1=>?_) (AllReadyIn.cons rfl (fun K1 hK1=>?_) (AllReadyIn.nil))
     · refine av rfl _ _ 84 rfl w.heap.size 3 i0 (.int .i64 0) 1 a0h hi hz0 hz1 .i64 .i64 30 30 30 rfl rfl rfl rfl (by rw[hz2];omega) (by unfold maxLen;omega) s86.2.2.2.2.2.2.2 ?_;intro g87 W87 hg87 ho hgr;have s87:=s86.make11 hgr hg87 (ay ho);refine hK1 _ _ ?_;clear hK1 K1 ho hgr hg87 s86;refine aj 4 (by kernel_rfl) rfl fun K1 hK1=>?_;have hc:=(s87.2.2.2.1 _ _ rfl).2.cell;have hf:=(s87.2.2.2.1 _ _ rfl).2.frozen;have s88:=s87.put4 (.slice (some ⟨g86,0,none⟩) 286 286);go_simp;refine hK1 _ _ ?_;clear hK1 K1 hc hf s87;generalize W87.setCell ⟨g63,0,none⟩ (.slice (some ⟨g86,0,none⟩) 286 286)=W88 at s88 ⊢;refine aj 5 (by kernel_rfl) rfl fun K1 hK1=>?_;have hc:=(s88.2.2.2.2.1 _ _ rfl).2.cell;have hf:=(s88.2.2.2.2.1 _ _ rfl).2.frozen;have s89:=s88.put5 (.slice (some ⟨g87,0,none⟩) 30 30);go_simp;refine hK1 _ _ ?_;clear hK1 K1 hc hf s88;generalize W88.setCell ⟨g85,0,none⟩ (.slice (some ⟨g87,0,none⟩) 30 30)=W89 at s89 ⊢;refine wpAnyIn_done (by kernel_rfl) ?_ _;exact hK _ _ _ _ _ s89
     · have hc:=(s86.2.2.2.1 _ _ rfl).2.cell;have hf:=(s86.2.2.2.1 _ _ rfl).2.frozen;have s90:=s86.put4 (.slice (some ⟨g86,0,none⟩) 286 286);go_simp;refine hK1 _ _ ?_;clear hK1 K1 hc hf s86;generalize W86.setCell ⟨g63,0,none⟩ (.slice (some ⟨g86,0,none⟩) 286 286)=W90 at s90 ⊢;refine aj 1 (by kernel_rfl) rfl fun K1 hK1=>?_;refine av rfl _ _ 84 rfl w.heap.size 3 i0 (.int .i64 0) 1 a0h hi hz0 hz1 .i64 .i64 30 30 30 rfl rfl rfl rfl (by rw[hz2];omega) (by unfold maxLen;omega) s90.2.2.2.2.2.2.2 ?_;intro g91 W91 hg91 ho hgr;have s91:=s90.make11 hgr hg91 (ay ho);refine hK1 _ _ ?_;clear hK1 K1 ho hgr hg91 s90;refine aj 5 (by kernel_rfl) rfl fun K1 hK1=>?_;have hc:=(s91.2.2.2.2.1 _ _ rfl).2.cell;have hf:=(s91.2.2.2.2.1 _ _ rfl).2.frozen;have s92:=s91.put5 (.slice (some ⟨g91,0,none⟩) 30 30);go_simp;refine hK1 _ _ ?_;clear hK1 K1 hc hf s91;generalize W91.setCell ⟨g85,0,none⟩ (.slice (some ⟨g91,0,none⟩) 30 30)=W92 at s92 ⊢;refine wpAnyIn_done (by kernel_rfl) ?_ _;exact hK _ _ _ _ _ s92
    · refine av rfl _ _ 84 rfl w.heap.size 3 i0 (.int .i64 0) 1 a0h hi hz0 hz1 .i64 .i64 30 30 30 rfl rfl rfl rfl (by rw[hz2];omega) (by unfold maxLen;omega) s85.2.2.2.2.2.2.2 ?_;intro g93 W93 hg93 ho hgr;have s93:=s85.make11 hgr hg93 (ay ho);refine hK1 _ _ ?_;clear hK1 K1 ho hgr hg93 s85;refine aj 0 (by kernel_rfl) rfl fun K1 hK1=>?_;refine av rfl _ _ 84 rfl w.heap.size 3 i0 (.int .i64 0) 1 a0h hi hz0 hz1 .i64 .i64 286 286 286 rfl rfl rfl rfl (by rw[hz2];omega) (by unfold maxLen;omega) s93.2.2.2.2.2.2.2 ?_;intro g94 W94 hg94 ho hgr;have s94:=s93.make10 hgr hg94 (ay ho);refine hK1 _ _ ?_;clear hK1 K1 ho hgr hg94 s93;refine aj 4 (by kernel_rfl) rfl fun K1 hK1=>?_;have hc:=(s94.2.2.2.1 _ _ rfl).2.cell;have hf:=(s94.2.2.2.1 _ _ rfl).2.frozen;have s95:=s94.put4 (.slice (some ⟨g94,0,none⟩) 286 286);go_simp;refine hK1 _ _ ?_;clear hK1 K1 hc hf s94;generalize W94.setCell ⟨g63,0,none⟩ (.slice (some ⟨g94,0,none⟩) 286 286)=W95 at s95 ⊢;refine aj 5 (by kernel_rfl) rfl fun K1 hK1=>?_;have hc:=(s95.2.2.2.2.1 _ _ rfl).2.cell;have hf:=(s95.2.2.2.2.1 _ _ rfl).2.frozen;have s96:=s95.put5 (.slice (some ⟨g93,0,none⟩) 30 30);go_simp;refine hK1 _ _ ?_;clear hK1 K1 hc hf s95;generalize W95.setCell ⟨g85,0,none⟩ (.slice (some ⟨g93,0,none⟩) 30 30)=W96 at s96 ⊢;refine wpAnyIn_done (by kernel_rfl) ?_ _;exact hK _ _ _ _ _ s96
  ·
   have s97:=hs0.box5 (.slice none 0 0);go_simp;refine hK1 _ _ ?_;clear hK1 K1 hs0;generalize W0.alloc (.cells #[.slice none 0 0] 84)=W97 at s97 ⊢;generalize W0.heap.size=g97 at s97 ⊢;refine wpAnyIn_ready (rs:=[0,1,2]) (by kernel_rfl) (by simp) ?_;refine AllReadyIn.cons rfl (fun K1 hK1=>?_) (AllReadyIn.cons rfl (fun K1 hK1=>?_) (AllReadyIn.cons rfl (fun K1 hK1=>?_) (AllReadyIn.nil)))
   ·
    refine av rfl _ _ 84 rfl w.heap.size 3 i0 (.int .i64 0) 1 a0h hi hz0 hz1 .i64 .i64 286 286 286 rfl rfl rfl rfl (by rw[hz2];omega) (by unfold maxLen;omega) s97.2.2.2.2.2.2.2 ?_;intro g98 W98 hg98 ho hgr;have s98:=s97.make10 hgr hg98 (ay ho);refine hK1 _ _ ?_;clear hK1 K1 ho hgr hg98 s97;refine wpAnyIn_ready (rs:=[1,2]) (by kernel_rfl) (by simp) ?_;refine AllReadyIn.cons rfl (fun K1 hK1=>?_) (AllReadyIn.cons rfl (fun K1 hK1=>?_) (AllReadyIn.nil))
    · refine av rfl _ _ 84 rfl w.heap.size 3 i0 (.int .i64 0) 1 a0h hi hz0 hz1 .i64 .i64 30 30 30 rfl rfl rfl rfl (by rw[hz2];omega) (by unfold maxLen;omega) s98.2.2.2.2.2.2.2 ?_;intro g99 W99 hg99 ho hgr;have s99:=s98.make11 hgr hg99 (ay ho);refine hK1 _ _ ?_;clear hK1 K1 ho hgr hg99 s98;refine aj 2 (by kernel_rfl) rfl fun K1 hK1=>?_;have s100:=s99.box4 (.slice none 0 0);go_simp;refine hK1 _ _ ?_;clear hK1 K1 s99;generalize W99.alloc (.cells #[.slice none 0 0] 84)=W100 at s100 ⊢;generalize W99.heap.size=g100 at s100 ⊢;refine aj 4 (by kernel_rfl) rfl fun K1 hK1=>?_;have hc:=(s100.2.2.2.1 _ _ rfl).2.cell;have hf:=(s100.2.2.2.1 _ _ rfl).2.frozen;have s101:=s100.put4 (.slice (some ⟨g98,0,none⟩) 286 286);go_simp;refine hK1 _ _ ?_;clear hK1 K1 hc hf s100;generalize W100.setCell ⟨g100,0,none⟩ (.slice (some ⟨g98,0,none⟩) 286 286)=W101 at s101 ⊢;refine aj 5 (by kernel_rfl) rfl fun K1 hK1=>?_;have hc:=(s101.2.2.2.2.1 _ _ rfl).2.cell;have hf:=(s101.2.2.2.2.1 _ _ rfl).2.frozen;have s102:=s101.put5 (.slice (some ⟨g99,0,none⟩) 30 30);go_simp;refine hK1 _ _ ?_;clear hK1 K1 hc hf s101;generalize W101.setCell ⟨g97,0,none⟩ (.slice (some ⟨g99,0,none⟩) 30 30)=W102 at s102 ⊢;refine wpAnyIn_done (by kernel_rfl) ?_ _;exact hK _ _ _ _ _ s102
    ·
     have s103:=s98.box4 (.slice none 0 0);go_simp;refine hK1 _ _ ?_;clear hK1 K1 s98;generalize W98.alloc (.cells #[.slice none 0 0] 84)=W103 at s103 ⊢;generalize W98.heap.size=g103 at s103 ⊢;refine wpAnyIn_ready (rs:=[1,4]) (by kernel_rfl) (by simp) ?_;refine AllReadyIn.cons rfl (fun K1 hK1=>?_) (AllReadyIn.cons rfl (fun K1 hK1=>?_) (AllReadyIn.nil))
     · refine av rfl _ _ 84 rfl w.heap.size 3 i0 (.int .i64 0) 1 a0h hi hz0 hz1 .i64 .i64 30 30 30 rfl rfl rfl rfl (by rw[hz2];omega) (by unfold maxLen;omega) s103.2.2.2.2.2.2.2 ?_;intro g104 W104 hg104 ho hgr;have s104:=s103.make11 hgr hg104 (ay ho);refine hK1 _ _ ?_;clear hK1 K1 ho hgr hg104 s103;refine aj 4 (by kernel_rfl) rfl fun K1 hK1=>?_;have hc:=(s104.2.2.2.1 _ _ rfl).2.cell;have hf:=(s104.2.2.2.1 _ _ rfl).2.frozen;have s105:=s104.put4 (.slice (some ⟨g98,0,none⟩) 286 286);go_simp;refine hK1 _ _ ?_;clear hK1 K1 hc hf s104;generalize W104.setCell ⟨g103,0,none⟩ (.slice (some ⟨g98,0,none⟩) 286 286)=W105 at s105 ⊢;refine aj 5 (by kernel_rfl) rfl fun K1 hK1=>?_;have hc:=(s105.2.2.2.2.1 _ _ rfl).2.cell;have hf:=(s105.2.2.2.2.1 _ _ rfl).2.frozen;have s106:=s105.put5 (.slice (some ⟨g104,0,none⟩) 30 30);go_simp;refine hK1 _ _ ?_;clear hK1 K1 hc hf s105;generalize W105.setCell ⟨g97,0,none⟩ (.slice (some ⟨g104,0,none⟩) 30 30)=W106 at s106 ⊢;refine wpAnyIn_done (by kernel_rfl) ?_ _;exact hK _ _ _ _ _ s106
     · have hc:=(s103.2.2.2.1 _ _ rfl).2.cell;have hf:=(s103.2.2.2.1 _ _ rfl).2.frozen;have s107:=s103.put4 (.slice (some ⟨g98,0,none⟩) 286 286);go_simp;refine hK1 _ _ ?_;clear hK1 K1 hc hf s103;generalize W103.setCell ⟨g103,0,none⟩ (.slice (some ⟨g98,0,none⟩) 286 286)=W107 at s107 ⊢;refine aj 1 (by kernel_rfl) rfl fun K1 hK1=>?_;refine av rfl _ _ 84 rfl w.heap.size 3 i0 (.int .i64 0) 1 a0h hi hz0 hz1 .i64 .i64 30 30 30 rfl rfl rfl rfl (by rw[hz2];omega) (by unfold maxLen;omega) s107.2.2.2.2.2.2.2 ?_;intro g108 W108 hg108 ho hgr;have s108:=s107.make11 hgr hg108 (ay ho);refine hK1 _ _ ?_;clear hK1 K1 ho hgr hg108 s107;refine aj 5 (by kernel_rfl) rfl fun K1 hK1=>?_;have hc:=(s108.2.2.2.2.1 _ _ rfl).2.cell;have hf:=(s108.2.2.2.2.1 _ _ rfl).2.frozen;have s109:=s108.put5 (.slice (some ⟨g108,0,none⟩) 30 30);go_simp;refine hK1 _ _ ?_;clear hK1 K1 hc hf s108;generalize W108.setCell ⟨g97,0,none⟩ (.slice (some ⟨g108,0,none⟩) 30 30)=W109 at s109 ⊢;refine wpAnyIn_done (by kernel_rfl) ?_ _;exact hK _ _ _ _ _ s109
   ·
    refine av rfl _ _ 84 rfl w.heap.size 3 i0 (.int .i64 0) 1 a0h hi hz0 hz1 .i64 .i64 30 30 30 rfl rfl rfl rfl (by rw[hz2];omega) (by unfold maxLen;omega) s97.2.2.2.2.2.2.2 ?_;intro g110 W110 hg110 ho hgr;have s110:=s97.make11 hgr hg110 (ay ho);refine hK1 _ _ ?_;clear hK1 K1 ho hgr hg110 s97;refine wpAnyIn_ready (rs:=[0,2]) (by kernel_rfl) (by simp) ?_;refine AllReadyIn.cons rfl (fun K1 hK1=>?_) (AllReadyIn.cons rfl (fun K1 hK1=>?_) (AllReadyIn.nil))
    · refine av rfl _ _ 84 rfl w.heap.size 3 i0 (.int .i64 0) 1 a0h hi hz0 hz1 .i64 .i64 286 286 286 rfl rfl rfl rfl (by rw[hz2];omega) (by unfold maxLen;omega) s110.2.2.2.2.2.2.2 ?_;intro g111 W111 hg111 ho hgr;have s111:=s110.make10 hgr hg111 (ay ho);refine hK1 _ _ ?_;clear hK1 K1 ho hgr hg111 s110;refine aj 2 (by kernel_rfl) rfl fun K1 hK1=>?_;have s112:=s111.box4 (.slice none 0 0);go_simp;refine hK1 _ _ ?_;clear hK1 K1 s111;generalize W111.alloc (.cells #[.slice none 0 0] 84)=W112 at s112 ⊢;generalize W111.heap.size=g112 at s112 ⊢;refine aj 4 (by kernel_rfl) rfl fun K1 hK1=>?_;have hc:=(s112.2.2.2.1 _ _ rfl).2.cell;have hf:=(s112.2.2.2.1 _ _ rfl).2.frozen;have s113:=s112.put4 (.slice (some ⟨g111,0,none⟩) 286 286);go_simp;refine hK1 _ _ ?_;clear hK1 K1 hc hf s112;generalize W112.setCell ⟨g112,0,none⟩ (.slice (some ⟨g111,0,none⟩) 286 286)=W113 at s113 ⊢;refine aj 5 (by kernel_rfl) rfl fun K1 hK1=>?_;have hc:=(s113.2.2.2.2.1 _ _ rfl).2.cell;have hf:=(s113.2.2.2.2.1 _ _ rfl).2.frozen;have s114:=s113.put5 (.slice (some ⟨g110,0,none⟩) 30 30);go_simp;refine hK1 _ _ ?_;clear hK1 K1 hc hf s113;generalize W113.setCell ⟨g97,0,none⟩ (.slice (some ⟨g110,0,none⟩) 30 30)=W114 at s114 ⊢;refine wpAnyIn_done (by kernel_rfl) ?_ _;exact hK _ _ _ _ _ s114
    · have s115:=s110.box4 (.slice none 0 0);go_simp;refine hK1 _ _ ?_;clear hK1 K1 s110;generalize W110.alloc (.cells #[.slice none 0 0] 84)=W115 at s115 ⊢;generalize W110.heap.size=g115 at s115 ⊢;refine aj 0 (by kernel_rfl) rfl fun K1 hK1=>?_;refine av rfl _ _ 84 rfl w.heap.size 3 i0 (.int .i64 0) 1 a0h hi hz0 hz1 .i64 .i64 286 286 286 rfl rfl rfl rfl (by rw[hz2];omega) (by unfold maxLen;omega) s115.2.2.2.2.2.2.2 ?_;intro g116 W116 hg116 ho hgr;have s116:=s115.make10 hgr hg116 (ay ho);refine hK1 _ _ ?_;clear hK1 K1 ho hgr hg116 s115;refine aj 4 (by kernel_rfl) rfl fun K1 hK1=>?_;have hc:=(s116.2.2.2.1 _ _ rfl).2.cell;have hf:=(s116.2.2.2.1 _ _ rfl).2.frozen;have s117:=s116.put4 (.slice (some ⟨g116,0,none⟩) 286 286);go_simp;refine hK1 _ _ ?_;clear hK1 K1 hc hf s116;generalize W116.setCell ⟨g115,0,none⟩ (.slice (some ⟨g116,0,none⟩) 286 286)=W117 at s117 ⊢;refine aj 5 (by kernel_rfl) rfl fun K1 hK1=>?_;have hc:=(s117.2.2.2.2.1 _ _ rfl).2.cell;have hf:=(s117.2.2.2.2.1 _ _ rfl).2.frozen;have s118:=s117.put5 (.slice (some ⟨g110,0,none⟩) 30 30);go_simp;refine hK1 _ _ ?_;clear hK1 K1 hc hf s117;generalize W117.setCell ⟨g97,0,none⟩ (.slice (some ⟨g110,0,none⟩) 30 30)=W118 at s118 ⊢;refine wpAnyIn_done (by kernel_rfl) ?_ _;exact hK _ _ _ _ _ s118
   ·
    have s119:=s97.box4 (.slice none 0 0);go_simp;refine hK1 _ _ ?_;clear hK1 K1 s97;generalize W97.alloc (.cells #[.slice none 0 0] 84)=W119 at s119 ⊢;generalize W97.heap.size=g119 at s119 ⊢;refine wpAnyIn_ready (rs:=[0,1]) (by kernel_rfl) (by simp) ?_;refine AllReadyIn.cons rfl (fun K1 hK1=>?_) (AllReadyIn.cons rfl (fun K1 hK1=>?_) (AllReadyIn.nil))
    ·
     refine av rfl _ _ 84 rfl w.heap.size 3 i0 (.int .i64 0) 1 a0h hi hz0 hz1 .i64 .i64 286 286 286 rfl rfl rfl rfl (by rw[hz2];omega) (by unfold maxLen;omega) s119.2.2.2.2.2.2.2 ?_;intro g120 W120 hg120 ho hgr;have s120:=s119.make10 hgr hg120 (ay ho);refine hK1 _ _ ?_;clear hK1 K1 ho hgr hg120 s119;refine wpAnyIn_ready (rs:=[1,4]) (by kernel_rfl) (by simp) ?_;refine AllReadyIn.cons rfl (fun K1 hK1=>?_) (AllReadyIn.cons rfl (fun K1 hK1=>?_) (AllReadyIn.nil))
     · refine av rfl _ _ 84 rfl w.heap.size 3 i0 (.int .i64 0) 1 a0h hi hz0 hz1 .i64 .i64 30 30 30 rfl rfl rfl rfl (by rw[hz2];omega) (by unfold maxLen;omega) s120.2.2.2.2.2.2.2 ?_;intro g121 W121 hg121 ho hgr;have s121:=s120.make11 hgr hg121 (ay ho);refine hK1 _ _ ?_;clear hK1 K1 ho hgr hg121 s120;refine aj 4 (by kernel_rfl) rfl fun K1 hK1=>?_;have hc:=(s121.2.2.2.1 _ _ rfl).2.cell;have hf:=(s121.2.2.2.1 _ _ rfl).2.frozen;have s122:=s121.put4 (.slice (some ⟨g120,0,none⟩) 286 286);go_simp;refine hK1 _ _ ?_;clear hK1 K1 hc hf s121;generalize W121.setCell ⟨g119,0,none⟩ (.slice (some ⟨g120,0,none⟩) 286 286)=W122 at s122 ⊢;refine aj 5 (by kernel_rfl) rfl fun K1 hK1=>?_;have hc:=(s122.2.2.2.2.1 _ _ rfl).2.cell;have hf:=(s122.2.2.2.2.1 _ _ rfl).2.frozen;have s123:=s122.put5 (.slice (some ⟨g121,0,none⟩) 30 30);go_simp;refine hK1 _ _ ?_;clear hK1 K1 hc hf s122;generalize W122.setCell ⟨g97,0,none⟩ (.slice (some ⟨g121,0,none⟩) 30 30)=W123 at s123 ⊢;refine wpAnyIn_done (by kernel_rfl) ?_ _;exact hK _ _ _ _ _ s123
     · have hc:=(s120.2.2.2.1 _ _ rfl).2.cell;have hf:=(s120.2.2.2.1 _ _ rfl).2.frozen;have s124:=s120.put4 (.slice (some ⟨g120,0,none⟩) 286 286);go_simp;refine hK1 _ _ ?_;clear hK1 K1 hc hf s120;generalize W120.setCell ⟨g119,0,none⟩ (.slice (some ⟨g120,0,none⟩) 286 286)=W124 at s124 ⊢;refine aj 1 (by kernel_rfl) rfl fun K1 hK1=>?_;refine av rfl _ _ 84 rfl w.heap.size 3 i0 (.int .i64 0) 1 a0h hi hz0 hz1 .i64 .i64 30 30 30 rfl rfl rfl rfl (by rw[hz2];omega) (by unfold maxLen;omega) s124.2.2.2.2.2.2.2 ?_;intro g125 W125 hg125 ho hgr;have s125:=s124.make11 hgr hg125 (ay ho);refine hK1 _ _ ?_;clear hK1 K1 ho hgr hg125 s124;refine aj 5 (by kernel_rfl) rfl fun K1 hK1=>?_;have hc:=(s125.2.2.2.2.1 _ _ rfl).2.cell;have hf:=(s125.2.2.2.2.1 _ _ rfl).2.frozen;have s126:=s125.put5 (.slice (some ⟨g125,0,none⟩) 30 30);go_simp;refine hK1 _ _ ?_;clear hK1 K1 hc hf s125;generalize W125.setCell ⟨g97,0,none⟩ (.slice (some ⟨g125,0,none⟩) 30 30)=W126 at s126 ⊢;refine wpAnyIn_done (by kernel_rfl) ?_ _;exact hK _ _ _ _ _ s126
    · refine av rfl _ _ 84 rfl w.heap.size 3 i0 (.int .i64 0) 1 a0h hi hz0 hz1 .i64 .i64 30 30 30 rfl rfl rfl rfl (by rw[hz2];omega) (by unfold maxLen;omega) s119.2.2.2.2.2.2.2 ?_;intro g127 W127 hg127 ho hgr;have s127:=s119.make11 hgr hg127 (ay ho);refine hK1 _ _ ?_;clear hK1 K1 ho hgr hg127 s119;refine aj 0 (by kernel_rfl) rfl fun K1 hK1=>?_;refine av rfl _ _ 84 rfl w.heap.size 3 i0 (.int .i64 0) 1 a0h hi hz0 hz1 .i64 .i64 286 286 286 rfl rfl rfl rfl (by rw[hz2];omega) (by unfold maxLen;omega) s127.2.2.2.2.2.2.2 ?_;intro g128 W128 hg128 ho hgr;have s128:=s127.make10 hgr hg128 (ay ho);refine hK1 _ _ ?_;clear hK1 K1 ho hgr hg128 s127;refine aj 4 (by kernel_rfl) rfl fun K1 hK1=>?_;have hc:=(s128.2.2.2.1 _ _ rfl).2.cell;have hf:=(s128.2.2.2.1 _ _ rfl).2.frozen;have s129:=s128.put4 (.slice (some ⟨g128,0,none⟩) 286 286);go_simp;refine hK1 _ _ ?_;clear hK1 K1 hc hf s128;generalize W128.setCell ⟨g119,0,none⟩ (.slice (some ⟨g128,0,none⟩) 286 286)=W129 at s129 ⊢;refine aj 5 (by kernel_rfl) rfl fun K1 hK1=>?_;have hc:=(s129.2.2.2.2.1 _ _ rfl).2.cell;have hf:=(s129.2.2.2.2.1 _ _ rfl).2.frozen;have s130:=s129.put5 (.slice (some ⟨g127,0,none⟩) 30 30);go_simp;refine hK1 _ _ ?_;clear hK1 K1 hc hf s129;generalize W129.setCell ⟨g97,0,none⟩ (.slice (some ⟨g127,0,none⟩) 30 30)=W130 at s130 ⊢;refine wpAnyIn_done (by kernel_rfl) ?_ _;exact hK _ _ _ _ _ s130
 intro gl gd bl bd W hSt;refine hKr _ _ ?_;clear hKr;have hl0:=hSt.2.1 gl rfl;have hd0:=hSt.2.2.1 gd rfl;obtain⟨hb4,x40⟩:=hSt.2.2.2.1 bl _ rfl;obtain⟨hb5,x50⟩:=hSt.2.2.2.2.1 bd _ rfl;have hgg:gl≠gd:=hSt.2.2.2.2.2.1 gl gd rfl rfl;have hbb:bl≠bd:=hSt.2.2.2.2.2.2.1 bl _ bd _ rfl rfl;have hBw:=hSt.1;have hnw:=hSt.2.2.2.2.2.2.2;clear hSt
 gi_wp2_with (refine⟨trivial,?_⟩;gi_at_call 136;refine(callsIn_wide.2 (oj s _)).mono ?_;rintro e w' ⟨rfl,rfl⟩)
 have bN:=Boxed.new W 9 (.string s);have hA:Below W.heap.size W (W.alloc (.cells #[.string s] 9)):=(a0c _ W).alloc (a0a _) _;have lb4:bl<W.heap.size:=x40.lt;have lb5:bd<W.heap.size:=x50.lt;refine wpIn_rangeFunc_ownG rfl (by omega) (gf:=173) (lb:=#[.pointer (some ⟨W.heap.size,0,none⟩)]) rfl trivial (enters_of Tryz.func173 (by kernel_rfl) rfl)
  (qe 5 (by omega) W.heap.size s (by omega) _ bN) AZ (fun W l o o' _ h1 h2 _=>AY W l o o' h1 h2) (a0c _ _) (fun _=>rfl)
  (fun(pre:List (TkS s)) X=>((((ak X w.heap.size (.slice (some ⟨gl,0,none⟩) 286 286) (jo pre)/\ak X w.heap.size (.slice (some ⟨gd,0,none⟩) 30 30) (cR pre))/\Boxed X bl 84 (.slice (some ⟨gl,0,none⟩) 286 286))/\Boxed X bd 84 (.slice (some ⟨gd,0,none⟩) 30 30))/\Below w.heap.size w X)/\Boxed X W.heap.size 9 (.string s))
  (fun _ _ _=>False)
  (OwnFrom.and (OwnFrom.and (OwnFrom.and (OwnFrom.and (OwnFrom.and (Own.from (wO _ _ jo) _) (Own.from (wO _ _ cR) _)) (Own.from (boxed_own _ _ _) _)) (Own.from (boxed_own _ _ _) _)) (ownFrom_below (a0a _) (by simp;omega))) (Own.from (boxed_own _ _ _) _))
  (fun _ _ _ _ _ hs _ _=>hs)
  ⟨⟨⟨⟨⟨hl0.later hA (a0a _),hd0.later hA (a0a _)⟩,Boxed.later x40 hA⟩,Boxed.later x50 hA⟩,hBw.trans (hA.mono hnw)⟩,bN⟩
  (fun x=>{ tmps:=#[.string s,undef,.slice none 0 0,.slice none 0 0,.pointer (some ⟨bl,0,none⟩),.pointer (some ⟨bd,0,none⟩),fm x.1,undef,undef,undef,.slice (some ⟨gl,0,none⟩) 286 286,.slice (some ⟨gd,0,none⟩) 30 30,.string s,.func (.func 173) #[] #[.pointer (some ⟨W.heap.size,0,none⟩)],fm x.1,undef,undef,undef,undef,undef,undef,undef,undef,undef,undef,undef,undef,undef,undef,undef,undef,undef,undef,undef,undef,undef,undef,undef,undef,undef,undef,undef,undef,undef,undef,undef,undef,undef,undef,undef,undef,undef,undef,undef,undef,undef,undef,undef,undef],defers:=[] }) ?assign ?body ?done ?stop
 case assign=>
  intro l x W K hK
  gi_wp2
  exact hK
 case body=>
  rintro l pre x X ⟨⟨⟨⟨⟨hl,hd⟩,x4⟩,x5⟩,hB⟩,hN⟩ hlt;have hc4:=x4.cell;have hc5:=x5.cell;have hll:=lD pre;have hdl:=jH pre;have m1:=jZ;have m2:=lV;have m3:=jY;cases hb:isB x.1
  ·
   have hk:isK x.1=true:=by have:=x.2.1;unfold okT at this;rw[hb]at this;simpa using this
   obtain⟨q1,q2,q3,q4⟩:=rt hk;have f1:x.1.2.1=((x.1.2.1.toNat:Nat):Int):=by omega
   have f2:x.1.2.2=((x.1.2.2.toNat:Nat):Int):=by omega
   have e2:fm x.1 = .iface 189 (.agg #[.int .i64 ((x.1.2.1.toNat:Nat):Int),.int .i64 ((x.1.2.2.toNat:Nat):Int)]):=by rw[←f1,←f2];exact ny hk
   have hx1:=zN pre x hb;have hx2:=wj pre x hb;have b1:=vm pre (257+fnd 3 4 x.1.2.1.toNat 27);have b2:=qV pre (fnd 1 2 x.1.2.2.toNat 29);have HSp:=af (fun W=>yh x.1.2.1.toNat x.1.2.2.toNat W (by omega) (by omega) (by omega) (by omega));have k1:=ez 3 4 x.1.2.1.toNat 27;have k2:=ez 1 2 x.1.2.2.toNat 29;rw[e2];generalize x.1.2.1.toNat=y at *
   generalize x.1.2.2.toNat=z at *
   generalize fnd 3 4 y 27=p at *
   generalize fnd 1 2 z 29=q at *
   have hc1:=hl.at hll (show 257+p<286 by omega);generalize hya:(jo pre).getD (257+p) 0=ya at *
   generalize hza:(cR pre).getD q 0=za at *
   have hpI:(257:Int)+(p:Int)<286:=by omega
   have hqI:(q:Int)<30:=by omega
   have hyI:ya<=300:=by omega
   have hzI:za<=300:=by omega
   have hy0:0<=ya:=by omega
   have hz0':0<=za:=by omega
   have hne4:=cK x4 hl;have hne5:=cK x5 hl;have hne6:=cK x4 hd;have hne7:=cK x5 hd;have HX:Hid (∀Z,Below X.heap.size X Z->ak Z w.heap.size (.slice (some ⟨gl,0,none⟩) 286 286) (jo pre)/\ak Z w.heap.size (.slice (some ⟨gd,0,none⟩) 30 30) (cR pre)/\Boxed Z bl 84 (.slice (some ⟨gl,0,none⟩) 286 286)/\Boxed Z bd 84 (.slice (some ⟨gd,0,none⟩) 30 30)/\Boxed Z W.heap.size 9 (.string s)):=fun Z h=>⟨hl.later h (a0a _),hd.later h (a0a _),Boxed.later x4 h,Boxed.later x5 h,Boxed.later hN h⟩;have hgl:=hl.below.2;have hgd:=hd.below.2;have HPQ:=af (a0b (show 257+p<286 by omega) (show q<30 by omega));have H1:=af hx1;have H2:=af hx2;have HYa:=af hya;have HZa:=af hza;have HB:=af hB;have Hne:=af (a0b hne4 (a0b hne5 (a0b hne6 hne7)));have hBX:=hB.size;have hNW:=hN.lt;clear hx1 hx2 hya hza b1 b2 k1 k2 q1 q2 q3 q4 f1 f2 e2 hc1 hl hd x4 x5 hN hlt hB
   gi_wp2_with (refine⟨trivial,?_⟩;gi_at_call 139;refine(CallsIn.inRound l (callsIn_wide.2 (ae HSp _))).mono ?_;rintro e X1 ⟨rfl,hX1⟩;have hX1b:Below X.heap.size X X1:=am ((a0c _ X).alloc (a0a _) _) hX1;have hs1:=hX1b.size;have hZ:Hid (∀v,Below X.heap.size X (X1.alloc (.cells v 191))):=fun v=>hX1b.alloc hs1 _;have z1:=fun v=>(ae HX _ (ae hZ v)).2.2.1.cell;have z2:=fun v=>(ae HX _ (ae hZ v)).2.2.2.1.cell;have z3:=fun v=>((ae HX _ (ae hZ v)).1.at (lD pre) (ae HPQ).1).1;have z4:=fun v=>((ae HX _ (ae hZ v)).1.at (lD pre) (ae HPQ).1).2.1;have z5:=fun v=>((ae HX _ (ae hZ v)).2.1.at (jH pre) (ae HPQ).2).1;have z6:=fun v=>((ae HX _ (ae hZ v)).2.1.at (jH pre) (ae HPQ).2).2.1;rw[ae HYa]at z3;rw[ae HZa]at z5;have n1:¬ X1.heap.size=gl:=(by omega);have n2:¬ gl=X1.heap.size:=(by omega);have n3:¬ gd=gl:=(fun e=>hgg e.symm);have HX1:=af hX1b;clear hX1 hX1b)
   refine(fun Z (hZZ:Below X.heap.size X Z)=>?_:∀Z,Below X.heap.size X Z->ownPostG _ _ _ _ _ _ _ _ ((Z.setCell ⟨gl,257+p,none⟩ (.int .i64 (ya+1))).setCell ⟨gd,q,none⟩ (.int .i64 (za+1)))) _ (ae hZ _);obtain⟨hl,hd,x4,x5,hN⟩:=ae HX Z hZZ;obtain⟨e4,e5,e6,e7⟩:=ae Hne;have e8:=kC hN hl;have e9:=kC hN hd;have hl2:ak ((Z.setCell ⟨gl,257+p,none⟩ (.int .i64 (ya+1))).setCell ⟨gd,q,none⟩ (.int .i64 (za+1))) w.heap.size (.slice (some ⟨gl,0,none⟩) 286 286) (jo (pre++[x])):=by
    have:=hl.put (j:=257+p) (lD pre) (ya+1);rw[ae H1];unfold inc;rw[ae HYa];exact this.setOther hgg.symm _
   have hd2:ak ((Z.setCell ⟨gl,257+p,none⟩ (.int .i64 (ya+1))).setCell ⟨gd,q,none⟩ (.int .i64 (za+1))) w.heap.size (.slice (some ⟨gd,0,none⟩) 30 30) (cR (pre++[x])):=by
    have:=(hd.setOther (g':=gl) (o:=257+p) hgg (.int .i64 (ya+1))).put (j:=q) (jH pre) (za+1);rw[ae H2];unfold inc;rw[ae HZa];exact this
   exact⟨(((KeepsOthers.of_grownBy (eB hZZ) (fun _ _ e=>by cases e)).trans (KeepsOthers.setCell _ _ _)).trans (KeepsOthers.setCell _ _ _)).from _,fun _=>dc (dc hN e8 _) e9 _,⟨⟨⟨⟨⟨hl2,hd2⟩,dc (dc x4 e4 _) e6 _⟩,dc (dc x5 e5 _) e7 _⟩,ag (ag ((ae HB).trans (hZZ.mono hBX)) hl.below.1 _) hd.below.1 _⟩,dc (dc hN e8 _) e9 _⟩⟩
  ·
   obtain⟨q1,q2⟩:=pd hb;have f1:x.1.1=((x.1.1.toNat:Nat):Int):=by omega
   have e2:fm x.1 = .iface 187 (.int .u8 ((x.1.1.toNat:Nat):Int)):=by rw[←f1];exact kG hb
   have hx1:=zM pre x hb;have hx2:=wi pre x hb;have b1:=vm pre x.1.1.toNat
   rw[e2];generalize x.1.1.toNat=k at *
   have hc1:=hl.at hll (show k<286 by omega);generalize hya:(jo pre).getD k 0=ya at *
   have hkI:(k:Int)<286:=by omega
   have hyI:ya<=300:=by omega
   have hy0:0<=ya:=by omega
   have hPl:Hid (ak (X.setCell ⟨gl,k,none⟩ (.int .i64 (ya+1))) w.heap.size (.slice (some ⟨gl,0,none⟩) 286 286) (jo (pre++[x]))):=by
    have:=hl.put (j:=k) hll (ya+1);rw[hx1];unfold inc;rw[hya];exact this
   have hPd:Hid (ak (X.setCell ⟨gl,k,none⟩ (.int .i64 (ya+1))) w.heap.size (.slice (some ⟨gd,0,none⟩) 30 30) (cR (pre++[x]))):=by
    rw[hx2];exact hd.setOther hgg _
   have hne4:=cK x4 hl;have hne5:=cK x5 hl;obtain⟨c1,c2,c3,c4⟩:=hc1;clear hx1 hx2 hya b1 hlt q1 q2 f1 e2
   gi_wp2
   exact⟨(KeepsOthers.setCell _ _ _).from _,fun _=>dc hN (kC hN hl) _,⟨⟨⟨⟨⟨ae hPl,ae hPd⟩,dc x4 hne4 _⟩,dc x5 hne5 _⟩,ag hB c3 _⟩,dc hN (kC hN hl) _⟩⟩
 case done=>
  rintro D ys X hD hys ⟨⟨⟨⟨⟨hl,hd⟩,x4⟩,x5⟩,hB⟩,hN⟩ hK;have hc4:=x4.cell;have hc5:=x5.cell;have hll:=lD ys;have hdl:=jH ys;have hfew:=yA s hs hys;have b1:=vm ys 256;have b2:=qV ys 0;have hL:jo ys=fF (List.replicate 286 0) ((bm s.data.toList 0).map gV):=by unfold jo;rw[hys]
  have hDd:cR ys=eW (bm s.data.toList 0):=by unfold cR eW;rw[hys]
  have hLC:inc (jo ys) 256=fu (bm s.data.toList 0):=by unfold fu;rw[hL]
  have hc1:=hl.at hll (show 256<286 by omega);have hne4:=cK x4 hl;have hne5:=cK x5 hl;have hne6:=cK x5 hd;have hne7:=cK x4 hd;have hD1:D≠gl:=fun e=>by subst e;exact uc hK hl rfl
  have hD2:D≠gd:=fun e=>by subst e;exact uc hK hd rfl
  have hDw:w.heap.size<=D:=by simp at hD;omega
  have hzb:(cR ys).getD 0 0<=300:=by omega
  have hposD:∀i,i<(cR ys).length->0<=(cR ys).getD i 0:=fun i _=>(qV ys i).1;generalize hya:(jo ys).getD 256 0=ya at *
  have hyI:ya<=300:=by omega
  have hy0:0<=ya:=by omega
  have hPl:ak (X.setCell ⟨gl,256,none⟩ (.int .i64 (ya+1))) w.heap.size (.slice (some ⟨gl,0,none⟩) 286 286) (fu (bm s.data.toList 0)):=by
   have:=hl.put (j:=256) hll (ya+1);rw[←hLC];unfold inc;rw[hya];exact this
  have hPd:ak (X.setCell ⟨gl,256,none⟩ (.int .i64 (ya+1))) w.heap.size (.slice (some ⟨gd,0,none⟩) 30 30) (cR ys):=hd.setOther hgg _;have hx5:=dc (o:=256) x5 hne5 (.int .i64 (ya+1));have hcx:=hx5.cell;have hKx:(X.setCell ⟨gl,256,none⟩ (.int .i64 (ya+1))).heap[D]?=some (.deferred (some [])):=(a0O _ _ _ D hD1).trans hK;have hBx:Below w.heap.size w (X.setCell ⟨gl,256,none⟩ (.int .i64 (ya+1))):=ag hB hl.below.1 _;obtain⟨c1,c2,c3,c4⟩:=hc1;have HM:=af (rT (some ⟨gd,0,none⟩) 30 30 (cR ys) (X.setCell ⟨gl,256,none⟩ (.int .i64 (ya+1))) hdl (hPd.rowN hdl) (by omega) (by omega) hposD);have HUs:=af (Iw (cR ys));rw[hdl]at HUs;have HPl:=af hPl;have HPd:=af hPd;have HKx:=af hKx;have HBx:=af hBx;have hdz:=hPd.at hdl (show 0<30 by omega);obtain⟨d1,d2,d3,d4⟩:=hdz;have Hdb:=af hDd;have Hdl:=af hdl;clear hl hd x4 x5 hN hB hK hys hL hLC b1 hPl hPd hKx hBx hx5 hDd hdl hposD hfew hll c3 c4;by_cases hu:us (cR ys)=0
  ·
   have hm0:Hid (bP (cR ys) 30=0):=(ae HUs).2 hu;rw[ae hm0]at HM;generalize hza:(cR ys).getD 0 0=za at *
   have hz0':0<=za:=b2.1
   gi_wp2_with (refine⟨trivial,?_⟩;gi_at_call 140;refine(callsIn_wide.2 (ae HM)).mono ?_;rintro e x1 ⟨rfl,hx1⟩;rw[hx1];clear hx1)
   gi_region
   gi_wp2
   refine⟨by simp,.inl ⟨_,_,rfl,run_takeDeferred ((a0O _ _ _ D hD2).trans (ae HKx)),?_⟩⟩;have hKy:((X.setCell ⟨gl,256,none⟩ (.int .i64 (ya+1))).setCell ⟨gd,0,none⟩ (.int .i64 (za+1))).heap[D]?=some (.deferred (some [])):=(a0O _ _ _ D hD2).trans (ae HKx);refine⟨_,results_tmp2 rfl _ _ _,⟨gl,gd,rfl,?_,?_⟩,?_⟩
   · exact ownsRow_putObj (show ak _ _ _ _ from(ae HPl).setOther hgg.symm _) (.deferred none) hKy rfl
   ·
    have e1:ct (bm s.data.toList 0)=inc (cR ys) 0:=by
     unfold ct;rw[←ae Hdb,a0d hu]
    rw[e1];refine ownsRow_putObj (show ak _ _ _ _ from ?_) (.deferred none) hKy rfl;unfold inc;rw[hza];exact(ae HPd).put (j:=0) (ae Hdl) (za+1)
   · exact(ag (ae HBx) d3 _).drew.trans (belowK_b (w:=w) (a0a _) (World.drew _) D _ _ hDw hKy rfl rfl)
  ·
   have hm0:Hid (¬ bP (cR ys) 30=0):=fun h=>hu ((ae HUs).1 h);have hmb:(bP (cR ys) 30 == 0)=false:=by have:=ae hm0;simpa using this
   generalize bP (cR ys) 30=M at *
   gi_wp2_with (refine⟨trivial,?_⟩;gi_at_call 140;refine(callsIn_wide.2 (ae HM)).mono ?_;rintro e x1 ⟨rfl,hx1⟩;rw[hx1];clear hx1)
   gi_region
   gi_wp2
   refine⟨by simp,.inl ⟨_,_,rfl,run_takeDeferred (ae HKx),?_⟩⟩;refine⟨_,results_tmp2 rfl _ _ _,⟨gl,gd,rfl,?_,?_⟩,?_⟩
   · exact ownsRow_putObj (ae HPl) (.deferred none) (ae HKx) rfl
   ·
    have e1:ct (bm s.data.toList 0)=cR ys:=by
     unfold ct;rw[←ae Hdb,a0e hu]
    rw[e1];exact ownsRow_putObj (ae HPd) (.deferred none) (ae HKx) rfl
   · exact(ae HBx).drew.trans (belowK_b (w:=w) (a0a _) (World.drew _) D _ _ hDw (ae HKx) rfl rfl)
 case stop=>
  rintro D c pre W _ _ h _;exact h.elim
end Go.Proofs.YtbacpebljannfaaGreatDoor
namespace Go.Proofs.YtbacpebljannfaaGreatDoor
open Go.RowKit Corb
theorem Jm{l:List Int}(h:okC l):inC l=true:=by
 unfold inC;rw[a1j];intro x hx;obtain⟨i,hi,rfl⟩:=List.mem_iff_getElem.1 hx;have:=h i hi;rw[show l.getD i 0=l[i] by simp[List.getD,hi]]at this;exact aG.2 this
theorem rL{l:List Int}{m:Nat}(hc:okC l)(hl:l.length<=300)(h1:1<=us l)(hU:us l<=p2 m)(hm:m<=14):iX l ((m:Int)+1)=df ((m:Int)+1) l:=by
 unfold iX;rw[a0d];unfold tR;simp only[a0n,a0z];refine⟨⟨⟨hl,aG.2 (by omega)⟩,Jm hc⟩,aG.2 ?_⟩;rw[show((m:Int)+1).toNat=m+1 by omega,vw];omega
theorem Ir(T:List Tk)(hT:T.length<=300):iX (fu T) 15=df 15 (fu T):=by
 have h1:=vj T;have h2:=xT;exact rL (m:=14) (vi T hT) (by rw[eC];omega) h1.1 (by omega) (by omega)
theorem Ev(T:List Tk)(hT:T.length<=300):iX (ct T) 15=df 15 (ct T):=by
 have h1:=qU T;have h2:=xT;exact rL (m:=14) (qT T hT) (by rw[eR];omega) h1.1 (by omega) (by omega)
theorem DG(A:List Int)(h0:0<A.length)(h4:A.length<=400)(hA:∀x∈A,0<=x/\x<=15):iX (mT A) 7=aO A:=by
 have h1:=uF A h0 hA;have h2:=JD;exact rL (m:=6) (uE A h4) (by rw[fq];omega) h1.1 (by omega) (by omega)
theorem ak.cut{w:World}{base n m cap:Nat}{a:Option Addr}{l:List Int}(hn:l.length=n)(h:ak w base (.slice a n cap) l)(hm:m<=n)(h0:0<n):ak w base (.slice a m cap) (l.take m):=by
 subst hn;rcases h.2 with⟨_,e⟩|⟨g,cap',cur,e,hb,hg,h1,h2,h3,h4⟩
 · omega
 ·
  simp only[a0N]at e;obtain⟨rfl,_,rfl⟩:=e;refine⟨by simp,.inr ⟨g,cap,cur,by rw[a0L];congr 1;omega,hb,hg,by rw[a0L];omega,h2,h3,?_⟩⟩;rw[a0L,List.map_take,←h4,List.take_take]
  congr 1
  omega
theorem oq{w:World}{base base' size n:Nat}{e:TypeId}{v:Value}{xs:List Value}(h:w.ownsRow base e size v n xs)(hb:base'<=base):w.ownsRow base' e size v n xs:=
 ⟨h.1,h.2.imp id fun⟨g,c,u,e,hbg,r⟩=>⟨g,c,u,e,a0I hb hbg,r⟩⟩
theorem ak.cap{w:World}{base n cap g:Nat}{l:List Int}(h:ak w base (.slice (some ⟨g,0,none⟩) n cap) l):n<=cap/\cap<=maxLen:=by
 rcases h.2 with⟨e,_⟩|⟨g',cap',cur,e,hb,hg,h1,h2,h3,h4⟩
 · cases e
 · simp only[a0N]at e;obtain⟨_,rfl,rfl⟩:=e;exact⟨h1,h2⟩
def cU(L D:List Int):List (Int×Int):=[((L.length:Int)-257,5),((D.length:Int)-1,5),(15,4)]
def eE(l:List Int)(k:Nat):List (Int×Int):=(bH.take k).map fun i=>(l.getD i 0,(3:Int))
theorem tV(l:List Int)(k:Nat)(h:k<19):eE l (k+1)=eE l k++[(l.getD (bH.getD k 0) 0,3)]:=by
 unfold eE;have hk:k<bH.length:=h;rw[a1d hk,a0K];simp[List.getD,hk]
theorem sd(l:List Int)(k:Nat)(h:k<=19):(eE l k).length=k:=by unfold eE;have:bH.length=19:=rfl;simp;omega
theorem Ax(L D:List Int)(h:aw (aO (L++D))=true)(h19:(aO (L++D)).length=19)(hA:∀x∈L++D,0<=x/\x<=15):cU L D++eE (aO (L++D)) 19++iq (aO (L++D)) (L++D)=da L D:=by
 unfold da cU eE iq;rw[a0S]
 congr 2
 apply List.map_congr_left;intro x hx;have:=hA x hx;exact mr h (by rw[h19];omega)
theorem BO{w:World}{b base:Nat}{l:List Int}{C:Array Value}(h:qM w b base l C):∃a cap,w.cell? ⟨b,0,none⟩=some (.slice a l.length cap)/\be w a l:=by
 obtain⟨⟨a,cap,ac,cc,q,sc,e,h1,h2,h3⟩,hr,_⟩:=h;refine⟨a,cap,?_,h1.1⟩;have:=hr 0 (.slice a l.length cap) (by rw[e];rfl);simpa using this
def oK:Array Value:=#[Value.slice none 0 0,Value.slice none 0 0,Value.int .i64 0,Value.int .i64 0,Value.int .i64 0,Value.int .i64 0,Value.int .i64 0,Value.int .i64 0,Value.int .i64 0,Value.int .i64 0,Value.int .i64 0,Value.int .i64 0,Value.int .i64 0,Value.int .i64 0,Value.int .i64 0,Value.int .i64 0,Value.int .i64 0,Value.int .i64 0,Value.slice none 0 0]
theorem y9(gL gD nL cL nD cD base:Nat)(L D:List Int)(w:World)(hnL:L.length=nL)(hnD:D.length=nD)(hL:ak w base (.slice (some ⟨gL,0,none⟩) nL cL) L)(hD:ak w base (.slice (some ⟨gD,0,none⟩) nD cD) D)(hl:nL+nD<=1000) :
  Calls Tryz.prog 135 #[.slice (some ⟨w.heap.size,0,none⟩) 2 2] (w.alloc (.cells #[.slice (some ⟨gL,0,none⟩) nL cL,.slice (some ⟨gD,0,none⟩) nD cD] 84)) fun e w'=>∃v,e = .returned v/\ak w' w.heap.size v (L++D)/\Below w.heap.size w w':=by
 have hb5:Below w.heap.size w (w.alloc (.cells #[.slice (some ⟨gL,0,none⟩) nL cL,.slice (some ⟨gD,0,none⟩) nD cD] 84)):=(a0c _ _).alloc (a0a _) _;have hR:iv (w.alloc (.cells #[.slice (some ⟨gL,0,none⟩) nL cL,.slice (some ⟨gD,0,none⟩) nD cD] 84)) w.heap.size base [(.slice (some ⟨gL,0,none⟩) nL cL,L.map (Value.int .i64)),(.slice (some ⟨gD,0,none⟩) nD cD,D.map (Value.int .i64))]:=by
  intro i hi
  match i,hi with
  | 0,_=>exact⟨by simp,_,hL.later hb5 (a0a _),a1b .i64 _⟩
  | 1,_=>exact⟨by simp,_,hD.later hb5 (a0a _),a1b .i64 _⟩
 have hlen:aP [(Value.slice (some ⟨gL,0,none⟩) nL cL,L.map (Value.int .i64)),(.slice (some ⟨gD,0,none⟩) nD cD,D.map (Value.int .i64))]=(L++D).length:=by simp[aP,cG]
 refine(oM w.heap.size base 2 2 _ _ rfl (by omega) (by omega) hR (by rw[hlen,a0m];omega)).mono ?_;rintro e x5 ⟨v,rfl,ho5,hb⟩;refine⟨v,rfl,?_,am hb5 hb⟩;have hall:dn [(Value.slice (some ⟨gL,0,none⟩) nL cL,L.map (Value.int .i64)),(.slice (some ⟨gD,0,none⟩) nD cD,D.map (Value.int .i64))]=(L++D).map (Value.int .i64):=by
  simp only[dn,a03,a2h,a0K,a1e]
 rw[hlen,hall]at ho5;exact ak.mono (base:=(w.alloc (.cells #[.slice (some ⟨gL,0,none⟩) nL cL,.slice (some ⟨gD,0,none⟩) nD cD] 84)).heap.size) ho5 (by simp)
set_option maxRecDepth 100000 in
theorem vg(gL gD nL cL nD cD base:Nat)(L D:List Int)(w:World)(hnL:L.length=nL)(hnD:D.length=nD)(hL:ak w base (.slice (some ⟨gL,0,none⟩) nL cL) L)(hD:ak w base (.slice (some ⟨gD,0,none⟩) nD cD) D)
  (l0:257<=nL) (l1:nL<=286) (d0:1<=nD) (d1:nD<=30) (kL:aw L=true) (kD:aw D=true) (hO:ef w) :
  Calls Tryz.prog 110 #[.slice (some ⟨gL,0,none⟩) nL cL,.slice (some ⟨gD,0,none⟩) nD cD] w fun e w'=>∃v,e = .returned v/\Pcs w' w.heap.size v (da L D)/\Below w.heap.size w w':=by
 obtain⟨i0,hi,hz0,hz1,hz2⟩:=a0w Tryz.infoInt;obtain⟨j0,hj,hy0,hy1,hy2⟩:=a0w Tryz.infoPiece;have HA:Hid (∀x∈L++D,0<=x/\x<=15):=by
  intro x hx;rcases a0X.1 hx with h|h
  · exact iY kL x h
  · exact iY kD x h
 obtain⟨nA,hnA⟩:∃nA,(L++D).length=nA:=⟨_,rfl⟩;have hnA':nA=nL+nD:=by rw[←hnA,a0m,hnL,hnD]
 have HF:=af (rJ (L++D) (by omega) (by omega) (ae HA));have HS:=af (DG (L++D) (by omega) (by omega) (ae HA));have HT:=af (Ax L D (ae HF).2.1 (ae HF).1 (ae HA));have HCat:=af (y9 gL gD nL cL nD cD base L D w hnL hnD hL hD (by omega));have HB:Hid (cU L D=[((nL:Int)-257,5),((nD:Int)-1,5),(15,4)]):=by show cU L D=_;unfold cU;rw[hnL,hnD]
 have nLI:(nL:Int)<=286:=by omega
 have nDI:(nD:Int)<=30:=by omega
 have nLI0:(257:Int)<=(nL:Int):=by omega
 have nDI0:(1:Int)<=(nD:Int):=by omega
 have nAI:(nA:Int)<=316:=by omega
 have HNA:Hid (1<=nA/\nA<=316):=by show _/\_;omega
 have HO:=af hO;clear hL hD kL kD l0 l1 d0 d1 hnL hnD hnA' hO;generalize hAe:L++D=A at *
 have HAn:=af hnA;clear hnA hAe;go_enter Tryz.func110,Tryz.ntmps110;go_wp2_with fail;refine(ae HCat).mono ?_;rintro e x1 ⟨v1,rfl,o1,b1⟩;obtain⟨a1,c1,rfl⟩:=o1.formN (ae HAn);obtain⟨g1,rfl⟩:=o1.somes (by have:=ae HAn;have:=ae HNA;omega);have O1:=af o1;have B1:=af b1;clear o1 b1 HCat
 go_wp2_with (at_make;refine a1q _ rfl _ _ 84 rfl w.heap.size 3 i0 (.int .i64 0) 1 a0h hi hz0 hz1 .i64 .i64 _ _ 19 rfl rfl rfl rfl (by rw[hz2];omega) (by unfold maxLen;omega) (ae B1).size ?_;intro x2 hown hgrow);have hg1:=(ae O1).below.2;obtain⟨gC,hgC⟩:∃gC,x1.heap.size=gC:=⟨_,rfl⟩;have b2:=fJ hgrow;have o2:=ay hown;rw[hgC]at hown o2 hg1;have hb2:=am (ae B1) b2;have o1:=(ae O1).later b2 (a0a _);have hne:gC≠g1:=by omega
 rw[hgC];have HgC:=af hgC;clear hown hgrow b2 O1 B1 hgC hg1
 go_loopw [8,20] (fun _ i wr=>∃k:Nat,k<=nA/\i = .int .i64 k/\ak wr w.heap.size (.slice (some ⟨g1,0,none⟩) nA c1) A/\ak wr w.heap.size (.slice (some ⟨gC,0,none⟩) 19 19) (fF (List.replicate 19 0) ((A.take k).map Int.toNat))/\Below w.heap.size w wr) (fun _ i _=>nA-(intOf i).toNat)
 case atStart=>exact⟨0,a0l _,rfl,o1,o2,hb2⟩
 case round=>
  obtain⟨k,hk,rfl,hA1,hC1,hbel⟩:=hrel;clear o1 o2 hb2;by_cases hlt:k<nA
  ·
   obtain⟨c0,_,_,_⟩:=hA1.at (ae HAn) hlt;have hin:A.getD k 0∈A:=by have:=ae HAn;simp[List.getD,show k<A.length by omega]
   have hyb:=ae HA _ hin;have hst:Hid ((A.take (k+1)).map Int.toNat=(A.take k).map Int.toNat++[(A.getD k 0).toNat]):=by
    show _=_;rw[cn A k (by rw[ae HAn];exact hlt),a0K];rfl
   have hln:(fF (List.replicate 19 0) ((A.take k).map Int.toNat)).length=19:=by rw[dY,a0A]
   obtain⟨y,hy⟩:=a0r hyb.1;rw[hy]at hst c0 hyb;rw[a0p]at hst;have hb:=nW 19 ((A.take k).map Int.toNat) y;have hlk:((A.take k).map Int.toNat).length<=nA:=by simp;omega
   obtain⟨d0,d1,d2,d3⟩:=hC1.at (j:=y) hln (by omega);have hP:=hC1.put (j:=y) hln ((fF (List.replicate 19 0) ((A.take k).map Int.toNat)).getD y 0+1);have hP2:Hid (∀u,ak (wr.setCell ⟨gC,y,none⟩ u) w.heap.size (.slice (some ⟨g1,0,none⟩) nA c1) A/\Below w.heap.size w (wr.setCell ⟨gC,y,none⟩ u)):=fun u=>⟨hA1.setOther hne u,ag hbel d2 u⟩;have HP:Hid (ak (wr.setCell ⟨gC,y,none⟩ (.int .i64 ((fF (List.replicate 19 0) ((A.take k).map Int.toNat)).getD y 0+1))) w.heap.size (.slice (some ⟨gC,0,none⟩) 19 19) (fF (List.replicate 19 0) ((A.take (k+1)).map Int.toNat))):=by
    show ak _ _ _ _;rw[ae hst,gr];exact hP
   generalize (fF (List.replicate 19 0) ((A.take k).map Int.toNat)).getD y 0=z at *
   have hyI:(y:Int)<19:=by omega
   have hzI:z<=400:=by have:=ae HNA;omega
   have hz0':0<=z:=hb.1;have Hk:=af hk;clear hP hC1 hA1 hbel hlk hb hyb hy hin hk hln d2 d3;go_wp2;go_roundw
   case rel=>exact⟨k+1,by have:=ae Hk;omega,by go_num,(ae hP2 _).1,ae HP,(ae hP2 _).2⟩
   case measure=>simp[intOf];omega
  ·
   have hkn:A.take k=A:=a0F (by rw[ae HAn];omega);rw[hkn]at hC1;have hC2:ak wr w.heap.size (.slice (some ⟨gC,0,none⟩) 19 19) (mT A):=hC1;have HL:=af (iI (some ⟨gC,0,none⟩) 19 19 (mT A) 7 wr (fq A) (hC2.rowN (fq A)) (by omega));rw[ae HS]at HL;have O1:=af hA1;have B1:=af hbel;clear hkn hC1 hC2 hA1 hbel;go_wp2_with fail;refine(ae HL).mono ?_;rintro e x3 ⟨⟨v3,rfl,o3⟩,b3⟩;obtain⟨a3,c3,rfl⟩:=o3.formN (ae HF).1;have O1':=af ((ae O1).later b3 (a0a _));have B3:=af (am (ae B1) b3);have HBk:=af (xi a3 c3 19 w.heap.size (aO A) x3 (ae HF).1 ((cm (ae HF).1 (o3.own (ae HF).1)).mono (ae B1).size) (ae B3).size (by omega));clear o3 b3 HL O1 B1;go_wp2_with fail;refine(ae HBk).mono ?_;rintro e x4 ⟨⟨C,rfl,k4⟩,b4⟩;have O1:=af ((ae O1').later b4 (a0a _));have B4:=af (am (ae B3) b4);have K4:=af k4;have HSz:=af k4.size;have HOne:=af k4.one;clear k4 b4 HBk O1' B3;have b5:Below x4.heap.size x4 ((x4.alloc (.cells oK 199)).setCells x4.heap.size 0 C.toList):=below_setCells (a0a _) _ _ _ ((a0c _ _).alloc (a0a _) _);have hth:(x4.alloc (.cells oK 199)).there x4.heap.size 0 19:=de x4 oK _ 19 rfl;have hr5:=World.rangeAt_setCells_same (x4.alloc (.cells oK 199)) x4.heap.size 0 C.toList (by rw[a1i,ae HSz];exact hth);have hbk:qM ((x4.alloc (.cells oK 199)).setCells x4.heap.size 0 C.toList) x4.heap.size w.heap.size (aO A) C:=⟨(ae K4).later b5,hr5,by rw[size_setCells];simp⟩;have HTh:=af hth;have HB5:=af b5;have HBB:=af hbk;unfold oK at HTh HB5 HBB;clear b5 hth hr5 hbk K4;go_wp2_with (first
    | (refine wpList_store_mid rfl 199 (.tmp 9) (.tmp 33) rfl x4.heap.size 0 C rfl rfl (by rw[ae HSz];exact ae HTh) (by rw[ae HSz];exact Tryz.infoLenK) (ae HOne) ?_;generalize hx5:World.setCells _ x4.heap.size 0 C.toList=x5 at *;clear hx5 HTh)
    | (refine bn rfl 202 (.global 0) rfl 0 0 rfl Dn _ (ef.later (ef.later (ef.later (ae HO) (ae B4)) (ae HB5)) ((a0c _ _).alloc (a0a _) _)).1 Tryz.underlying202 rfl Tryz.infoOrd ?_))
   have hp0:Pcs (x5.alloc (.cells #[.int .i64 ((nL:Int)-256-1),.int .i64 5,.int .i64 ((nD:Int)-1),.int .i64 5,.int .i64 15,.int .i64 4] 114)) x5.heap.size (.slice (some ⟨x5.heap.size,0,none⟩) 3 3) (cU L D++eE (aO A) 0):=by
    have e0:cU L D++eE (aO A) 0=[((nL:Int)-256-1,5),((nD:Int)-1,5),(15,4)]:=by rw[ae HB];simp only[eE,List.take_zero,a1C,a1e];congr 2;omega
    rw[e0];exact a08 x5 #[.int .i64 ((nL:Int)-256-1),.int .i64 5,.int .i64 ((nD:Int)-1),.int .i64 5,.int .i64 15,.int .i64 4] 3 (a0a _) (by unfold maxLen;omega) rfl
   have hA6:Below x5.heap.size x5 (x5.alloc (.cells #[.int .i64 ((nL:Int)-256-1),.int .i64 5,.int .i64 ((nD:Int)-1),.int .i64 5,.int .i64 15,.int .i64 4] 114)):=(a0c _ _).alloc (a0a _) _;have O5:=af ((ae O1).later (ae HB5) (a0a _));have B5:=af (am (ae B4) (ae HB5));generalize x5.alloc (.cells #[.int .i64 ((nL:Int)-256-1),.int .i64 5,.int .i64 ((nD:Int)-1),.int .i64 5,.int .i64 15,.int .i64 4] 114)=x6 at *
   generalize x4.heap.size=b9 at *
   clear HB5 B4 O1
   go_loopw [10,12,46] (fun o _ i wr=>∃j:Nat,j<=19/\i = .int .i64 j/\Pcs wr x5.heap.size o (cU L D++eE (aO A) j)/\Below x5.heap.size x5 wr) (fun _ _ i _=>19-(intOf i).toNat)
   case atStart=>exact⟨0,by omega,rfl,hp0,hA6⟩
   case round=>
    obtain⟨j,hj19,rfl,hp,hbel⟩:=hrel;clear hp0 hA6 x6;have hbk:=(ae HBB).later hbel;have hlk:Hid ((cU L D++eE (aO A) j).length=3+j):=by show _=_;rw[a0m,sd _ _ hj19];rfl
    have hbs:=hbel.size;by_cases hlt:j<19
    ·
     have hix:=Do j hlt;have hol:=zV j hlt;have hst:Hid (cU L D++eE (aO A) (j+1)=(cU L D++eE (aO A) j)++[((aO A).getD (bH.getD j 0) 0,3)]):=by show _=_;rw[tV (aO A) j hlt,a0S]
     obtain⟨a7,cap7,hcb,hI7⟩:=BO hbk;rw[(ae HF).1]at hcb;obtain⟨g7,o7,rfl,hg7,hc7⟩:=hI7 (by rw[(ae HF).1];omega);have d7:=hc7 (bH.getD j 0) (by rw[(ae HF).1];exact hol);have hyb:=(ae HF).2.2 (bH.getD j 0) hol;generalize (aO A).getD (bH.getD j 0) 0=y at *
     generalize bH.getD j 0=q at *
     have hqI:(q:Int)<19:=by omega
     have hyI:y<=7:=hyb.2.1;have hjI:(j:Int)<19:=by omega
     have hlen1:Hid ((cU L D++eE (aO A) j).length+1<=maxLen/\((cU L D++eE (aO A) j).length+1)*16<=140737488355328):=by
      show _/\_;rw[ae hlk];unfold maxLen;omega
     have Hj:=af hlt;clear hbk hc7 hol hI7 hyb hj19 hlt;go_wp2_with (at_builtin;refine a0B _ rfl _ _ 111 rfl x5.heap.size 114 j0 (.agg #[.int .i64 0,.int .i64 0]) 2 16 a0W hj hy0 hy1 hy2 rfl (by decide) _ _ _ rfl (a0o hp _) ⟨wr.heap.size,0,none⟩ 1 1 [.int .i64 y,.int .i64 3] rfl rfl (qK wr _ _ _) (qJ _ _) (ae hlen1).1 (ae hlen1).2 (az hbs _) ?_;intro v' x2 hown hgrow hnil;clear hnil);have hb2:=aF (v:=u10) hgrow hp (a0a _) hbs hbel;have hq2:=lH hown;rw[←ae hst]at hq2;exact⟨⟨j+1,by have:=ae Hj;omega,by go_num,hq2,hb2⟩,by have:=ae Hj;simp[intOf];omega⟩
    ·
     obtain rfl:j=19:=by omega
     have HEach:=af (Ce (some ⟨g1,0,none⟩) c1 nA b9 w.heap.size A (aO A) C wr (ae HAn) (((ae O5).later hbel (a0a _)).rowN (ae HAn)) (by have:=ae HNA;omega) hbk (by rw[(ae HF).1];omega) (fun i hi=>by rw[(ae HF).1];have:=ae HA (A.getD i 0) (by simp[List.getD,hi]);omega));have hmf:∀(fn:Fn) (first cap:Array Value) (w:World),(Instr.makeFunc fn first cap).run Tryz.prog w = .ok (.func fn first cap) w:=fun _ _ _ _=>rfl;obtain⟨ga,ca,rfl⟩:∃ga ca,u10 = .slice (some ⟨ga,0,none⟩) 22 ca:=by
      obtain⟨g,c,e⟩:=fx hp (by rw[ae hlk];omega);rw[ae hlk]at e;exact⟨g,c,e⟩
     have HP:=af hp;have HBel:=af hbel;clear hp hbel hbk hlt hj19;go_wp2_with fail;refine(ae HEach).mono ?_;rintro e x7 ⟨v7,rfl,hp7,b7⟩;have hl7:Hid ((iq (aO A) A).length=nA):=by show _=_;unfold iq;rw[a0P];exact ae HAn
     obtain⟨ga7,ca7,rfl⟩:∃ga ca,v7 = .slice (some ⟨ga,0,none⟩) nA ca:=by
      obtain⟨g,c,e⟩:=fx hp7 (by rw[ae hl7];have:=ae HNA;omega);rw[ae hl7]at e;exact⟨g,c,e⟩
     have HN7:=af (hp7.newsN (ae hl7));have HP8:=af (aN (ae HP) b7);have hbs7:x5.heap.size<=x7.heap.size:=a0I (ae HBel).size b7.size;have HB7:=af (am (ae HBel) b7);have bd:Hid ((cU L D++eE (aO A) 19).length+nA<=maxLen/\((cU L D++eE (aO A) 19).length+nA)*16<=140737488355328):=by
      show _/\_;rw[ae hlk];have:=ae HNA;unfold maxLen;omega
     clear hp7 b7 HEach;go_wp2_with (at_builtin;refine a0B _ rfl _ _ 111 rfl x5.heap.size 114 j0 (.agg #[.int .i64 0,.int .i64 0]) 2 16 a0W hj hy0 hy1 hy2 rfl (by decide) _ _ _ rfl (ae HP8) ⟨ga7,0,none⟩ nA ca7 (aQ (iq (aO A) A)) rfl (by rw[dk,ae hl7]) (ae HN7) (cB _) (ae bd).1 (ae bd).2 hbs7 ?_;intro v' x8 hown hgrow hnil;clear hnil);go_ret;have hb8:Below x5.heap.size x5 x8:=(ae HB7).grown hgrow hbs7 (fun j hj=>(a0G (ae HP8) j hj).1);refine⟨_,rfl,?_,am (ae B5) hb8⟩;rw[←ae HT];have h9:Pcs x8 x5.heap.size v' ((cU L D++eE (aO A) 19)++iq (aO A) A):=by
      show World.ownsRow _ _ _ _ _ _ _;rw[ec,a0m,ae hl7];exact hown
     exact oq h9 (ae B5).size
def ii(T:List Tk)(k:Nat):List Int:=fF (inc (List.replicate 286 0) 256) ((T.take k).map gV)
def fI(T:List Tk)(k:Nat):List Int:=fF (List.replicate 30 0) ((T.take k).flatMap dX)
theorem og(T:List Tk)(k:Nat):(ii T k).length=286:=by unfold ii;rw[dY,iA,a0A]
theorem tp(T:List Tk)(k:Nat):(fI T k).length=30:=by unfold fI;rw[dY,a0A]
theorem nv(T:List Tk)(k:Nat)(h:k<T.length):T.take (k+1)=T.take k++[T.getD k k0]:=by
 rw[a1d h]
 congr 1
 simp[List.getD,h]
theorem C4(T:List Tk)(k:Nat)(h:k<T.length):ii T (k+1)=inc (ii T k) (gV (T.getD k k0)):=by
 unfold ii;rw[nv T k h,a0K,a2i,gr]
theorem C6(T:List Tk):ii T 0=(List.replicate 286 (0:Int)).set 256 1:=by
 unfold ii inc;rw[List.take_zero,gz];rfl
theorem Hi(T:List Tk)(k:Nat)(h:k<T.length)(hb:isB (T.getD k k0)=true):fI T (k+1)=fI T k:=by
 unfold fI;rw[nv T k h,a2D];have:[T.getD k k0].flatMap dX=[]:=by simp only[a03,a2h,a1e];unfold dX;rw[a0d hb]
 rw[this,a1e]
theorem Ho(T:List Tk)(k:Nat)(h:k<T.length)(hb:isB (T.getD k k0)=false):fI T (k+1)=inc (fI T k) (fnd 1 2 (T.getD k k0).2.2.toNat 29):=by
 unfold fI;rw[nv T k h,a2D];have:[T.getD k k0].flatMap dX=[fnd 1 2 (T.getD k k0).2.2.toNat 29]:=by simp only[a03,a2h,a1e];unfold dX;rw[a0e (by rw[hb];exact Bool.false_ne_true)]
 rw[this,gr]
theorem Bc(T:List Tk)(k j:Nat)(hk:k<=300):0<=(ii T k).getD j 0/\(ii T k).getD j 0<=301:=by
 unfold ii;rw[jL,kv,gz];have:((T.take k).map gV).count j<=((T.take k).map gV).length:=a26;rw[a0P,a0L]at this
 split<;>split<;>omega
theorem wh(T:List Tk)(k j:Nat)(hk:k<=300):0<=(fI T k).getD j 0/\(fI T k).getD j 0<=300:=by
 have h1:=nW 30 ((T.take k).flatMap dX) j;have h2:=qY (T.take k);rw[a0L]at h2;unfold fI;omega
theorem EZ{t:Tk}(h:isB t=true):t.2.1=0:=by unfold isB at h;simp only[a0n,a0z]at h;exact h.1
def qj(w W:World)(B gl gd g4 c4 g6 c6:Nat)(A D:List Int):Prop:=
 (ak W w.heap.size (.slice (some ⟨gl,0,none⟩) 286 286) A/\ak W w.heap.size (.slice (some ⟨gd,0,none⟩) 30 30) D)/\(ak W B (.slice (some ⟨g4,0,none⟩) 28 c4) jN/\ak W B (.slice (some ⟨g6,0,none⟩) 30 c6) jA)/\Below w.heap.size w W/\gl≠gd/\gl<B/\gd<B
theorem qj.drew{w W:World}{B gl gd g4 c4 g6 c6:Nat}{A D:List Int}(h:qj w W B gl gd g4 c4 g6 c6 A D):qj w W.drew B gl gd g4 c4 g6 c6 A D:=⟨h.1,h.2.1,h.2.2.1.drew,h.2.2.2⟩
theorem qj.putL{w W:World}{B gl gd g4 c4 g6 c6:Nat}{A D:List Int}(h:qj w W B gl gd g4 c4 g6 c6 A D)(hA:A.length=286)(j:Nat)(x:Int):qj w (W.setCell ⟨gl,j,none⟩ (.int .i64 x)) B gl gd g4 c4 g6 c6 (A.set j x) D:=by
 obtain⟨⟨h1,h2⟩,⟨h3,h4⟩,h5,h6,h7,h8⟩:=h;have e3:=h3.below.1;have e4:=h4.below.1;exact⟨⟨h1.put hA x,h2.setOther h6 _⟩,⟨h3.setOther (by omega) _,h4.setOther (by omega) _⟩,ag h5 h1.below.1 _,h6,h7,h8⟩
theorem qj.putD{w W:World}{B gl gd g4 c4 g6 c6:Nat}{A D:List Int}(h:qj w W B gl gd g4 c4 g6 c6 A D)(hD:D.length=30)(j:Nat)(x:Int):qj w (W.setCell ⟨gd,j,none⟩ (.int .i64 x)) B gl gd g4 c4 g6 c6 A (D.set j x):=by
 obtain⟨⟨h1,h2⟩,⟨h3,h4⟩,h5,h6,h7,h8⟩:=h;have e3:=h3.below.1;have e4:=h4.below.1;exact⟨⟨h1.setOther h6.symm _,h2.put hD x⟩,⟨h3.setOther (by omega) _,h4.setOther (by omega) _⟩,ag h5 h2.below.1 _,h6,h7,h8⟩
set_option maxRecDepth 100000 in
theorem ve(ta:Option Addr)(tcap tn:Nat)(T:List Tk)(w:World)(htn:T.length=tn)(hT:yM w ta T)(htm:tn<=300)(hok:∀t∈T,okT t=true) :
  Calls Tryz.prog 131 #[.slice ta tn tcap] w fun e w'=>(∃gl gd,e = .returned (.tuple #[.slice (some ⟨gl,0,none⟩) 286 286,.slice (some ⟨gd,0,none⟩) 30 30])/\ak w' w.heap.size (.slice (some ⟨gl,0,none⟩) 286 286) (fu T)/\ak w' w.heap.size (.slice (some ⟨gd,0,none⟩) 30 30) (ct T))/\Below w.heap.size w w':=by
 obtain⟨i0,hi,hz0,hz1,hz2⟩:=a0w Tryz.infoInt;have Htn:=af htn;have HT:=af hT;have Htm:=af htm;have Hok:=af hok;have htI:(tn:Int)<=300:=by omega
 clear htn hT htm hok;go_enter Tryz.func131,Tryz.ntmps131;go_wp2_with (first
  | (at_make;refine a1q _ rfl _ _ 84 rfl w.heap.size 3 i0 (.int .i64 0) 1 a0h hi hz0 hz1 .i64 .i64 _ _ 286 rfl rfl rfl rfl (by rw[hz2];omega) (by unfold maxLen;omega) (a0a _) ?_;intro x1 ho1 hg1;have b1:=fJ hg1;have o1:=ay ho1;clear hg1 ho1)
  | (at_make;refine a1q _ rfl _ _ 84 rfl w.heap.size 3 i0 (.int .i64 0) 1 a0h hi hz0 hz1 .i64 .i64 _ _ 30 rfl rfl rfl rfl (by rw[hz2];omega) (by unfold maxLen;omega) b1.size ?_;intro x2 ho2 hg2;have b2:=fJ hg2;have o2:=ay ho2;clear hg2 ho2))
 have lt1:=o1.below.2;have O1:=af (o1.later b2 (a0a _));have O2:=af o2;have B2:=af (am b1 b2);have lt2:=o2.below.2;obtain⟨gl,hgl⟩:∃g,w.heap.size=g:=⟨_,rfl⟩;obtain⟨gd,hgd⟩:∃g,x1.heap.size=g:=⟨_,rfl⟩;have hne:gl≠gd:=by omega
 have hlt1:gl<x2.heap.size:=by omega
 have hlt2:gd<x2.heap.size:=by omega
 rw[hgd]at O2;have HO1:Hid (ak x2 w.heap.size (.slice (some ⟨gl,0,none⟩) 286 286) (List.replicate 286 0)):=by show ak _ _ _ _;have:=ae O1;rw[hgl]at this ⊢;exact this
 rw[hgd];have eg:Value.slice (some ⟨w.heap.size,0,none⟩) 286 286 = .slice (some ⟨gl,0,none⟩) 286 286:=by rw[hgl]
 rw[eg];clear o1 o2 b1 b2 lt1 lt2 O1 eg hgl hgd;refine(na _).mono ?_;rintro e x3 ⟨⟨g3,rfl,o3⟩,b3⟩;have R3:=af (o3.rowN rfl);have B3:=af b3;clear o3 b3;go_wp2_with fail;refine(lC _ 28 _ (ae R3)).mono ?_;rintro e x4 ⟨v4,rfl,o4,b4⟩;obtain⟨a4,c4,rfl⟩:=o4.formN eU;obtain⟨g4,rfl⟩:=o4.somes (by rw[eU];omega);have O4:=af (o4.mono (ae B3).size);have B4:=af (am (ae B3) b4);clear o4 b4 B3 R3;go_wp2_with fail;refine(mR _).mono ?_;rintro e x5 ⟨⟨g5,rfl,o5⟩,b5⟩;have R5:=af (o5.rowN rfl);have B5:=af (am (ae B4) b5);have O4':=af ((ae O4).later b5 (a0a _));clear o5 b5 O4;go_wp2_with fail;refine(lB _ 30 _ (ae R5)).mono ?_;rintro e x6 ⟨v6,rfl,o6,b6⟩;obtain⟨a6,c6,rfl⟩:=o6.formN eO;obtain⟨g6,rfl⟩:=o6.somes (by rw[eO];omega);have hs2:=(ae B5).size;have O4:ak x6 x2.heap.size (.slice (some ⟨g4,0,none⟩) 28 c4) jN:=(ae O4').later b6 (a0a _);have O6:ak x6 x2.heap.size (.slice (some ⟨g6,0,none⟩) 30 c6) jA:=o6.mono hs2;have B6:=am (ae B5) b6;have hC0:qj w x6 x2.heap.size gl gd g4 c4 g6 c6 (List.replicate 286 0) (List.replicate 30 0):=⟨⟨(ae HO1).later B6 (a0a _),(ae O2).later B6 (a0a _)⟩,⟨O4,O6⟩,am (ae B2) B6,hne,hlt1,hlt2⟩;have hC1:=hC0.putL (a0A ..) 256 1;have e1:(List.replicate 286 (0:Int)).set 256 1=ii T 0:=(C6 T).symm;rw[e1]at hC1;have hC2:qj w (x6.setCell ⟨gl,256,none⟩ (.int .i64 1)) x2.heap.size gl gd g4 c4 g6 c6 (ii T 0) (fI T 0):=hC1;obtain⟨f1,f2,_,_⟩:=hC0.1.1.at (j:=256) (a0A ..) (by omega);clear hC0 hC1 e1 O4 O6 B6 b6 o6 HO1 O2 B2 B4 O4' hs2 R5 B5 hlt1 hlt2;generalize x2.heap.size=B at *
 go_wp2_with fail
 go_loopw [8,9] (fun i _ wr=>∃k:Nat,k<=tn/\i = .int .i64 k/\qj w wr B gl gd g4 c4 g6 c6 (ii T k) (fI T k)) (fun i _ _=>tn-(intOf i).toNat)
 case atStart=>exact⟨0,a0l _,rfl,hC2⟩
 case round=>
  obtain⟨k,hk,rfl,hC⟩:=hrel;clear hC2 f1 f2;by_cases hlt:k<tn
  ·
   obtain⟨g,o,rfl,hg,hcc⟩:=(ae HT) (by rw[ae Htn];omega);obtain⟨c0,c1,c2⟩:=hcc k (by rw[ae Htn];exact hlt);have d0:=(hC.2.2.1.cell (p:=⟨g,o+k*3,none⟩) hg).trans c0;have d1:=(hC.2.2.1.cell (p:=⟨g,o+k*3+1,none⟩) hg).trans c1;have d2:=(hC.2.2.1.cell (p:=⟨g,o+k*3+2,none⟩) hg).trans c2;have hgg:g≠gl:=by have:=hC.1.1.below.1;omega
   have hgg2:g≠gd:=by have:=hC.1.2.below.1;omega
   clear c0 c1 c2;have hkT:k<T.length:=by rw[ae Htn];exact hlt
   have ht:=ae Hok (T.getD k k0) (by simp[List.getD,hkT]);have hsl:=af (C4 T k hkT);have hk300:k<=300:=by have:=ae Htm;omega
   have Hk:=af hlt;clear hcc;cases hb:isB (T.getD k k0)
   ·
    have hK:isK (T.getD k k0)=true:=by unfold okT at ht;rw[hb]at ht;simpa using ht
    obtain⟨q1,q2,q3,q4⟩:=rt hK;have hsd:=af (Ho T k hkT hb);have e2:gV (T.getD k k0)=257+fnd 3 4 (T.getD k k0).2.1.toNat 27:=by unfold gV;rw[a0e (by rw[hb];exact Bool.false_ne_true)]
    rw[e2]at hsl;obtain⟨y,hy⟩:=a0r (show 0<=(T.getD k k0).2.1 by omega);obtain⟨z,hz⟩:=a0r (show 0<=(T.getD k k0).2.2 by omega);rw[hy]at d1 q1 q2 hsl;rw[hz]at d2 q3 q4 hsd;rw[a0p]at hsl hsd;have HS1:=af (fun W (h:be W (some ⟨g4,0,none⟩) jN)=>ml (some ⟨g4,0,none⟩) c4 28 jN (y:Int) W eU h (by omega) (by omega));have HS2:=af (fun W (h:be W (some ⟨g6,0,none⟩) jA)=>ml (some ⟨g6,0,none⟩) c6 30 jA (z:Int) W eO h (by omega) (by omega));rw[xy y (by omega) (by omega)]at HS1;rw[vN z (by omega) (by omega)]at HS2;have k1:=ez 3 4 y 27;have k2:=ez 1 2 z 29;clear hb hK hkT e2 hy hz ht;generalize fnd 3 4 y 27=p at *
    generalize fnd 1 2 z 29=q at *
    have b1:=Bc T k (257+p) hk300;have b2:=wh T k q hk300;obtain⟨m1,m2,_,_⟩:=hC.1.1.at (j:=257+p) (og T k) (by omega);have hC3:=hC.putL (og T k) (257+p) ((ii T k).getD (257+p) 0+1);have el:(ii T k).set (257+p) ((ii T k).getD (257+p) 0+1)=ii T (k+1):=(ae hsl).symm;rw[el]at hC3;generalize (ii T k).getD (257+p) 0=ya at *
    obtain⟨m3,m4,_,_⟩:=hC3.1.2.at (j:=q) (tp T k) (by omega);have hC4:=hC3.putD (tp T k) q ((fI T k).getD q 0+1);have ed:(fI T k).set q ((fI T k).getD q 0+1)=fI T (k+1):=(ae hsd).symm;rw[ed]at hC4;generalize (fI T k).getD q 0=za at *
    have R1:=af (ae HS1 wr (hC.2.1.1.rowN eU));have R2:=af (ae HS2 _ (hC3.2.1.2.rowN eO));have d2':(wr.setCell ⟨gl,257+p,none⟩ (.int .i64 (ya+1))).cell? ⟨g,o+k*3+2,none⟩=some (.int .i64 (z:Int)):=by
     rw[World.cell?_setCell_other _ _ _ _ (by intro e;simp only[a0y]at e;exact hgg e.1.symm)];exact d2
    have HC4:=af hC4;have hpI:(257:Int)+(p:Int)<286:=by omega
    have hqI:(q:Int)<30:=by omega
    have hyI:ya<=301:=b1.2;have hzI:za<=300:=b2.2;have hy0:0<=ya:=b1.1;have hz0':0<=za:=b2.1;have y0':¬ (y:Int)=0:=by omega
    clear hC hC3 hC4 el ed b1 b2 k1 k2 q1 q2 q3 q4 HS1 HS2 hk300;go_wp2_with fail;refine(ae R1).mono ?_;rintro e x7 ⟨rfl,hx7⟩;rw[hx7];clear hx7 x7;go_wp2_with fail;refine(ae R2).mono ?_;rintro e x7 ⟨rfl,hx7⟩;rw[hx7];clear hx7 x7;go_wp2;go_roundw
    case rel=>exact⟨k+1,by have:=ae Hk;omega,by go_num,ae HC4⟩
    case measure=>have:=ae Hk;simp[intOf];omega
   ·
    obtain⟨q1,q2⟩:=pd hb;have hz:=EZ hb;have hsd:=af (Hi T k hkT hb);have e2:gV (T.getD k k0)=(T.getD k k0).1.toNat:=by unfold gV;rw[a0d hb]
    rw[e2]at hsl;obtain⟨y,hy⟩:=a0r q1;rw[hy]at d0 q2 hsl;rw[hz]at d1;rw[a0p]at hsl;clear hb hkT e2 hy hz ht d2 q1;have b1:=Bc T k y hk300;obtain⟨m1,m2,_,_⟩:=hC.1.1.at (j:=y) (og T k) (by omega);have hC3:=hC.drew.putL (og T k) y ((ii T k).getD y 0+1);have el:(ii T k).set y ((ii T k).getD y 0+1)=ii T (k+1):=(ae hsl).symm;rw[el,←ae hsd]at hC3;generalize (ii T k).getD y 0=ya at *
    have HC3:=af hC3;have hyI:ya<=301:=b1.2;have hy0:0<=ya:=b1.1;have hyN:(y:Int)<286:=by omega
    clear hC hC3 el b1 hk300 q2;go_wp2
    go_region
    go_wp2;go_roundw
    case rel=>exact⟨k+1,by have:=ae Hk;omega,by go_num,ae HC3⟩
    case measure=>have:=ae Hk;simp[intOf];omega
  ·
   have hkT:T.take k=T:=a0F (by rw[ae Htn];omega);have hkl:k<=300:=by have:=ae Htm;omega
   have eL:ii T k=fu T:=by unfold ii;rw[hkT];exact zK T
   have eD:fI T k=eW T:=by unfold fI eW;rw[hkT]
   have b2:=wh T k 0 hkl;rw[eL,eD]at hC;rw[eD]at b2;have HU:=af (zA (some ⟨gd,0,none⟩) 30 30 (eW T) wr (eQ T) (hC.1.2.rowN (eQ T)) (by omega));obtain⟨m1,m2,_,_⟩:=hC.1.2.at (j:=0) (eQ T) (by omega);have HC:=af hC;clear hC hkT hkl eL eD;by_cases hu:us (eW T)=0
   ·
    have hz:(eW T).getD 0 0=0:=by have:=BH hu 0 (by rw[eQ];omega);omega
    have HC2:=af ((ae HC).putD (eQ T) 0 1);have e1:(eW T).set 0 1=ct T:=by unfold ct;rw[a0d hu];unfold inc;rw[hz];rfl
    rw[e1]at HC2;rw[hu]at HU;clear e1 hz b2 HC hu;go_wp2_with fail;refine(ae HU).mono ?_;rintro e x7 ⟨rfl,hx7⟩;rw[hx7];clear hx7 x7;go_wp2
    go_ret2
    exact⟨⟨gl,gd,rfl,(ae HC2).1.1,(ae HC2).1.2⟩,(ae HC2).2.2.1⟩
   ·
    have e1:eW T=ct T:=by unfold ct;rw[a0e hu]
    have hub:((us (eW T):Nat):Int)≠0:=by omega
    have hub2:(((us (eW T):Nat):Int) == 0)=false:=by simpa using hub
    rw[e1]at HC;clear e1 b2 hu;generalize us (eW T)=U at *
    go_wp2_with fail;refine(ae HU).mono ?_;rintro e x7 ⟨rfl,hx7⟩;rw[hx7];clear hx7 x7;go_wp2
    go_ret2
    exact⟨⟨gl,gd,rfl,(ae HC).1.1,(ae HC).1.2⟩,(ae HC).2.2.1⟩
theorem tH{w:World}{g o:Nat}{l:List Int}(hcl:∀i,i<l.length->w.cell? ⟨g,o+i,none⟩=some (.int .i64 (l.getD i 0))):∀j u,(l.map (Value.int .i64))[j]?=some u->w.cell? ((⟨g,o,none⟩:Addr).add j)=some u:=by
 intro j u hj;have hjl:j<l.length:=by have:=(List.getElem?_eq_some_iff.1 hj).1;simpa using this
 have hadd:(⟨g,o,none⟩:Addr).add j=⟨g,o+j,none⟩:=by unfold Addr.add;split<;>simp_all
 rw[hadd,hcl j hjl,←hj];simp[List.getD,hjl]
def jM(l:List Int)(t:List Int):List (Int×Int):=t.map fun x=>pcM l x.toNat
theorem zH(l t:List Int)(k:Nat)(h:k<t.length):jM l (t.take (k+1))=jM l (t.take k)++[pcM l (t.getD k 0).toNat]:=by
 unfold jM;rw[cn t k h,a0K];rfl
theorem JZ(L D:List Int):cU L D++(eE (aO (L++D)) 19++jM (aO (L++D)) (L++D))=da L D:=rfl
def LR(W:World)(b:Nat)(A l:List Int)(gA g7 gc:Option Addr):Prop:=ia W b gA A/\ia W b g7 l/\ia W b gc (aI l 15).2
theorem LR.keep{W W':World}{b:Nat}{A l:List Int}{gA g7 gc:Option Addr}(h:LR W b A l gA g7 gc)(hk:ce b W W'):LR W' b A l gA g7 gc:=⟨h.1.keep hk,h.2.1.keep hk,h.2.2.keep hk⟩
set_option maxRecDepth 100000 in
theorem CW(b:Nat)(p:Nat×Nat)(a aD:Option Addr)(cL nL cD nD:Nat)(L D:List Int)(w:World)(ho:iT w b p)(hL:be w a L)(hD:be w aD D)(hnL:L.length=nL)(hnD:D.length=nD)
  (l0:257<=nL) (l1:nL<=286) (d0:1<=nD) (d1:nD<=30) (kL:aw L=true) (kD:aw D=true) (hp:p.2<=1000) :
  Calls Tryz.prog 134 #[.pointer (some ⟨b,0,none⟩),.slice a nL cL,.slice aD nD cD] w fun e w'=>e = .returned (.tuple #[])/\iT w' b (bh p (da L D))/\KB b w w':=by
 obtain⟨i0,hi,hz0,hz1,hz2⟩:=a0w Tryz.infoInt;have hbw:b<w.heap.size:=Out.lt ho;have HA:Hid (∀x∈L++D,0<=x/\x<=15):=by
  intro x hx;rcases a0X.1 hx with h|h
  · exact iY kL x h
  · exact iY kD x h
 obtain⟨nA,hnA⟩:∃nA,(L++D).length=nA:=⟨_,rfl⟩;have hnA':nA=nL+nD:=by rw[←hnA,a0m,hnL,hnD]
 have HF:=af (rJ (L++D) (by omega) (by omega) (ae HA));have HOk:=af (sM kL kD (by omega) (by omega) (by omega) (by omega));have HQ:=af (JZ L D);have HU:=af (uF (L++D) (by omega) (ae HA));have HCk:=af (uE (L++D) (by omega));have HB:Hid (cU L D=[((nL:Int)-257,5),((nD:Int)-1,5),(15,4)]):=by show cU L D=_;unfold cU;rw[hnL,hnD]
 have HB1:Hid (pOk ((nL:Int)-257) 5=true/\pOk ((nD:Int)-1) 5=true):=by
  have:p2 (5:Int).toNat=32:=by decide
  exact⟨aV.2 ⟨by omega,by omega,by rw[this];omega⟩,aV.2 ⟨by omega,by omega,by rw[this];omega⟩⟩
 obtain⟨g,o,rfl,hg,hcl⟩:=hL (by omega);obtain⟨g',o',rfl,hg',hcl'⟩:=hD (by omega);have hB0:Below w.heap.size w (w.alloc (.cells #[] 3)):=(a0c _ _).alloc (a0a _) _;have hR0:World.ownsRow (w.alloc (.cells #[] 3)) w.heap.size 3 1 (.slice (some ⟨w.heap.size,0,none⟩) 0 0) 0 []:=a08 w #[] 0 (a0a _) (by unfold maxLen;omega) rfl;have hnews:=af (tH (w:=w.alloc (.cells #[] 3)) (g:=g) (o:=o) (l:=L) (fun i hi=>by rw[hB0.cell (p:=⟨g,o+i,none⟩) hg];exact hcl i hi));have hnews2:Hid (∀W,Below w.heap.size w W->∀j u,(D.map (Value.int .i64))[j]?=some u->W.cell? ((⟨g',o',none⟩:Addr).add j)=some u):=fun W hW=>tH (fun i hi=>by rw[hW.cell (p:=⟨g',o'+i,none⟩) hg'];exact hcl' i hi);have hll:Hid ((L.map (Value.int .i64)).length=nL*1):=by show _=_;simp[hnL]
 have hld:Hid ((D.map (Value.int .i64)).length=nD*1):=by show _=_;simp[hnD]
 have hb1:Hid ((0+nL<=maxLen/\(0+nL)*8<=140737488355328)/\(0+nL+nD<=maxLen/\(0+nL+nD)*8<=140737488355328)):=by show(_/\_)/\_/\_;unfold maxLen;omega
 have nLI:(nL:Int)<=286:=by omega
 have nDI:(nD:Int)<=30:=by omega
 have nLI0:(257:Int)<=(nL:Int):=by omega
 have nDI0:(1:Int)<=(nD:Int):=by omega
 have nAI:(nA:Int)<=316:=by omega
 have HNA:Hid (1<=nA/\nA<=316/\nA=nL+nD):=by show _/\_;omega
 have HO:=af ho;have Hp:=af hp;clear hL hD kL kD l0 l1 d0 d1 hnL hnD hnA' ho hp hcl hcl' hg hg';generalize hAe:L++D=A at *
 have HAe:Hid (L.map (Value.int .i64)++D.map (Value.int .i64)=A.map (Value.int .i64)):=by show _=_;rw[←hAe,a0K]
 have HAn:=af hnA;clear hnA hAe;go_enter Tryz.func134,Tryz.ntmps134;go_wp2_with (first
  | (at_builtin;refine a0B _ rfl _ _ 84 rfl w.heap.size 3 i0 (.int .i64 0) 1 8 a0h hi hz0 hz1 hz2 rfl (by decide) _ _ _ rfl hR0 ⟨g,o,none⟩ nL cL (L.map (Value.int .i64)) rfl (ae hll) (ae hnews) (a1b .i64 _) (ae hb1).1.1 (ae hb1).1.2 hB0.size ?_;intro v1 x1 hown1 hgrow1 hnil;clear hnil;have hB1:Below w.heap.size w x1:=hB0.grown hgrow1 hB0.size (fun j hj=>(a0G hR0 j hj).1))
  | (at_builtin;refine a0B _ rfl _ _ 84 rfl w.heap.size 3 i0 (.int .i64 0) 1 8 a0h hi hz0 hz1 hz2 rfl (by decide) _ _ _ rfl hown1 ⟨g',o',none⟩ nD cD (D.map (Value.int .i64)) rfl (ae hld) (ae hnews2 _ hB1) (a1b .i64 _) (ae hb1).2.1 (ae hb1).2.2 hB1.size ?_;intro v2 x2 hown2 hgrow2 hnil;clear hnil;have hB2:Below w.heap.size w x2:=hB1.grown hgrow2 hB1.size (fun j hj=>(a0G hown1 j hj).1))
  | (at_make;refine a1q _ rfl _ _ 84 rfl w.heap.size 3 i0 (.int .i64 0) 1 a0h hi hz0 hz1 .i64 .i64 _ _ 19 rfl rfl rfl rfl (by rw[hz2];omega) (by unfold maxLen;omega) hB2.size ?_;intro x3 hown3 hgrow3))
 have hA2:ak x2 w.heap.size v2 A:=by
  show World.ownsRow _ _ _ _ _ A.length _;rw[ae HAn,(ae HNA).2.2,←ae HAe];simpa using hown2
 obtain⟨aA,cA,rfl⟩:=hA2.formN (ae HAn);obtain⟨gA,rfl⟩:=hA2.somes (by have:=ae HAn;have:=ae HNA;omega);have hg1:=hA2.below.2;obtain⟨gC,hgC⟩:∃gC,x2.heap.size=gC:=⟨_,rfl⟩;have b3:=fJ hgrow3;have o2:=ay hown3;rw[hgC]at o2 hg1;have hb2:=am hB2 b3;have o1:=hA2.later b3 (a0a _);have hne:gC≠gA:=by omega
 rw[hgC];clear hown1 hown2 hown3 hgrow1 hgrow2 hgrow3 b3 hgC hg1 hB0 hB1 hB2 hR0 hnews hnews2 hll hld hb1 HAe hA2
 go_loopw [8] (fun i wr=>∃k:Nat,k<=nA/\i = .int .i64 k/\ak wr w.heap.size (.slice (some ⟨gA,0,none⟩) nA cA) A/\ak wr w.heap.size (.slice (some ⟨gC,0,none⟩) 19 19) (fF (List.replicate 19 0) ((A.take k).map Int.toNat))/\Below w.heap.size w wr) (fun i _=>nA-(intOf i).toNat)
 case atStart=>exact⟨0,a0l _,rfl,o1,o2,hb2⟩
 case round=>
  obtain⟨k,hk,rfl,hA1,hC1,hbel⟩:=hrel;clear o1 o2 hb2;by_cases hlt:k<nA
  ·
   obtain⟨c0,_,_,_⟩:=hA1.at (ae HAn) hlt;have hin:A.getD k 0∈A:=by have:=ae HAn;simp[List.getD,show k<A.length by omega]
   have hyb:=ae HA _ hin;have hst:Hid ((A.take (k+1)).map Int.toNat=(A.take k).map Int.toNat++[(A.getD k 0).toNat]):=by
    show _=_;rw[cn A k (by rw[ae HAn];exact hlt),a0K];rfl
   have hln:(fF (List.replicate 19 0) ((A.take k).map Int.toNat)).length=19:=by rw[dY,a0A]
   obtain⟨y,hy⟩:=a0r hyb.1;rw[hy]at hst c0 hyb;rw[a0p]at hst;have hb:=nW 19 ((A.take k).map Int.toNat) y;have hlk:((A.take k).map Int.toNat).length<=nA:=by simp;omega
   obtain⟨e0,e1,e2,e3⟩:=hC1.at (j:=y) hln (by omega);have hP:=ak.put (w:=wr.drew) (j:=y) hln hC1 ((fF (List.replicate 19 0) ((A.take k).map Int.toNat)).getD y 0+1);have hP2:Hid (∀u,ak (wr.drew.setCell ⟨gC,y,none⟩ u) w.heap.size (.slice (some ⟨gA,0,none⟩) nA cA) A/\Below w.heap.size w (wr.drew.setCell ⟨gC,y,none⟩ u)):=fun u=>⟨ak.setOther (w:=wr.drew) hA1 hne u,ag hbel.drew e2 u⟩;have HP:Hid (ak (wr.drew.setCell ⟨gC,y,none⟩ (.int .i64 ((fF (List.replicate 19 0) ((A.take k).map Int.toNat)).getD y 0+1))) w.heap.size (.slice (some ⟨gC,0,none⟩) 19 19) (fF (List.replicate 19 0) ((A.take (k+1)).map Int.toNat))):=by
    show ak _ _ _ _;rw[ae hst,gr];exact hP
   generalize (fF (List.replicate 19 0) ((A.take k).map Int.toNat)).getD y 0=z at *
   have hyI:(y:Int)<19:=by omega
   have hzI:z<=400:=by have:=ae HNA;omega
   have hz0':0<=z:=hb.1;have Hk:=af hk;clear hP hC1 hA1 hbel hlk hb hyb hy hin hk hln e2 e3;go_wp2
   go_region
   go_wp2;go_roundw
   case rel=>exact⟨k+1,by have:=ae Hk;omega,by go_num,(ae hP2 _).1,ae HP,(ae hP2 _).2⟩
   case measure=>simp[intOf];omega
  ·
   have hkn:A.take k=A:=a0F (by rw[ae HAn];omega);rw[hkn]at hC1;have hC2:ak wr w.heap.size (.slice (some ⟨gC,0,none⟩) 19 19) (mT A):=hC1;have HL:Hid (Calls Tryz.prog 133 #[.slice (some ⟨gC,0,none⟩) 19 19,.int .i64 7] wr fun e w'=>(∃v,e = .returned v/\ak w' wr.heap.size v (aO A))/\Below wr.heap.size wr w'):=tL (some ⟨gC,0,none⟩) 19 19 6 (mT A) wr (fq A) (hC2.rowN (fq A)) (by omega) (by omega) (ae HCk) (by rw[eJ];have h2:=JD;have:=(ae HU).2;omega) (by omega);have hsz:=hbel.size;have O1:=af hA1;have B1:=af hbel;clear hkn hC1 hC2 hA1 hbel;go_wp2_with fail;refine(ae HL).mono ?_;rintro e x3 ⟨⟨v3,rfl,o3⟩,b3⟩;obtain⟨a3,c3,rfl⟩:=o3.formN (ae HF).1;obtain⟨g3,rfl⟩:=o3.somes (by rw[(ae HF).1];omega);have O1':=af ((ae O1).later b3 (a0a _));have B3:=af (am (ae B1) b3);have O3:=af (o3.mono hsz);clear o3 b3 HL O1 B1;go_wp2_with fail;refine(pj (some ⟨g3,0,none⟩) c3 19 (aO A) x3 (ae HF).1 ((ae O3).rowN (ae HF).1) (by omega)).mono ?_;rintro e x4 ⟨⟨g4,rfl,o4⟩,b4⟩;have hR:LR x4 b A (aO A) (some ⟨gA,0,none⟩) (some ⟨g3,0,none⟩) (some ⟨g4,0,none⟩):=⟨eT (ae HAn) ((ae O1').later b4 (a0a _)) hbw,eT (ae HF).1 ((ae O3).later b4 (a0a _)) hbw,eT ((bA _ 15).trans (ae HF).1) (o4.mono (ae B3).size) hbw⟩;have hB4:=am (ae B3) b4;have hO4:iT x4 b p:=Out.kept (ae HO) hB4;have hK4:KB b w x4:=(KB.refl b w).below hB4 (a0x hbw);have HR:=af hR;have HO4:=af hO4;have HK4:=af hK4;clear hR o4 b4 hB4 hO4 hK4 O1' O3 B3;have hLb:=dA p (cU L D) (by rw[ae HB];intro x hx;simp at hx;rcases hx with rfl|rfl|rfl<;>simp);go_wp2_with fail;refine(eG b p ((nL:Int)-257) 5 x4 (ae HO4) (ae HB1).1 (by have:=ae Hp;omega)).mono ?_;rintro e x5 ⟨rfl,o5,k5⟩;have HO5:=af o5;have HR5:=af ((ae HR).keep k5.2);have HK5:=af ((ae HK4).trans k5);have q5:=dA p [((nL:Int)-257,5)] (by intro x hx;simp at hx;subst hx;simp);clear o5 k5 HO4 HR HK4;go_wp2_with fail;refine(eG b _ ((nD:Int)-1) 5 x5 (ae HO5) (ae HB1).2 (by have:=ae Hp;simp only[a0E,a01]at q5;omega)).mono ?_;rintro e x6 ⟨rfl,o6,k6⟩;rw[←bq]at o6;have HO6:=af o6;have HR6:=af ((ae HR5).keep k6.2);have HK6:=af ((ae HK5).trans k6);have q6:=dA p ([((nL:Int)-257,5)]++[((nD:Int)-1,5)]) (by intro x hx;simp at hx;rcases hx with rfl|rfl<;>simp);clear o6 k6 HO5 HR5 HK5;go_wp2_with fail;refine(eG b _ 15 4 x6 (ae HO6) (by decide) (by have:=ae Hp;simp only[a0E,a01,a0m]at q6;omega)).mono ?_;rintro e x7 ⟨rfl,o7,k7⟩;rw[←bq]at o7;have o7':iT x7 b (bh p (cU L D++eE (aO A) 0)):=by rw[ae HB];exact o7
   have hR7:=(ae HR6).keep k7.2;have hK7:=(ae HK6).trans k7;clear o7 k7 HO6 HR6 HK6 q5 q6;go_wp2_with fail;have HGd:=af (dI (ae HF).2.1);have Hlb:Hid (∀l:List (Int×Int),(∀x∈l,x.2<=16)->l.length<=400->(bh p (cU L D++l)).2<=100000):=by
    intro l h1 h2;have h3:=dA p (cU L D++l) (by
     intro x hx;rcases a0X.1 hx with h|h
     · rw[ae HB]at h;simp at h;rcases h with rfl|rfl|rfl<;>simp
     · exact h1 x h)
    rw[a0m]at h3;have h4:(cU L D).length=3:=rfl;have:=ae Hp;omega
   clear hLb
   go_loopw [11] (fun i wr=>∃j:Nat,j<=19/\i = .int .i64 j/\iT wr b (bh p (cU L D++eE (aO A) j))/\LR wr b A (aO A) (some ⟨gA,0,none⟩) (some ⟨g3,0,none⟩) (some ⟨g4,0,none⟩)/\KB b w wr) (fun i _=>19-(intOf i).toNat)
   case atStart=>exact⟨0,by omega,rfl,o7',hR7,hK7⟩
   case round=>
    obtain⟨j,hj19,rfl,hoo,hrr,hkk⟩:=hrel;clear o7' hR7 hK7;by_cases hlt:j<19
    ·
     have hst:Hid (bh p (cU L D++eE (aO A) (j+1))=bh (bh p (cU L D++eE (aO A) j)) [((aO A).getD (bH.getD j 0) 0,3)]):=by show _=_;rw[tV (aO A) j hlt,←a0S,bq]
     have hol:=zV j hlt;have hbits:=ae Hlb (eE (aO A) j) (by intro x hx;unfold eE at hx;obtain⟨i,_,rfl⟩:=a2z.1 hx;simp) (by rw[sd _ _ hj19];omega);have hyb:=(ae HF).2.2 (bH.getD j 0) hol;have hog:=FG j hlt;have hlt0:=Out.lt hoo;have HJ:=af (a0b hlt (a0b hoo (a0b hrr hkk)));have hjI:(j:Int)<19:=by omega
     clear hoo hrr hkk hj19;generalize bh p (cU L D++eE (aO A) j)=P at *
     go_wp2_with fail;refine(wX wr).mono ?_;rintro e x8 ⟨⟨g8,rfl,o8⟩,b8⟩;obtain⟨d8,_,_,_⟩:=o8.at (j:=j) FH hlt;rw[hog]at d8;have hrr8:=(ae HJ).2.2.1.keep (bJ b8);have hoo8:iT x8 b P:=Out.kept (ae HJ).2.1 b8;have hkk8:=(ae HJ).2.2.2.below b8 (a0x hlt0);obtain⟨g,o,e,_,dd⟩:=iB hrr8.2.1 (k:=bH.getD j 0) (by rw[(ae HF).1];exact hol);cases e
     rw[a0J]at dd;have hP1:pOk ((aO A).getD (bH.getD j 0) 0) 3=true:=by
      have:p2 (3:Int).toNat=8:=by decide
      exact aV.2 ⟨by omega,hyb.1,by rw[this];omega⟩
     generalize (aO A).getD (bH.getD j 0) 0=y at *
     generalize bH.getD j 0=q at *
     have hqI:(q:Int)<19:=by omega
     have HX:=af (a0b hrr8 hkk8);have HPu:=af (eG b P y 3 x8 hoo8 hP1 hbits);have Hj:=af (ae HJ).1;clear o8 b8 hrr8 hoo8 hkk8 HJ hol hyb hog hbits hP1 hlt;go_wp2_with fail;refine(ae HPu).mono ?_;rintro e x9 ⟨rfl,o9,k9⟩;rw[←ae hst]at o9;have HY:=af (a0b o9 (a0b ((ae HX).1.keep k9.2) ((ae HX).2.trans k9)));clear o9 k9 HX HPu d8 dd hst;go_wp2;go_roundw
     case rel=>exact⟨j+1,by have:=ae Hj;omega,by go_num,(ae HY).1,(ae HY).2.1,(ae HY).2.2⟩
     case measure=>have:=ae Hj;simp[intOf];omega
    ·
     have hj9:j=19:=by omega
     have hjI:¬ (j:Int)<19:=by omega
     rw[hj9]at hoo;have hoo':iT wr b (bh p (cU L D++(eE (aO A) 19++jM (aO A) (A.take 0)))):=by
      have e0:eE (aO A) 19++jM (aO A) (A.take 0)=eE (aO A) 19:=by unfold jM;rw[List.take_zero,a1C,a1e]
      rw[e0];exact hoo
     clear hoo hlt hj19 hj9;go_wp2_with fail
     go_loopw [12] (fun i wr=>∃j:Nat,j<=nA/\i = .int .i64 j/\iT wr b (bh p (cU L D++(eE (aO A) 19++jM (aO A) (A.take j))))/\LR wr b A (aO A) (some ⟨gA,0,none⟩) (some ⟨g3,0,none⟩) (some ⟨g4,0,none⟩)/\KB b w wr) (fun i _=>nA-(intOf i).toNat)
     case atStart=>exact⟨0,by omega,rfl,hoo',hrr,hkk⟩
     case round=>
      obtain⟨j,hj,rfl,ho1,hr1,hk1⟩:=hrel;clear hoo' hrr hkk;by_cases hlt:j<nA
      ·
       have hjA:j<A.length:=by rw[ae HAn];exact hlt
       have hst:Hid (bh p (cU L D++(eE (aO A) 19++jM (aO A) (A.take (j+1))))=bh (bh p (cU L D++(eE (aO A) 19++jM (aO A) (A.take j)))) [pcM (aO A) (A.getD j 0).toNat]):=by show _=_;rw[zH (aO A) A j hjA,←bq,a0S,a0S]
       have hbits:=ae Hlb (eE (aO A) 19++jM (aO A) (A.take j)) (by
        intro x hx;rcases a0X.1 hx with h|h
        · unfold eE at h;obtain⟨i,_,rfl⟩:=a2z.1 h;simp
        · unfold jM at h;obtain⟨y,hy,rfl⟩:=a2z.1 h;have h1:=ae HA y (a12 hy);have h2:=(ae HF).2.2 y.toNat (by omega);show(aO A).getD y.toNat 0<=16;omega) (by rw[a0m,sd _ _ (a0a _)];unfold jM;rw[a0P,a0L];have:=ae HNA;omega)
       have hyb:=ae HA (A.getD j 0) (by simp[List.getD,hjA]);obtain⟨g,o,e,_,dd⟩:=iB hr1.1 (k:=j) hjA;cases e
       rw[a0J]at dd;obtain⟨q,hq⟩:=a0r hyb.1;rw[hq]at dd hyb hst;rw[a0p]at hst;have hgd:=ae HGd q (by rw[(ae HF).1];omega);have HPu:=af (oA b _ (some ⟨g3,0,none⟩) (some ⟨g4,0,none⟩) c3 19 19 q (aO A) wr ho1 (ae HF).1 hr1.2.1.1 hr1.2.2.1 (by omega) (by omega) hgd.1 hgd.2 hbits);rw[←ae hst]at HPu;have HX:=af (a0b hr1 hk1);have Hj:=af hlt;clear ho1 hr1 hk1 hj hlt hjA hst hbits hyb hq hgd;go_wp2_with fail;refine(ae HPu).mono ?_;rintro e x9 ⟨rfl,o9,k9⟩;have HY:=af (a0b o9 (a0b ((ae HX).1.keep k9.2) ((ae HX).2.trans k9)));clear o9 k9 HX HPu dd;go_wp2;go_roundw
       case rel=>exact⟨j+1,by have:=ae Hj;omega,by go_num,(ae HY).1,(ae HY).2.1,(ae HY).2.2⟩
       case measure=>have:=ae Hj;simp[intOf];omega
      ·
       have hjn:A.take j=A:=a0F (by rw[ae HAn];omega);rw[hjn,ae HQ]at ho1;have HY:=af (a0b ho1 hk1);clear ho1 hr1 hk1 hjn;go_wp2
       go_end0
       exact⟨rfl,(ae HY).1,(ae HY).2⟩
theorem Dq(T:List Tk)(hT:T.length<=300)(hok:∀t∈T,okT t=true):[(1,1),(2,2)]++(da (bD T) (ck T)++(T.flatMap (pcT (bD T) (ck T))++[pcS (bD T) 256]))=ij T:=by
 unfold ij;rw[pH (fD T hT) (gE T hT) _ (fun t ht=>lF T hT hok t ht),mr (fD T hT) (by have:=(iK T hT).1;omega)]
theorem uG(v1 v2 v3:Value)(A B C:List (Int×Int))(base:Nat)(w:World)(h1:Pcs w base v1 A)(h2:Pcs w base v2 B)(h3:Pcs w base v3 C)(hl:A.length+(B.length+C.length)<=4000) :
  Calls Tryz.prog 109 #[.slice (some ⟨w.heap.size,0,none⟩) 3 3] (w.alloc (.cells #[v1,v2,v3] 111)) fun e w'=>∃v,e = .returned v/\Pcs w' w.heap.size v (A++(B++C))/\Below w.heap.size w w':=by
 have hb5:Below w.heap.size w (w.alloc (.cells #[v1,v2,v3] 111)):=(a0c _ _).alloc (a0a _) _;have hR:ge (w.alloc (.cells #[v1,v2,v3] 111)) w.heap.size base [(v1,aQ A),(v2,aQ B),(v3,aQ C)]:=by
  intro i hi
  match i,hi with
  | 0,_=>exact⟨by simp,_,h1.later hb5 (a0a _),cB _⟩
  | 1,_=>exact⟨by simp,_,h2.later hb5 (a0a _),cB _⟩
  | 2,_=>exact⟨by simp,_,h3.later hb5 (a0a _),cB _⟩
 have hlen:aJ [(v1,aQ A),(v2,aQ B),(v3,aQ C)]=(A++(B++C)).length:=by
  simp only[aJ,bW,a0C,a1C,a0R,a3u,dk,a0m];omega
 refine(vW w.heap.size base 3 3 _ _ rfl (by omega) (by omega) hR (by rw[hlen,a0m,a0m];omega)).mono ?_;rintro e x5 ⟨v,rfl,ho5,hb⟩;refine⟨v,rfl,?_,am hb5 hb⟩;have hall:dV [(v1,aQ A),(v2,aQ B),(v3,aQ C)]=aQ (A++(B++C)):=by
  simp only[dV,a03,a2h,ec,a1e]
 rw[hlen,hall]at ho5;exact oq (base:=(w.alloc (.cells #[v1,v2,v3] 111)).heap.size) ho5 (by simp)
set_option maxRecDepth 100000 in
theorem wN(s:ByteArray)(w:World)(hs:s.size<=300)(hO:ef w) :
  Calls Tryz.prog 77 #[.string s] w fun e w'=>e = .returned (.string ⟨(kV s).toArray⟩)/\Below w.heap.size w w':=by
 have hsI:(s.size:Int)<=300:=by omega
 have hI:¬ (300:Int)<(s.size:Int):=by omega
 have hmix:Tryz.prog.follows .mixedOrders=true:=by kernel_rfl
 have HS:=af hs;have HO:=af hO;have HFC:=af (qk s w hs);obtain⟨T,hT⟩:∃T,bm s.data.toList 0=T:=⟨_,rfl⟩;have HTl:Hid (T.length<=300):=by show _<=_;rw[←hT];exact g9 s hs
 have HTo:Hid (∀t∈T,okT t=true):=by rw[←hT];exact ep s
 have HOT:Hid (kV s=cH (ij T)):=by show kV s=_;unfold kV;rw[hT]
 have HT:=af hT;rw[hT]at HFC;clear hs hO hT;go_enter Tryz.func77,Tryz.ntmps77;go_wp2_with fail;refine(ae HFC).mono ?_;rintro e x1 ⟨⟨gl,gd,rfl,o1,o2⟩,b1⟩;have HL1:=af (iI (some ⟨gl,0,none⟩) 286 286 (fu T) 15 x1 (eC T) (o1.rowN (eC T)) (by omega));rw[Ir T (ae HTl)]at HL1;have O2:=af o2;have B1:=af b1;clear o1 o2 b1 HFC;go_wp2_with fail;refine(ae HL1).mono ?_;rintro e x2 ⟨⟨v2,rfl,o3⟩,b2⟩;have hn2:=(Fe T (ae HTl)).1;obtain⟨a2,c2,rfl⟩:=o3.formN hn2;obtain⟨g2,rfl⟩:=o3.somes (by omega);have HC2:=af (pP g2 0 c2 286 257 (df 15 (fu T)) x2 hn2 (fun i hi=>by rw[a0J];exact(o3.at hn2 hi).1) o3.cap.1 (by omega) (by omega));have e2:dS (df 15 (fu T)) 257 286=(bD T).length:=by unfold bD;rw[gN,hn2]
 rw[e2]at HC2;have O3:Hid (ak x2 w.heap.size (.slice (some ⟨g2,0,none⟩) (bD T).length c2) (bD T)):=by
  have h9:=o3.cut (m:=(bD T).length) hn2 (by have:=iK T (ae HTl);omega) (by omega);have e3:(df 15 (fu T)).take (bD T).length=bD T:=by rw[←e2];unfold bD mE;rw[hn2]
  rw[e3]at h9;exact h9.mono (ae B1).size
 have O2':=af ((ae O2).later b2 (a0a _));have B2:=af (am (ae B1) b2);have HLl:=af (iK T (ae HTl));obtain⟨nL,hnL⟩:∃n,(bD T).length=n:=⟨_,rfl⟩;rw[hnL]at HC2 O3 HLl;have HnL:=af hnL;clear hnL e2 hn2 o3 b2 HL1 O2 B1;have HL2:=af (iI (some ⟨gd,0,none⟩) 30 30 (ct T) 15 x2 (eR T) ((ae O2').rowN (eR T)) (by omega));rw[Ev T (ae HTl)]at HL2;clear O2';go_wp2_with fail;refine(ae HC2).mono ?_;rintro e x3 ⟨rfl,hx3⟩;rw[hx3];clear hx3 x3 HC2;go_wp2_with fail;refine(ae HL2).mono ?_;rintro e x3 ⟨⟨v3,rfl,o4⟩,b3⟩;have hn3:=(we T (ae HTl)).1;obtain⟨a3,c3,rfl⟩:=o4.formN hn3;obtain⟨g3,rfl⟩:=o4.somes (by omega);have HC3:=af (pP g3 0 c3 30 1 (df 15 (ct T)) x3 hn3 (fun i hi=>by rw[a0J];exact(o4.at hn3 hi).1) o4.cap.1 (by omega) (by omega));have e2:dS (df 15 (ct T)) 1 30=(ck T).length:=by unfold ck;rw[gN,hn3]
 rw[e2]at HC3;have O4:Hid (ak x3 w.heap.size (.slice (some ⟨g3,0,none⟩) (ck T).length c3) (ck T)):=by
  have h9:=o4.cut (m:=(ck T).length) hn3 (by have:=jP T (ae HTl);omega) (by omega);have e3:(df 15 (ct T)).take (ck T).length=ck T:=by rw[←e2];unfold ck mE;rw[hn3]
  rw[e3]at h9;exact h9.mono (ae B2).size
 have O3':=af ((ae O3).later b3 (a0a _));have B3:=af (am (ae B2) b3);have HDl:=af (jP T (ae HTl));obtain⟨nD,hnD⟩:∃n,(ck T).length=n:=⟨_,rfl⟩;rw[hnD]at HC3 O4 HDl;have HnD:=af hnD;clear hnD e2 hn3 o4 b3 HL2 O3 B2;go_wp2_with fail;refine(ae HC3).mono ?_;rintro e x4 ⟨rfl,hx4⟩;rw[hx4];clear hx4 x4 HC3;have HBL:=af (pQ (some ⟨g2,0,none⟩) c2 nL w.heap.size (bD T) x3 (ae HnL) (cm (ae HnL) ((ae O3').own (ae HnL))) (ae B3).size (by have:=ae HLl;omega));go_wp2_with fail;refine(ae HBL).mono ?_;rintro e x4 ⟨⟨C1,rfl,k1⟩,b4⟩;have O3:=af ((ae O3').later b4 (a0a _));have O4':=af ((ae O4).later b4 (a0a _));have B4:=af (am (ae B3) b4);have K1:=af k1;clear k1 b4 HBL O3' O4 B3;have HBD:=af (nP (some ⟨g3,0,none⟩) c3 nD w.heap.size (ck T) x4 (ae HnD) (cm (ae HnD) ((ae O4').own (ae HnD))) (ae B4).size (by have:=ae HDl;omega));go_wp2_with fail;refine(ae HBD).mono ?_;rintro e x5 ⟨⟨C2,rfl,k2⟩,b5⟩;have O3':=af ((ae O3).later b5 (a0a _));have O4:=af ((ae O4').later b5 (a0a _));have B5:=af (am (ae B4) b5);have K1':=af ((ae K1).later b5);have K2:=af k2;have HBu:=af (lj (ae K1') (ae K2));have hsz1:=(ae K1').size;have hsz2:=(ae K2).size;have HSz:Hid ((C1++C2).size=38):=by show _=_;rw[a2d,hsz1,hsz2]
 have H1C:Hid ((C1++C2).all (·.oneCell')=true):=by show _=true;rw[Array.all_append,(ae K1').one,(ae K2).one];rfl
 have HTh:Hid ((x5.alloc (.cells jj 136)).there x5.heap.size 0 38):=de x5 jj _ 38 rfl;have hb6:Hid (Below x5.heap.size x5 ((x5.alloc (.cells jj 136)).setCells x5.heap.size 0 (C1++C2).toList)):=below_setCells (a0a _) _ _ _ ((a0c _ _).alloc (a0a _) _);have hr6:Hid (((x5.alloc (.cells jj 136)).setCells x5.heap.size 0 (C1++C2).toList).rangeAt x5.heap.size 0 (C1++C2).toList):=World.rangeAt_setCells_same (x5.alloc (.cells jj 136)) x5.heap.size 0 (C1++C2).toList (by rw[a1i,ae HSz];exact ae HTh);have hs6:Hid (x5.heap.size<((x5.alloc (.cells jj 136)).setCells x5.heap.size 0 (C1++C2).toList).heap.size):=by show _<_;rw[size_setCells];simp
 unfold jj at HTh hb6 hr6 hs6;clear hsz1 hsz2 k2 b5 K1 O3 O4' B4 HBD;go_wp2_with (first
  | (refine iS rfl (.tmp 21) (.tmp 23) rfl C1 C2 rfl rfl (ae HBu) ?_)
  | (refine wpList_store_mid rfl 136 (.tmp 5) (.tmp 24) rfl x5.heap.size 0 (C1++C2) rfl rfl (by rw[ae HSz];exact ae HTh) (by rw[ae HSz];exact Tryz.infoBooks) (ae H1C) ?_;generalize hx6:World.setCells _ x5.heap.size 0 (C1++C2).toList=x6 at *;clear hx6 HTh))
 have hB6:=am (ae B5) (ae hb6);have HSW:Hid (∀W,Below x6.heap.size x6 W->W.rangeAt x5.heap.size 0 (C1++C2).toList):=fun W h=>jb (ae hr6) h (ae hs6);have hD6:Below x6.heap.size x6 x6.drew:=(a0c _ x6).drew;have hi1:(Tryz.prog.info? 136).map (·.size)=some (C1++C2).size:=by rw[ae HSz];exact Tryz.infoBooks
 have B6:=af hB6;have O36:=af ((ae O3').later (ae hb6) (a0a _));have O46:=af ((ae O4).later (ae hb6) (a0a _));have HBk:Hid (dG x6 w.heap.size (bD T) (ck T) (C1++C2)):=⟨C1,C2,rfl,(ae K1').later (ae hb6),(ae K2).later (ae hb6)⟩;clear hB6 O3' O4 K1' K2 hb6 B5;refine wp_region_held_drew (S:=fun W=>W.rangeAt x5.heap.size 0 (C1++C2).toList) hmix (ae HSW _ hD6) (fun hS=>?_);refine ah 1 (.slice (some ⟨g2,0,none⟩) nL c2) rfl (by kernel_rfl) (fun _ _ _ h=>h) rfl (?_) hS ?_
 · intro W hSw;go_simp
 refine ah 2 (.slice (some ⟨g3,0,none⟩) nD c3) rfl (by kernel_rfl) (fun _ _ _ h=>h) rfl (?_) hS ?_
 · intro W hSw;go_simp
 refine wpAnyH_take (i:=4) (v:=.agg (C1++C2)) rfl (by kernel_rfl) (by kernel_rfl) (by kernel_rfl) (fun _ _ _ h=>h) (bT (by rfl) 136 (.tmp 5) rfl x5.heap.size 0 rfl (C1++C2) _ (fun _ h=>h) a1R rfl hi1) hS ?_;refine ah 5 (.string s) rfl (by kernel_rfl) (fun _ _ _ h=>h) rfl (?_) hS ?_
 · intro W hSw;go_simp
 refine ai 0 (by kernel_rfl) rfl fun K hK=>?_;go_simp;go_at_call 100;refine(jk 2 _).mono ?_;rintro e x7 ⟨rfl,hx7⟩;have hB7:Below x6.heap.size x6 x7:=by rw[hx7];exact hD6.alloc (by simp) _
 have hP7:Pcs x7 x6.heap.size (.slice (some ⟨x6.heap.size,0,none⟩) 2 2) [(1,1),(2,2)]:=by
  rw[hx7];exact a08 x6.drew #[.int .i64 1,.int .i64 1,.int .i64 2,.int .i64 2] 2 (a0a _) (by unfold maxLen;omega) rfl
 have HLT:=af (vg g2 g3 nL c2 nD c3 w.heap.size (bD T) (ck T) x7 (ae HnL) (ae HnD) ((ae O36).later hB7 (a0a _)) ((ae O46).later hB7 (a0a _)) (ae HLl).1 (ae HLl).2 (ae HDl).1 (ae HDl).2 (fD T (ae HTl)) (gE T (ae HTl)) ((ef.later (ae HO) (ae B6)).later hB7));refine Shut.out hK _ _ (ae HSW _ hB7) (fun hS2=>?_);clear hK K hx7;refine ai 3 (by kernel_rfl) rfl fun K hK=>?_;go_simp;go_at_call 110;refine(ae HLT).mono ?_;rintro e x8 ⟨v8,rfl,hP8,b8⟩;obtain⟨n8,hn8⟩:∃n,(da (bD T) (ck T)).length=n:=⟨_,rfl⟩;obtain⟨a8,c8,rfl⟩:=hP8.formN hn8;have hB8:Below x6.heap.size x6 x8:=am hB7 b8;have hP7':=hP7.later b8 (a0a _);have hP8':Pcs x8 x6.heap.size (.slice a8 n8 c8) (da (bD T) (ck T)):=oq hP8 hB7.size;have HPA:=af (sl s w.heap.size (bD T) (ck T) (C1++C2) x8 (ae HS) ((ae HBk).later hB8) (by have:=ae HLl;have:=ae HnL;omega) (by have:=ae HDl;have:=ae HnD;omega) (by have:=ae HLl;have:=ae HnL;omega) (by rw[ae HT];exact fun t ht=>lF T (ae HTl) (ae HTo) t ht));rw[ae HT]at HPA;refine Shut.out hK _ _ (ae HSW _ hB8) (fun hS3=>?_);clear hK K hP7 hP8 b8 HLT hB7 hS2;refine ai 6 (by kernel_rfl) rfl fun K hK=>?_;go_simp;go_at_call 103;refine(ae HPA).mono ?_;rintro e x9 ⟨v9,rfl,hP9,b9⟩;obtain⟨n9,hn9⟩:∃n,(T.flatMap (pcT (bD T) (ck T))++[pcS (bD T) 256]).length=n:=⟨_,rfl⟩;obtain⟨a9,c9,rfl⟩:=hP9.formN hn9;have hB9:Below x6.heap.size x6 x9:=am hB8 b9;have p7:=hP7'.later b9 (a0a _);have p8:=hP8'.later b9 (a0a _);have p9:Pcs x9 x6.heap.size (.slice a9 n9 c9) (T.flatMap (pcT (bD T) (ck T))++[pcS (bD T) 256]):=oq hP9 hB8.size;refine Shut.out hK _ _ (ae HSW _ hB9) (fun hS4=>?_);clear hK K hP7' hP8' hP9 b9 HPA hB8 hS3;have hEq:=Dq T (ae HTl) (ae HTo);have hOk:=qE T (ae HTl) (ae HTo);have hLn:(ij T).length<=4000:=by
  have:=hOk;unfold lOk at this;simp only[a0n,a0z]at this;exact this.2
 have HC:=af (uG (.slice (some ⟨x6.heap.size,0,none⟩) 2 2) (.slice a8 n8 c8) (.slice a9 n9 c9) [(1,1),(2,2)] (da (bD T) (ck T)) (T.flatMap (pcT (bD T) (ck T))++[pcS (bD T) 256]) x6.heap.size x9 p7 p8 p9 (by have h9:=hLn;rw[←hEq]at h9;simp only[a0m]at h9 ⊢;omega));rw[hEq]at HC;have hB10:Below x6.heap.size x6 (x9.alloc (.cells #[.slice (some ⟨x6.heap.size,0,none⟩) 2 2,.slice a8 n8 c8,.slice a9 n9 c9] 111)):=hB9.alloc hB9.size _;have HOk:=af (a0b hOk hLn);clear p7 p8 p9 hEq hOk hLn hn8 hn9;refine ai 7 (by kernel_rfl) rfl fun K hK=>?_;go_simp;refine Shut.out hK _ _ (ae HSW _ hB10) (fun hS5=>?_);clear hK K;refine ai 8 (by kernel_rfl) rfl fun K hK=>?_;go_simp;go_at_call 109;refine(ae HC).mono ?_;rintro e x11 ⟨v11,rfl,hP11,b11⟩;have hB11:=am hB9 b11;obtain⟨a11,c11,rfl⟩:=hP11.form;refine Shut.out hK _ _ (ae HSW _ hB11) (fun hS6=>?_);clear hK K;have HBP:=af (fB a11 c11 (ij T) x11 hP11.row (by have:=(ae HOk).2;omega));rw[d6 (ae HOk).1]at HBP;refine ai 9 (by kernel_rfl) rfl fun K hK=>?_;go_simp;go_at_call 101;refine(ae HBP).mono ?_;rintro e x12 ⟨rfl,b12⟩;have hB12:=am hB11 b12;refine Shut.out hK _ _ (ae HSW _ hB12) (fun hS7=>?_);clear hK K;refine ai 10 (by kernel_rfl) rfl fun K hK=>?_;go_simp;refine Shut.out hK _ _ (ae HSW _ hB12) (fun hS8=>?_);clear hK K;refine wpAnyH_done (by kernel_rfl) ?_ _;have HBf:=af (am (ae B6) hB12);clear hB12 hB11 hB10 hB9 hS hS4 hS5 hS6 hS7 hS8 hP11;generalize hR:cH (ij T)=R at *
 have HR:=af hR;clear hR;go_wp2;go_ret;exact⟨by rw[ae HOT];rfl,ae HBf⟩
theorem xR{w:World}{base n cap:Nat}{a:Option Addr}{l:List Int}(hn:l.length=n)(h:ak w base (.slice a n cap) l):ia w w.heap.size a l:=by
 refine⟨h.rowN hn,fun h0 x ex=>?_⟩;subst ex;rcases h.2 with⟨e,_⟩|⟨g,cap',cur,e,hbg,hg,_⟩
 · cases e
 · simp only[a0N,a0j]at e;obtain⟨rfl,_⟩:=e;refine⟨by have:=dr hg;show g≠_;omega,fun cur' fr=>?_⟩;show w.heap[g]?≠_;rw[hg];intro e;cases e
theorem Cy{w:World}{base n cap:Nat}{a:Option Addr}{l:List Tk}(hn:l.length=n)(h:dR w base (.slice a n cap) l):pC w w.heap.size a l:=by
 refine⟨h.rowN hn,fun h0 x ex=>?_⟩;subst ex;rcases h.2 with⟨e,_⟩|⟨g,cap',cur,e,hbg,hg,_⟩
 · cases e
 · simp only[a0N,a0j]at e;obtain⟨rfl,_⟩:=e;refine⟨by have:=dr hg;show g≠_;omega,fun cur' fr=>?_⟩;show w.heap[g]?≠_;rw[hg];intro e;cases e
theorem ts(g:Nat)(n:Nat)(l:List Int)(w:World)(hn:l.length=n)(h:be w (some ⟨g,0,none⟩) l)(h1:1<=n)(hm:n<=300)(hc:okC l)(hU:us l<=300) :
  Calls Tryz.prog 133 #[.slice (some ⟨g,0,none⟩) n n,.int .i64 15] w fun e w'=>(∃v,e = .returned v/\ak w' w.heap.size v (df 15 l))/\Below w.heap.size w w':=
 tL (some ⟨g,0,none⟩) n n 14 l w hn h h1 hm hc (by rw[eJ];have h2:=xT;omega) (by omega)
set_option maxRecDepth 100000 in
theorem CI(s:ByteArray)(w:World)(hs:s.size<=300) :
  Calls Tryz.prog 99 #[.string s] w fun e w'=>e = .returned (.string ⟨(kV s).toArray⟩)/\Below w.heap.size w w':=by
 have HS:=af hs;obtain⟨T,hT⟩:∃T,bm s.data.toList 0=T:=⟨_,rfl⟩;have HTl:Hid (T.length<=300):=by show _<=_;rw[←hT];exact g9 s hs
 have HTo:Hid (∀t∈T,okT t=true):=by rw[←hT];exact ep s
 have HOT:Hid (kV s=cH (ij T)):=by show kV s=_;unfold kV;rw[hT]
 have HTk:=af (oc s w (by omega));rw[hT]at HTk;clear hs hT;obtain⟨tn,htn⟩:∃tn,T.length=tn:=⟨_,rfl⟩;have Htn:=af htn;have HtI:Hid (tn<=300):=by show _<=_;rw[←htn];exact ae HTl
 clear htn;go_enter Tryz.func99,Tryz.ntmps99;go_wp2_with fail;refine(ae HTk).mono ?_;rintro e x1 ⟨v1,rfl,o1,b1⟩;obtain⟨a1,c1,rfl⟩:=o1.formN (ae Htn);have HCt:=af (ve a1 c1 tn T x1 (ae Htn) (o1.rowN (ae Htn)) (ae HtI) (ae HTo));have O1:=af o1;have B1:=af b1;clear o1 b1 HTk;go_wp2_with fail;refine(ae HCt).mono ?_;rintro e x2 ⟨⟨gl,gd,rfl,o2,o3⟩,b2⟩;have O1':=af (aN (ae O1) b2);have B2:=af (am (ae B1) b2);have HL1:=af (ts gl 286 (fu T) x2 (eC T) (o2.rowN (eC T)) (by omega) (by omega) (vi T (ae HTl)) (by have:=(vj T).2;omega));have O3:=af (o3.mono (ae B1).size);have hs12:Hid (w.heap.size<=x2.heap.size):=(ae B2).size;clear o2 o3 b2 HCt O1 B1;go_wp2_with fail;refine(ae HL1).mono ?_;rintro e x3 ⟨⟨v3,rfl,o4⟩,b3⟩;have hn2:=(Fe T (ae HTl)).1;obtain⟨a3,c3,rfl⟩:=o4.formN hn2;obtain⟨g3,rfl⟩:=o4.somes (by omega);have HC2:=af (rG g3 0 c3 286 257 (df 15 (fu T)) x3 hn2 (fun i hi=>by rw[a0J];exact(o4.at hn2 hi).1) o4.cap.1 (by omega) (by omega));have e2:dS (df 15 (fu T)) 257 286=(bD T).length:=by unfold bD;rw[gN,hn2]
 rw[e2]at HC2;have O4:Hid (ak x3 w.heap.size (.slice (some ⟨g3,0,none⟩) (bD T).length c3) (bD T)):=by
  have h9:=o4.cut (m:=(bD T).length) hn2 (by have:=iK T (ae HTl);omega) (by omega);have e3:(df 15 (fu T)).take (bD T).length=bD T:=by rw[←e2];unfold bD mE;rw[hn2]
  rw[e3]at h9;exact h9.mono (ae hs12)
 have O1:=af (aN (ae O1') b3);have O3':=af ((ae O3).later b3 (a0a _));have B3:=af (am (ae B2) b3);have HLl:=af (iK T (ae HTl));obtain⟨nL,hnL⟩:∃n,(bD T).length=n:=⟨_,rfl⟩;rw[hnL]at HC2 O4 HLl;have HnL:=af hnL;clear hnL e2 hn2 o4 b3 HL1 O3 B2 O1' hs12;go_wp2_with fail;refine(ae HC2).mono ?_;rintro e x4 ⟨rfl,hx4⟩;rw[hx4];clear hx4 x4 HC2;have HL2:=af (ts gd 30 (ct T) x3 (eR T) ((ae O3').rowN (eR T)) (by omega) (by omega) (qT T (ae HTl)) (by have:=(qU T).2;omega));go_wp2_with fail;refine(ae HL2).mono ?_;rintro e x4 ⟨⟨v4,rfl,o5⟩,b4⟩;have hn3:=(we T (ae HTl)).1;obtain⟨a4,c4,rfl⟩:=o5.formN hn3;obtain⟨g4,rfl⟩:=o5.somes (by omega);have HC3:=af (rG g4 0 c4 30 1 (df 15 (ct T)) x4 hn3 (fun i hi=>by rw[a0J];exact(o5.at hn3 hi).1) o5.cap.1 (by omega) (by omega));have e2:dS (df 15 (ct T)) 1 30=(ck T).length:=by unfold ck;rw[gN,hn3]
 rw[e2]at HC3;have O5:Hid (ak x4 w.heap.size (.slice (some ⟨g4,0,none⟩) (ck T).length c4) (ck T)):=by
  have h9:=o5.cut (m:=(ck T).length) hn3 (by have:=jP T (ae HTl);omega) (by omega);have e3:(df 15 (ct T)).take (ck T).length=ck T:=by rw[←e2];unfold ck mE;rw[hn3]
  rw[e3]at h9;exact h9.mono (ae B3).size
 have O1':=af (aN (ae O1) b4);have O4':=af ((ae O4).later b4 (a0a _));have B4:=af (am (ae B3) b4);have HDl:=af (jP T (ae HTl));obtain⟨nD,hnD⟩:∃n,(ck T).length=n:=⟨_,rfl⟩;rw[hnD]at HC3 O5 HDl;have HnD:=af hnD;clear hnD e2 hn3 o5 b4 HL2 O4 O1 O3' B3;go_wp2_with fail;refine(ae HC3).mono ?_;rintro e x5 ⟨rfl,hx5⟩;rw[hx5];clear hx5 x5 HC3;have h0:Hid (iT (x4.alloc (.cells #[.slice none 0 0,.int .i64 0,.int .i64 0] 168)) x4.heap.size (0,0)):=vv x4 168;have hB0:Below x4.heap.size x4 (x4.alloc (.cells #[.slice none 0 0,.int .i64 0,.int .i64 0] 168)):=(a0c _ _).alloc (a0a _) _;have RL:Hid (ia (x4.alloc (.cells #[.slice none 0 0,.int .i64 0,.int .i64 0] 168)) x4.heap.size (some ⟨g3,0,none⟩) (bD T)):=(xR (ae HnL) (ae O4')).below hB0;have RD:Hid (ia (x4.alloc (.cells #[.slice none 0 0,.int .i64 0,.int .i64 0] 168)) x4.heap.size (some ⟨g4,0,none⟩) (ck T)):=(xR (ae HnD) (ae O5)).below hB0;have RT:Hid (pC (x4.alloc (.cells #[.slice none 0 0,.int .i64 0,.int .i64 0] 168)) x4.heap.size a1 T):=(Cy (ae Htn) (ae O1')).keep (bJ hB0);have HK0:Hid (KB x4.heap.size x4 (x4.alloc (.cells #[.slice none 0 0,.int .i64 0,.int .i64 0] 168))):=(KB.refl _ _).below hB0 (a0a _);clear hB0 O1' O4' O5;go_wp2_with fail;refine(eG _ _ 1 1 _ (ae h0) (by decide) (by show(0:Nat)<=_;omega)).mono ?_;rintro e x6 ⟨rfl,o6,k6⟩;have H6:=af (a0b o6 ((ae HK0).trans k6));have RL6:=af ((ae RL).keep k6.2);have RD6:=af ((ae RD).keep k6.2);have RT6:=af ((ae RT).keep k6.2);clear o6 k6 h0 HK0 RL RD RT;go_wp2_with fail;refine(eG _ _ 2 2 _ (ae H6).1 (by decide) (by show(1:Nat)<=_;omega)).mono ?_;rintro e x7 ⟨rfl,o7,k7⟩;have H7:=af (a0b o7 ((ae H6).2.trans k7));have RL7:=af ((ae RL6).keep k7.2);have RD7:=af ((ae RD6).keep k7.2);have RT7:=af ((ae RT6).keep k7.2);clear o7 k7 H6 RL6 RD6 RT6;have HLe:=af (CW x4.heap.size (bh (bh (0,0) [(1,1)]) [(2,2)]) (some ⟨g3,0,none⟩) (some ⟨g4,0,none⟩) c3 nL c4 nD (bD T) (ck T) x7 (ae H7).1 (ae RL7).1 (ae RD7).1 (ae HnL) (ae HnD) (ae HLl).1 (ae HLl).2 (ae HDl).1 (ae HDl).2 (fD T (ae HTl)) (gE T (ae HTl)) (by show(3:Nat)<=1000;omega));go_wp2_with fail;refine(ae HLe).mono ?_;rintro e x8 ⟨rfl,o8,k8⟩;have HV8:Hid (bh (bh (bh (0,0) [(1,1)]) [(2,2)]) (da (bD T) (ck T))=bh (0,0) ([(1,1),(2,2)]++da (bD T) (ck T))):=by
  show _=_;rw[←bq,←bq];rfl
 rw[ae HV8]at o8;have RL8:=(ae RL7).keep k8.2;have RD8:=(ae RD7).keep k8.2;have RT8:=(ae RT7).keep k8.2;have K8:=af ((ae H7).2.trans k8);have hOk2:=sM (fD T (ae HTl)) (gE T (ae HTl)) (by rw[ae HnL];exact(ae HLl).1) (by rw[ae HnL];exact(ae HLl).2) (by rw[ae HnD];exact(ae HDl).1) (by rw[ae HnD];exact(ae HDl).2);have hb8:(bh (0,0) ([(1,1),(2,2)]++da (bD T) (ck T))).2<=10000:=by
  have h1:=dA (0,0) ([(1,1),(2,2)]++da (bD T) (ck T)) (by
   intro x hx;rcases a0X.1 hx with h|h
   · simp at h;rcases h with rfl|rfl<;>simp
   · have h3:=hOk2.1;unfold bj at h3;have:=a1j.1 h3 x h;exact(aV.1 this).1.2)
  rw[a0m]at h1;have:=hOk2.2;simp only[a0E,a01]at h1;omega
 have HTk:=af (qd x4.heap.size _ a1 (some ⟨g3,0,none⟩) (some ⟨g4,0,none⟩) c1 tn c3 nL c4 nD T (bD T) (ck T) x8 o8 RT8 RL8 RD8 (ae Htn) (ae HnL) (ae HnD) (by have:=ae HLl;omega) (by have:=ae HDl;omega) (dI (fD T (ae HTl))) (dI (gE T (ae HTl))) (by have:=ae HLl;omega) (by have:=ae HtI;omega) hb8 (fun t ht=>⟨ae HTo t ht,lF T (ae HTl) (ae HTo) t ht⟩));have HVo:Hid (bh (bh (0,0) ([(1,1),(2,2)]++da (bD T) (ck T))) (T.flatMap (cz (bD T) (ck T))++[pcM (bD T) 256])=bi (ij T)):=by
  show bh _ _=_;rw[←bq,a0S];rfl
 rw[ae HVo]at HTk;have Hm:Hid ((bi (ij T)).2<=90000):=by
  show _<=_;rw[←ae HVo,bq];have h1:=kj (bD T) (ck T) T (bh (0,0) ([(1,1),(2,2)]++da (bD T) (ck T))) (dI (fD T (ae HTl))) (dI (gE T (ae HTl))) (fun t ht=>lF T (ae HTl) (ae HTo) t ht);have h2:=dA (bh (bh (0,0) ([(1,1),(2,2)]++da (bD T) (ck T))) (T.flatMap (cz (bD T) (ck T)))) [pcM (bD T) 256] (fun x hx=>by simp only[a06,a17,a1P]at hx;subst hx;have:=(dI (fD T (ae HTl)) 256 (by have:=ae HnL;have:=ae HLl;omega)).1.2;show(bD T).getD 256 0<=16;omega);have h3:=ae HTl;simp only[a0E,a01]at h2;omega
 clear o8 k8 RL8 RD8 RT8 hOk2 hb8 HLe RL7 RD7 RT7 H7 HV8;go_wp2_with fail;refine(ae HTk).mono ?_;rintro e x9 ⟨rfl,o9,k9⟩;have K9:=af ((ae K8).trans k9).1;have O9:=af o9;clear o9 k9 HTk K8;go_wp2_with fail;refine(kM _ _ _ _ (ae O9) (ae Hm)).mono ?_;rintro e x10 ⟨rfl,h7,b7⟩;obtain⟨_,v,Th,Y⟩:=h7;have e8:8*(((bi (ij T)).2+7)/8)/8=((bi (ij T)).2+7)/8:=by omega
 rw[e8]at Y;have Y':Bys x10 x4.heap.size v (cH (ij T)):=Y;have hcv:=kf Y';have HB:=af ((ae K9).trans b7);obtain⟨k0,k1,k2,f0,f1,f2,hbw⟩:=Th;clear Y Y' e8 k1 k2 b7 O9;generalize hR:cH (ij T)=R at *
 have HR:=af hR;clear hR;go_wp2;go_ret;exact⟨by rw[ae HOT];rfl,am (ae B4) (ae HB)⟩
def kA(s:ByteArray):List UInt8:=if s.size<=300 then kV s else []
theorem rm(s:ByteArray)(w:World)(hs:s.size<=1048576)(hO:ef w) :
  Calls Tryz.prog 77 #[.string s] w fun e w'=>e = .returned (.string ⟨(kA s).toArray⟩)/\Below w.heap.size w w':=by
 have hsI:(s.size:Int)<=1048576:=by omega
 by_cases h:s.size<=300
 · have HF:Hid (kA s=kV s):=a0d h;rw[ae HF];exact wN s w h hO
 ·
  have hI:(300:Int)<(s.size:Int):=by omega
  have HF:Hid (kA s=[]):=a0e h;clear h hO;go_enter Tryz.func77,Tryz.ntmps77;go_wp2;go_ret;exact⟨by rw[ae HF];rfl,a0c _ _⟩
end Go.Proofs.YtbacpebljannfaaGreatDoor
