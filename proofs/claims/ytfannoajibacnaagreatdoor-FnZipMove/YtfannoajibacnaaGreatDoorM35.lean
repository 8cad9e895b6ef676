/- Texts. -/
import Derived.Test.YtfannoajibacnaaGreatDoorM26
import Derived.Test.YtfannoajibacnaaGreatDoorM33
set_option linter.all false
set_option maxRecDepth 100000
set_option maxHeartbeats 12800000
namespace Go.Proofs.YtfannoajibacnaaGreatDoor
open Go.Proofs.Tryz
open Go.RowKit Corb
variable {D L l:List Int}{a:Option Addr}{b k n:Nat}{w w':World}
def tQ(w:World)(b:Nat)(a:Option Addr)(l:List Tk):Prop:=QV w a l/\(0<l.length->∀x,a=some x->x.block≠b/\∀cur fr,w.heap[x.block]?≠some (.cells cur 5 fr))
def tQ.keep{l:List Tk}(h:tQ w b a l)(k:cx b w w'):tQ w' b a l:=by
 by_cases c:0<l.length
 .
  obtain⟨g,o,e,j,m⟩:=h.1 c;obtain⟨f,h2⟩:=h.2 c _ e;have hb:=k.2 g j f h2;refine⟨fun _=>⟨g,o,e,a0h j k.1,fun i n=>?_⟩,fun _ x ex=>?_⟩
  . obtain⟨c0,c1,c2⟩:=m i n;exact⟨by rw[←c0];exact World.cell?_of_block (w:=w) hb,by rw[←c1];exact World.cell?_of_block (w:=w) hb,by rw[←c2];exact World.cell?_of_block (w:=w) hb⟩
  .
   have:x=⟨g,o,none⟩:=by rw[ex]at e;exact a1A e
   subst this;exact⟨f,fun d fr=>by rw[hb];exact h2 d fr⟩
 . exact⟨fun h=>absurd h c,fun h=>absurd h c⟩
def KV{base cap:Nat}{l:List Tk}(k:l.length=n)(h:lU w base (.slice a n cap) l)(hb:b<base):tQ w b a l:=by
 refine⟨h.rowN k,fun m x ex=>?_⟩;subst ex;rcases h.2 with⟨e,_⟩|⟨g,c,f,e,i,j,_⟩
 . cases e
 . simp only[a0L,a0l]at e;obtain⟨rfl,_⟩:=e;refine⟨by show g≠b;omega,fun d fr=>?_⟩;show w.heap[g]?≠_;rw[j];intro e;cases e
def db(L D:List Int)(t:Tk):List (Int×Int):=
 if isB t then [pcM L t.1.toNat]
 else [pcM L (257+fnd 3 4 t.2.1.toNat 27),((t.2.1.toNat:Int)-((stF 3 4 (fnd 3 4 t.2.1.toNat 27)).1:Int),((stF 3 4 (fnd 3 4 t.2.1.toNat 27)).2:Nat)),pcM D (fnd 1 2 t.2.2.toNat 29),((t.2.2.toNat:Int)-((stF 1 2 (fnd 1 2 t.2.2.toNat 29)).1:Int),((stF 1 2 (fnd 1 2 t.2.2.toNat 29)).2:Nat))]
def RR(W:World)(b:Nat)(L D:List Int)(T:List Tk)(a a2 va vb vl vk at_:Option Addr):Prop:=
 (jM W b a L/\jM W b a2 D)/\(jM W b va (aW L 15).2/\jM W b vb (aW D 15).2)/\(jM W b vl lp/\jM W b vk lh)/\tQ W b at_ T
def RR.keep{W W':World}{T:List Tk}{a2 va vb vl vk at_:Option Addr}(h:RR W b L D T a a2 va vb vl vk at_)(c:cx b W W'):RR W' b L D T a a2 va vb vl vk at_:=
 ⟨⟨h.1.1.keep c,h.1.2.keep c⟩,⟨h.2.1.1.keep c,h.2.1.2.keep c⟩,⟨h.2.2.1.1.keep c,h.2.2.1.2.keep c⟩,h.2.2.2.keep c⟩
def nP(l:List Int):Prop:=∀k,k<l.length->(0<=l.getD k 0/\l.getD k 0<=15)/\(0<=(aW l 15).2.getD k 0/\(aW l 15).2.getD k 0<65536)
def ce(h:Below w.heap.size w w'):cx b w w':=⟨h.size,fun k a _ _=>h.block k a⟩
def nB{g:Nat}{a:Array Value}{t:TypeId}(f:cx b w w')(h:w.heap[g]?=some (Obj.cells a t))(d:g≠b)(i:t≠5):w'.heap[g]?=some (Obj.cells a t):=by
 refine(f.2 g (dS h) d (fun c fr=>?_)).trans h;rw[h];intro e;cases e
 exact i rfl
def kB(h:jM w b a l)(f:k<l.length):∃g o,a=some ⟨g,o,none⟩/\g<w.heap.size/\w.cell? ⟨g,o+k,none⟩=some (.int .i64 (l.getD k 0)):=by
 obtain⟨g,o,e,d,c⟩:=h.1 (by omega);exact⟨g,o,e,d,c k f⟩
def Fo(y:Nat)(a:3<=y)(b:y<=60):pOk ((y:Int)-((stF 3 4 (fnd 3 4 y 27)).1:Int)) ((stF 3 4 (fnd 3 4 y 27)).2:Nat)=true:=by
 have:(List.range 61).all (fun y=>decide (y<3) || pOk ((y:Int)-((stF 3 4 (fnd 3 4 y 27)).1:Int)) ((stF 3 4 (fnd 3 4 y 27)).2:Nat))=true:=by decide +kernel
 have:=a1c.1 this y (List.mem_range.2 (by omega));simp only[a1m,a0v]at this;rcases this with h|h
 . omega
 . exact h
def Fl(z:Nat)(a:1<=z)(b:z<=250):pOk ((z:Int)-((stF 1 2 (fnd 1 2 z 29)).1:Int)) ((stF 1 2 (fnd 1 2 z 29)).2:Nat)=true:=by
 have:(List.range 251).all (fun z=>decide (z<1) || pOk ((z:Int)-((stF 1 2 (fnd 1 2 z 29)).1:Int)) ((stF 1 2 (fnd 1 2 z 29)).2:Nat))=true:=by decide +kernel
 have:=a1c.1 this z (List.mem_range.2 (by omega));simp only[a1m,a0v]at this;rcases this with h|h
 . omega
 . exact h
def eK(p:Nat×Nat)(l:List (Int×Int))(h:∀x∈l,x.2<=16):(bh p l).2<=p.2+16*l.length:=by
 unfold bh oh;induction l generalizing p with
 | nil=>simp[jh]
 | cons x r ih=>
  have b:=h x (by simp);have h2:=ih (p.1+x.1.toNat*2 ^ p.2,p.2+x.2.toNat) (fun y a=>h y (by simp[a]));simp only[a0D,jh,a0C]at *
  omega
def zI(L D:List Int)(t:Tk)(gL:nP L)(gD:nP D)(a:gR L D t):(∀x∈db L D t,x.2<=16)/\(db L D t).length<=4:=by
 unfold db;unfold gR at a
 split
 . rename_i h;rw[a0d h]at a;refine⟨fun x b=>?_,by simp⟩;simp only[a02,a1D,a1v]at b;subst b;have:=(gL _ a).1.2;show L.getD _ 0<=16;omega
 .
  rename_i h;rw[a0e h]at a;refine⟨fun x b=>?_,by simp⟩;simp only[a02,a1D,a1v]at b;have s1:=tF (L:=3) (G:=4) (k:=fnd 3 4 t.2.1.toNat 27) (by omega) (by omega) (by omega) (by have:=iH 3 4 t.2.1.toNat 27;omega);have s2:=tF (L:=1) (G:=2) (k:=fnd 1 2 t.2.2.toNat 29) (by omega) (by omega) (by omega) (by have:=iH 1 2 t.2.2.toNat 29;omega);rcases b with rfl|rfl|rfl|rfl
  . have:=(gL _ a.1).1.2;show L.getD _ 0<=16;omega
  . show((_:Nat):Int)<=16;omega
  . have:=(gD _ a.2).1.2;show D.getD _ 0<=16;omega
  . show((_:Nat):Int)<=16;omega
def mL(L D:List Int)(T:List Tk)(p:Nat×Nat)(gL:nP L)(gD:nP D)(a:∀t∈T,gR L D t):(bh p (T.flatMap (db L D))).2<=p.2+64*T.length:=by
 induction T generalizing p with
 | nil=>simp[bh,oh,jh]
 | cons t r ih=>
  rw[a0W,bw];obtain⟨b,h2⟩:=zI L D t gL gD (a t (by simp));have d:=eK p (db L D t) b;have e:=ih (bh p (db L D t)) (fun x c=>a x (by simp[c]));simp only[a0C];omega
def te(a:Option Addr)(cap n:Nat)(l:List Int)(w:World)(d:l.length=n)(h:bE w a l)(c:n<=300) :
  Calls prog 232 #[.slice a n cap] w fun e w'=>(∃g,e = .returned (.slice (some ⟨g,0,none⟩) n n)/\an w' w.heap.size (.slice (some ⟨g,0,none⟩) n n) (aW l 15).2)/\Below w.heap.size w w':=
 (eU a cap n l w d h c).mono fun _ _ ⟨b,f,hb⟩=>⟨⟨_,b,f⟩,hb⟩
def qi(w:World):Calls prog 234 #[] w fun e w'=>(∃g,e = .returned (.slice (some ⟨g,0,none⟩) 28 28)/\an w' w.heap.size (.slice (some ⟨g,0,none⟩) 28 28) ul)/\Below w.heap.size w w':=
 (kp w).mono fun _ _ ⟨a,b,hb⟩=>⟨⟨_,a,b⟩,hb⟩
def pU(w:World):Calls prog 235 #[] w fun e w'=>(∃g,e = .returned (.slice (some ⟨g,0,none⟩) 30 30)/\an w' w.heap.size (.slice (some ⟨g,0,none⟩) 30 30) tR)/\Below w.heap.size w w':=
 (kh w).mono fun _ _ ⟨a,b,hb⟩=>⟨⟨_,a,b⟩,hb⟩
def gj:lp.length=28:=lY _ _ _
def fZ:lh.length=30:=lY _ _ _
def uy(b:Nat)(p:Nat×Nat)(ta a a2:Option Addr)(tcap tn cap n X n2:Nat)(T:List Tk)(L D:List Int)(w:World)(ho:kZ w b p)(hT:tQ w b ta T)(hL:jM w b a L)(hD:jM w b a2 D)
  (d7:T.length=tn) (hn:L.length=n) (d2:D.length=n2) (d3:n<=300) (d4:n2<=300) (gL:nP L) (gD:nP D) (a8:256<n) (e7:(tn:Int)<=300) (hp:p.2<=10000)
  (d6:∀t∈T,okT t=true/\gR L D t) :
  Calls prog 199 #[.pointer b,.slice ta tn tcap,.slice a n cap,.slice a2 n2 X] w fun e w'=>e = .returned (.tuple #[])/\kZ w' b (bh p (T.flatMap (db L D)++[pcM L 256]))/\KB b w w':=by
 have Z:b<w.heap.size:=Out.lt ho;have ba:=cE
 have HT:=af hT;have HO:=af ho;have HL:=af hL;have HD:=af hD;have V:=af d7;have F:=af hn;have B:=af d2;have a3:=af d3;have dl:=af d4;have s:=af gL;have U:=af gD;have M:=af a8;have Hp:=af hp;have bs:=af d6;clear hT ho hL hD d7 hn d2 d3 d4 gL gD a8 hp d6;go_enter func199,ntmps199;go_wp2_with fail;refine(te a cap n L _ F HL.1 a3).mono ?_;rintro e x1⟨⟨g1,rfl,o1⟩,b1⟩;have N1:=af (gh ((bJ L 15).trans F) o1 Z);have B1:=af b1;clear o1 b1;go_wp2_with fail;refine(te a2 X n2 D _ B (HD.below B1).1 dl).mono ?_;rintro e x2⟨⟨g2,rfl,o2⟩,b2⟩;have N2:=af (gh ((bJ D 15).trans B) o2 (a0h Z B1.size));have N1':=af (N1.below b2);have B2:=af (aj B1 b2);clear o2 b2 N1 B1;go_wp2_with fail;refine(qi _).mono ?_;rintro e x3⟨⟨g3,rfl,o3⟩,b3⟩;have R3:=af (o3.rowN rfl);have B3:=af (aj B2 b3);have N1:=af (N1'.below b3);have N2':=af (N2.below b3);clear o3 b3 B2 N1' N2;go_wp2_with fail;refine(kM _ 28 _ R3).mono ?_;rintro e x4⟨v4,rfl,o4,b4⟩;obtain⟨a4,c4,rfl⟩:=o4.formN gj;have N4:=af (gh gj o4 (a0h Z B3.size));have B4:=af (aj B3 b4);have N1':=af (N1.below b4);have N2:=af (N2'.below b4);clear o4 b4 B3 N1 N2' R3;go_wp2_with fail;refine(pU _).mono ?_;rintro e x5⟨⟨g5,rfl,o5⟩,b5⟩;have R5:=af (o5.rowN rfl);have B5:=af (aj B4 b5);have N1:=af (N1'.below b5);have N2':=af (N2.below b5);have N4':=af (N4.below b5);clear o5 b5 B4 N1' N2 N4;go_wp2_with fail;refine(kK _ 30 _ R5).mono ?_;rintro e x6⟨v6,rfl,o6,b6⟩;obtain⟨a6,c6,rfl⟩:=o6.formN fZ;have N6:=af (gh fZ o6 (a0h Z B5.size));have B6:=af (aj B5 b6);have c9:Hid (RR x6 b L D T a a2 (some ⟨g1,0,none⟩) (some ⟨g2,0,none⟩) a4 a6 ta):=
  ⟨⟨HL.below B6,HD.below B6⟩,⟨N1.below b6,N2'.below b6⟩,⟨N4'.below b6,N6⟩,HT.keep (ce B6)⟩
 have cv:Hid (kZ x6 b (bh p ((T.take 0).flatMap (db L D)))):=Out.kept HO B6;have co:Hid (KB b w x6):=(KB.refl b w).below B6 (a0s Z);clear o6 b6 B5 N1 N2' N4' N6 R5 HT HO HL HD B6;go_wp2_with fail
 go_loopw [12,13,14] (fun i _ _ wr=>∃k:Nat,k<=tn/\i = .int .i64 k/\kZ wr b (bh p ((T.take k).flatMap (db L D)))/\RR wr b L D T a a2 (some ⟨g1,0,none⟩) (some ⟨g2,0,none⟩) a4 a6 ta/\KB b w wr) (fun i _ _ _=>tn-(intOf i).toNat)
 case atStart=>exact⟨0,a0g _,rfl,cv,c9,co⟩
 case round=>
  obtain⟨k,hk,rfl,ho,cg,d1⟩:=hrel;clear cv c9 co;have HO:=af ho;have a1:=af cg;have be:=af d1;have HK:=af hk;have d0:Hid (b<wr.heap.size):=Out.lt ho;clear ho d1 hk;by_cases cc:k<tn
  .
   have e3:(k:Int)<(tn:Int):=by omega
   obtain⟨g,o,rfl,hg,hc⟩:=cg.2.2.2.1 (by rw[ae V];omega);obtain⟨c0,c1,c2⟩:=hc k (by rw[ae V];exact cc);have b0:Hid ((T.take (k+1)).flatMap (db L D)=(T.take k).flatMap (db L D)++db L D (T.getD k k0)):=by
    show(T.take (k+1)).flatMap (db L D)=_;rw[IG T k (by rw[ae V];exact cc)];simp
   obtain⟨A,G⟩:=ae bs (T.getD k k0) (by simp[List.getD,show k<T.length by rw[ae V];exact cc]);have q:Hid ((bh p ((T.take k).flatMap (db L D))).2<=80000):=by
    show _<=_;have h1:=mL L D (T.take k) p s U (fun t ht=>(bs t (a2l ht)).2);have h2:(T.take k).length<=k:=List.length_take_le _ _;have h3:=ae Hp;omega
   clear hc cg;generalize T.getD k k0=t at *
   have O:Hid (bh p ((T.take (k+1)).flatMap (db L D))=bh (bh p ((T.take k).flatMap (db L D))) (db L D t)):=by
    show bh p _=_;rw[ae b0,bw]
   generalize bh p ((T.take k).flatMap (db L D))=P at *
   have a5:Below wr.heap.size wr (wr.alloc (.cells #[.int .i64 t.1,.int .i64 t.2.1,.int .i64 t.2.2] 309)):=cC;have ao:Hid (kZ (wr.alloc (.cells #[.int .i64 t.1,.int .i64 t.2.1,.int .i64 t.2.2] 309)) b P):=Out.kept HO a5;have m:=af (a1.keep (ce a5));have N:=af (be.below a5 (a0s d0));have bb:=af (alloc_at wr (.cells #[.int .i64 t.1,.int .i64 t.2.1,.int .i64 t.2.2] 309));clear a5 HO a1 be;cases Y:isB t
   .
    have hK:isK t=true:=by unfold okT at A;rw[Y]at A;simpa using A
    obtain⟨y0,y1,z0,z1⟩:=wt hK;have d8:t.1=0:=by unfold isK at hK;simp only[a0k,a0v]at hK;exact hK.1.1
    have v:Hid (257+fnd 3 4 t.2.1.toNat 27<n/\fnd 1 2 t.2.2.toNat 29<n2):=by
     have:=G;unfold gR at this;rw[a0e (by simp[Y]),ae F,ae B]at this;exact this
    have a0:Hid (db L D t=[pcM L (257+fnd 3 4 t.2.1.toNat 27),((t.2.1.toNat:Int)-((stF 3 4 (fnd 3 4 t.2.1.toNat 27)).1:Int),((stF 3 4 (fnd 3 4 t.2.1.toNat 27)).2:Nat)),pcM D (fnd 1 2 t.2.2.toNat 29),((t.2.2.toNat:Int)-((stF 1 2 (fnd 1 2 t.2.2.toNat 29)).1:Int),((stF 1 2 (fnd 1 2 t.2.2.toNat 29)).2:Nat))]):=by
     show db L D t=_;unfold db;rw[a0e (by simp[Y])]
    have hy:t.2.1=((t.2.1.toNat:Nat):Int):=by omega
    have hz:t.2.2=((t.2.2.toNat:Nat):Int):=by omega
    have J:3<=t.2.1.toNat/\t.2.1.toNat<=60:=by omega
    have K:1<=t.2.2.toNat/\t.2.2.toNat<=250:=by omega
    have Eok1:=af (Fo t.2.1.toNat J.1 J.2);have Eok2:=af (Fl t.2.2.toNat K.1 K.2);have Sy1:=af (Er t.2.1.toNat J.1 J.2);have Sy2:=af (Cp t.2.2.toNat K.1 K.2);have e0:=iH 3 4 t.2.1.toNat 27;have e1:=iH 1 2 t.2.2.toNat 29;have At1:=af (Eo (fnd 3 4 t.2.1.toNat 27) (by omega));have At2:=af (Cm (fnd 1 2 t.2.2.toNat 29) (by omega));have ed:=af (Ep (fnd 3 4 t.2.1.toNat 27) (by omega));have eg:=af (Co (fnd 1 2 t.2.2.toNat 29) (by omega));generalize stF 3 4 (fnd 3 4 t.2.1.toNat 27)=E at *
    generalize stF 1 2 (fnd 1 2 t.2.2.toNat 29)=E' at *
    generalize fnd 3 4 t.2.1.toNat 27=f at *
    generalize fnd 1 2 t.2.2.toNat 29=f' at *
    clear Y hK A G;obtain⟨tx,ty,tz⟩:=t;simp only at d8 y0 y1 z0 z1 hy hz J K c0 c1 c2 m N ao bb a0 Eok1 Eok2 Sy1 Sy2 O;generalize ty.toNat=y at *
    generalize tz.toNat=z at *
    subst d8 hy hz;have e6:(f:Int)<28:=by omega
    have e2:(f':Int)<30:=by omega
    have ab:Hid (f<28):=by show f<28;omega
    have ac:Hid (f'<30):=by show f'<30;omega
    have ek:=aT.1 Eok1;have el:=aT.1 Eok2;have e4:=bW ((y:Int)-(E.1:Int)) (by omega) (by omega);have e5:=bW ((z:Int)-(E'.1:Int)) (by omega) (by omega);clear ek el e0 e1 J K;obtain⟨gl,ol,rfl,ey,eu⟩:=kB m.2.2.1.1 (by rw[gj];exact ab);obtain⟨gk,ok,rfl,ev,en⟩:=kB m.2.2.1.2 (by rw[fZ];exact ac);have cu:=af (fun W (hR:jM W b (some ⟨gl,ol,none⟩) lp)=>pa (some ⟨gl,ol,none⟩) c4 28 lp (y:Int) W gj hR.1 (by omega) (by omega));have cs:=af (fun W (hR:jM W b (some ⟨gk,ok,none⟩) lh)=>pa (some ⟨gk,ok,none⟩) c6 30 lh (z:Int) W fZ hR.1 (by omega) (by omega));rw[ae Sy1]at cu;rw[ae Sy2]at cs;have ad:Hid (wr.heap.size≠b):=by show _≠_;have:=ae d0;omega
    clear eu en ey ev;go_wp2_with fail;refine(cu _ (ae m).2.2.1.1).mono ?_;rintro e w7⟨rfl,al⟩;rw[al];clear al;have eI:(257:Int)+(f:Int)=((257+f:Nat):Int):=by omega
    have j:=af (rU b P a (some ⟨g1,0,none⟩) cap n n (257+f) L _ ao F m.1.1.1 m.2.1.1.1 v.1 a3 (s _ (by rw[ae F];exact v.1)).1 (s _ (by rw[ae F];exact v.1)).2 (by have:=ae q;omega));rw[←eI]at j;clear eI;go_wp2_with fail;refine j.mono ?_;rintro e x7⟨rfl,h7,k7⟩;have bk:=af h7;have bn:=af (m.keep k7.2);have cp:=af (N.trans k7);have bc:=af (nB k7.2 bb ad (by decide));have dq:Hid ((bh P [pcM L (257+f)]).2<=80100):=by
     show _<=_;have h1:=eK P [pcM L (257+f)] (fun x hx=>by simp only[a02,a1D,a1v]at hx;subst hx;have:=(s (257+f) (by rw[ae F];exact v.1)).1.2;show L.getD _ 0<=16;omega);have h2:=ae q;simp only[a0C,a0U]at h1;omega
    have H:Hid (∀W,cx b x7 W->W.cell? ⟨wr.heap.size,1,none⟩=some (.int .i64 (y:Nat))/\W.cell? ⟨gl,ol+f,none⟩=some (.int .i64 (E.1:Nat))):=by
     intro W hW;refine⟨bH (nB hW bc ad (by decide)) 1,?_⟩;obtain⟨g',o',e',_,aa⟩:=kB (bn.2.2.1.1.keep hW) (k:=f) (by rw[gj];exact ab);simp only[a0l,a0A,a0Q]at e';obtain⟨rfl,rfl⟩:=e';rw[ae At1]at aa;exact aa
    have c7:=af (fun W (hW:kZ W b (bh P [pcM L (257+f)]))=>fR b (bh P [pcM L (257+f)]) ((y:Int)-(E.1:Int)) (E.2:Nat) W hW Eok1 (by have:=ae dq;omega));clear h7 k7 j ao m N bb;go_wp2_with fail;have b7:Below x7.heap.size x7 x7.drew:=(a0c _ x7).drew;go_cut[] (fun wx=>kZ wx b (bh (bh P [pcM L (257+f)]) [((y:Int)-(E.1:Int),(E.2:Nat))])/\KB b x7 wx)
    case first=>
     refine wp_region_held_drew (S:=fun W=>W.cell? ⟨wr.heap.size,1,none⟩=some (.int .i64 (y:Nat))/\W.cell? ⟨gl,ol+f,none⟩=some (.int .i64 (E.1:Nat))) ba (H _ (ce b7)) (fun u=>?_);refine ag 0 (.pointer b) rfl (?_) u ?_
     . intro W c;obtain⟨s0,s1⟩:=c;go_simp
     refine ag 1 (.pointer (some ⟨wr.heap.size,1,none⟩)) rfl (?_) u ?_
     . intro W c;obtain⟨s0,s1⟩:=c;go_simp
     refine ag 2 (.int .i64 (y:Nat)) rfl (?_) u ?_
     . intro W c;obtain⟨s0,s1⟩:=c;go_simp
     refine ag 3 (.slice (some ⟨gl,ol,none⟩) 28 c4) rfl (?_) u ?_
     . intro W c;obtain⟨s0,s1⟩:=c;go_simp
     refine ag 4 (.int .i64 (f:Nat)) rfl (?_) u ?_
     . intro W c;obtain⟨s0,s1⟩:=c;go_simp
     refine ag 5 (.pointer (some ⟨gl,ol+f,none⟩)) rfl (?_) u ?_
     . intro W c;obtain⟨s0,s1⟩:=c;go_simp
     refine ag 6 (.int .i64 (E.1:Nat)) rfl (?_) u ?_
     . intro W c;obtain⟨s0,s1⟩:=c;go_simp
     refine ag 7 (.int .i64 ((y:Int)-(E.1:Int))) rfl (?_) u ?_
     . intro W c;obtain⟨s0,s1⟩:=c;go_simp
     refine ag 9 (.int .i64 (f:Nat)) rfl (?_) u ?_
     . intro W c;obtain⟨s0,s1⟩:=c;go_simp
     refine ah 8 fun C d=>?_;go_simp;go_at_call 234;refine(qi _).mono ?_;rintro e x8⟨⟨g8,rfl,o8⟩,b8⟩;have l:Below x7.heap.size x7 x8:=aj b7 b8;have b9:=(o8.at rfl ab).1;rw[ae ed]at b9;have bl:=af (Out.kept bk l);clear o8 b8;refine Shut.out d _ _ (H _ (ce l)) (fun em=>?_);clear d C;refine ah 10 fun C d=>?_;go_simp;refine Shut.out d _ _ (H _ (ce l)) (fun _=>?_);clear d C;refine ah 11 fun C d=>?_;go_simp;refine Shut.out d _ _ (H _ (ce l)) (fun _=>?_);clear d C;refine ah 12 fun C d=>?_;go_simp;go_at_call 197;refine(c7 _ (ae bl)).mono ?_;rintro e x9⟨rfl,h9,k9⟩;have I:=af (a0b h9 (((KB.refl b x7).below l (a0s (Out.lt bk))).trans k9));refine Shut.out d _ _ (H _ ((ce l).trans k9.2)) (fun _=>?_);clear d C h9 k9;refine wpAnyH_done (by kernel_rfl) ?_ _;go_wp2_with fail
     go_meet
     case rel=>exact I
    case rest=>
     obtain⟨d5,a7⟩:=hcut;have cy:=af d5;have Q:=af (bn.keep a7.2);have cr:=af (cp.trans a7);have bd:=af (nB a7.2 bc ad (by decide));have ds:Hid ((bh (bh P [pcM L (257+f)]) [((y:Int)-(E.1:Int),((E.2:Nat):Int))]).2<=80200):=by
      show _<=_;have h1:=eK (bh P [pcM L (257+f)]) [((y:Int)-(E.1:Int),((E.2:Nat):Int))] (fun x hx=>by simp only[a02,a1D,a1v]at hx;subst hx;exact(aT.1 Eok1).1.2);have h2:=ae dq;simp only[a0C,a0U]at h1;omega
     have HE:Hid (∀r,bh P (pcM L (257+f) :: ((y:Int)-(E.1:Int),((E.2:Nat):Int)) :: r)=bh (bh (bh P [pcM L (257+f)]) [((y:Int)-(E.1:Int),((E.2:Nat):Int))]) r):=fun r=>by
      show bh P _=_;rw[←bw,←bw];rfl
     generalize bh (bh P [pcM L (257+f)]) [((y:Int)-(E.1:Int),((E.2:Nat):Int))]=P2 at *
     have a9:=bH bd 2;simp at a9;clear d5 a7 bk bn cp bc H c7 b7;go_wp2_with fail;refine(cs _ (ae Q).2.2.1.2).mono ?_;rintro e w7⟨rfl,al⟩;rw[al];clear al;have j:=af (rU b P2 a2 (some ⟨g2,0,none⟩) X n2 n2 f' D _ cy B Q.1.2.1 Q.2.1.2.1 v.2 dl (U _ (by rw[ae B];exact v.2)).1 (U _ (by rw[ae B];exact v.2)).2 (by have:=ae ds;omega));go_wp2_with fail;refine j.mono ?_;rintro e xa⟨rfl,ha,ka⟩;have c5:=af ha;have dd:=af (Q.keep ka.2);have ei:=af (cr.trans ka);have eh:=af (nB ka.2 bd ad (by decide));have ej:Hid ((bh P2 [pcM D f']).2<=80300):=by
      show _<=_;have h1:=eK P2 [pcM D f'] (fun x hx=>by simp only[a02,a1D,a1v]at hx;subst hx;have:=(U f' (by rw[ae B];exact v.2)).1.2;show D.getD _ 0<=16;omega);have h2:=ae ds;simp only[a0C,a0U]at h1;omega
     have R:Hid (∀W,cx b xa W->W.cell? ⟨wr.heap.size,2,none⟩=some (.int .i64 (z:Nat))/\W.cell? ⟨gk,ok+f',none⟩=some (.int .i64 (E'.1:Nat))):=by
      intro W hW;refine⟨bH (nB hW eh ad (by decide)) 2,?_⟩;obtain⟨g',o',e',_,aa⟩:=kB (dd.2.2.1.2.keep hW) (k:=f') (by rw[fZ];exact ac);simp only[a0l,a0A,a0Q]at e';obtain⟨rfl,rfl⟩:=e';rw[ae At2]at aa;exact aa
     have c8:=af (fun W (hW:kZ W b (bh P2 [pcM D f']))=>fR b (bh P2 [pcM D f']) ((z:Int)-(E'.1:Int)) (E'.2:Nat) W hW Eok2 (by have:=ae ej;omega));have ch:Hid (bh (bh P2 [pcM D f']) [((z:Int)-(E'.1:Int),((E'.2:Nat):Int))]=bh P2 [pcM D f',((z:Int)-(E'.1:Int),((E'.2:Nat):Int))]):=(bw P2 [pcM D f'] _).symm;clear ha ka j cy Q cr bd a9;go_wp2_with fail;have dv:Below xa.heap.size xa xa.drew:=(a0c _ xa).drew;refine wp_region_held_drew (S:=fun W=>W.cell? ⟨wr.heap.size,2,none⟩=some (.int .i64 (z:Nat))/\W.cell? ⟨gk,ok+f',none⟩=some (.int .i64 (E'.1:Nat))) ba (R _ (ce dv)) (fun u=>?_);refine ag 0 (.pointer b) rfl (?_) u ?_
     . intro W c;obtain⟨s0,s1⟩:=c;go_simp
     refine ag 1 (.pointer (some ⟨wr.heap.size,2,none⟩)) rfl (?_) u ?_
     . intro W c;obtain⟨s0,s1⟩:=c;go_simp
     refine ag 2 (.int .i64 (z:Nat)) rfl (?_) u ?_
     . intro W c;obtain⟨s0,s1⟩:=c;go_simp
     refine ag 3 (.slice (some ⟨gk,ok,none⟩) 30 c6) rfl (?_) u ?_
     . intro W c;obtain⟨s0,s1⟩:=c;go_simp
     refine ag 4 (.int .i64 (f':Nat)) rfl (?_) u ?_
     . intro W c;obtain⟨s0,s1⟩:=c;go_simp
     refine ag 5 (.pointer (some ⟨gk,ok+f',none⟩)) rfl (?_) u ?_
     . intro W c;obtain⟨s0,s1⟩:=c;go_simp
     refine ag 6 (.int .i64 (E'.1:Nat)) rfl (?_) u ?_
     . intro W c;obtain⟨s0,s1⟩:=c;go_simp
     refine ag 7 (.int .i64 ((z:Int)-(E'.1:Int))) rfl (?_) u ?_
     . intro W c;obtain⟨s0,s1⟩:=c;go_simp
     refine ag 9 (.int .i64 (f':Nat)) rfl (?_) u ?_
     . intro W c;obtain⟨s0,s1⟩:=c;go_simp
     refine ah 8 fun C d=>?_;go_simp;go_at_call 235;refine(pU _).mono ?_;rintro e x8⟨⟨g8,rfl,o8⟩,b8⟩;have l:Below xa.heap.size xa x8:=aj dv b8;have b9:=(o8.at rfl ac).1;rw[ae eg]at b9;have bl:=af (Out.kept c5 l);clear o8 b8;refine Shut.out d _ _ (R _ (ce l)) (fun em=>?_);clear d C;refine ah 10 fun C d=>?_;go_simp;refine Shut.out d _ _ (R _ (ce l)) (fun _=>?_);clear d C;refine ah 11 fun C d=>?_;go_simp;refine Shut.out d _ _ (R _ (ce l)) (fun _=>?_);clear d C;refine ah 12 fun C d=>?_;go_simp;go_at_call 197;refine(c8 _ (ae bl)).mono ?_;rintro e x9⟨rfl,h9,k9⟩;have I:=af (a0b h9 (((KB.refl b xa).below l (a0s (Out.lt c5))).trans k9));refine Shut.out d _ _ (R _ ((ce l).trans k9.2)) (fun _=>?_);clear d C h9 k9;refine wpAnyH_done (by kernel_rfl) ?_ _;have HX:=af (a0b (ae I).1 (a0b (dd.keep I.2.2) (ei.trans I.2)));clear I;go_wp2;go_roundw
     case rel=>exact⟨k+1,by omega,by go_num,by rw[ae O,ae a0,ae HE,←ae ch];exact HX.1,HX.2.1,HX.2.2⟩
     case measure=>simp[intOf];omega
   .
    obtain⟨q1,q2⟩:=sX Y;have ca:Hid (t.1.toNat<n):=by
     have:=G;unfold gR at this;rw[a0d Y,ae F]at this;exact this
    have a0:Hid (db L D t=[pcM L t.1.toNat]):=by show db L D t=_;unfold db;rw[a0d Y]
    have eb:t.2.1=0:=by unfold isB at Y;simp only[a0k,a0v]at Y;exact Y.1
    have hx:t.1=((t.1.toNat:Nat):Int):=by omega
    have j:=af (rU b P a (some ⟨g1,0,none⟩) cap n n t.1.toNat L _ ao F m.1.1.1 m.2.1.1.1 ca a3 (s _ (by rw[ae F];exact ca)).1 (s _ (by rw[ae F];exact ca)).2 (by have:=ae q;omega));rw[←hx]at j;generalize t.1.toNat=xN at *
    clear Y A G hx;obtain⟨tx,ty,tz⟩:=t;simp only at eb q1 q2 c0 c1 c2 j m N;subst eb;go_wp2_with fail;refine j.mono ?_;rintro e x7⟨rfl,h7,k7⟩;have HX:=af (a0b h7 (a0b (m.keep k7.2) (N.trans k7)));clear h7 k7 j;go_wp2;go_roundw
    case rel=>exact⟨k+1,by omega,by go_num,by rw[ae O,ae a0];exact HX.1,HX.2.1,HX.2.2⟩
    case measure=>simp[intOf];omega
  .
   obtain rfl:k=tn:=by have:=ae HK;omega
   have O:Hid (bh p (T.flatMap (db L D)++[pcM L 256])=bh (bh p ((T.take k).flatMap (db L D))) [pcM L 256]):=by
    show bh p _=_;rw[a0t (by rw[ae V];exact a0a _),bw]
   have q:Hid ((bh p ((T.take k).flatMap (db L D))).2<=80000):=by
    show _<=_;have h1:=mL L D (T.take k) p s U (fun t ht=>(bs t (a2l ht)).2);have h2:(T.take k).length<=k:=List.length_take_le _ _;have h3:=ae Hp;omega
   generalize bh p ((T.take k).flatMap (db L D))=P at *
   have j:=af (rU b P a (some ⟨g1,0,none⟩) cap n n 256 L _ HO F a1.1.1.1 a1.2.1.1.1 M a3 (s _ (by rw[ae F];exact M)).1 (s _ (by rw[ae F];exact M)).2 (by have:=ae q;omega));go_wp2_with fail;refine j.mono ?_;rintro e x7⟨rfl,h7,k7⟩;have HX:=af (a0b h7 (be.trans k7));clear h7 k7 j;go_wp2
   go_end0
   exact⟨rfl,by rw[ae O];exact HX.1,HX.2⟩
def I5(h:ap l=true)(b:k<l.length):pOk ((aW l 15).2.getD k 0) (l.getD k 0)=true:=by
 have hb:=nX (io h) b;rw[yW h b];by_cases a:1<=l.getD k 0
 . rw[a0d a];have:=(sC h b a).1;exact aT.2 ⟨⟨hb.1,by omega⟩,by omega,by omega⟩
 .
  rw[a0e a];have e:l.getD k 0=0:=by omega
  rw[e];decide
def ez(h:ap l=true):nP l:=by
 intro k a;have hb:=nX (io h) a;obtain⟨_,c0,c1⟩:=aT.1 (I5 h a);refine⟨hb,c0,?_⟩;have b:p2 (l.getD k 0).toNat<=p2 15:=a0P (by omega) (by omega);have h2:p2 15=32768:=by decide
 omega
def pn(h:ap l=true)(a:k<l.length):pcS l k=pcM l k:=by
 unfold pcS pcM;rw[I3 (I5 h a)]
def PN(b:ap L=true)(c:ap D=true){t:Tk}(a:gR L D t):pcT L D t=db L D t:=by
 unfold pcT db;unfold gR at a
 split
 . rename_i h;rw[a0d h]at a;rw[pn b a]
 . rename_i h;rw[a0e h]at a;rw[pn b a.1,pn c a.2]
def tV(c:ap L=true)(b:ap D=true)(T:List Tk)(a:∀t∈T,gR L D t):T.flatMap (pcT L D)=T.flatMap (db L D):=by
 induction T with
 | nil=>rfl
 | cons t r ih=>rw[a0W,a0W,PN c b (a t (by simp)),ih (fun x d=>a x (by simp[d]))]
def SD(gL:nP L)(gD:nP D){t:Tk}(c:okT t=true)(a:gR L D t):aZ (db L D t)=true:=by
 unfold db;unfold gR at a;unfold aZ
 split
 . rename_i h;rw[a0d h]at a;simp only[a19,a2Z,a26];exact qo (gL _ a).1
 .
  rename_i h;rw[a0e h]at a;have d:isK t=true:=by unfold okT at c;simp only[a1m]at c;rcases c with b|b;exact absurd b h;exact b
  obtain⟨y0,y1,z0,z1⟩:=wt d;simp only[a19,a2Z,a26,a0k];exact⟨qo (gL _ a.1).1,Fo _ (by omega) (by omega),qo (gD _ a.2).1,Fl _ (by omega) (by omega)⟩
def Dw(gL:nP L)(gD:nP D)(T:List Tk)(h:∀t∈T,okT t=true/\gR L D t):aZ (T.flatMap (db L D))=true/\(T.flatMap (db L D)).length<=4*T.length:=by
 induction T with
 | nil=>exact⟨rfl,by simp⟩
 | cons t r ih=>
  obtain⟨b,h2⟩:=ih (fun x e=>h x (by simp[e]));obtain⟨c,a⟩:=h t (by simp);have f:=(zI L D t gL gD a).2;refine⟨?_,by simp only[a0W,a0i,a0C];omega⟩;have d:=SD gL gD c a;unfold aZ at *
  rw[a0W,a18,d,b];rfl
def zY(L:List UInt8):∀n p,L.length-p<=n->∀t∈bq L p,okT t=true:=by
 intro n;induction n with
 | zero=>
  intro p b t a;rw[fu (by omega)]at a;cases a
 | succ n ih=>
  intro p b t a;by_cases h:p<L.length
  .
   rw[jp h]at a;rcases a02.1 a with rfl|a
   . exact vt L p
   . exact ih (p+jH L p) (by have:=(iM L p).1;omega) t a
  . rw[fu h]at a;cases a
def fE(s:ByteArray):∀t∈bq s.data.toList 0,okT t=true:=zY s.data.toList s.data.toList.length 0 (by omega)
def iR:List Int:=List.replicate 32 5
def jE:ap (cm 288)=true:=by decide +kernel
def nZ:ap iR=true:=by decide +kernel
def kE{t:Tk}(_:okT t=true):gR (cm 288) iR t:=by
 unfold gR
 split
 . rename_i hB;have:=sX hB;rw[dy];omega
 . have a:=iH 3 4 t.2.1.toNat 27;have h2:=iH 1 2 t.2.2.toNat 29;rw[dy];exact⟨by omega,by show _<(List.replicate 32 (5:Int)).length;rw[a0y];omega⟩
def iZ(s:ByteArray):List (Int×Int):=[(1,1),(1,2)]++((bq s.data.toList 0).flatMap (db (cm 288) iR)++[pcM (cm 288) 256])
def jJ(s:ByteArray)(b:s.size<=300):(bq s.data.toList 0).length<=300:=by
 have h2:=zX s.data.toList s.data.toList.length 0 (by omega);have a:s.data.toList.length=s.size:=by simp
 omega
def rf(s:ByteArray)(f:s.size<=300):lOk (iZ s)=true:=by
 obtain⟨b,h2⟩:=Dw (ez jE) (ez nZ) (bq s.data.toList 0) (fun t a=>⟨fE s t a,kE (fE s t a)⟩);have g:=jJ s f;have c:pOk (pcM (cm 288) 256).1 (pcM (cm 288) 256).2=true:=qo (ez jE 256 (by rw[dy];omega)).1;unfold lOk;have d:aZ (iZ s)=true:=by
  unfold iZ;unfold aZ at *
  rw[a18,a18,b];simp only[a19,a2Z,c];decide
 have e:(iZ s).length<=4000:=by unfold iZ;simp only[a0i,a0C,a0U];omega
 rw[d];simpa using e
def eJ(s:ByteArray):List UInt8:=cS (iZ s)
def D7(s:ByteArray)(w:World)(p:s.size<=300) :
  Ds 166 #[s] w (.string ⟨(eJ s).toArray⟩):=by
 have B:Hid (kZ (w.alloc (.cells #[.slice none 0 0,.int .i64 0,.int .i64 0] 277)) w.heap.size (0,0)):=BI w 277;have d:Hid (KB w.heap.size w (w.alloc (.cells #[.slice none 0 0,.int .i64 0,.int .i64 0] 277))):=(KB.refl _ _).below cC (a0a _);have r:=af p;have u:Hid (bh (bh (bh (0,0) [(1,1)]) [(1,2)]) ((bq s.data.toList 0).flatMap (db (cm 288) iR)++[pcM (cm 288) 256])=aV (iZ s)):=by
  show bh _ _=_;rw[←bw,←bw];rfl
 have H:Hid ((aV (iZ s)).2<=90000):=by
  show _<=_;rw[←ae u,bw];have N:=mL (cm 288) iR (bq s.data.toList 0) (bh (bh (0,0) [(1,1)]) [(1,2)]) (ez jE) (ez nZ) (fun t g=>kE (fE s t g));have h2:=eK (bh (bh (bh (0,0) [(1,1)]) [(1,2)]) ((bq s.data.toList 0).flatMap (db (cm 288) iR))) [pcM (cm 288) 256] (fun x D=>by simp only[a02,a1D,a1v]at D;subst D;have:=(ez jE 256 (by rw[dy];omega)).1.2;show(cm 288).getD 256 0<=16;omega);have O:=jJ s p;have P:(bh (bh (0,0) [(1,1)]) [(1,2)]).2=3:=rfl;simp only[a0C,a0U]at h2;omega
 clear p;go_enter func166,ntmps166;go_wp2_with fail;refine(fR _ _ 1 1 _ B (by decide) (by show(0:Nat)<=_;omega)).mono ?_;rintro e x1⟨rfl,o1,h⟩;have m:=af (a0b o1 (d.trans h));clear o1 h B d;go_wp2_with fail;refine(fR _ _ 1 2 _ m.1 (by decide) (by show(1:Nat)<=_;omega)).mono ?_;rintro e x2⟨rfl,o2,i⟩;have n:=af (a0b o2 (m.2.trans i));have a:Hid (w.heap.size<x2.heap.size):=Out.lt o2;clear o2 i m;go_wp2_with fail;refine(rt s _ (by have:=ae r;omega)).mono ?_;rintro e x3⟨v3,rfl,o3,z⟩;obtain⟨tn,htn⟩:∃tn,(bq s.data.toList 0).length=tn:=⟨_,rfl⟩;obtain⟨a3,c3,rfl⟩:=o3.formN htn;have N3:=af (KV htn o3 a);have j:=af z;clear o3 z;go_wp2_with fail;refine(ue _).mono ?_;rintro e x4⟨v4,rfl,o4,o⟩;obtain⟨a4,c4,rfl⟩:=o4.formN (dy 288);have N4:=af (gh (dy 288) o4 (a0h a j.size));have N3':=af (N3.keep (ce o));have k:=af (aj j o);clear o4 o N3 j;go_wp2_with fail;refine(ud _).mono ?_;rintro e x5⟨v5,rfl,o5,f⟩;have b:(List.replicate 32 (5:Int)).length=32:=a0y;obtain⟨a5,J,rfl⟩:=o5.formN b;have N5:=af (gh b o5 (a0h a k.size));have N3:=af (N3'.keep (ce f));have N4':=af (N4.below f);have l:=af (aj k f);have O5:=af (Out.kept n.1 l);have y:=af (n.2.below l (a0s a));have q:Hid ((tn:Int)<=300):=by show(tn:Int)<=300;have:=jJ s r;omega
 have c:=af (uy w.heap.size (bh (bh (0,0) [(1,1)]) [(1,2)]) a3 a4 a5 c3 tn c4 288 J 32 (bq s.data.toList 0) (cm 288) iR x5 O5 N3 N4' N5 htn (dy 288) b (by omega) (by omega) (ez jE) (ez nZ) (by omega) q (by show(3:Nat)<=10000;omega) (fun t g=>⟨fE s t g,kE (fE s t g)⟩));rw[ae u]at c;clear o5 f N3' N4 N5 k b htn;go_wp2_with fail;refine c.mono ?_;rintro e x6⟨rfl,o6,E⟩;have I:=af (y.trans E).1;have O6:=af o6;clear o6 E c N3 N4' O5 y l n;go_wp2_with fail;refine(nf _ _ _ _ O6 H).mono ?_;rintro e x7⟨rfl,K,A⟩;obtain⟨_,v,T,Y⟩:=K;have e8:8*(((aV (iZ s)).2+7)/8)/8=((aV (iZ s)).2+7)/8:=by omega
 rw[e8]at Y;have Y':Bys x7 w.heap.size v (eJ s):=Y;have M:=mD Y';have F:=af (I.trans A);obtain⟨k0,h,i,f0,f1,f2,L⟩:=T;clear Y Y' e8 h i A O6;generalize C:eJ s=R at *
 have G:=af C;clear C;go_wp2;go_ret;exact⟨by rw[ae G];rfl,F⟩
def mJ(s:ByteArray):List UInt8:=if s.size<=300 then eJ s else []
def KD(s:ByteArray):[(1,1),(1,2)]++((bq s.data.toList 0).flatMap (pcT (cm 288) iR)++[pcS (cm 288) 256])=iZ s:=by
 unfold iZ;rw[tV jE nZ _ (fun t a=>kE (fE s t a)),pn jE (by rw[dy];omega)]
def LY{base cap:Nat}{l:List (Int×Int)}(f:l.length=n)(h:Pcs w base (.slice a n cap) l)(d:0<n):∃g,a=some ⟨g,0,none⟩/\∀(j:Nat) (u:Value),(aY l)[j]?=some u->w.cell? ((⟨g,0,none⟩:Addr).add j)=some u:=by
 rcases h.2 with⟨_,e⟩|⟨g,b,c,e,_⟩
 . omega
 . simp only[a0L]at e;obtain⟨rfl,_,rfl⟩:=e;exact⟨g,rfl,a1F h rfl⟩
def yw(s:ByteArray)(w:World)(I:s.size<=300) :
  Ds 117 #[s] w (.string ⟨(eJ s).toArray⟩):=by
 obtain⟨i0,Z,N,O,P⟩:=a0p Tryz.infoPiece;have hI:¬ (300:Int)<(s.size:Int):=by omega
 have A:Hid ((w.alloc (.cells #[.int .i64 1,.int .i64 1,.int .i64 1,.int .i64 2] 167)).ownsRow w.heap.size 167 2 (.slice w.heap.size 2 2) 2 [.int .i64 1,.int .i64 1,.int .i64 1,.int .i64 2]):=a0S w #[.int .i64 1,.int .i64 1,.int .i64 1,.int .i64 2] 2 (a0a _) (by unfold maxLen;omega) rfl;have y:Hid (Below w.heap.size w (w.alloc (.cells #[.int .i64 1,.int .i64 1,.int .i64 1,.int .i64 2] 167))):=cC;have Y:=af I;have L:=af (KD s);have HP:Hid (pC (iZ s)=eJ s):=ee (rf s I);have n:Hid ((iZ s).length<=4000):=by
  have:=rf s I;unfold lOk at this;simp only[a0k,a0v]at this;exact this.2
 clear I;go_enter func117,ntmps117;go_wp2_with fail;refine(lK 1 w).mono ?_;rintro e x1⟨rfl,k⟩;have p:=af (show x1.ownsRow w.heap.size 167 2 (.slice w.heap.size 2 2) 2 [.int .i64 1,.int .i64 1,.int .i64 1,.int .i64 2] by rw[k];exact A);have o:=af (show Below w.heap.size w x1 by rw[k];exact y);clear k A y;go_wp2_with fail;refine(nO _).mono ?_;rintro e x2⟨⟨C,rfl,z⟩,f⟩;have r:=af (eR p f);have q:=af (aj o f);have l:=af z;clear z f p o;go_wp2_with fail;refine(xJ s _ (cm 288) iR C _ Y l (by rw[dy];omega) (by show(List.replicate 32 (5:Int)).length<=300;rw[a0y];omega) (by rw[dy];omega) (fun t ht=>kE (fE s t ht))).mono ?_;rintro e x3⟨v,rfl,i,h⟩;have x:=af (eR r h);have u:=af (aj q h);clear h r q l;generalize B:(bq s.data.toList 0).flatMap (pcT (cm 288) iR)++[pcS (cm 288) 256]=R at *
 have M:0<R.length:=by rw[←B];simp
 obtain⟨m,hm⟩:∃m,R.length=m:=⟨_,rfl⟩;obtain⟨va,vc,rfl⟩:∃a cap,v = .slice a m cap:=by
  rcases i.2 with⟨_,h0⟩|⟨g,cap,_,e,_⟩
  . omega
  . exact⟨_,cap,by rw[←hm];exact e⟩
 obtain⟨g3,rfl,G⟩:=LY hm i (by omega);have K:=af G;have S:=af hm;have T:Hid (2+m<=maxLen/\(2+m)*16<=140737488355328):=by
  show _/\_;have U:=ae n;rw[←ae L,a0i,hm]at U;unfold maxLen;simp only[a0C,a0U]at U;omega
 have F:=u.size;clear B M i G hm;go_wp2_with (at_builtin;refine a0w _ rfl _ _ 164 rfl w.heap.size 167 i0 (.agg #[.int .i64 0,.int .i64 0]) 2 16 a1C Z N O P rfl (by decide) (.slice w.heap.size 2 2) _ _ rfl x ⟨g3,0,none⟩ m vc (aY R) rfl (by rw[mX,ae S]) K (jg R) T.1 T.2 F ?_;intro v' x4 c b H;clear H);have W:([.int .i64 1,.int .i64 1,.int .i64 1,.int .i64 2]:List Value)++aY R=aY (iZ s):=by rw[←ae L,ft];rfl
 have V:2+m=(iZ s).length:=by rw[←ae L,a0i,ae S];rfl
 rw[W,V]at c;have d:Pcs x4 w.heap.size v' (iZ s):=c;obtain⟨a4,c4,rfl⟩:=d.form;have D:Below w.heap.size w x4:=u.grown b F (fun j hj=>(a0z x j hj).1);refine(ia a4 c4 (iZ s) _ d.row (by have:=ae n;omega)).mono ?_;rintro e x5⟨rfl,E⟩;rw[ae HP];have J:=af (aj D E);clear W V c d D E b;generalize B:eJ s=Q at *
 have X:=af B;clear B;go_wp2;go_ret;exact⟨by rw[ae X];rfl,J⟩
def sQ(s:ByteArray)(w:World)(c:s.size<=1048576) :
  Ds 117 #[s] w (.string ⟨(mJ s).toArray⟩):=by
 by_cases h:s.size<=300
 . have a:Hid (mJ s=eJ s):=a0d h;rw[ae a];exact yw s w h
 .
  have b:(300:Int)<(s.size:Int):=by omega
  have a:Hid (mJ s=[]):=a0e h;clear h;go_enter func117,ntmps117;go_wp2;go_ret;exact⟨by rw[ae a];rfl,a0c _ _⟩
def byS(s:ByteArray):ByteArray:=⟨(gJ s.data.toList).toArray⟩
def byF(s:ByteArray):ByteArray:=⟨(mJ s).toArray⟩
def Cw(s:ByteArray)(h:¬ s.size<=300):byS s=⟨#[]⟩:=by
 have:gJ s.data.toList=[]:=by unfold gJ;rw[a0e (by rw[kv];exact h)]
 unfold byS;rw[this]
def Cu(s:ByteArray)(h:¬ s.size<=300):byF s=⟨#[]⟩:=by unfold byF mJ;rw[a0e h]
def inc(o:List Int)(k:Nat):List Int:=o.set k (o.getD k 0+1)
def ii(o:List Int)(s:List Nat):List Int:=s.foldl inc o
def ko(o:List Int)(k:Nat):(inc o k).length=o.length:=by simp[inc]
def fm(o:List Int)(s:List Nat):(ii o s).length=o.length:=by
 induction s generalizing o with
 | nil=>rfl
 | cons x s ih=>show(ii (inc o x) s).length=_;rw[ih,ko]
def jb(o:List Int)(s:List Nat)(x:Nat):ii o (s++[x])=inc (ii o s) x:=by simp[ii]
def mQ(o:List Int)(k j:Nat):(inc o k).getD j 0=o.getD j 0+(if j=k/\k<o.length then 1 else 0):=by
 unfold inc;simp only[List.getD_eq_getElem?_getD,List.getElem?_set];by_cases h:k=j
 .
  subst h;by_cases a:k<o.length
  . simp[a]
  . simp[a]
 . have:¬ j=k:=fun e=>h e.symm;simp[h,this]
def mg(o:List Int)(s:List Nat)(j:Nat):(ii o s).getD j 0=o.getD j 0+(if j<o.length then(s.count j:Int)else 0):=by
 induction s generalizing o with
 | nil=>simp[ii]
 | cons x s ih=>
  show(ii (inc o x) s).getD j 0=_;rw[ih,mQ,ko,List.count_cons];by_cases h:j=x
  .
   subst h;by_cases a:j<o.length
   . simp[a];omega
   . simp[a]
  .
   have:(x == j)=false:=by simp;exact fun e=>h e.symm
   simp[h,this]
def Lm{a b:List Int}(d:a.length=b.length)(h:∀j,j<a.length->a.getD j 0=b.getD j 0):a=b:=by
 apply a2k d;intro i c h2;have:=h i c;simpa[List.getD,c,h2]using this
def js(n j:Nat):(List.replicate n (0:Int)).getD j 0=0:=by
 by_cases h:j<n<;>simp[List.getD,h]
def Ce   (hk : k < l.length) (h : 0 < l.getD k 0) : 1 ≤ us l := by
  induction l generalizing k with
  | nil => simp at hk
  | cons b l ih =>
    simp only [us, a0D, a0N] at ih ⊢
    cases k with
    | zero => have : 0 < b := by simpa using h
              rw [a0d this]; omega
    | succ k => have := ih (k := k) (by simpa using hk) (by simpa using h); omega
def JO(h:us l=0)(k:Nat)(a:k<l.length):¬ 0<l.getD k 0:=fun b=>by have:=Ce a b;omega
def jG(t:Tk):Nat:=if isB t then t.1.toNat else 257+fnd 3 4 t.2.1.toNat 27
def fg(t:Tk):List Nat:=if isB t then []else [fnd 1 2 t.2.2.toNat 29]
def Sj{t:Tk}(_:okT t=true):jG t<286:=by
 unfold jG
 split
 . rename_i hB;have:=sX hB;omega
 . have:=iH 3 4 t.2.1.toNat 27;omega
def NF{t:Tk} : ∀x∈fg t,x<30:=by
 unfold fg;intro x a
 split at a
 . simp at a
 . have:=iH 1 2 t.2.2.toNat 29;simp at a;omega
def gW(T:List Tk):List Int:=inc (ii (List.replicate 286 0) (T.map jG)) 256
def gu(T:List Tk):List Int:=ii (List.replicate 30 0) (T.flatMap fg)
def cW(T:List Tk):List Int:=if us (gu T)=0 then inc (gu T) 0 else gu T
def fL(T:List Tk):(gW T).length=286:=by unfold gW;rw[ko,fm,a0y]
def ge(T:List Tk):(gu T).length=30:=by unfold gu;rw[fm,a0y]
def gg(T:List Tk):(cW T).length=30:=by unfold cW;split;rw[ko,ge];exact ge T
def ry(T:List Tk)(j:Nat)(a:j<286):(gW T).getD j 0=((T.map jG).count j:Int)+(if j=256 then 1 else 0):=by
 unfold gW;rw[mQ,mg,fm,a0y,js,a0d a];by_cases h:j=256<;>simp[h]
def sG(T:List Tk)(j:Nat)(a:j<30):(gu T).getD j 0=((T.flatMap fg).count j:Int):=by
 unfold gu;rw[mg,a0y,js,a0d a];simp
def Hi(T:List Tk):ii (inc (List.replicate 286 0) 256) (T.map jG)=gW T:=by
 apply Lm
 . rw[fm,ko,fL,a0y]
 . intro j a;rw[fm,ko,a0y]at a;rw[ry T j a,mg,mQ,ko,a0y,js,a0d a];by_cases h:j=256<;>simp[h];omega
def vV(T:List Tk):(T.flatMap fg).length<=T.length:=by
 induction T with
 | nil=>simp
 | cons t r ih=>
  have:(fg t).length<=1:=by unfold fg;split<;>simp
  simp only[a0W,a0i,a0C];omega
def Bt(T:List Tk)(c:T.length<=300):okC (gW T):=by
 intro i a;rw[fL]at a;rw[ry T i a];have b:(T.map jG).count i<=(T.map jG).length:=a3r;rw[a0O]at b
 split<;>omega
def NE(T:List Tk)(c:T.length<=300):∀i,i<30->0<=(gu T).getD i 0/\(gu T).getD i 0<=300:=by
 intro i a;rw[sG T i a];have b:(T.flatMap fg).count i<=(T.flatMap fg).length:=a3r;have h2:=vV T;omega
def vR(T:List Tk)(b:T.length<=300):okC (cW T):=by
 intro i a;rw[gg]at a;have:=NE T b i a;unfold cW
 split
 . rw[mQ];split<;>omega
 . omega
def Bu(T:List Tk):1<=us (gW T)/\us (gW T)<=286:=by
 refine⟨Ce (k:=256) (by rw[fL];omega) ?_,by have:=uD (gW T);rw[fL]at this;exact this⟩;rw[ry T 256 (by omega),a0d rfl];omega
def vS(T:List Tk):1<=us (cW T)/\us (cW T)<=30:=by
 refine⟨?_,by have:=uD (cW T);rw[gg]at this;exact this⟩;unfold cW
 split
 . rename_i h;refine Ce (k:=0) (by rw[ko,ge];omega) ?_;rw[mQ,sG T 0 (by omega),ge,a0d (by omega)];omega
 . omega
def Ko(T:List Tk)(j:Nat)(h:0<(gu T).getD j 0):0<(cW T).getD j 0:=by
 unfold cW
 split
 . rw[mQ];split<;>omega
 . exact h
def eW(l:List Int)(least:Nat):Nat->Nat
 | 0=>0
 | n+1=>if least<n+1/\l.getD n 0=0 then eW l least n else n+1
def px(l:List Int)(least:Nat):List Int:=l.take (eW l least l.length)
def sF{least:Nat}(h:least<n+1/\l.getD n 0=0):eW l least (n+1)=eW l least n:=by simp only[eW];rw[a0d h]
def oN{least:Nat}(h:¬ (least<n/\l.getD (n-1) 0=0)):eW l least n=n:=by
 cases n with
 | zero=>rfl
 | succ n=>rw[a3S]at h;simp only[eW];rw[a0e h]
def vd(l:List Int)(least n:Nat):eW l least n<=n:=by
 induction n with
 | zero=>exact a0a _
 | succ n ih=>simp only[eW];split<;>omega
def vQ (l : List Int) (least n : Nat) (h : least ≤ n) : least ≤ eW l least n := by
  induction n with
  | zero => exact h
  | succ n ih => simp only [eW]; split
                 . exact ih (by omega)
                 . exact h
def yX(l:List Int)(least n j:Nat)(a:eW l least n<=j)(h2:j<n):l.getD j 0=0:=by
 induction n with
 | zero=>omega
 | succ n ih=>
  by_cases b:least<n+1/\l.getD n 0=0
  .
   rw[sF b]at a;by_cases e:j=n
   . subst e;exact b.2
   . exact ih a (by omega)
  . simp only[eW]at a;rw[a0e b]at a;omega
def jz(l:List Int)(least:Nat):(px l least).length=eW l least l.length:=by
 unfold px;rw[a0u];have:=vd l least l.length;omega
def Qv(l:List Int)(c j:Nat)(h:j<c):(l.take c).getD j 0=l.getD j 0:=by
 simp[List.getD,h]
def Dc(l:List Int)(least j:Nat)(h:j<l.length):(px l least).getD j 0=l.getD j 0:=by
 by_cases a:j<eW l least l.length
 . exact Qv l _ j a
 .
  rw[yX l least l.length j (by omega) h];have:(px l least).length<=j:=by rw[jz];omega
  simp[List.getD,this]
def MG(h:∀x∈l,x=0):kr l=0/\us l=0:=by
 induction l with
 | nil=>exact⟨rfl,rfl⟩
 | cons b l ih=>
  obtain⟨a,h2⟩:=ih (fun x c=>h x (by simp[c]));have hb:b=0:=h b (by simp);subst hb;simp only[kr,us,a0D,a0N]at a h2 ⊢;rw[a,h2];exact⟨rfl,rfl⟩
def Nz(l:List Int)(least:Nat):kr (px l least)=kr l/\us (px l least)=us l:=by
 have h:∀x∈l.drop (eW l least l.length),x=0:=by
  intro x c;obtain⟨i,b,rfl⟩:=List.mem_iff_getElem.1 c;rw[List.getElem_drop];rw[a04]at b;have:=yX l least l.length (eW l least l.length+i) (by omega) (by omega);have a:eW l least l.length+i<l.length:=by omega
  simpa[List.getD,a]using this
 obtain⟨d,h2⟩:=MG h;have e:l=px l least++l.drop (eW l least l.length):=(a1z _ _).symm;have f:kr l=kr (px l least)+kr (l.drop (eW l least l.length)):=by
  conv=>lhs;rw[e]
  simp[kr]
 have g:us l=us (px l least)+us (l.drop (eW l least l.length)):=by
  conv=>lhs;rw[e]
  simp[us]
 omega
def wP(least:Nat)(h:ap l=true):ap (px l least)=true:=by
 obtain⟨b,h2⟩:=Nz l least;unfold ap nd at h ⊢;rw[b,h2];simp only[a0k,a0v]at h ⊢;obtain⟨⟨a,hb⟩,c⟩:=h;refine⟨⟨?_,by rw[jz];have:=vd l least l.length;omega⟩,c⟩;unfold inL at a ⊢;rw[a1c]at a ⊢;intro x d;exact a x (a2l d)
def bQ(T:List Tk):List Int:=px (dL 15 (gW T)) 257
def cM(T:List Tk):List Int:=px (dL 15 (cW T)) 1
def EU:p2 14=16384:=by decide
def Un:p2 6=64:=by decide
def OO(T:List Tk)(a:T.length<=300):(dL 15 (gW T)).length=286/\ap (dL 15 (gW T))=true/\∀i,i<286->0<=(dL 15 (gW T)).getD i 0/\(dL 15 (gW T)).getD i 0<=15/\(0<(dL 15 (gW T)).getD i 0<->0<(gW T).getD i 0):=by
 have b:=Bu T;have h:=wS (m:=14) (Bt T a) (by rw[fL];omega) (by rw[fT];omega) (by rw[fT];have h2:=EU;omega) (by omega);rw[fL]at h;exact h
def Dg(T:List Tk)(a:T.length<=300):(dL 15 (cW T)).length=30/\ap (dL 15 (cW T))=true/\∀i,i<30->0<=(dL 15 (cW T)).getD i 0/\(dL 15 (cW T)).getD i 0<=15/\(0<(dL 15 (cW T)).getD i 0<->0<(cW T).getD i 0):=by
 have b:=vS T;have h:=wS (m:=14) (vR T a) (by rw[gg];omega) (by rw[fT];omega) (by rw[fT];have h2:=EU;omega) (by omega);rw[gg]at h;exact h
def kO(T:List Tk)(b:T.length<=300):257<=(bQ T).length/\(bQ T).length<=286:=by
 obtain⟨a,_,_⟩:=OO T b;unfold bQ;rw[jz,a];exact⟨vQ _ _ _ (by omega),vd _ _ _⟩
def mr(T:List Tk)(b:T.length<=300):1<=(cM T).length/\(cM T).length<=30:=by
 obtain⟨a,_,_⟩:=Dg T b;unfold cM;rw[jz,a];exact⟨vQ _ _ _ (by omega),vd _ _ _⟩
def ib(T:List Tk)(a:T.length<=300):ap (bQ T)=true:=wP 257 (OO T a).2.1
def jw(T:List Tk)(a:T.length<=300):ap (cM T)=true:=wP 1 (Dg T a).2.1
def GI{j:Nat}(h:0<l.getD j 0):j<l.length:=by
 rcases a1o j l.length with a|a
 . exact a
 . simp[List.getD,a]at h
def EO(T:List Tk)(d:T.length<=300)(k:Nat)(b:k=256∨k∈T.map jG)(a:k<286):0<(bQ T).getD k 0:=by
 obtain⟨e,_,c⟩:=OO T d;unfold bQ;rw[Dc _ _ _ (by omega)];refine(c k a).2.2.2 ?_;rw[ry T k a];rcases b with rfl|b
 . rw[a0d rfl];omega
 .
  have:=List.count_pos_iff.2 b
  split<;>omega
def Pu(T:List Tk)(c:T.length<=300)(k:Nat)(d:k∈T.flatMap fg)(a:k<30):0<(cM T).getD k 0:=by
 obtain⟨e,_,b⟩:=Dg T c;unfold cM;rw[Dc _ _ _ (by omega)];refine(b k a).2.2.2 (Ko T k ?_);rw[sG T k a];have:=List.count_pos_iff.2 d;omega
def Jt(T:List Tk)(c:T.length<=300)(a:∀t∈T,okT t=true)(t:Tk)(b:t∈T):0<(bQ T).getD (jG t) 0/\∀k∈fg t,0<(cM T).getD k 0:=by
 refine⟨EO T c _ (.inr (a2I b)) (Sj (a t b)),fun k d=>Pu T c k ?_ (NF k d)⟩;exact List.mem_flatMap.2 ⟨t,b,d⟩
def oj(T:List Tk)(c:T.length<=300)(b:∀t∈T,okT t=true)(t:Tk)(d:t∈T):gR (bQ T) (cM T) t:=by
 obtain⟨a,h2⟩:=Jt T c b t d;unfold gR;unfold jG at a;unfold fg at h2
 split
 . rename_i h;rw[a0d h]at a;exact GI a
 . rename_i h;rw[a0e h]at a h2;exact⟨GI a,GI (h2 _ (by simp))⟩
def pW(A:List Int):List Int:=ii (List.replicate 19 0) (A.map Int.toNat)
def aQ(A:List Int):List Int:=dL 7 (pW A)
def gO(A:List Int):(pW A).length=19:=by unfold pW;rw[fm,a0y]
def vO(A:List Int)(j:Nat)(a:j<19):(pW A).getD j 0=((A.map Int.toNat).count j:Int):=by
 unfold pW;rw[mg,a0y,js,a0d a];simp
def Av(A:List Int)(c:A.length<=400):okC (pW A):=by
 intro i a;rw[gO]at a;rw[vO A i a];have b:(A.map Int.toNat).count i<=(A.map Int.toNat).length:=a3r;rw[a0O]at b;omega
def Aw(A:List Int)(a:0<A.length)(b:∀x∈A,0<=x/\x<=15):1<=us (pW A)/\us (pW A)<=19:=by
 refine⟨?_,by have:=uD (pW A);rw[gO]at this;exact this⟩;have c:=b A[0] (a2g a);refine Ce (k:=(A[0]).toNat) (by rw[gO];omega) ?_;rw[vO A _ (by omega)];have:=List.count_pos_iff.2 (a2I (f:=Int.toNat) (a2g a));omega
def wO(A:List Int)(a:0<A.length)(b:A.length<=400)(c:∀x∈A,0<=x/\x<=15):(aQ A).length=19/\ap (aQ A)=true/\∀i,i<19->0<=(aQ A).getD i 0/\(aQ A).getD i 0<=7/\(0<(aQ A).getD i 0<->0<(pW A).getD i 0):=by
 have d:=Aw A a c;have h:=wS (m:=6) (Av A b) (by rw[gO];omega) (by rw[fT];omega) (by rw[fT];have h2:=Un;omega) (by omega);rw[gO]at h;exact h
def Lh(A:List Int)(c:0<A.length)(d:A.length<=400)(a:∀x∈A,0<=x/\x<=15)(x:Int)(b:x∈A):0<(aQ A).getD x.toNat 0:=by
 have e:=a x b;refine((wO A c d a).2.2 x.toNat (by omega)).2.2.2 ?_;rw[vO A _ (by omega)];have:=List.count_pos_iff.2 (a2I (f:=Int.toNat) b);omega
def dG(L D:List Int):List (Int×Int):=
 [((L.length:Int)-257,5),((D.length:Int)-1,5),(15,4)]++(bK.map (fun i=>((aQ (L++D)).getD i 0,(3:Int)))++(L++D).map (fun x=>pcM (aQ (L++D)) x.toNat))
def jS(T:List Tk):List (Int×Int):=[(1,1),(2,2)]++(dG (bQ T) (cM T)++(T.flatMap (db (bQ T) (cM T))++[pcM (bQ T) 256]))
def ln(h:ap l=true):∀x∈l,0<=x/\x<=15:=by
 intro x b;obtain⟨i,a,rfl⟩:=List.mem_iff_getElem.1 b;have:=nX (io h) a;simpa[List.getD,a]using this
def FG(g:ap L=true)(f:ap D=true)(l0:257<=L.length)(l1:L.length<=286)(m:1<=D.length)(n:D.length<=30):aZ (dG L D)=true/\(dG L D).length<=338:=by
 have c:∀x∈L++D,0<=x/\x<=15:=by
  intro x b;rcases a03.1 b with h|h
  . exact ln g x h
  . exact ln f x h
 obtain⟨d,h2,e⟩:=wO (L++D) (by rw[a0i];omega) (by rw[a0i];omega) c;refine⟨?_,?_⟩
 .
  unfold dG aZ;rw[a18,a18];simp only[a0k];refine⟨?_,?_,?_⟩
  .
   simp only[a19,a2Z,a26,a0k];refine⟨aT.2 ⟨by omega,by omega,?_⟩,aT.2 ⟨by omega,by omega,?_⟩,by decide⟩
   .
    have:p2 (5:Int).toNat=32:=by decide
    rw[this];omega
   .
    have:p2 (5:Int).toNat=32:=by decide
    rw[this];omega
  .
   rw[a1c];intro x b;obtain⟨i,j,rfl⟩:=a2S.1 b;have a:i<19:=by
    have:∀i∈bK,i<19:=by decide
    exact this i j
   have:=e i a;refine aT.2 ⟨by omega,this.1,?_⟩;have:p2 (3:Int).toNat=8:=by decide
   rw[this];omega
  . rw[a1c];intro x b;obtain⟨y,k,rfl⟩:=a2S.1 b;have l:=c y k;exact qo (nX (io h2) (by rw[d];omega))
 . unfold dG;simp only[a0i,a0O,a0C,a0U];have:bK.length=19:=rfl;omega
def vq(T:List Tk)(a:T.length<=300)(b:∀t∈T,okT t=true):lOk (jS T)=true:=by
 have gL:=ez (ib T a);have gD:=ez (jw T a);obtain⟨l0,l1⟩:=kO T a;obtain⟨d,e⟩:=mr T a;obtain⟨f,h2⟩:=Dw gL gD T (fun t c=>⟨b t c,oj T a b t c⟩);obtain⟨t1,t2⟩:=FG (ib T a) (jw T a) l0 l1 d e;have g:pOk (pcM (bQ T) 256).1 (pcM (bQ T) 256).2=true:=qo (gL 256 (by omega)).1;unfold lOk;have h:aZ (jS T)=true:=by
  unfold jS;unfold aZ at *
  rw[a18,a18,a18,f,t1];simp only[a19,a2Z,g];decide
 have i:(jS T).length<=4000:=by unfold jS;simp only[a0i,a0C,a0U];omega
 rw[h];simpa using i
def nt(s:ByteArray):List UInt8:=cS (jS (bq s.data.toList 0))
def ug(g o:Nat)(cap n least:Nat)(l:List Int)(w:World)(G:l.length=n)(h:∀i,i<n->w.cell? ⟨g,o+i,none⟩=some (.int .i64 (l.getD i 0)))(v:n<=cap)(E:n<=300)(D:least<=n) :
  Calls prog 151 #[.slice (some ⟨g,o,none⟩) n cap,least] w fun e w'=>e = .returned (.slice (some ⟨g,o,none⟩) (eW l least n) cap)/\w'=w:=by
 have A:(n:Int)<=(cap:Int):=by omega
 have F:(n:Int)<=300:=by omega
 have H:=af h;clear h G v E D;go_enter func151,ntmps151;go_wp2
 go_loop [5] (fun x=>∃k:Nat,k<=n/\x = .int .i64 k/\eW l least n=eW l least k) (fun x=>(intOf x).toNat)
 case atStart=>exact⟨n,a0a _,rfl,rfl⟩
 case round=>
  obtain⟨k,q,rfl,c⟩:=hrel;have f:=af c;have p:=af q;have C:(k:Int)<=(n:Int):=by omega
  clear c q;by_cases b:least<k
  .
   have r:decide ((least:Int)<(k:Int))=true:=a0B (by omega);have d:(least:Int)<(k:Int):=by omega
   obtain⟨j,hj⟩:∃j,k=j+1:=⟨k-1,by omega⟩;subst hj;have z:=ae H j (by have:=ae p;omega);have J:=af (fun h=>sF (l:=l) (least:=least) (n:=j) h);have I:=af (fun h=>oN (l:=l) (least:=least) (n:=j+1) h);have B:(j:Int)<(n:Int):=by omega
   generalize s:l.getD j 0=y at *
   have u:=af s;clear s;by_cases m:y=0
   .
    subst m;have a:Hid (eW l least n=eW l least j):=f.trans (J ⟨b,rfl⟩);have t:Hid (j<=n):=by show j<=n;have:=ae p;omega
    clear b;go_wp2
    go_round
    case rel=>exact⟨j,t,by go_num,a⟩
    case measure=>simp[intOf]
   .
    have K:(y == 0)=false:=by simpa using m
    have a:Hid (eW l least n=j+1):=f.trans (I (by rw[a3S,ae u];exact fun h=>m h.2));clear b;go_wp2;go_ret;exact⟨by rw[ae a];rfl,rfl⟩
  .
   have d:¬ (least:Int)<(k:Int):=by omega
   have a:Hid (eW l least n=k):=f.trans (oN (fun h=>b h.1));clear b;go_wp2;go_ret;exact⟨by rw[ae a];rfl,rfl⟩
def wJ(g o:Nat)(cap n least:Nat)(l:List Int)(w:World)(G:l.length=n)(h:∀i,i<n->w.cell? ⟨g,o+i,none⟩=some (.int .i64 (l.getD i 0)))(v:n<=cap)(E:n<=300)(D:least<=n) :
  Calls prog 204 #[.slice (some ⟨g,o,none⟩) n cap,least] w fun e w'=>e = .returned (.slice (some ⟨g,o,none⟩) (eW l least n) cap)/\w'=w:=by
 have A:(n:Int)<=(cap:Int):=by omega
 have F:(n:Int)<=300:=by omega
 have H:=af h;clear h G v E D;go_enter func204,ntmps204;go_wp2
 go_loop [5] (fun x=>∃k:Nat,k<=n/\x = .int .i64 k/\eW l least n=eW l least k) (fun x=>(intOf x).toNat)
 case atStart=>exact⟨n,a0a _,rfl,rfl⟩
 case round=>
  obtain⟨k,q,rfl,c⟩:=hrel;have f:=af c;have p:=af q;have C:(k:Int)<=(n:Int):=by omega
  clear c q;by_cases b:least<k
  .
   have r:decide ((least:Int)<(k:Int))=true:=a0B (by omega);have d:(least:Int)<(k:Int):=by omega
   obtain⟨j,hj⟩:∃j,k=j+1:=⟨k-1,by omega⟩;subst hj;have z:=ae H j (by have:=ae p;omega);have J:=af (fun h=>sF (l:=l) (least:=least) (n:=j) h);have I:=af (fun h=>oN (l:=l) (least:=least) (n:=j+1) h);have B:(j:Int)<(n:Int):=by omega
   generalize s:l.getD j 0=y at *
   have u:=af s;clear s;by_cases m:y=0
   .
    subst m;have a:Hid (eW l least n=eW l least j):=f.trans (J ⟨b,rfl⟩);have t:Hid (j<=n):=by show j<=n;have:=ae p;omega
    clear b;go_wp2
    go_round
    case rel=>exact⟨j,t,by go_num,a⟩
    case measure=>simp[intOf]
   .
    have K:(y == 0)=false:=by simpa using m
    have a:Hid (eW l least n=j+1):=f.trans (I (by rw[a3S,ae u];exact fun h=>m h.2));clear b;go_wp2;go_ret;exact⟨by rw[ae a];rfl,rfl⟩
  .
   have d:¬ (least:Int)<(k:Int):=by omega
   have a:Hid (eW l least n=k):=f.trans (oN (fun h=>b h.1));clear b;go_wp2;go_ret;exact⟨by rw[ae a];rfl,rfl⟩
def Tryz.infoLenK:(prog.info? 258).map (·.size)=some 19:=by kernel_rfl
def Ef(a:Option Addr)(cap n base:Nat)(l:List Int)(w:World)(b:l.length=n)(h:de w base a l)(g:base<=w.heap.size)(f:n<=300) :
  Calls prog 186 #[.slice a n cap] w fun e w'=>(∃C,e = .returned (.agg C)/\cf w' base l C)/\Below w.heap.size w w':=by
 refine(Bkx.codeBook_any Bkx.bkN (.inr (.inr rfl)) a cap n l w b h.1 f).mono ?_;rintro e w'⟨vs,C,rfl,d,c,h2,hb⟩;obtain⟨q,sc,rfl⟩:=h2.form;subst b;exact⟨⟨C,rfl,a,cap,_,_,q,sc,d,h.later hb,(bX (bJ l 15) (c.own (bJ l 15))).mono (by omega),(bX rfl h2).mono (by omega)⟩,hb⟩
def Ha(k:Nat)(l:List Int)(C:Array Value)(base:Nat)(w:World)(d:cf w base l C)(f:k<l.length)(g:l.length<=300) :
  Ds 188 #[.agg C,.int .i64 (k:Int)] w (.agg #[.int .i64 (btI ((aW l 15).2.getD k 0) (l.getD k 0)),.int .i64 (l.getD k 0)]):=by
 obtain⟨a,cap,ac,b,q,sc,e,c,h2,h⟩:=d;exact Bkx.bookPut_any Bkx.bkN (.inr (.inr rfl)) a ac cap l.length b k _ _ C l (aW l 15).2 w e rfl (bJ l 15) c.1 h2.1 f g
def vA(w:World)(b base:Nat)(l:List Int)(C:Array Value):Prop:=cf w base l C/\w.rangeAt b 0 C.toList/\b<w.heap.size
def vA.later{base:Nat}{C:Array Value}(h:vA w b base l C)(hb:Below w.heap.size w w'):vA w' b base l C:=
 ⟨h.1.later hb,lu h.2.1 hb h.2.2,a0h h.2.2 hb.size⟩
def FF(k b base:Nat)(l:List Int)(C:Array Value)(w:World)(d:vA w b base l C)(h:k<l.length)(i:l.length<=300) :
  Ds 187 #[.int .i64 (k:Int),.pointer b] w (.agg #[.int .i64 (pcS l k).1,.int .i64 (pcS l k).2]):=by
 have c:Below w.heap.size w (w.alloc (.cells #[.int .i64 0,.int .i64 0] 167)):=cC;have j:=af c;have m:=af (d.later c).2.1;have n:=af d.1.size;have HP:=af (Ha k l C base _ (d.later c).1 h i);have f:Hid (pcS l k=(btI ((aW l 15).2.getD k 0) (l.getD k 0),l.getD k 0)):=rfl;generalize btI ((aW l 15).2.getD k 0) (l.getD k 0)=u at *
 generalize l.getD k 0=v at *
 clear d h i c;go_enter func187,ntmps187;go_wp2_with (first
  | (refine br rfl 258 (.tmp 1) rfl b 0 rfl C _ m a3j rfl (by rw[ae n];exact Tryz.infoLenK) ?_)
  | (go_at_call 188;refine HP.mono ?_;rintro e x1⟨rfl,a⟩;have g:=ww a;obtain⟨m0,m1,_⟩:=ea g;obtain⟨n0,n1⟩:=oZ g))
 have o:=sY g (.int .i64 u) (.int .i64 v);obtain⟨p,q,_⟩:=ea o;refine a0x (v:=.agg #[u,v]) (by simp[results,results187,go_sem,p,q]) rfl ⟨by rw[ae f],?_⟩;exact ai (ai (aj j a) (a0a _) _) (a0a _) _
def jY(l:List Int)(t:List Int):List (Int×Int):=t.map fun x=>pcS l x.toNat
def Hh(l t:List Int)(k:Nat)(h:k<t.length):jY l (t.take (k+1))=jY l (t.take k)++[pcS l (t.getD k 0).toNat]:=by
 unfold jY;rw[cN t k h,a0K];rfl
def Kr(a:Option Addr)(cap n b base:Nat)(t l:List Int)(C:Array Value)(w:World)(P:t.length=n)(h:bE w a t)(O:n<=1000)(L:vA w b base l C)(N:l.length<=300)(m:∀i,i<t.length->0<=t.getD i 0/\t.getD i 0<(l.length:Int)) :
  Calls prog 133 #[.slice a n cap,.func (.func 187) #[] #[.pointer b]] w fun e w'=>∃v,e = .returned v/\Pcs w' w.heap.size v (jY l t)/\Below w.heap.size w w':=by
 have aa:(n:Int)<=1000:=by omega
 have A:=af P;have V:=af O;have U:=af N;have Q:=af m;have S:=af L;clear P O m N L;obtain⟨i0,hi,I,J,K⟩:=a0p Tryz.infoPiece;go_enter func133,ntmps133;go_wp2_with fail
 go_loopw [5,7,10] (fun o _ i wr=>∃k:Nat,k<=n/\i = .int .i64 k/\Pcs wr w.heap.size o (jY l (t.take k))/\Below w.heap.size w wr) (fun _ _ i _=>n-(intOf i).toNat)
 case atStart=>exact⟨0,a0g _,rfl,a1b _ _ _ _,a0c _ _⟩
 case round=>
  obtain⟨k,M,rfl,hq,c⟩:=hrel;have Z:=c.size;by_cases x:k<n
  .
   obtain⟨g,o,rfl,hg,B⟩:=(h.later c) (by rw[ae A];omega);have c0:=B k (by rw[ae A];exact x);have F:=af (Hh l t k (by rw[ae A];exact x));have H:Hid ((jY l (t.take k)).length=k):=by show(jY l (t.take k)).length=k;unfold jY;have:=ae A;simp;omega
   obtain⟨y0,y1⟩:=ae Q k (by rw[ae A];exact x);have T:=af M;clear B M h;generalize t.getD k 0=y at *
   obtain⟨q,rfl⟩:=a0r y0;rw[a0n]at F;have HP:=af (FF q b base l C wr (S.later c) (by omega) U);generalize Y:pcS l q=R at *
   clear Y;obtain⟨W,X⟩:=R;go_wp2_with fail;refine HP.mono ?_;rintro e x1⟨rfl,u⟩;have z:=Pcs.later hq u (a0a _);have d:=aj c u;have p:=d.size;have j:Hid ((jY l (t.take k)).length+1<=maxLen/\((jY l (t.take k)).length+1)*16<=140737488355328):=by
    show _/\_;rw[ae H];have:=ae V;unfold maxLen;omega
   clear hq c u HP;go_wp2_with (at_builtin;refine a0w _ rfl _ _ 164 rfl w.heap.size 167 i0 (.agg #[.int .i64 0,.int .i64 0]) 2 16 a1C hi I J K rfl (by decide) _ _ _ rfl (a0o z _) ⟨x1.heap.size,0,none⟩ 1 1 [.int .i64 W,.int .i64 X] rfl rfl (vv x1 _ _ _) (vu _ _) j.1 j.2 (ar p _) ?_;intro v' x2 s f D;clear D);have G:=aH (v:=u5) f z (a0a _) p d;have E:=ot s;rw[←ae F]at E;clear s f z;go_wp2;go_roundw
   case rel=>exact⟨k+1,by have:=ae T;omega,by go_num,E,G⟩
   case measure=>simp[intOf];omega
  . have r:t.take k=t:=a0t (by rw[ae A];omega);rw[r]at hq;obtain⟨va,vc,rfl⟩:=hq.form;clear r h;go_wp2;go_ret;exact⟨_,rfl,hq,c⟩
end Go.Proofs.YtfannoajibacnaaGreatDoor
namespace Go.Proofs.YtfannoajibacnaaGreatDoor
open Go.Proofs.Tryz
open Go.RowKit Go.Shelf Corb
variable {W W' w:World}{b g n n₀:Nat}{l:List Int}{r10 r11:Option Nat}{r4 r5:Option (Nat×Value)}{s:ByteArray}{v:Value}
attribute [local go_sem] Oper.semAt_some
def rS{F:Fence}{P:Program}{ops:Array Oper}{o:Oper}{a:Act}{K:Act->World->Prop}{Q:Exit->Act->World->Prop}{E:Prop}
  (B:o.guard=none) (l c:Operand) (t:TypeId) (b:o.op=Op.makeSlice t l c)
  (base:Nat) (e:TypeId) (i:TypeInfo) (z:Value) (size:Nat) (r:P.underlying t=some (.slice e)) (h2:P.info? e=some i) (s:i.zero=some z) (u:i.size=size)
  (j h:IntKind) (L C:Int) (k:Nat) (D:a.eval l = .int j L) (A:a.eval c = .int h C) (y:L=(k:Int)) (v:C=(k:Int)) (m:i.bytes*k<=281474976710656) (p:k<=maxLen) (q:base<=w.heap.size)
  (x:∀g w',w.heap.size=g->w'.ownsRow base e size (.slice (some ⟨g,0,none⟩) k k) k (madeCells z.cells (k*size)).toList->w.grownBy w' none->K (a.put o.dst (.slice (some ⟨g,0,none⟩) k k)) w') :
  if Region.wanted o (yielded ops a.tmps)=true then Oper.wpIn F n P o a w K Q else E:=by
 have G:Region.wanted o (yielded ops a.tmps)=true:=by simp[Region.wanted,B]
 rw[a0d G];obtain⟨w',d,H,I⟩:=run_make_full (P:=P) w base t e i z size r h2 s u j h k m p q;subst y;subst v;unfold Oper.wpIn;refine⟨?_,?_⟩
 . simp[Oper.about,b]
 . rw[Oper.semAt_plain F _ _ (by rw[b];intro c f;cases f)];simp[execOp,b,D,A,d,Result.andThen];exact x _ w' rfl H I
def DZ{β:Type}(n₀:Nat)(v:Value)(f:β->List Int):Own (fun(b:β) W=>an W n₀ v (f b)):=fun b X _ row e j a=>by
 refine a1V e j ?_;rcases e.2 with⟨rfl,_⟩|⟨g,cap,h,rfl,_,c,_⟩
 . exact .inl rfl
 .
  refine .inr fun e'=>?_;obtain⟨o,d,i⟩:=a g e'.symm;rw[show X.heap[g]?=_ from c]at d;cases d
  cases i
def Sts(n₀:Nat)(w W:World)(r10 r11:Option Nat)(r4 r5:Option (Nat×Value)):Prop:=
 Below n₀ w W/\(∀g,r10=some g->an W n₀ (.slice (some ⟨g,0,none⟩) 286 286) (List.replicate 286 0))/\(∀g,r11=some g->an W n₀ (.slice (some ⟨g,0,none⟩) 30 30) (List.replicate 30 0)) /\
 (∀b v,r4=some (b,v)->n₀<=b/\Boxed W b 129 v)/\(∀b v,r5=some (b,v)->n₀<=b/\Boxed W b 129 v)/\(∀g g',r10=some g->r11=some g'->g≠g')/\(∀b v b' v',r4=some (b,v)->r5=some (b',v')->b≠b')/\n₀<=W.heap.size
def im(h:W.grownBy W' none):Below W.heap.size W W':=(a0c _ _).grown h (a0a _) (fun j a=>by cases a)
def Sts.later(h:Sts n₀ w W r10 r11 r4 r5)(hb:Below W.heap.size W W'):Sts n₀ w W' r10 r11 r4 r5:=by
 obtain⟨f,i,h2,a,c,j,k,d⟩:=h;exact⟨f.trans (hb.mono d),fun g e=>(i g e).later hb (a0a _),fun g e=>(h2 g e).later hb (a0a _),fun b v e=>⟨(a b v e).1,Boxed.later (a b v e).2 hb⟩,fun b v e=>⟨(c b v e).1,Boxed.later (c b v e).2 hb⟩,j,k,a0E d hb.size⟩
def Sts.make10(h:Sts n₀ w W none r11 r4 r5)(k:W.grownBy W' none)(a:W.heap.size=g)(l:an W' n₀ (.slice g 286 286) (List.replicate 286 0)):Sts n₀ w W' (some g) r11 r4 r5:=by
 subst a;have b:∀g,r11=some g->g<W.heap.size:=fun g e=>(h.2.2.1 g e).below.2;obtain⟨c,m,h2,d,f,n,i,j⟩:=h.later (im k);exact⟨c,fun g e=>by cases e;exact l,h2,d,f,fun g g' e e'=>by cases e;have:=b g' e';omega,i,j⟩
def Sts.make11(h:Sts n₀ w W r10 none r4 r5)(l:W.grownBy W' none)(a:W.heap.size=g)(m:an W' n₀ (.slice g 30 30) (List.replicate 30 0)):Sts n₀ w W' r10 (some g) r4 r5:=by
 subst a;have b:∀g,r10=some g->g<W.heap.size:=fun g e=>(h.2.1 g e).below.2;obtain⟨c,d,h2,f,i,n,j,k⟩:=h.later (im l);exact⟨c,d,fun g e=>by cases e;exact m,f,i,fun g g' e e'=>by cases e';have:=b g e;omega,j,k⟩
def Sts.box4(h:Sts n₀ w W r10 r11 none r5)(v:Value):Sts n₀ w (W.alloc (.cells #[v] 129)) r10 r11 (some (W.heap.size,v)) r5:=by
 have a:∀b v,r5=some (b,v)->b<W.heap.size:=fun b v e=>(h.2.2.2.2.1 b v e).2.lt;have j:=h.2.2.2.2.2.2.2;obtain⟨c,d,h2,k,f,g,l,i⟩:=h.later ((a0c _ W).alloc (a0a _) (.cells #[v] 129));exact⟨c,d,h2,fun b u e=>by cases e;exact⟨j,Boxed.new _ _ _⟩,f,g,fun b u b' u' e e'=>by cases e;have:=a b' u' e';omega,i⟩
def Sts.box5(h:Sts n₀ w W r10 r11 r4 none)(v:Value):Sts n₀ w (W.alloc (.cells #[v] 129)) r10 r11 r4 (some (W.heap.size,v)):=by
 have a:∀b v,r4=some (b,v)->b<W.heap.size:=fun b v e=>(h.2.2.2.1 b v e).2.lt;have j:=h.2.2.2.2.2.2.2;obtain⟨c,d,h2,f,k,g,l,i⟩:=h.later ((a0c _ W).alloc (a0a _) (.cells #[v] 129));exact⟨c,d,h2,f,fun b u e=>by cases e;exact⟨j,Boxed.new _ _ _⟩,g,fun b u b' u' e e'=>by cases e';have:=a b u e;omega,i⟩
def dj(h:Boxed W b 129 v)(a:an W n₀ (.slice g n n) l):b≠g:=by
 intro e;exact h.not_row (by decide) a (by rw[e];rfl)
def m8(h:Boxed W b 9 v)(a:an W n₀ (.slice g n n) l):b≠g:=by
 intro e;exact h.not_row (by decide) a (by rw[e];rfl)
def dI{B o:Nat}{t:TypeId}(h:Boxed W B t v)(a:B≠b)(u:Value):Boxed (W.setCell ⟨b,o,none⟩ u) B t v:=(a0M _ _ _ B a).trans h
def zK{D:Nat}{r:Option (List Deferred)}(h:W.heap[D]?=some (.deferred r))(c:an W n₀ (.slice g n n) l):D≠g:=by
 rintro rfl;rcases c.2 with⟨e,_⟩|⟨g,cap,b,e,_,a,_⟩
 . cases e
 . simp only[a0L,a0l,a0A,a0Q]at e;rw[←e.1]at a;rw[h]at a;cases a
def Sr(l:List Int):ci l l.length=0<->us l=0:=by
 have d:∀k,0<=ci l k:=by
  intro k;induction k with
  | zero=>exact a2L _
  | succ k ih=>simp only[ci];split<;>omega
 constructor
 .
  intro h;rcases a2n (us l)with a|a
  . exact a
  .
   exfalso;have:∃k,k<l.length/\0<l.getD k 0:=by
    clear h d;induction l with
    | nil=>simp[us]at a
    | cons b l ih=>
     by_cases hb:0<b
     . exact⟨0,by simp,by simpa using hb⟩
     . obtain⟨k,c,d⟩:=ih (by simp only[us,a0D,a0N,a0e hb]at a;simpa[us]using a);exact⟨k+1,by simpa using c,by simpa using d⟩
   obtain⟨k,c,d⟩:=this;have:=Jm l l.length k c;omega
 .
  intro h;have:∀k,k<=l.length->ci l k=0:=by
   intro k;induction k with
   | zero=>exact fun _=>rfl
   | succ k ih=>
    intro c;have a:=JO h k (by omega);simp only[ci];rw[ih (by omega),a0e a]
  exact this _ (a0a _)
def Sts.put4(h:Sts n₀ w W r10 r11 (some (b,v)) r5)(u:Value):Sts n₀ w (W.setCell ⟨b,0,none⟩ u) r10 r11 (some (b,u)) r5:=by
 obtain⟨i,c,h2,j,d,k,f,l⟩:=h;have hb:=j b v rfl;exact⟨ai i hb.1 u,fun g e=>(c g e).setOther (dj hb.2 (c g e)) u,fun g e=>(h2 g e).setOther (dj hb.2 (h2 g e)) u,fun b' v' e=>by cases e;exact⟨hb.1,hb.2.set u⟩,fun b' v' e=>⟨(d b' v' e).1,(d b' v' e).2.other (f b v b' v' rfl e).symm u⟩,k,fun b' v' a v'' e e'=>by cases e;exact f b v a v'' rfl e',by simpa using l⟩
def Sts.put5(h:Sts n₀ w W r10 r11 r4 (some (b,v)))(u:Value):Sts n₀ w (W.setCell ⟨b,0,none⟩ u) r10 r11 r4 (some (b,u)):=by
 obtain⟨i,a,h2,c,j,k,d,l⟩:=h;have hb:=j b v rfl;exact⟨ai i hb.1 u,fun g e=>(a g e).setOther (dj hb.2 (a g e)) u,fun g e=>(h2 g e).setOther (dj hb.2 (h2 g e)) u,fun b' v' e=>⟨(c b' v' e).1,(c b' v' e).2.other (d b' v' b v e rfl) u⟩,fun b' v' e=>by cases e;exact⟨hb.1,hb.2.set u⟩,k,fun b' v' f v'' e e'=>by cases e';exact d b' v' b v e rfl,by simpa using l⟩
def Sts.fill4(h:Sts n₀ w W (some g) r11 (some (b,v)) r5):Sts n₀ w (W.setCell ⟨b,0,none⟩ (.slice g 286 286)) (some g) r11 (some (b,.slice g 286 286)) r5:=h.put4 _
def Sts.fill5(h:Sts n₀ w W r10 (some g) r4 (some (b,v))):Sts n₀ w (W.setCell ⟨b,0,none⟩ (.slice g 30 30)) r10 (some g) r4 (some (b,.slice g 30 30)):=h.put5 _
def lO{s:ByteArray}(pre:List (TkS s)):List Int:=ii (List.replicate 286 0) ((pre.map Subtype.val).map jG)
def dx{s:ByteArray}(pre:List (TkS s)):List Int:=ii (List.replicate 30 0) ((pre.map Subtype.val).flatMap fg)
def oe(pre:List (TkS s)):(lO pre).length=286:=by unfold lO;rw[fm,a0y]
def me(pre:List (TkS s)):(dx pre).length=30:=by unfold dx;rw[fm,a0y]
def Ho(pre:List (TkS s))(x:TkS s)(h:isB x.1=true):lO (pre++[x])=inc (lO pre) x.1.1.toNat:=by
 unfold lO;rw[a0K,a0K,a2B,a2B,jb];have:jG x.1=x.1.1.toNat:=by unfold jG;rw[a0d h]
 rw[this]
def Hu(pre:List (TkS s))(x:TkS s)(h:isB x.1=false):lO (pre++[x])=inc (lO pre) (257+fnd 3 4 x.1.2.1.toNat 27):=by
 unfold lO;rw[a0K,a0K,a2B,a2B,jb];have:jG x.1=257+fnd 3 4 x.1.2.1.toNat 27:=by unfold jG;rw[a0e (by simp[h])]
 rw[this]
def Di(pre:List (TkS s))(x:TkS s)(h:isB x.1=true):dx (pre++[x])=dx pre:=by
 unfold dx;rw[a0K,a1B,a2B];have:[x.1].flatMap fg=[]:=by simp[fg,h]
 rw[this,a05]
def Dj(pre:List (TkS s))(x:TkS s)(h:isB x.1=false):dx (pre++[x])=inc (dx pre) (fnd 1 2 x.1.2.2.toNat 29):=by
 unfold dx;rw[a0K,a1B,a2B];have:[x.1].flatMap fg=[fnd 1 2 x.1.2.2.toNat 29]:=by simp[fg,h]
 rw[this,jb]
def rl(n:Nat)(l:List Nat)(k:Nat):0<=(ii (List.replicate n 0) l).getD k 0/\(ii (List.replicate n 0) l).getD k 0<=(l.length:Int):=by
 rw[mg,js];have:l.count k<=l.length:=a3r
 split<;>omega
def Bv(pre:List (TkS s))(k:Nat):0<=(lO pre).getD k 0/\(lO pre).getD k 0<=(pre.length:Int):=by
 have:=rl 286 ((pre.map Subtype.val).map jG) k;rw[a0O,a0O]at this;exact this
def vT(pre:List (TkS s))(k:Nat):0<=(dx pre).getD k 0/\(dx pre).getD k 0<=(pre.length:Int):=by
 have a:=rl 30 ((pre.map Subtype.val).flatMap fg) k;have h2:=vV (pre.map Subtype.val);rw[a0O]at h2;exact⟨a.1,by have:=a.2;unfold dx;omega⟩
def uL(s:ByteArray)(w:World)(a:s.size<=300)  :
  Calls prog 150 #[s] w fun e w'=>(∃gl gd,e = .returned (.tuple #[.slice (some ⟨gl,0,none⟩) 286 286,.slice (some ⟨gd,0,none⟩) 30 30])/\an w' w.heap.size (.slice (some ⟨gl,0,none⟩) 286 286) (gW (bq s.data.toList 0))/\an w' w.heap.size (.slice (some ⟨gd,0,none⟩) 30 30) (cW (bq s.data.toList 0)))/\Below w.heap.size w w':=by
 obtain⟨i0,hi,b3,b5,b6⟩:=a0p Tryz.infoInt;have d8:(s.size:Int)<=300:=by omega
 have cy:=cE
 refine(callsIn_wide (n:=6)).1 ?_;refine callsIn_of_wp_marks func150 rfl trivial ?_ rfl;simp only[ntmps150,a2M,a0C,a0U,Nat.reduceAdd,Nat.reduceSub,Array.replicate_succ,Array.replicate_zero,List.push_toArray,List.append_toArray,a1a,a1q]
 gi_wp2
 rename_i Q' K hKr
 suffices U:∀(gl gd P O:Nat) (W:World),Sts w.heap.size w W (some gl) (some gd) (some (P,.slice gl 286 286)) (some (O,.slice gd 30 30)) ->
   K { tmps:=#[s,undef,.slice none 0 0,.slice none 0 0,.pointer P,.pointer O,undef,undef,undef,undef,.slice gl 286 286,.slice gd 30 30,undef,undef,undef,undef,undef,undef,undef,undef,undef,undef,undef,undef,undef,undef,undef,undef,undef,undef,undef,undef,undef,undef,undef,undef,undef,undef,undef,undef,undef,undef,undef,undef,undef,undef,undef,undef,undef,undef,undef,undef,undef,undef,undef,undef,undef,undef,undef],defers:=[] } W by
  clear hKr;have ao:Sts w.heap.size w w.drew none none none none:=⟨(a0c _ _).drew,nofun,nofun,nofun,nofun,nofun,nofun,a0a _⟩;refine wpIn_region_any cy ?_;change wpAnyIn _ _ _ _ _ _ _ _ _ (World.drew _);generalize w.drew=W at ao ⊢;have a:=ao;clear ao;repeat' first
   | exact AllReadyIn.nil
   | refine AllReadyIn.cons rfl (fun K1 b=>?_) ?_
   | (refine rS rfl _ _ 129 rfl w.heap.size 3 i0 (.int .i64 0) 1 a0F hi b3 b5 .i64 .i64 286 286 286 rfl rfl rfl rfl (by rw[b6];omega) (by unfold maxLen;omega) a.2.2.2.2.2.2.2 ?_;intro g W hg ho J;have a:=a.make10 J hg (dJ ho);refine b _ _ ?_;clear b K1 ho J hg)
   | (refine rS rfl _ _ 129 rfl w.heap.size 3 i0 (.int .i64 0) 1 a0F hi b3 b5 .i64 .i64 30 30 30 rfl rfl rfl rfl (by rw[b6];omega) (by unfold maxLen;omega) a.2.2.2.2.2.2.2 ?_;intro g W hg ho J;have a:=a.make11 J hg (dJ ho);refine b _ _ ?_;clear b K1 ho J hg)
   | (refine iC 4 rfl ?_;have a:=a.box4 (.slice none 0 0);go_simp;refine b _ _ ?_;clear b K1;generalize W.alloc (.cells #[.slice none 0 0] 129)=V at a ⊢;generalize W.heap.size=g at a ⊢;revert V;intro W a)
   | (refine iC 5 rfl ?_;have a:=a.box5 (.slice none 0 0);go_simp;refine b _ _ ?_;clear b K1;generalize W.alloc (.cells #[.slice none 0 0] 129)=V at a ⊢;generalize W.heap.size=g at a ⊢;revert V;intro W a)
   | (refine M5 (Op.store 129 (.tmp 4) (.tmp 10)) rfl ?_;have hc:=(a.2.2.2.1 _ _ rfl).2.cell;have hf:=(a.2.2.2.1 _ _ rfl).2.frozen;have a:=a.fill4;go_simp;refine b _ _ ?_;clear b K1 hc hf;revert a;generalize W.setCell ⟨_,0,none⟩ _=V;intro a;revert V;intro W a)
   | (refine M5 (Op.store 129 (.tmp 5) (.tmp 11)) rfl ?_;have hc:=(a.2.2.2.2.1 _ _ rfl).2.cell;have hf:=(a.2.2.2.2.1 _ _ rfl).2.frozen;have a:=a.fill5;go_simp;refine b _ _ ?_;clear b K1 hc hf;revert a;generalize W.setCell ⟨_,0,none⟩ _=V;intro a;revert V;intro W a)
   | (refine wpAnyIn_done (by decide +kernel) ?_ _;exact U _ _ _ _ _ a)
   | refine wpAnyIn_ready (rs:=[0,1,2,3]) (by decide +kernel) (by simp) ?_
   | refine wpAnyIn_ready (rs:=[1,2,3]) (by decide +kernel) (by simp) ?_
   | refine wpAnyIn_ready (rs:=[2,3]) (by decide +kernel) (by simp) ?_
   | refine wpAnyIn_ready (rs:=[3]) (by decide +kernel) (by simp) ?_
   | refine wpAnyIn_ready (rs:=[4]) (by decide +kernel) (by simp) ?_
   | refine wpAnyIn_ready (rs:=[5]) (by decide +kernel) (by simp) ?_
   | refine wpAnyIn_ready (rs:=[2]) (by decide +kernel) (by simp) ?_
   | refine wpAnyIn_ready (rs:=[1,3]) (by decide +kernel) (by simp) ?_
   | refine wpAnyIn_ready (rs:=[1,4]) (by decide +kernel) (by simp) ?_
   | refine wpAnyIn_ready (rs:=[1]) (by decide +kernel) (by simp) ?_
   | refine wpAnyIn_ready (rs:=[1,2]) (by decide +kernel) (by simp) ?_
   | refine wpAnyIn_ready (rs:=[0,2,3]) (by decide +kernel) (by simp) ?_
   | refine wpAnyIn_ready (rs:=[0,3]) (by decide +kernel) (by simp) ?_
   | refine wpAnyIn_ready (rs:=[0]) (by decide +kernel) (by simp) ?_
   | refine wpAnyIn_ready (rs:=[0,2]) (by decide +kernel) (by simp) ?_
   | refine wpAnyIn_ready (rs:=[0,1,3]) (by decide +kernel) (by simp) ?_
   | refine wpAnyIn_ready (rs:=[0,1]) (by decide +kernel) (by simp) ?_
   | refine wpAnyIn_ready (rs:=[0,1,2]) (by decide +kernel) (by simp) ?_
 intro gl gd P O W m;refine hKr _ _ ?_;clear hKr;have cu:=m.2.1 gl rfl;have cp:=m.2.2.1 gd rfl;obtain⟨c9,x40⟩:=m.2.2.2.1 P _ rfl;obtain⟨dd,x50⟩:=m.2.2.2.2.1 O _ rfl;have H:gl≠gd:=m.2.2.2.2.2.1 gl gd rfl rfl;have dl:P≠O:=m.2.2.2.2.2.2.1 P _ O _ rfl rfl;have cc:=m.1;have c5:=m.2.2.2.2.2.2.2;clear m
 gi_wp2_with (refine⟨trivial,?_⟩;gi_at_call 175;refine(callsIn_wide.2 (rD s _)).mono ?_;rintro e w'⟨rfl,rfl⟩)
 have bN:=Boxed.new W 9 (.string s);have hA:Below W.heap.size W (W.alloc (.cells #[s] 9)):=(a0c _ W).alloc (a0a _) _;have lb4:P<W.heap.size:=x40.lt;have lb5:O<W.heap.size:=x50.lt;refine wpIn_rangeFunc_ownG rfl (by omega) (gf:=210) (lb:=#[.pointer W.heap.size]) rfl trivial (enters_of func210 (by kernel_rfl) rfl)
  (uA 5 (by omega) W.heap.size s (by omega) _ bN) Jg (fun W l o o' _ h1 h2 _=>Jf W l o o' h1 h2) (a0c _ _) (fun _=>rfl)
  (fun(pre:List (TkS s)) X=>((((an X w.heap.size (.slice gl 286 286) (lO pre)/\an X w.heap.size (.slice gd 30 30) (dx pre))/\Boxed X P 129 (.slice gl 286 286))/\Boxed X O 129 (.slice gd 30 30))/\Below w.heap.size w X)/\Boxed X W.heap.size 9 (.string s))
  (fun _ _ _=>False)
  (OwnFrom.and (OwnFrom.and (OwnFrom.and (OwnFrom.and (OwnFrom.and (Own.from (DZ _ _ lO) _) (Own.from (DZ _ _ dx) _)) (Own.from (boxed_own _ _ _) _)) (Own.from (boxed_own _ _ _) _)) (ownFrom_below (a0a _) (by simp;omega))) (Own.from (boxed_own _ _ _) _))
  (fun _ _ _ _ _ a _ _=>a)
  ⟨⟨⟨⟨⟨cu.later hA (a0a _),cp.later hA (a0a _)⟩,Boxed.later x40 hA⟩,Boxed.later x50 hA⟩,cc.trans (hA.mono c5)⟩,bN⟩
  (fun x=>{ tmps:=#[s,undef,.slice none 0 0,.slice none 0 0,.pointer P,.pointer O,hH x.1,undef,undef,undef,.slice gl 286 286,.slice gd 30 30,s,.func (.func 210) #[] #[.pointer W.heap.size],hH x.1,undef,undef,undef,undef,undef,undef,undef,undef,undef,undef,undef,undef,undef,undef,undef,undef,undef,undef,undef,undef,undef,undef,undef,undef,undef,undef,undef,undef,undef,undef,undef,undef,undef,undef,undef,undef,undef,undef,undef,undef,undef,undef,undef,undef],defers:=[] }) ?assign ?body ?done ?stop
 case assign=>
  intro l x W K U
  gi_wp2
  exact U
 case body=>
  rintro l pre x X⟨⟨⟨⟨⟨d,hd⟩,x4⟩,x5⟩,hB⟩,B⟩ bk;have ch:=x4.cell;have co:=x5.cell;have u:=oe pre;have t:=me pre;have m1:=pT;have m2:=sr;have m3:=pS;cases hb:isB x.1
  .
   have hk:isK x.1=true:=by have:=x.2.1;unfold okT at this;rw[hb]at this;simpa using this
   obtain⟨q1,q2,q3,q4⟩:=wt hk;have f1:x.1.2.1=((x.1.2.1.toNat:Nat):Int):=by omega
   have f2:x.1.2.2=((x.1.2.2.toNat:Nat):Int):=by omega
   have e2:hH x.1 = .iface 248 (.agg #[.int .i64 ((x.1.2.1.toNat:Nat):Int),.int .i64 ((x.1.2.2.toNat:Nat):Int)]):=by rw[←f1,←f2];exact tM hk
   have f:=Hu pre x hb;have N:=Dj pre x hb;have b1:=Bv pre (257+fnd 3 4 x.1.2.1.toNat 27);have b2:=vT pre (fnd 1 2 x.1.2.2.toNat 29);have b7:=af (fun W=>Fj x.1.2.1.toNat x.1.2.2.toNat W (by omega) (by omega) (by omega) (by omega));have k1:=iH 3 4 x.1.2.1.toNat 27;have k2:=iH 1 2 x.1.2.2.toNat 29;rw[e2];generalize x.1.2.1.toNat=y at *
   generalize x.1.2.2.toNat=z at *
   generalize fnd 3 4 y 27=p at *
   generalize fnd 1 2 z 29=q at *
   have I:=d.at u (show 257+p<286 by omega);generalize A:(lO pre).getD (257+p) 0=ya at *
   generalize T:(dx pre).getD q 0=za at *
   have d6:(257:Int)+(p:Int)<286:=by omega
   have d7:(q:Int)<30:=by omega
   have b0:ya<=300:=by omega
   have eb:za<=300:=by omega
   have bs:0<=ya:=by omega
   have b4:0<=za:=by omega
   have E:=dj x4 d;have r:=dj x5 d;have Y:=dj x4 hd;have aa:=dj x5 hd;have HX:Hid (∀Z,Below X.heap.size X Z->an Z w.heap.size (.slice gl 286 286) (lO pre)/\an Z w.heap.size (.slice gd 30 30) (dx pre)/\Boxed Z P 129 (.slice gl 286 286)/\Boxed Z O 129 (.slice gd 30 30)/\Boxed Z W.heap.size 9 (.string s)):=fun Z h=>⟨d.later h (a0a _),hd.later h (a0a _),Boxed.later x4 h,Boxed.later x5 h,Boxed.later B h⟩;have dv:=d.below.2;have ds:=hd.below.2;have Q:=af (a0b (show 257+p<286 by omega) (show q<30 by omega));have H1:=af f;have H2:=af N;have a3:=af A;have a4:=af T;have HB:=af hB;have b9:=af (a0b E (a0b r (a0b Y aa)));have ca:=hB.size;have c8:=B.lt;clear f N A T b1 b2 k1 k2 q1 q2 q3 q4 f1 f2 e2 I d hd x4 x5 B bk hB
   gi_wp2_with (refine⟨trivial,?_⟩;gi_at_call 178;refine(CallsIn.inRound l (callsIn_wide.2 (b7 _))).mono ?_;rintro e X1⟨rfl,bc⟩;have C:Below X.heap.size X X1:=aj ((a0c _ X).alloc (a0a _) _) bc;have c6:=C.size;have hZ:Hid (∀v,Below X.heap.size X (X1.alloc (.cells v 250))):=fun v=>C.alloc c6 _;have z1:=fun v=>(HX _ (ae hZ v)).2.2.1.cell;have z2:=fun v=>(HX _ (ae hZ v)).2.2.2.1.cell;have z3:=fun v=>((HX _ (ae hZ v)).1.at (oe pre) Q.1).1;have z4:=fun v=>((HX _ (ae hZ v)).1.at (oe pre) Q.1).2.1;have z5:=fun v=>((HX _ (ae hZ v)).2.1.at (me pre) Q.2).1;have z6:=fun v=>((HX _ (ae hZ v)).2.1.at (me pre) Q.2).2.1;rw[ae a3]at z3;rw[ae a4]at z5;have n1:¬ X1.heap.size=gl:=(by omega);have n2:¬ gl=X1.heap.size:=(by omega);have n3:¬ gd=gl:=(fun e=>H e.symm);have c7:=af C;clear bc C)
   refine(fun Z (ad:Below X.heap.size X Z)=>?_:∀Z,Below X.heap.size X Z->ownPostG _ _ _ _ _ _ _ _ ((Z.setCell ⟨gl,257+p,none⟩ (.int .i64 (ya+1))).setCell ⟨gd,q,none⟩ (.int .i64 (za+1)))) _ (hZ _);obtain⟨d,hd,x4,x5,B⟩:=ae HX Z ad;obtain⟨e4,e5,e6,e7⟩:=ae b9;have e8:=m8 B d;have e9:=m8 B hd;have cv:an ((Z.setCell ⟨gl,257+p,none⟩ (.int .i64 (ya+1))).setCell ⟨gd,q,none⟩ (.int .i64 (za+1))) w.heap.size (.slice gl 286 286) (lO (pre++[x])):=by
    have:=d.put (j:=257+p) (oe pre) (ya+1);rw[ae H1];unfold inc;rw[ae a3];exact this.setOther H.symm _
   have cr:an ((Z.setCell ⟨gl,257+p,none⟩ (.int .i64 (ya+1))).setCell ⟨gd,q,none⟩ (.int .i64 (za+1))) w.heap.size (.slice gd 30 30) (dx (pre++[x])):=by
    have:=(hd.setOther (g':=gl) (o:=257+p) H (.int .i64 (ya+1))).put (j:=q) (me pre) (za+1);rw[ae H2];unfold inc;rw[ae a4];exact this
   exact⟨(((KeepsOthers.of_grownBy (fJ ad) (fun _ _ e=>by cases e)).trans (KeepsOthers.setCell _ _ _)).trans (KeepsOthers.setCell _ _ _)).from _,fun _=>dI (dI B e8 _) e9 _,⟨⟨⟨⟨⟨cv,cr⟩,dI (dI x4 e4 _) e6 _⟩,dI (dI x5 e5 _) e7 _⟩,ai (ai (HB.trans (ad.mono ca)) d.below.1 _) hd.below.1 _⟩,dI (dI B e8 _) e9 _⟩⟩
  .
   obtain⟨q1,q2⟩:=sX hb;have f1:x.1.1=((x.1.1.toNat:Nat):Int):=by omega
   have e2:hH x.1 = .iface 246 (.int .u8 ((x.1.1.toNat:Nat):Int)):=by rw[←f1];exact oH hb
   have f:=Ho pre x hb;have N:=Di pre x hb;have b1:=Bv pre x.1.1.toNat
   rw[e2];generalize x.1.1.toNat=k at *
   have I:=d.at u (show k<286 by omega);generalize A:(lO pre).getD k 0=ya at *
   have d0:(k:Int)<286:=by omega
   have b0:ya<=300:=by omega
   have bs:0<=ya:=by omega
   have R:Hid (an (X.setCell ⟨gl,k,none⟩ (.int .i64 (ya+1))) w.heap.size (.slice gl 286 286) (lO (pre++[x]))):=by
    have:=d.put (j:=k) u (ya+1);rw[f];unfold inc;rw[A];exact this
   have G:Hid (an (X.setCell ⟨gl,k,none⟩ (.int .i64 (ya+1))) w.heap.size (.slice gd 30 30) (dx (pre++[x]))):=by
    rw[N];exact hd.setOther H _
   have E:=dj x4 d;have r:=dj x5 d;obtain⟨c1,c2,c3,c4⟩:=I;clear f N A b1 bk q1 q2 f1 e2
   gi_wp2
   exact⟨(KeepsOthers.setCell _ _ _).from _,fun _=>dI B (m8 B d) _,⟨⟨⟨⟨⟨R,G⟩,dI x4 E _⟩,dI x5 r _⟩,ai hB c3 _⟩,dI B (m8 B d) _⟩⟩
 case done=>
  rintro D ys X hD S⟨⟨⟨⟨⟨d,hd⟩,x4⟩,x5⟩,hB⟩,B⟩ U;have ch:=x4.cell;have co:=x5.cell;have u:=oe ys;have t:=me ys;have be:=FE s a S;have b1:=Bv ys 256;have b2:=vT ys 0;have hL:lO ys=ii (List.replicate 286 0) ((bq s.data.toList 0).map jG):=by unfold lO;rw[S]
  have a8:dx ys=gu (bq s.data.toList 0):=by unfold dx gu;rw[S]
  have bb:inc (lO ys) 256=gW (bq s.data.toList 0):=by unfold gW;rw[hL]
  have I:=d.at u (show 256<286 by omega);have E:=dj x4 d;have r:=dj x5 d;have Y:=dj x5 hd;have aa:=dj x4 hd;have cg:D≠gl:=fun e=>by subst e;exact zK U d rfl
  have a7:D≠gd:=fun e=>by subst e;exact zK U hd rfl
  have a9:w.heap.size<=D:=by simp at hD;omega
  have ed:(dx ys).getD 0 0<=300:=by omega
  have L:∀i,i<(dx ys).length->0<=(dx ys).getD i 0:=fun i _=>(vT ys i).1;generalize A:(lO ys).getD 256 0=ya at *
  have b0:ya<=300:=by omega
  have bs:0<=ya:=by omega
  have R:an (X.setCell ⟨gl,256,none⟩ (.int .i64 (ya+1))) w.heap.size (.slice gl 286 286) (gW (bq s.data.toList 0)):=by
   have:=d.put (j:=256) u (ya+1);rw[←bb];unfold inc;rw[A];exact this
  have G:an (X.setCell ⟨gl,256,none⟩ (.int .i64 (ya+1))) w.heap.size (.slice gd 30 30) (dx ys):=hd.setOther H _;have bn:=dI (o:=256) x5 r (.int .i64 (ya+1));have dq:=bn.cell;have ba:(X.setCell ⟨gl,256,none⟩ (.int .i64 (ya+1))).heap[D]?=some (.deferred (some [])):=(a0M _ _ _ D cg).trans U;have a6:Below w.heap.size w (X.setCell ⟨gl,256,none⟩ (.int .i64 (ya+1))):=ai hB d.below.1 _;obtain⟨c1,c2,c3,c4⟩:=I;have HM:=af (xi (some ⟨gd,0,none⟩) 30 30 (dx ys) (X.setCell ⟨gl,256,none⟩ (.int .i64 (ya+1))) t (G.rowN t) (by omega) (by omega) L);have ab:=af (Sr (dx ys));rw[t]at ab;have a2:=af R;have a1:=af G;have F:=af ba;have a0:=af a6;have cs:=G.at t (show 0<30 by omega);obtain⟨d1,d2,d3,d4⟩:=cs;have a5:=af a8;have b8:=af t;clear d hd x4 x5 B hB U S hL bb b1 R G ba a6 bn a8 t L be u c3 c4;by_cases hu:us (dx ys)=0
  .
   have al:Hid (ci (dx ys) 30=0):=ab.2 hu;rw[ae al]at HM;generalize T:(dx ys).getD 0 0=za at *
   have b4:0<=za:=b2.1
   gi_wp2_with (refine⟨trivial,?_⟩;gi_at_call 179;refine(callsIn_wide.2 HM).mono ?_;rintro e x1⟨rfl,f⟩;rw[f];clear f)
   gi_region
   gi_wp2
   refine⟨by simp,.inl ⟨_,_,rfl,run_takeDeferred ((a0M _ _ _ D a7).trans F),?_⟩⟩;have ac:((X.setCell ⟨gl,256,none⟩ (.int .i64 (ya+1))).setCell ⟨gd,0,none⟩ (.int .i64 (za+1))).heap[D]?=some (.deferred (some [])):=(a0M _ _ _ D a7).trans F;refine⟨_,results_tmp2 rfl _ _ _,⟨gl,gd,rfl,?_,?_⟩,?_⟩
   . exact ownsRow_putObj (show an _ _ _ _ from a2.setOther H.symm _) (.deferred none) ac rfl
   .
    have e1:cW (bq s.data.toList 0)=inc (dx ys) 0:=by
     unfold cW;rw[←ae a5,a0d hu]
    rw[e1];refine ownsRow_putObj (show an _ _ _ _ from ?_) (.deferred none) ac rfl;unfold inc;rw[T];exact a1.put (j:=0) b8 (za+1)
   . exact(ai a0 d3 _).drew.trans (belowK_b (w:=w) (a0a _) (World.drew _) D _ _ a9 ac rfl rfl)
  .
   have al:Hid (¬ ci (dx ys) 30=0):=fun h=>hu (ab.1 h);have d5:(ci (dx ys) 30 == 0)=false:=by have:=ae al;simpa using this
   generalize ci (dx ys) 30=M at *
   gi_wp2_with (refine⟨trivial,?_⟩;gi_at_call 179;refine(callsIn_wide.2 HM).mono ?_;rintro e x1⟨rfl,f⟩;rw[f];clear f)
   gi_region
   gi_wp2
   refine⟨by simp,.inl ⟨_,_,rfl,run_takeDeferred F,?_⟩⟩;refine⟨_,results_tmp2 rfl _ _ _,⟨gl,gd,rfl,?_,?_⟩,?_⟩
   . exact ownsRow_putObj (ae a2) (.deferred none) (ae F) rfl
   .
    have e1:cW (bq s.data.toList 0)=dx ys:=by
     unfold cW;rw[←ae a5,a0e hu]
    rw[e1];exact ownsRow_putObj a1 (.deferred none) F rfl
   . exact(ae a0).drew.trans (belowK_b (w:=w) (a0a _) (World.drew _) D _ _ a9 F rfl rfl)
 case stop=>
  rintro D c pre W _ _ h _;exact h.elim
end Go.Proofs.YtfannoajibacnaaGreatDoor
namespace Go.Proofs.YtfannoajibacnaaGreatDoor
open Go.Proofs.Tryz
open Go.RowKit Corb
variable {A D l:List Int}{B c4 c6 g4 g6 gd gl n:Nat}{W w:World}{a:Option Addr}
def TV(h:okC l):inC l=true:=by
 unfold inC;rw[a1c];intro x b;obtain⟨i,a,rfl⟩:=List.mem_iff_getElem.1 b;have:=h i a;rw[show l.getD i 0=l[i] by simp[List.getD,a]]at this;exact aI.2 this
def wR{m:Nat}(a:okC l)(b:l.length<=300)(c:1<=us l)(d:us l<=p2 m)(e:m<=14):lm l ((m:Int)+1)=dL ((m:Int)+1) l:=by
 unfold lm;rw[a0d];unfold zy;simp only[a0k,a0v];refine⟨⟨⟨b,aI.2 (by omega)⟩,TV a⟩,aI.2 ?_⟩;rw[show((m:Int)+1).toNat=m+1 by omega,BJ];omega
def Sk(T:List Tk)(b:T.length<=300):lm (gW T) 15=dL 15 (gW T):=by
 have a:=Bu T;have h2:=EU;exact wR (m:=14) (Bt T b) (by rw[fL];omega) a.1 (by omega) (by omega)
def NG(T:List Tk)(b:T.length<=300):lm (cW T) 15=dL 15 (cW T):=by
 have a:=vS T;have h2:=EU;exact wR (m:=14) (vR T b) (by rw[gg];omega) a.1 (by omega) (by omega)
def Mc(A:List Int)(a:0<A.length)(c:A.length<=400)(d:∀x∈A,0<=x/\x<=15):lm (pW A) 7=aQ A:=by
 have b:=Aw A a d;have h2:=Un;exact wR (m:=6) (Av A c) (by rw[gO];omega) b.1 (by omega) (by omega)
def an.cut{base m cap:Nat}(j:l.length=n)(h:an w base (.slice a n cap) l)(p:m<=n)(k:0<n):an w base (.slice a m cap) (l.take m):=by
 subst j;rcases h.2 with⟨_,e⟩|⟨g,c,b,e,hb,i,o,h2,d,f⟩
 . omega
 .
  simp only[a0L]at e;obtain⟨rfl,_,rfl⟩:=e;refine⟨by simp,.inr ⟨g,cap,b,by rw[a0u];congr 1;omega,hb,i,by rw[a0u];omega,h2,d,?_⟩⟩;rw[a0u,List.map_take,←f,a2X]
  congr 1
  omega
def rH{base base' size:Nat}{e:TypeId}{v:Value}{xs:List Value}(h:w.ownsRow base e size v n xs)(hb:base'<=base):w.ownsRow base' e size v n xs:=
 ⟨h.1,h.2.imp id fun⟨g,c,u,e,a,r⟩=>⟨g,c,u,e,a0E hb a,r⟩⟩
def an.cap{base cap g:Nat}(h:an w base (.slice g n cap) l):n<=cap/\cap<=maxLen:=by
 rcases h.2 with⟨e,_⟩|⟨g',a,b,e,hb,i,c,h2,d,f⟩
 . cases e
 . simp only[a0L]at e;obtain⟨_,rfl,rfl⟩:=e;exact⟨c,h2⟩
def dE(L D:List Int):List (Int×Int):=[((L.length:Int)-257,5),((D.length:Int)-1,5),(15,4)]
def fO(l:List Int)(k:Nat):List (Int×Int):=(bK.take k).map fun i=>(l.getD i 0,(3:Int))
def zC(l:List Int)(k:Nat)(h:k<19):fO l (k+1)=fO l k++[(l.getD (bK.getD k 0) 0,3)]:=by
 unfold fO;have a:k<bK.length:=h;rw[a1e a,a0K];simp[List.getD,a]
def xB(l:List Int)(k:Nat)(h:k<=19):(fO l k).length=k:=by unfold fO;have:bK.length=19:=rfl;simp;omega
def IM(L D:List Int)(h:ap (aQ (L++D))=true)(a:(aQ (L++D)).length=19)(b:∀x∈L++D,0<=x/\x<=15):dE L D++fO (aQ (L++D)) 19++jY (aQ (L++D)) (L++D)=dG L D:=by
 unfold dG dE fO jY;rw[a0I]
 congr 2
 apply List.map_congr_left;intro x c;have:=b x c;exact pn h (by rw[a];omega)
def J9{b base:Nat}{C:Array Value}(h:vA w b base l C):∃a cap,w.cell? ⟨b,0,none⟩=some (.slice a l.length cap)/\bE w a l:=by
 obtain⟨⟨a,cap,ac,f,q,sc,e,c,h2,g⟩,d,_⟩:=h;refine⟨a,cap,?_,c.1⟩;have:=d 0 (.slice a l.length cap) (by rw[e];rfl);simpa using this
def sB:Array Value:=#[Value.slice none 0 0,Value.slice none 0 0,Value.int .i64 0,Value.int .i64 0,Value.int .i64 0,Value.int .i64 0,Value.int .i64 0,Value.int .i64 0,Value.int .i64 0,Value.int .i64 0,Value.int .i64 0,Value.int .i64 0,Value.int .i64 0,Value.int .i64 0,Value.int .i64 0,Value.int .i64 0,Value.int .i64 0,Value.int .i64 0,Value.slice none 0 0]
def Gu(gL gD nL b nD a base:Nat)(L D:List Int)(w:World)(n:L.length=nL)(m:D.length=nD)(j:an w base (.slice gL nL b) L)(h:an w base (.slice gD nD a) D)(o:nL+nD<=1000) :
  Calls prog 174 #[.slice w.heap.size 2 2] (w.alloc (.cells #[.slice gL nL b,.slice gD nD a] 129)) fun e w'=>∃v,e = .returned v/\an w' w.heap.size v (L++D)/\Below w.heap.size w w':=by
 have d:Below w.heap.size w (w.alloc (.cells #[.slice gL nL b,.slice gD nD a] 129)):=cC;have k:kf (w.alloc (.cells #[.slice gL nL b,.slice gD nD a] 129)) w.heap.size base [(.slice gL nL b,L.map (Value.int .i64)),(.slice gD nD a,D.map (Value.int .i64))]:=by
  intro i l
  match i,l with
  | 0,_=>exact⟨by simp,_,j.later d (a0a _),a1u .i64 _⟩
  | 1,_=>exact⟨by simp,_,h.later d (a0a _),a1u .i64 _⟩
 have c:aR [(Value.slice gL nL b,L.map (Value.int .i64)),(.slice gD nD a,D.map (Value.int .i64))]=(L++D).length:=by simp[aR,dc]
 refine(sD w.heap.size base 2 2 _ _ rfl (by omega) (by omega) k (by rw[c,a0i];omega)).mono ?_;rintro e x5⟨v,rfl,g,hb⟩;refine⟨v,rfl,?_,aj d hb⟩;have f:dQ [(Value.slice gL nL b,L.map (Value.int .i64)),(.slice gD nD a,D.map (Value.int .i64))]=(L++D).map (Value.int .i64):=by
  simp only[dQ,a0W,a2o,a0K,a05]
 rw[c,f]at g;exact an.mono (base:=(w.alloc (.cells #[.slice gL nL b,.slice gD nD a] 129)).heap.size) g (by simp)
def Br(gL gD nL cL nD cD base:Nat)(L D:List Int)(w:World)(O:L.length=nL)(N:D.length=nD)(hL:an w base (.slice gL nL cL) L)(hD:an w base (.slice gD nD cD) D)
  (l0:257<=nL) (l1:nL<=286) (d0:1<=nD) (d1:nD<=30) (kL:ap L=true) (kD:ap D=true) (hO:dp w) :
  Calls prog 156 #[.slice gL nL cL,.slice gD nD cD] w fun e w'=>∃v,e = .returned v/\Pcs w' w.heap.size v (dG L D)/\Below w.heap.size w w':=by
 obtain⟨i0,hi,co,cp,cr⟩:=a0p Tryz.infoInt;obtain⟨j0,hj,bk,bl,bn⟩:=a0p Tryz.infoPiece;have Z:Hid (∀x∈L++D,0<=x/\x<=15):=by
  intro x hx;rcases a03.1 hx with h|h
  . exact ln kL x h
  . exact ln kD x h
 obtain⟨nA,hnA⟩:∃nA,(L++D).length=nA:=⟨_,rfl⟩;have ba:nA=nL+nD:=by rw[←hnA,a0i,O,N]
 have r:=af (wO (L++D) (by omega) (by omega) Z);have HS:=af (Mc (L++D) (by omega) (by omega) Z);have HT:=af (IM L D r.2.1 r.1 Z);have Q:=af (Gu gL gD nL cL nD cD base L D w O N hL hD (by omega));have HB:Hid (dE L D=[((nL:Int)-257,5),((nD:Int)-1,5),(15,4)]):=by show dE L D=_;unfold dE;rw[O,N]
 have nLI:(nL:Int)<=286:=by omega
 have nDI:(nD:Int)<=30:=by omega
 have nLI0:(257:Int)<=(nL:Int):=by omega
 have nDI0:(1:Int)<=(nD:Int):=by omega
 have nAI:(nA:Int)<=316:=by omega
 have B:Hid (1<=nA/\nA<=316):=by show _/\_;omega
 have HO:=af hO;clear hL hD kL kD l0 l1 d0 d1 O N ba hO;generalize b6:L++D=A at *
 have f:=af hnA;clear hnA b6;go_enter func156,ntmps156;go_wp2_with fail;refine Q.mono ?_;rintro e x1⟨v1,rfl,o1,b1⟩;obtain⟨a1,c1,rfl⟩:=o1.formN f;obtain⟨g1,rfl⟩:=o1.somes (by have:=ae f;have:=ae B;omega);have O1:=af o1;have S:=af b1;clear o1 b1 Q
 go_wp2_with (at_make;refine a1J _ rfl _ _ 129 rfl w.heap.size 3 i0 (.int .i64 0) 1 a0F hi co cp .i64 .i64 _ _ 19 rfl rfl rfl rfl (by rw[cr];omega) (by unfold maxLen;omega) S.size ?_;intro x2 d b);have a6:=O1.below.2;obtain⟨gC,hgC⟩:∃gC,x1.heap.size=gC:=⟨_,rfl⟩;have b2:=im b;have o2:=dJ d;rw[hgC]at d o2 a6;have M:=aj S b2;have o1:=O1.later b2 (a0a _);have cg:gC≠g1:=by omega
 rw[hgC];clear d b b2 O1 S hgC a6
 go_loopw [8,20] (fun _ i wr=>∃k:Nat,k<=nA/\i = .int .i64 k/\an wr w.heap.size (.slice g1 nA c1) A/\an wr w.heap.size (.slice gC 19 19) (ii (List.replicate 19 0) ((A.take k).map Int.toNat))/\Below w.heap.size w wr) (fun _ i _=>nA-(intOf i).toNat)
 case atStart=>exact⟨0,a0g _,rfl,o1,o2,M⟩
 case round=>
  obtain⟨k,hk,rfl,E,n,a⟩:=hrel;clear o1 o2 M;by_cases l:k<nA
  .
   obtain⟨c0,_,_,_⟩:=E.at f l;have a8:A.getD k 0∈A:=by have:=ae f;simp[List.getD,show k<A.length by omega]
   have K:=ae Z _ a8;have J:Hid ((A.take (k+1)).map Int.toNat=(A.take k).map Int.toNat++[(A.getD k 0).toNat]):=by
    show _=_;rw[cN A k (by rw[ae f];exact l),a0K];rfl
   have V:(ii (List.replicate 19 0) ((A.take k).map Int.toNat)).length=19:=by rw[fm,a0y]
   obtain⟨y,hy⟩:=a0r K.1;rw[hy]at J c0 K;rw[a0n]at J;have hb:=rl 19 ((A.take k).map Int.toNat) y;have p:((A.take k).map Int.toNat).length<=nA:=by simp;omega
   obtain⟨d0,d1,d2,d3⟩:=n.at (j:=y) V (by omega);have hP:=n.put (j:=y) V ((ii (List.replicate 19 0) ((A.take k).map Int.toNat)).getD y 0+1);have a2:Hid (∀u,an (wr.setCell ⟨gC,y,none⟩ u) w.heap.size (.slice g1 nA c1) A/\Below w.heap.size w (wr.setCell ⟨gC,y,none⟩ u)):=fun u=>⟨E.setOther cg u,ai a d2 u⟩;have HP:Hid (an (wr.setCell ⟨gC,y,none⟩ (.int .i64 ((ii (List.replicate 19 0) ((A.take k).map Int.toNat)).getD y 0+1))) w.heap.size (.slice gC 19 19) (ii (List.replicate 19 0) ((A.take (k+1)).map Int.toNat))):=by
    show an _ _ _ _;rw[ae J,jb];exact hP
   generalize (ii (List.replicate 19 0) ((A.take k).map Int.toNat)).getD y 0=z at *
   have c7:(y:Int)<19:=by omega
   have c8:z<=400:=by have:=ae B;omega
   have cu:0<=z:=hb.1;have Hk:=af hk;clear hP n E a p hb K hy a8 hk V d2 d3;go_wp2;go_roundw
   case rel=>exact⟨k+1,by have:=ae Hk;omega,by go_num,(a2 _).1,HP,(a2 _).2⟩
   case measure=>simp[intOf];omega
  .
   have a9:A.take k=A:=a0t (by rw[ae f];omega);rw[a9]at n;have ao:an wr w.heap.size (.slice gC 19 19) (pW A):=n;have HL:=af (kJ (some ⟨gC,0,none⟩) 19 19 (pW A) 7 wr (gO A) (ao.rowN (gO A)) (by omega));rw[ae HS]at HL;have O1:=af E;have S:=af a;clear a9 n ao E a;go_wp2_with fail;refine HL.mono ?_;rintro e x3⟨⟨v3,rfl,o3⟩,b3⟩;obtain⟨a3,c3,rfl⟩:=o3.formN r.1;have O1':=af (O1.later b3 (a0a _));have B3:=af (aj S b3);have ab:=af (Ef a3 c3 19 w.heap.size (aQ A) x3 r.1 ((bX r.1 (o3.own r.1)).mono S.size) B3.size (by omega));clear o3 b3 HL O1 S;go_wp2_with fail;refine ab.mono ?_;rintro e x4⟨⟨C,rfl,k4⟩,b4⟩;have O1:=af (O1'.later b4 (a0a _));have B4:=af (aj B3 b4);have K4:=af k4;have T:=af k4.size;have ac:=af k4.one;clear k4 b4 ab O1' B3;have b5:Below x4.heap.size x4 ((x4.alloc (.cells sB 258)).setCells x4.heap.size 0 C.toList):=below_setCells (a0a _) _ _ _ cC;have Y:(x4.alloc (.cells sB 258)).there x4.heap.size 0 19:=jo x4 sB _ 19 rfl;have be:=World.rangeAt_setCells_same (x4.alloc (.cells sB 258)) x4.heap.size 0 C.toList (by rw[a15,ae T];exact Y);have m:vA ((x4.alloc (.cells sB 258)).setCells x4.heap.size 0 C.toList) x4.heap.size w.heap.size (aQ A) C:=⟨K4.later b5,be,by rw[size_setCells];simp⟩;have U:=af Y;have s:=af b5;have aa:=af m;unfold sB at U s aa;clear b5 Y be m K4;go_wp2_with (first
    | (refine wpList_store_mid rfl 258 (.tmp 9) (.tmp 33) rfl x4.heap.size 0 C rfl rfl (by rw[ae T];exact U) (by rw[ae T];exact Tryz.infoLenK) ac ?_;generalize ch:World.setCells _ x4.heap.size 0 C.toList=x5 at *;clear ch U)
    | (refine br rfl 261 (.global 1) rfl 1 0 rfl LH _ (dp.later (dp.later (dp.later HO B4) s) cC).1 underlying261 rfl Tryz.infoOrd ?_))
   have bb:Pcs (x5.alloc (.cells #[.int .i64 ((nL:Int)-256-1),.int .i64 5,.int .i64 ((nD:Int)-1),.int .i64 5,.int .i64 15,.int .i64 4] 167)) x5.heap.size (.slice x5.heap.size 3 3) (dE L D++fO (aQ A) 0):=by
    have e0:dE L D++fO (aQ A) 0=[((nL:Int)-256-1,5),((nD:Int)-1,5),(15,4)]:=by rw[ae HB];simp only[fO,a35,a1I,a05];congr 2;omega
    rw[e0];exact a0S x5 #[.int .i64 ((nL:Int)-256-1),.int .i64 5,.int .i64 ((nD:Int)-1),.int .i64 5,.int .i64 15,.int .i64 4] 3 (a0a _) (by unfold maxLen;omega) rfl
   have al:Below x5.heap.size x5 (x5.alloc (.cells #[.int .i64 ((nL:Int)-256-1),.int .i64 5,.int .i64 ((nD:Int)-1),.int .i64 5,.int .i64 15,.int .i64 4] 167)):=cC;have O5:=af (O1.later s (a0a _));have B5:=af (aj B4 s);generalize x5.alloc (.cells #[.int .i64 ((nL:Int)-256-1),.int .i64 5,.int .i64 ((nD:Int)-1),.int .i64 5,.int .i64 15,.int .i64 4] 167)=x6 at *
   generalize x4.heap.size=b9 at *
   clear s B4 O1
   go_loopw [10,12,46] (fun o _ i wr=>∃j:Nat,j<=19/\i = .int .i64 j/\Pcs wr x5.heap.size o (dE L D++fO (aQ A) j)/\Below x5.heap.size x5 wr) (fun _ _ i _=>19-(intOf i).toNat)
   case atStart=>exact⟨0,by omega,rfl,bb,al⟩
   case round=>
    obtain⟨j,F,rfl,hp,a⟩:=hrel;clear bb al x6;have m:=aa.later a;have p:Hid ((dE L D++fO (aQ A) j).length=3+j):=by show _=_;rw[a0i,xB _ _ F];rfl
    have a4:=a.size;by_cases l:j<19
    .
     have cy:=LJ j l;have W:=BH j l;have J:Hid (dE L D++fO (aQ A) (j+1)=(dE L D++fO (aQ A) j)++[((aQ A).getD (bK.getD j 0) 0,3)]):=by show _=_;rw[zC (aQ A) j l,a0I]
     obtain⟨a7,cs,cc,a0⟩:=J9 m;rw[r.1]at cc;obtain⟨g7,o7,rfl,cv,a5⟩:=a0 (by rw[r.1];omega);have d7:=a5 (bK.getD j 0) (by rw[r.1];exact W);have K:=r.2.2 (bK.getD j 0) W;generalize (aQ A).getD (bK.getD j 0) 0=y at *
     generalize bK.getD j 0=q at *
     have c6:(q:Int)<19:=by omega
     have c5:(j:Int)<19:=by omega
     have H:Hid ((dE L D++fO (aQ A) j).length+1<=maxLen/\((dE L D++fO (aQ A) j).length+1)*16<=140737488355328):=by
      show _/\_;rw[ae p];unfold maxLen;omega
     have Hj:=af l;clear m a5 W a0 K F l;go_wp2_with (at_builtin;refine a0w _ rfl _ _ 164 rfl x5.heap.size 167 j0 (.agg #[.int .i64 0,.int .i64 0]) 2 16 a1C hj bk bl bn rfl (by decide) _ _ _ rfl (a0o hp _) ⟨wr.heap.size,0,none⟩ 1 1 [.int .i64 y,.int .i64 3] rfl rfl (vv wr _ _ _) (vu _ _) H.1 H.2 (ar a4 _) ?_;intro v' x2 d b I;clear I);have M:=aH (v:=u10) b hp (a0a _) a4 a;have bc:=ot d;rw[←ae J]at bc;exact⟨⟨j+1,by have:=ae Hj;omega,by go_num,bc,M⟩,by have:=ae Hj;simp[intOf];omega⟩
    .
     obtain rfl:j=19:=by omega
     have t:=af (Kr (some ⟨g1,0,none⟩) c1 nA b9 w.heap.size A (aQ A) C wr f ((O5.later a (a0a _)).rowN f) (by have:=ae B;omega) m (by rw[r.1];omega) (fun i hi=>by rw[r.1];have:=ae Z (A.getD i 0) (by simp[List.getD,hi]);omega));obtain⟨ga,ca,rfl⟩:∃ga ca,u10 = .slice (some ⟨ga,0,none⟩) 22 ca:=by
      obtain⟨g,c,e⟩:=xE hp (by rw[ae p];omega);rw[ae p]at e;exact⟨g,c,e⟩
     have HP:=af hp;have P:=af a;clear hp a m l F;go_wp2_with fail;refine t.mono ?_;rintro e x7⟨v7,rfl,X,b7⟩;have G:Hid ((jY (aQ A) A).length=nA):=by show _=_;unfold jY;rw[a0O];exact f
     obtain⟨ga7,ca7,rfl⟩:∃ga ca,v7 = .slice (some ⟨ga,0,none⟩) nA ca:=by
      obtain⟨g,c,e⟩:=xE X (by rw[ae G];have:=ae B;omega);rw[ae G]at e;exact⟨g,c,e⟩
     have b0:=af (X.newsN G);have ad:=af (eR HP b7);have R:x5.heap.size<=x7.heap.size:=a0E P.size b7.size;have bs:=af (aj P b7);have bd:Hid ((dE L D++fO (aQ A) 19).length+nA<=maxLen/\((dE L D++fO (aQ A) 19).length+nA)*16<=140737488355328):=by
      show _/\_;rw[ae p];have:=ae B;unfold maxLen;omega
     clear X b7 t;go_wp2_with (at_builtin;refine a0w _ rfl _ _ 164 rfl x5.heap.size 167 j0 (.agg #[.int .i64 0,.int .i64 0]) 2 16 a1C hj bk bl bn rfl (by decide) _ _ _ rfl ad ⟨ga7,0,none⟩ nA ca7 (aY (jY (aQ A) A)) rfl (by rw[mX,ae G]) b0 (jg _) bd.1 bd.2 R ?_;intro v' x8 d b I;clear I);go_ret;have b8:Below x5.heap.size x5 x8:=bs.grown b R (fun j hj=>(a0z ad j hj).1);refine⟨_,rfl,?_,aj B5 b8⟩;rw[←ae HT];have h9:Pcs x8 x5.heap.size v' ((dE L D++fO (aQ A) 19)++jY (aQ A) A):=by
      show World.ownsRow _ _ _ _ _ _ _;rw[ft,a0i,ae G];exact d
     exact rH h9 B5.size
def jQ(T:List Tk)(k:Nat):List Int:=ii (inc (List.replicate 286 0) 256) ((T.take k).map jG)
def ik(T:List Tk)(k:Nat):List Int:=ii (List.replicate 30 0) ((T.take k).flatMap fg)
def rz(T:List Tk)(k:Nat):(jQ T k).length=286:=by unfold jQ;rw[fm,ko,a0y]
def yY(T:List Tk)(k:Nat):(ik T k).length=30:=by unfold ik;rw[fm,a0y]
def qz(T:List Tk)(k:Nat)(h:k<T.length):T.take (k+1)=T.take k++[T.getD k k0]:=by
 rw[a1e h]
 congr 1
 simp[List.getD,h]
def Lo(T:List Tk)(k:Nat)(h:k<T.length):jQ T (k+1)=inc (jQ T k) (jG (T.getD k k0)):=by
 unfold jQ;rw[qz T k h,a0K,a2B,jb]
def Lp(T:List Tk):jQ T 0=(List.replicate 286 (0:Int)).set 256 1:=by
 unfold jQ inc;rw[a35,js];rfl
def Rr(T:List Tk)(k:Nat)(h:k<T.length)(hb:isB (T.getD k k0)=true):ik T (k+1)=ik T k:=by
 unfold ik;rw[qz T k h,a1B];have:[T.getD k k0].flatMap fg=[]:=by simp only[a0W,a2o,a05];unfold fg;rw[a0d hb]
 rw[this,a05]
def Rs(T:List Tk)(k:Nat)(h:k<T.length)(hb:isB (T.getD k k0)=false):ik T (k+1)=inc (ik T k) (fnd 1 2 (T.getD k k0).2.2.toNat 29):=by
 unfold ik;rw[qz T k h,a1B];have:[T.getD k k0].flatMap fg=[fnd 1 2 (T.getD k k0).2.2.toNat 29]:=by simp only[a0W,a2o,a05];unfold fg;rw[a0e (by rw[hb];exact Bool.false_ne_true)]
 rw[this,jb]
def Jj(T:List Tk)(k j:Nat)(a:k<=300):0<=(jQ T k).getD j 0/\(jQ T k).getD j 0<=301:=by
 unfold jQ;rw[mg,mQ,js];have:((T.take k).map jG).count j<=((T.take k).map jG).length:=a3r;rw[a0O,a0u]at this
 split<;>split<;>omega
def Dh(T:List Tk)(k j:Nat)(b:k<=300):0<=(ik T k).getD j 0/\(ik T k).getD j 0<=300:=by
 have a:=rl 30 ((T.take k).flatMap fg) j;have h2:=vV (T.take k);rw[a0u]at h2;unfold ik;omega
def Oz{t:Tk}(h:isB t=true):t.2.1=0:=by unfold isB at h;simp only[a0k,a0v]at h;exact h.1
def uG(w W:World)(B gl gd g4 c4 g6 c6:Nat)(A D:List Int):Prop:=
 (an W w.heap.size (.slice gl 286 286) A/\an W w.heap.size (.slice gd 30 30) D)/\(an W B (.slice g4 28 c4) lp/\an W B (.slice g6 30 c6) lh)/\Below w.heap.size w W/\gl≠gd/\gl<B/\gd<B
def uG.drew(h:uG w W B gl gd g4 c4 g6 c6 A D):uG w W.drew B gl gd g4 c4 g6 c6 A D:=⟨h.1,h.2.1,h.2.2.1.drew,h.2.2.2⟩
def uG.putL(h:uG w W B gl gd g4 c4 g6 c6 A D)(i:A.length=286)(j:Nat)(x:Int):uG w (W.setCell ⟨gl,j,none⟩ (.int .i64 x)) B gl gd g4 c4 g6 c6 (A.set j x) D:=by
 obtain⟨⟨a,h2⟩,⟨b,c⟩,e,d,f,g⟩:=h;have e3:=b.below.1;have e4:=c.below.1;exact⟨⟨a.put i x,h2.setOther d _⟩,⟨b.setOther (by omega) _,c.setOther (by omega) _⟩,ai e a.below.1 _,d,f,g⟩
def uG.putD(h:uG w W B gl gd g4 c4 g6 c6 A D)(i:D.length=30)(j:Nat)(x:Int):uG w (W.setCell ⟨gd,j,none⟩ (.int .i64 x)) B gl gd g4 c4 g6 c6 A (D.set j x):=by
 obtain⟨⟨d,h2⟩,⟨a,b⟩,e,c,f,g⟩:=h;have e3:=a.below.1;have e4:=b.below.1;exact⟨⟨d.setOther c.symm _,h2.put i x⟩,⟨a.setOther (by omega) _,b.setOther (by omega) _⟩,ai e h2.below.1 _,c,f,g⟩
def Bp(ta:Option Addr)(tcap tn:Nat)(T:List Tk)(w:World)(aa:T.length=tn)(hT:QV w ta T)(Z:tn<=300)(V:∀t∈T,okT t=true) :
  Calls prog 203 #[.slice ta tn tcap] w fun e w'=>(∃gl gd,e = .returned (.tuple #[.slice (some ⟨gl,0,none⟩) 286 286,.slice (some ⟨gd,0,none⟩) 30 30])/\an w' w.heap.size (.slice (some ⟨gl,0,none⟩) 286 286) (gW T)/\an w' w.heap.size (.slice (some ⟨gd,0,none⟩) 30 30) (cW T))/\Below w.heap.size w w':=by
 obtain⟨i0,hi,ab,ac,ad⟩:=a0p Tryz.infoInt;have u:=af aa;have HT:=af hT;have L:=af Z;have a0:=af V;have bd:(tn:Int)<=300:=by omega
 clear aa hT Z V;go_enter func203,ntmps203;go_wp2_with (first
  | (at_make;refine a1J _ rfl _ _ 129 rfl w.heap.size 3 i0 (.int .i64 0) 1 a0F hi ab ac .i64 .i64 _ _ 286 rfl rfl rfl rfl (by rw[ad];omega) (by unfold maxLen;omega) (a0a _) ?_;intro x1 R O;have m:=im O;have o1:=dJ R;clear O R)
  | (at_make;refine a1J _ rfl _ _ 129 rfl w.heap.size 3 i0 (.int .i64 0) 1 a0F hi ab ac .i64 .i64 _ _ 30 rfl rfl rfl rfl (by rw[ad];omega) (by unfold maxLen;omega) m.size ?_;intro x2 S P;have n:=im P;have o2:=dJ S;clear P S))
 have lt1:=o1.below.2;have O1:=af (o1.later n (a0a _));have O2:=af o2;have B2:=af (aj m n);have lt2:=o2.below.2;obtain⟨gl,hgl⟩:∃g,w.heap.size=g:=⟨_,rfl⟩;obtain⟨gd,hgd⟩:∃g,x1.heap.size=g:=⟨_,rfl⟩;have a2:gl≠gd:=by omega
 have v:gl<x2.heap.size:=by omega
 have x:gd<x2.heap.size:=by omega
 rw[hgd]at O2;have K:Hid (an x2 w.heap.size (.slice gl 286 286) (List.replicate 286 0)):=by show an _ _ _ _;have:=ae O1;rw[hgl]at this ⊢;exact this
 rw[hgd];have eg:Value.slice w.heap.size 286 286 = .slice gl 286 286:=by rw[hgl]
 rw[eg];clear o1 o2 m n lt1 lt2 O1 eg hgl hgd;refine(qi _).mono ?_;rintro e x3⟨⟨g3,rfl,o3⟩,b3⟩;have R3:=af (o3.rowN rfl);have B3:=af b3;clear o3 b3;go_wp2_with fail;refine(kM _ 28 _ R3).mono ?_;rintro e x4⟨v4,rfl,o4,b4⟩;obtain⟨a4,c4,rfl⟩:=o4.formN gj;obtain⟨g4,rfl⟩:=o4.somes (by rw[gj];omega);have O4:=af (o4.mono B3.size);have B4:=af (aj B3 b4);clear o4 b4 B3 R3;go_wp2_with fail;refine(pU _).mono ?_;rintro e x5⟨⟨g5,rfl,o5⟩,b5⟩;have R5:=af (o5.rowN rfl);have B5:=af (aj B4 b5);have O4':=af (O4.later b5 (a0a _));clear o5 b5 O4;go_wp2_with fail;refine(kK _ 30 _ R5).mono ?_;rintro e x6⟨v6,rfl,o6,b6⟩;obtain⟨a6,c6,rfl⟩:=o6.formN fZ;obtain⟨g6,rfl⟩:=o6.somes (by rw[fZ];omega);have X:=B5.size;have O4:an x6 x2.heap.size (.slice g4 28 c4) lp:=O4'.later b6 (a0a _);have O6:an x6 x2.heap.size (.slice g6 30 c6) lh:=o6.mono X;have B6:=aj B5 b6;have E:uG w x6 x2.heap.size gl gd g4 c4 g6 c6 (List.replicate 286 0) (List.replicate 30 0):=⟨⟨K.later B6 (a0a _),O2.later B6 (a0a _)⟩,⟨O4,O6⟩,aj B2 B6,a2,v,x⟩;have F:=E.putL (a0y ..) 256 1;have e1:(List.replicate 286 (0:Int)).set 256 1=jQ T 0:=(Lp T).symm;rw[e1]at F;have M:uG w (x6.setCell ⟨gl,256,none⟩ (.int .i64 1)) x2.heap.size gl gd g4 c4 g6 c6 (jQ T 0) (ik T 0):=F;obtain⟨f1,f2,_,_⟩:=E.1.1.at (j:=256) (a0y ..) (by omega);clear E F e1 O4 O6 B6 b6 o6 K O2 B2 B4 O4' X R5 B5 v x;generalize x2.heap.size=B at *
 go_wp2_with fail
 go_loopw [8,9] (fun i _ wr=>∃k:Nat,k<=tn/\i = .int .i64 k/\uG w wr B gl gd g4 c4 g6 c6 (jQ T k) (ik T k)) (fun i _ _=>tn-(intOf i).toNat)
 case atStart=>exact⟨0,a0g _,rfl,M⟩
 case round=>
  obtain⟨k,hk,rfl,l⟩:=hrel;clear M f1 f2;by_cases H:k<tn
  .
   obtain⟨g,o,rfl,hg,N⟩:=HT (by rw[ae u];omega);obtain⟨c0,c1,c2⟩:=N k (by rw[ae u];exact H);have d0:=(l.2.2.1.cell (p:=⟨g,o+k*3,none⟩) hg).trans c0;have d1:=(l.2.2.1.cell (p:=⟨g,o+k*3+1,none⟩) hg).trans c1;have d2:=(l.2.2.1.cell (p:=⟨g,o+k*3+2,none⟩) hg).trans c2;have a1:g≠gl:=by have:=l.1.1.below.1;omega
   clear c0 c1 c2;have c:k<T.length:=by rw[ae u];exact H
   have Y:=ae a0 (T.getD k k0) (by simp[List.getD,c]);have f:=af (Lo T k c);have a:k<=300:=by have:=ae L;omega
   have Hk:=af H;clear N;cases hb:isB (T.getD k k0)
   .
    have hK:isK (T.getD k k0)=true:=by unfold okT at Y;rw[hb]at Y;simpa using Y
    obtain⟨q1,q2,q3,q4⟩:=wt hK;have r:=af (Rs T k c hb);have e2:jG (T.getD k k0)=257+fnd 3 4 (T.getD k k0).2.1.toNat 27:=by unfold jG;rw[a0e (by rw[hb];exact Bool.false_ne_true)]
    rw[e2]at f;obtain⟨y,hy⟩:=a0r (show 0<=(T.getD k k0).2.1 by omega);obtain⟨z,A⟩:=a0r (show 0<=(T.getD k k0).2.2 by omega);rw[hy]at d1 q1 q2 f;rw[A]at d2 q3 q4 r;rw[a0n]at f r;have C:=af (fun W (h:bE W (some ⟨g4,0,none⟩) lp)=>pa (some ⟨g4,0,none⟩) c4 28 lp (y:Int) W gj h (by omega) (by omega));have D:=af (fun W (h:bE W (some ⟨g6,0,none⟩) lh)=>pa (some ⟨g6,0,none⟩) c6 30 lh (z:Int) W fZ h (by omega) (by omega));rw[Er y (by omega) (by omega)]at C;rw[Cp z (by omega) (by omega)]at D;have k1:=iH 3 4 y 27;have k2:=iH 1 2 z 29;clear hb hK c e2 hy A Y;generalize fnd 3 4 y 27=p at *
    generalize fnd 1 2 z 29=q at *
    have m:=Jj T k (257+p) a;have n:=Dh T k q a;obtain⟨m1,m2,_,_⟩:=l.1.1.at (j:=257+p) (rz T k) (by omega);have d:=l.putL (rz T k) (257+p) ((jQ T k).getD (257+p) 0+1);have el:(jQ T k).set (257+p) ((jQ T k).getD (257+p) 0+1)=jQ T (k+1):=f.symm;rw[el]at d;generalize (jQ T k).getD (257+p) 0=ya at *
    obtain⟨m3,m4,_,_⟩:=d.1.2.at (j:=q) (yY T k) (by omega);have G:=d.putD (yY T k) q ((ik T k).getD q 0+1);have ed:(ik T k).set q ((ik T k).getD q 0+1)=ik T (k+1):=r.symm;rw[ed]at G;generalize (ik T k).getD q 0=za at *
    have R1:=af (ae C wr (l.2.1.1.rowN gj));have R2:=af (ae D _ (d.2.1.2.rowN fZ));have ba:(wr.setCell ⟨gl,257+p,none⟩ (.int .i64 (ya+1))).cell? ⟨g,o+k*3+2,none⟩=some (.int .i64 (z:Int)):=by
     rw[World.cell?_setCell_other _ _ _ _ (by intro e;simp only[a0A]at e;exact a1 e.1.symm)];exact d2
    have ao:=af G;have bb:(257:Int)+(p:Int)<286:=by omega
    have bc:(q:Int)<30:=by omega
    have a7:ya<=301:=m.2;have bk:za<=300:=n.2;have a5:0<=ya:=m.1;have a9:0<=za:=n.1;have y0':¬ (y:Int)=0:=by omega
    clear l d G el ed m n k1 k2 q1 q2 q3 q4 C D a;go_wp2_with fail;refine R1.mono ?_;rintro e x7⟨rfl,b⟩;rw[b];clear b x7;go_wp2_with fail;refine R2.mono ?_;rintro e x7⟨rfl,b⟩;rw[b];clear b x7;go_wp2;go_roundw
    case rel=>exact⟨k+1,by have:=ae Hk;omega,by go_num,ao⟩
    case measure=>have:=ae Hk;simp[intOf];omega
   .
    obtain⟨q1,q2⟩:=sX hb;have A:=Oz hb;have r:=af (Rr T k c hb);have e2:jG (T.getD k k0)=(T.getD k k0).1.toNat:=by unfold jG;rw[a0d hb]
    rw[e2]at f;obtain⟨y,hy⟩:=a0r q1;rw[hy]at d0 q2 f;rw[A]at d1;rw[a0n]at f;clear hb c e2 hy A Y d2 q1;have m:=Jj T k y a;obtain⟨m1,m2,_,_⟩:=l.1.1.at (j:=y) (rz T k) (by omega);have d:=l.drew.putL (rz T k) y ((jQ T k).getD y 0+1);have el:(jQ T k).set y ((jQ T k).getD y 0+1)=jQ T (k+1):=f.symm;rw[el,←ae r]at d;generalize (jQ T k).getD y 0=ya at *
    have al:=af d;have a7:ya<=301:=m.2;have a5:0<=ya:=m.1;have be:(y:Int)<286:=by omega
    clear l d el m a q2;go_wp2
    go_region
    go_wp2;go_roundw
    case rel=>exact⟨k+1,by have:=ae Hk;omega,by go_num,al⟩
    case measure=>have:=ae Hk;simp[intOf];omega
  .
   have c:T.take k=T:=a0t (by rw[ae u];omega);have Q:k<=300:=by have:=ae L;omega
   have eL:jQ T k=gW T:=by unfold jQ;rw[c];exact Hi T
   have eD:ik T k=gu T:=by unfold ik gu;rw[c]
   have n:=Dh T k 0 Q;rw[eL,eD]at l;rw[eD]at n;have HU:=af (wH (some ⟨gd,0,none⟩) 30 30 (gu T) wr (ge T) (l.1.2.rowN (ge T)) (by omega));obtain⟨m1,m2,_,_⟩:=l.1.2.at (j:=0) (ge T) (by omega);have I:=af l;clear l c Q eL eD;by_cases J:us (gu T)=0
   .
    have A:(gu T).getD 0 0=0:=by have:=JO J 0 (by rw[ge];omega);omega
    have s:=af (I.putD (ge T) 0 1);have e1:(gu T).set 0 1=cW T:=by unfold cW;rw[a0d J];unfold inc;rw[A];rfl
    rw[e1]at s;rw[J]at HU;clear e1 A n I J;go_wp2_with fail;refine HU.mono ?_;rintro e x7⟨rfl,b⟩;rw[b];clear b x7;go_wp2
    go_ret2
    exact⟨⟨gl,gd,rfl,s.1.1,s.1.2⟩,s.2.2.1⟩
   .
    have e1:gu T=cW T:=by unfold cW;rw[a0e J]
    have a3:((us (gu T):Nat):Int)≠0:=by omega
    have a8:(((us (gu T):Nat):Int) == 0)=false:=by simpa using a3
    rw[e1]at I;clear e1 n J;generalize us (gu T)=U at *
    go_wp2_with fail;refine HU.mono ?_;rintro e x7⟨rfl,b⟩;rw[b];clear b x7;go_wp2
    go_ret2
    exact⟨⟨gl,gd,rfl,I.1.1,I.1.2⟩,I.2.2.1⟩
def zl{g o:Nat}(c:∀i,i<l.length->w.cell? ⟨g,o+i,none⟩=some (.int .i64 (l.getD i 0))):∀j u,(l.map (Value.int .i64))[j]?=some u->w.cell? ((⟨g,o,none⟩:Addr).add j)=some u:=by
 intro j u d;have b:j<l.length:=by have:=(List.getElem?_eq_some_iff.1 d).1;simpa using this
 have a:(⟨g,o,none⟩:Addr).add j=⟨g,o+j,none⟩:=by unfold Addr.add;split<;>simp_all
 rw[a,c j b,←d];simp[List.getD,b]
def mh(l:List Int)(t:List Int):List (Int×Int):=t.map fun x=>pcM l x.toNat
def Hg(l t:List Int)(k:Nat)(h:k<t.length):mh l (t.take (k+1))=mh l (t.take k)++[pcM l (t.getD k 0).toNat]:=by
 unfold mh;rw[cN t k h,a0K];rfl
def UX(L D:List Int):dE L D++(fO (aQ (L++D)) 19++mh (aQ (L++D)) (L++D))=dG L D:=rfl
def LR(W:World)(b:Nat)(A l:List Int)(gA g7 gc:Option Addr):Prop:=jM W b gA A/\jM W b g7 l/\jM W b gc (aW l 15).2
def LR.keep{W':World}{b:Nat}{gA g7 gc:Option Addr}(h:LR W b A l gA g7 gc)(a:cx b W W'):LR W' b A l gA g7 gc:=⟨h.1.keep a,h.2.1.keep a,h.2.2.keep a⟩
def Li(b:Nat)(p:Nat×Nat)(a aD:Option Addr)(cL nL cD nD:Nat)(L D:List Int)(w:World)(ho:kZ w b p)(hL:bE w a L)(hD:bE w aD D)(a0:L.length=nL)(ao:D.length=nD)
  (l0:257<=nL) (l1:nL<=286) (d0:1<=nD) (d1:nD<=30) (kL:ap L=true) (kD:ap D=true) (hp:p.2<=1000) :
  Calls prog 206 #[.pointer b,.slice a nL cL,.slice aD nD cD] w fun e w'=>e = .returned (.tuple #[])/\kZ w' b (bh p (dG L D))/\KB b w w':=by
 obtain⟨i0,hi,bd,be,bk⟩:=a0p Tryz.infoInt;have ab:b<w.heap.size:=Out.lt ho;have HA:Hid (∀x∈L++D,0<=x/\x<=15):=by
  intro x F;rcases a03.1 F with h|h
  . exact ln kL x h
  . exact ln kD x h
 obtain⟨nA,hnA⟩:∃nA,(L++D).length=nA:=⟨_,rfl⟩;have d2:nA=nL+nD:=by rw[←hnA,a0i,a0,ao]
 have K:=af (wO (L++D) (by omega) (by omega) HA);have HQ:=af (UX L D);have HU:=af (Aw (L++D) (by omega) HA);have d4:=af (Av (L++D) (by omega));have HB:Hid (dE L D=[((nL:Int)-257,5),((nD:Int)-1,5),(15,4)]):=by show dE L D=_;unfold dE;rw[a0,ao]
 have bn:Hid (pOk ((nL:Int)-257) 5=true/\pOk ((nD:Int)-1) 5=true):=by
  have:p2 (5:Int).toNat=32:=by decide
  exact⟨aT.2 ⟨by omega,by omega,by rw[this];omega⟩,aT.2 ⟨by omega,by omega,by rw[this];omega⟩⟩
 obtain⟨g,o,rfl,hg,cy⟩:=hL (by omega);obtain⟨g',o',rfl,c5,a2⟩:=hD (by omega);have O:Below w.heap.size w (w.alloc (.cells #[] 3)):=cC;have a9:World.ownsRow (w.alloc (.cells #[] 3)) w.heap.size 3 1 (.slice w.heap.size 0 0) 0 []:=a0S w #[] 0 (a0a _) (by unfold maxLen;omega) rfl;have T:=af (zl (w:=w.alloc (.cells #[] 3)) (g:=g) (o:=o) (l:=L) (fun i hi=>by rw[O.cell (p:=⟨g,o+i,none⟩) hg];exact cy i hi));have E:Hid (∀W,Below w.heap.size w W->∀j u,(D.map (Value.int .i64))[j]?=some u->W.cell? ((⟨g',o',none⟩:Addr).add j)=some u):=fun W hW=>zl (fun i hi=>by rw[hW.cell (p:=⟨g',o'+i,none⟩) c5];exact a2 i hi);have ds:Hid ((L.map (Value.int .i64)).length=nL*1):=by show _=_;simp[a0]
 have dq:Hid ((D.map (Value.int .i64)).length=nD*1):=by show _=_;simp[ao]
 have R:Hid ((0+nL<=maxLen/\(0+nL)*8<=140737488355328)/\(0+nL+nD<=maxLen/\(0+nL+nD)*8<=140737488355328)):=by show(_/\_)/\_/\_;unfold maxLen;omega
 have nLI:(nL:Int)<=286:=by omega
 have nDI:(nD:Int)<=30:=by omega
 have nLI0:(257:Int)<=(nL:Int):=by omega
 have nDI0:(1:Int)<=(nD:Int):=by omega
 have nAI:(nA:Int)<=316:=by omega
 have aa:Hid (1<=nA/\nA<=316/\nA=nL+nD):=by show _/\_;omega
 have HO:=af ho;have Hp:=af hp;clear hL hD kL kD l0 l1 d0 d1 a0 ao d2 ho hp cy a2 hg c5;generalize cc:L++D=A at *
 have bl:Hid (L.map (Value.int .i64)++D.map (Value.int .i64)=A.map (Value.int .i64)):=by show _=_;rw[←cc,a0K]
 have m:=af hnA;clear hnA cc;go_enter func206,ntmps206;go_wp2_with (first
  | (at_builtin;refine a0w _ rfl _ _ 129 rfl w.heap.size 3 i0 (.int .i64 0) 1 8 a0F hi bd be bk rfl (by decide) _ _ _ rfl a9 ⟨g,o,none⟩ nL cL (L.map (Value.int .i64)) rfl ds T (a1u .i64 _) R.1.1 R.1.2 O.size ?_;intro v1 x1 s t U;clear U;have Q:Below w.heap.size w x1:=O.grown t O.size (fun j hj=>(a0z a9 j hj).1))
  | (at_builtin;refine a0w _ rfl _ _ 129 rfl w.heap.size 3 i0 (.int .i64 0) 1 8 a0F hi bd be bk rfl (by decide) _ _ _ rfl s ⟨g',o',none⟩ nD cD (D.map (Value.int .i64)) rfl dq (E _ Q) (a1u .i64 _) R.2.1 R.2.2 Q.size ?_;intro v2 x2 X B U;clear U;have a7:Below w.heap.size w x2:=Q.grown B Q.size (fun j hj=>(a0z s j hj).1))
  | (at_make;refine a1J _ rfl _ _ 129 rfl w.heap.size 3 i0 (.int .i64 0) 1 a0F hi bd be .i64 .i64 _ _ 19 rfl rfl rfl rfl (by rw[bk];omega) (by unfold maxLen;omega) a7.size ?_;intro x3 Y C))
 have N:an x2 w.heap.size v2 A:=by
  show World.ownsRow _ _ _ _ _ A.length _;rw[ae m,aa.2.2,←ae bl];simpa using X
 obtain⟨aA,cA,rfl⟩:=N.formN m;obtain⟨gA,rfl⟩:=N.somes (by have:=ae m;have:=ae aa;omega);have c6:=N.below.2;obtain⟨gC,hgC⟩:∃gC,x2.heap.size=gC:=⟨_,rfl⟩;have b3:=im C;have o2:=dJ Y;rw[hgC]at o2 c6;have cv:=aj a7 b3;have o1:=N.later b3 (a0a _);have eb:gC≠gA:=by omega
 rw[hgC];clear s X Y t B C b3 hgC c6 O Q a7 a9 T E ds dq R bl N
 go_loopw [8] (fun i wr=>∃k:Nat,k<=nA/\i = .int .i64 k/\an wr w.heap.size (.slice gA nA cA) A/\an wr w.heap.size (.slice gC 19 19) (ii (List.replicate 19 0) ((A.take k).map Int.toNat))/\Below w.heap.size w wr) (fun i _=>nA-(intOf i).toNat)
 case atStart=>exact⟨0,a0g _,rfl,o1,o2,cv⟩
 case round=>
  obtain⟨k,hk,rfl,M,H,r⟩:=hrel;clear o1 o2 cv;by_cases c:k<nA
  .
   obtain⟨c0,_,_,_⟩:=M.at m c;have c7:A.getD k 0∈A:=by have:=ae m;simp[List.getD,show k<A.length by omega]
   have n:=ae HA _ c7;have f:Hid ((A.take (k+1)).map Int.toNat=(A.take k).map Int.toNat++[(A.getD k 0).toNat]):=by
    show _=_;rw[cN A k (by rw[ae m];exact c),a0K];rfl
   have bb:(ii (List.replicate 19 0) ((A.take k).map Int.toNat)).length=19:=by rw[fm,a0y]
   obtain⟨y,hy⟩:=a0r n.1;rw[hy]at f c0 n;rw[a0n]at f;have hb:=rl 19 ((A.take k).map Int.toNat) y;have d7:((A.take k).map Int.toNat).length<=nA:=by simp;omega
   obtain⟨e0,e1,e2,e3⟩:=H.at (j:=y) bb (by omega);have hP:=an.put (w:=wr.drew) (j:=y) bb H ((ii (List.replicate 19 0) ((A.take k).map Int.toNat)).getD y 0+1);have cs:Hid (∀u,an (wr.drew.setCell ⟨gC,y,none⟩ u) w.heap.size (.slice gA nA cA) A/\Below w.heap.size w (wr.drew.setCell ⟨gC,y,none⟩ u)):=fun u=>⟨an.setOther (w:=wr.drew) M eb u,ai r.drew e2 u⟩;have HP:Hid (an (wr.drew.setCell ⟨gC,y,none⟩ (.int .i64 ((ii (List.replicate 19 0) ((A.take k).map Int.toNat)).getD y 0+1))) w.heap.size (.slice gC 19 19) (ii (List.replicate 19 0) ((A.take (k+1)).map Int.toNat))):=by
    show an _ _ _ _;rw[ae f,jb];exact hP
   generalize (ii (List.replicate 19 0) ((A.take k).map Int.toNat)).getD y 0=z at *
   have ei:(y:Int)<19:=by omega
   have ej:z<=400:=by have:=ae aa;omega
   have eg:0<=z:=hb.1;have Hk:=af hk;clear hP H M r d7 hb n hy c7 hk bb e2 e3;go_wp2
   go_region
   go_wp2;go_roundw
   case rel=>exact⟨k+1,by have:=ae Hk;omega,by go_num,(cs _).1,HP,(cs _).2⟩
   case measure=>simp[intOf];omega
  .
   have dl:A.take k=A:=a0t (by rw[ae m];omega);rw[dl]at H;have cg:an wr w.heap.size (.slice gC 19 19) (pW A):=H;have HL:Hid (Calls prog 205 #[.slice gC 19 19,.int .i64 7] wr fun e w'=>(∃v,e = .returned v/\an w' wr.heap.size v (aQ A))/\Below wr.heap.size wr w'):=zq (some ⟨gC,0,none⟩) 19 19 6 (pW A) wr (gO A) (cg.rowN (gO A)) (by omega) (by omega) d4 (by rw[fT];have h2:=Un;have:=HU.2;omega) (by omega);have ed:=r.size;have O1:=af M;have B1:=af r;clear dl H cg M r;go_wp2_with fail;refine HL.mono ?_;rintro e x3⟨⟨v3,rfl,o3⟩,b3⟩;obtain⟨a3,c3,rfl⟩:=o3.formN K.1;obtain⟨g3,rfl⟩:=o3.somes (by rw[K.1];omega);have O1':=af (O1.later b3 (a0a _));have B3:=af (aj B1 b3);have O3:=af (o3.mono ed);clear o3 b3 HL O1 B1;go_wp2_with fail;refine(te (some ⟨g3,0,none⟩) c3 19 (aQ A) x3 K.1 (O3.rowN K.1) (by omega)).mono ?_;rintro e x4⟨⟨g4,rfl,o4⟩,b4⟩;have hR:LR x4 b A (aQ A) (some ⟨gA,0,none⟩) (some ⟨g3,0,none⟩) (some ⟨g4,0,none⟩):=⟨gh m (O1'.later b4 (a0a _)) ab,gh K.1 (O3.later b4 (a0a _)) ab,gh ((bJ _ 15).trans K.1) (o4.mono B3.size) ab⟩;have a8:=aj B3 b4;have cp:kZ x4 b p:=Out.kept HO a8;have ch:KB b w x4:=(KB.refl b w).below a8 (a0s ab);have HR:=af hR;have b2:=af cp;have bs:=af ch;clear hR o4 b4 a8 cp ch O1' O3 B3;go_wp2_with fail;refine(fR b p ((nL:Int)-257) 5 x4 b2 bn.1 (by have:=ae Hp;omega)).mono ?_;rintro e x5⟨rfl,o5,k5⟩;have b5:=af o5;have b7:=af (HR.keep k5.2);have b0:=af (bs.trans k5);have q5:=eK p [((nL:Int)-257,5)] (by intro x F;simp at F;subst F;simp);clear o5 k5 b2 HR bs;go_wp2_with fail;refine(fR b _ ((nD:Int)-1) 5 x5 b5 bn.2 (by have:=ae Hp;simp only[a0C,a0U]at q5;omega)).mono ?_;rintro e x6⟨rfl,o6,k6⟩;rw[←bw]at o6;have b6:=af o6;have b9:=af (b7.keep k6.2);have b1:=af (b0.trans k6);have q6:=eK p ([((nL:Int)-257,5)]++[((nD:Int)-1,5)]) (by intro x F;simp at F;rcases F with rfl|rfl<;>simp);clear o6 k6 b5 b7 b0;go_wp2_with fail;refine(fR b _ 15 4 x6 b6 (by decide) (by have:=ae Hp;simp only[a0C,a0U,a0i]at q6;omega)).mono ?_;rintro e x7⟨rfl,o7,k7⟩;rw[←bw]at o7;have o7':kZ x7 b (bh p (dE L D++fO (aQ A) 0)):=by rw[ae HB];exact o7
   have cu:=b9.keep k7.2;have co:=b1.trans k7;clear o7 k7 b6 b9 b1 q5 q6;go_wp2_with fail;have d5:=af (ez K.2.1);have ca:Hid (∀l:List (Int×Int),(∀x∈l,x.2<=16)->l.length<=400->(bh p (dE L D++l)).2<=100000):=by
    intro l h1 h2;have h3:=eK p (dE L D++l) (by
     intro x F;rcases a03.1 F with h|h
     . rw[ae HB]at h;simp at h;rcases h with rfl|rfl|rfl<;>simp
     . exact h1 x h)
    rw[a0i]at h3;have h4:(dE L D).length=3:=rfl;have:=ae Hp;omega
   go_loopw [11] (fun i wr=>∃j:Nat,j<=19/\i = .int .i64 j/\kZ wr b (bh p (dE L D++fO (aQ A) j))/\LR wr b A (aQ A) (some ⟨gA,0,none⟩) (some ⟨g3,0,none⟩) (some ⟨g4,0,none⟩)/\KB b w wr) (fun i _=>19-(intOf i).toNat)
   case atStart=>exact⟨0,by omega,rfl,o7',cu,co⟩
   case round=>
    obtain⟨j,S,rfl,I,a1,al⟩:=hrel;clear o7' cu co;by_cases c:j<19
    .
     have f:Hid (bh p (dE L D++fO (aQ A) (j+1))=bh (bh p (dE L D++fO (aQ A) j)) [((aQ A).getD (bK.getD j 0) 0,3)]):=by show _=_;rw[zC (aQ A) j c,←a0I,bw]
     have bc:=BH j c;have d:=ae ca (fO (aQ A) j) (by intro x F;unfold fO at F;obtain⟨i,_,rfl⟩:=a2S.1 F;simp) (by rw[xB _ _ S];omega);have n:=K.2.2 (bK.getD j 0) bc;have d3:=EG j c;have dv:=Out.lt I;have HJ:=af (a0b c (a0b I (a0b a1 al)));have d6:(j:Int)<19:=by omega
     clear I a1 al S;generalize bh p (dE L D++fO (aQ A) j)=P at *
     go_wp2_with fail;refine(D8 wr).mono ?_;rintro e x8⟨⟨g8,rfl,o8⟩,b8⟩;obtain⟨d8,_,_,_⟩:=o8.at (j:=j) EH c;rw[d3]at d8;have Z:=HJ.2.2.1.keep (ce b8);have a6:kZ x8 b P:=Out.kept HJ.2.1 b8;have a4:=HJ.2.2.2.below b8 (a0s dv);obtain⟨g,o,e,_,dd⟩:=kB Z.2.1 (k:=bK.getD j 0) (by rw[K.1];exact bc);cases e
     rw[a0G]at dd;have cr:pOk ((aQ A).getD (bK.getD j 0) 0) 3=true:=by
      have:p2 (3:Int).toNat=8:=by decide
      exact aT.2 ⟨by omega,n.1,by rw[this];omega⟩
     generalize (aQ A).getD (bK.getD j 0) 0=y at *
     generalize bK.getD j 0=q at *
     have eh:(q:Int)<19:=by omega
     have HX:=af (a0b Z a4);have G:=af (fR b P y 3 x8 a6 cr d);have Hj:=af (ae HJ).1;clear o8 b8 Z a6 a4 HJ bc n d3 d cr c;go_wp2_with fail;refine G.mono ?_;rintro e x9⟨rfl,o9,k9⟩;rw[←ae f]at o9;have HY:=af (a0b o9 (a0b (HX.1.keep k9.2) (HX.2.trans k9)));clear o9 k9 HX G d8 dd f;go_wp2;go_roundw
     case rel=>exact⟨j+1,by have:=ae Hj;omega,by go_num,HY.1,HY.2.1,HY.2.2⟩
     case measure=>have:=ae Hj;simp[intOf];omega
    .
     have c8:j=19:=by omega
     have d6:¬ (j:Int)<19:=by omega
     rw[c8]at I;have a5:kZ wr b (bh p (dE L D++(fO (aQ A) 19++mh (aQ A) (A.take 0)))):=by
      have e0:fO (aQ A) 19++mh (aQ A) (A.take 0)=fO (aQ A) 19:=by unfold mh;rw[a35,a1I,a05]
      rw[e0];exact I
     clear I c S c8;go_wp2_with fail
     go_loopw [12] (fun i wr=>∃j:Nat,j<=nA/\i = .int .i64 j/\kZ wr b (bh p (dE L D++(fO (aQ A) 19++mh (aQ A) (A.take j))))/\LR wr b A (aQ A) (some ⟨gA,0,none⟩) (some ⟨g3,0,none⟩) (some ⟨g4,0,none⟩)/\KB b w wr) (fun i _=>nA-(intOf i).toNat)
     case atStart=>exact⟨0,by omega,rfl,a5,a1,al⟩
     case round=>
      obtain⟨j,hj,rfl,V,J,ad⟩:=hrel;clear a5 a1 al;by_cases c:j<nA
      .
       have ac:j<A.length:=by rw[ae m];exact c
       have f:Hid (bh p (dE L D++(fO (aQ A) 19++mh (aQ A) (A.take (j+1))))=bh (bh p (dE L D++(fO (aQ A) 19++mh (aQ A) (A.take j)))) [pcM (aQ A) (A.getD j 0).toNat]):=by show _=_;rw[Hg (aQ A) A j ac,←bw,a0I,a0I]
       have d:=ae ca (fO (aQ A) 19++mh (aQ A) (A.take j)) (by
        intro x F;rcases a03.1 F with h|h
        . unfold fO at h;obtain⟨i,_,rfl⟩:=a2S.1 h;simp
        . unfold mh at h;obtain⟨y,hy,rfl⟩:=a2S.1 h;have h1:=ae HA y (a2l hy);have h2:=K.2.2 y.toNat (by omega);show(aQ A).getD y.toNat 0<=16;omega) (by rw[a0i,xB _ _ (a0a _)];unfold mh;rw[a0O,a0u];have:=ae aa;omega)
       have n:=ae HA (A.getD j 0) (by simp[List.getD,ac]);obtain⟨g,o,e,_,dd⟩:=kB J.1 (k:=j) ac;cases e
       rw[a0G]at dd;obtain⟨q,hq⟩:=a0r n.1;rw[hq]at dd n f;rw[a0n]at f;have ba:=ae d5 q (by rw[K.1];omega);have G:=af (rU b _ (some ⟨g3,0,none⟩) (some ⟨g4,0,none⟩) c3 19 19 q (aQ A) wr V K.1 J.2.1.1 J.2.2.1 (by omega) (by omega) ba.1 ba.2 d);rw[←ae f]at G;have HX:=af (a0b J ad);have Hj:=af c;clear V J ad hj c ac f d n hq ba;go_wp2_with fail;refine G.mono ?_;rintro e x9⟨rfl,o9,k9⟩;have HY:=af (a0b o9 (a0b (HX.1.keep k9.2) (HX.2.trans k9)));clear o9 k9 HX G dd;go_wp2;go_roundw
       case rel=>exact⟨j+1,by have:=ae Hj;omega,by go_num,HY.1,HY.2.1,HY.2.2⟩
       case measure=>have:=ae Hj;simp[intOf];omega
      .
       have c9:A.take j=A:=a0t (by rw[ae m];omega);rw[c9,ae HQ]at V;have HY:=af (a0b V ad);clear V J ad c9;go_wp2
       go_end0
       exact⟨rfl,HY.1,HY.2⟩
def LK(T:List Tk)(a:T.length<=300)(b:∀t∈T,okT t=true):[(1,1),(2,2)]++(dG (bQ T) (cM T)++(T.flatMap (pcT (bQ T) (cM T))++[pcS (bQ T) 256]))=jS T:=by
 unfold jS;rw[tV (ib T a) (jw T a) _ (fun t c=>oj T a b t c),pn (ib T a) (by have:=(kO T a).1;omega)]
def Ax(v1 v2 v3:Value)(A B C:List (Int×Int))(base:Nat)(w:World)(f:Pcs w base v1 A)(h2:Pcs w base v2 B)(g:Pcs w base v3 C)(k:A.length+(B.length+C.length)<=4000) :
  Calls prog 155 #[.slice w.heap.size 3 3] (w.alloc (.cells #[v1,v2,v3] 164)) fun e w'=>∃v,e = .returned v/\Pcs w' w.heap.size v (A++(B++C))/\Below w.heap.size w w':=by
 have a:Below w.heap.size w (w.alloc (.cells #[v1,v2,v3] 164)):=cC;have h:iW (w.alloc (.cells #[v1,v2,v3] 164)) w.heap.size base [(v1,aY A),(v2,aY B),(v3,aY C)]:=by
  intro i j
  match i,j with
  | 0,_=>exact⟨by simp,_,f.later a (a0a _),jg _⟩
  | 1,_=>exact⟨by simp,_,h2.later a (a0a _),jg _⟩
  | 2,_=>exact⟨by simp,_,g.later a (a0a _),jg _⟩
 have b:aN [(v1,aY A),(v2,aY B),(v3,aY C)]=(A++(B++C)).length:=by
  simp only[aN,cn,a0D,a1I,a0N,a3k,mX,a0i];omega
 refine(CY w.heap.size base 3 3 _ _ rfl (by omega) (by omega) h (by rw[b,a0i,a0i];omega)).mono ?_;rintro e x5⟨v,rfl,d,hb⟩;refine⟨v,rfl,?_,aj a hb⟩;have c:fe [(v1,aY A),(v2,aY B),(v3,aY C)]=aY (A++(B++C)):=by
  simp only[fe,a0W,a2o,ft,a05]
 rw[b,c]at d;exact rH (base:=(w.alloc (.cells #[v1,v2,v3] 164)).heap.size) d (by simp)
def DX(s:ByteArray)(w:World)(hs:s.size<=300)(hO:dp w) :
  Ds 118 #[s] w (.string ⟨(nt s).toArray⟩):=by
 have hI:¬ (300:Int)<(s.size:Int):=by omega
 have a7:=cE
 have HS:=af hs;have HO:=af hO;have N:=af (uL s w hs);obtain⟨T,hT⟩:∃T,bq s.data.toList 0=T:=⟨_,rfl⟩;have a:Hid (T.length<=300):=by show _<=_;rw[←hT];exact jJ s hs
 have U:Hid (∀t∈T,okT t=true):=by rw[←hT];exact fE s
 have bs:Hid (nt s=cS (jS T)):=by show nt s=_;unfold nt;rw[hT]
 have HT:=af hT;rw[hT]at N;clear hs hO hT;go_enter func118,ntmps118;go_wp2_with fail;refine N.mono ?_;rintro e x1⟨⟨gl,gd,rfl,o1,o2⟩,b1⟩;have O:=af (kJ (some ⟨gl,0,none⟩) 286 286 (gW T) 15 x1 (fL T) (o1.rowN (fL T)) (by omega));rw[Sk T a]at O;have O2:=af o2;have B1:=af b1;clear o1 o2 b1 N;go_wp2_with fail;refine O.mono ?_;rintro e x2⟨⟨v2,rfl,o3⟩,b2⟩;have k:=(OO T a).1;obtain⟨a2,c2,rfl⟩:=o3.formN k;obtain⟨g2,rfl⟩:=o3.somes (by omega);have C:=af (ug g2 0 c2 286 257 (dL 15 (gW T)) x2 k (fun i hi=>by rw[a0G];exact(o3.at k hi).1) o3.cap.1 (by omega) (by omega));have e2:eW (dL 15 (gW T)) 257 286=(bQ T).length:=by unfold bQ;rw[jz,k]
 rw[e2]at C;have O3:Hid (an x2 w.heap.size (.slice g2 (bQ T).length c2) (bQ T)):=by
  have G:=o3.cut (m:=(bQ T).length) k (by have:=kO T a;omega) (by omega);have e3:(dL 15 (gW T)).take (bQ T).length=bQ T:=by rw[←e2];unfold bQ px;rw[k]
  rw[e3]at G;exact G.mono B1.size
 have O2':=af (O2.later b2 (a0a _));have B2:=af (aj B1 b2);have p:=af (kO T a);obtain⟨nL,hnL⟩:∃n,(bQ T).length=n:=⟨_,rfl⟩;rw[hnL]at C O3 p;have q:=af hnL;clear hnL e2 k o3 b2 O O2 B1;have P:=af (kJ (some ⟨gd,0,none⟩) 30 30 (cW T) 15 x2 (gg T) (O2'.rowN (gg T)) (by omega));rw[NG T a]at P;clear O2';go_wp2_with fail;refine C.mono ?_;rintro e x3⟨rfl,bc⟩;rw[bc];clear bc x3 C;go_wp2_with fail;refine P.mono ?_;rintro e x3⟨⟨v3,rfl,o4⟩,b3⟩;have l:=(Dg T a).1;obtain⟨a3,c3,rfl⟩:=o4.formN l;obtain⟨g3,rfl⟩:=o4.somes (by omega);have D:=af (ug g3 0 c3 30 1 (dL 15 (cW T)) x3 l (fun i hi=>by rw[a0G];exact(o4.at l hi).1) o4.cap.1 (by omega) (by omega));have e2:eW (dL 15 (cW T)) 1 30=(cM T).length:=by unfold cM;rw[jz,l]
 rw[e2]at D;have O4:Hid (an x3 w.heap.size (.slice g3 (cM T).length c3) (cM T)):=by
  have G:=o4.cut (m:=(cM T).length) l (by have:=mr T a;omega) (by omega);have e3:(dL 15 (cW T)).take (cM T).length=cM T:=by rw[←e2];unfold cM px;rw[l]
  rw[e3]at G;exact G.mono B2.size
 have O3':=af (O3.later b3 (a0a _));have B3:=af (aj B2 b3);have r:=af (mr T a);obtain⟨nD,hnD⟩:∃n,(cM T).length=n:=⟨_,rfl⟩;rw[hnD]at D O4 r;have u:=af hnD;clear hnD e2 l o4 b3 P O3 B2;go_wp2_with fail;refine D.mono ?_;rintro e x4⟨rfl,bd⟩;rw[bd];clear bd x4 D;have ad:=af (uj (some ⟨g2,0,none⟩) c2 nL w.heap.size (bQ T) x3 q (bX q (O3'.own q)) B3.size (by have:=ae p;omega));go_wp2_with fail;refine ad.mono ?_;rintro e x4⟨⟨c,rfl,k1⟩,b4⟩;have O3:=af (O3'.later b4 (a0a _));have O4':=af (O4.later b4 (a0a _));have B4:=af (aj B3 b4);have K1:=af k1;clear k1 b4 ad O3' O4 B3;have ac:=af (qW (some ⟨g3,0,none⟩) c3 nD w.heap.size (cM T) x4 u (bX u (O4'.own u)) B4.size (by have:=ae r;omega));go_wp2_with fail;refine ac.mono ?_;rintro e x5⟨⟨d,rfl,k2⟩,b5⟩;have O3':=af (O3.later b5 (a0a _));have O4:=af (O4'.later b5 (a0a _));have B5:=af (aj B4 b5);have x:=af (K1.later b5);have K2:=af k2;have bn:=af (nF x K2);have L:=x.size;have M:=K2.size;have E:Hid ((c++d).size=38):=by show _=_;rw[a2j,L,M]
 have be:Hid ((c++d).all (·.oneCell')=true):=by show _=true;rw[Array.all_append,x.one,K2.one];rfl
 have F:Hid ((x5.alloc (.cells lH 200)).there x5.heap.size 0 38):=jo x5 lH _ 38 rfl;have j:Hid (Below x5.heap.size x5 ((x5.alloc (.cells lH 200)).setCells x5.heap.size 0 (c++d).toList)):=below_setCells (a0a _) _ _ _ cC;have ba:Hid (((x5.alloc (.cells lH 200)).setCells x5.heap.size 0 (c++d).toList).rangeAt x5.heap.size 0 (c++d).toList):=World.rangeAt_setCells_same (x5.alloc (.cells lH 200)) x5.heap.size 0 (c++d).toList (by rw[a15,ae E];exact F);have bb:Hid (x5.heap.size<((x5.alloc (.cells lH 200)).setCells x5.heap.size 0 (c++d).toList).heap.size):=by show _<_;rw[size_setCells];simp
 unfold lH at F j ba bb;clear L M k2 b5 K1 O3 O4' B4 ac;go_wp2_with (first
  | (refine kW rfl (.tmp 21) (.tmp 23) rfl c d rfl rfl bn ?_)
  | (refine wpList_store_mid rfl 200 (.tmp 5) (.tmp 24) rfl x5.heap.size 0 (c++d) rfl rfl (by rw[ae E];exact F) (by rw[ae E];exact Tryz.infoBooks) be ?_;generalize cu:World.setCells _ x5.heap.size 0 (c++d).toList=x6 at *;clear cu F))
 have a1:=aj B5 j;have f:Hid (∀W,Below x6.heap.size x6 W->W.rangeAt x5.heap.size 0 (c++d).toList):=fun W h=>lu ba h bb;have a4:Below x6.heap.size x6 x6.drew:=(a0c _ x6).drew;have cs:(prog.info? 200).map (·.size)=some (c++d).size:=by rw[ae E];exact Tryz.infoBooks
 have B6:=af a1;have O36:=af (O3'.later j (a0a _));have O46:=af (O4.later j (a0a _));have bl:Hid (ff x6 w.heap.size (bQ T) (cM T) (c++d)):=⟨c,d,rfl,x.later j,K2.later j⟩;clear a1 O3' O4 x K2 j B5;refine wp_region_held_drew (S:=fun W=>W.rangeAt x5.heap.size 0 (c++d).toList) a7 (f _ a4) (fun hS=>?_);refine ag 1 (.slice g2 nL c2) rfl (?_) hS ?_
 . intro W a6;go_simp
 refine ag 2 (.slice g3 nD c3) rfl (?_) hS ?_
 . intro W a6;go_simp
 refine aq 4 (.agg (c++d)) rfl (dR (by rfl) 200 (.tmp 5) rfl x5.heap.size 0 rfl (c++d) _ (fun _ h=>h) a3q rfl cs) hS ?_;refine ag 5 (.string s) rfl (?_) hS ?_
 . intro W a6;go_simp
 refine ah 0 fun K b=>?_;go_simp;go_at_call 147;refine(lK 2 _).mono ?_;rintro e x7⟨rfl,ab⟩;have g:Below x6.heap.size x6 x7:=by rw[ab];exact a4.alloc (by simp) _
 have a5:Pcs x7 x6.heap.size (.slice x6.heap.size 2 2) [(1,1),(2,2)]:=by
  rw[ab];exact a0S x6.drew #[.int .i64 1,.int .i64 1,.int .i64 2,.int .i64 2] 2 (a0a _) (by unfold maxLen;omega) rfl
 have ao:=af (Br g2 g3 nL c2 nD c3 w.heap.size (bQ T) (cM T) x7 q u (O36.later g (a0a _)) (O46.later g (a0a _)) p.1 p.2 r.1 r.2 (ib T a) (jw T a) ((dp.later HO B6).later g));refine Shut.out b _ _ (f _ g) (fun ca=>?_);clear b K ab;refine ah 3 fun K b=>?_;go_simp;go_at_call 156;refine ao.mono ?_;rintro e x8⟨v8,rfl,Z,b8⟩;obtain⟨n8,hn8⟩:∃n,(dG (bQ T) (cM T)).length=n:=⟨_,rfl⟩;obtain⟨a8,c8,rfl⟩:=Z.formN hn8;have z:Below x6.heap.size x6 x8:=aj g b8;have I:=a5.later b8 (a0a _);have J:Pcs x8 x6.heap.size (.slice a8 n8 c8) (dG (bQ T) (cM T)):=rH Z g.size;have Q:=af (xJ s w.heap.size (bQ T) (cM T) (c++d) x8 HS (bl.later z) (by have:=ae p;have:=ae q;omega) (by have:=ae r;have:=ae u;omega) (by have:=ae p;have:=ae q;omega) (by rw[ae HT];exact fun t ht=>oj T a U t ht));rw[ae HT]at Q;refine Shut.out b _ _ (f _ z) (fun cc=>?_);clear b K a5 Z b8 ao g ca;refine ah 6 fun K b=>?_;go_simp;go_at_call 149;refine Q.mono ?_;rintro e x9⟨v9,rfl,aa,b9⟩;obtain⟨n9,hn9⟩:∃n,(T.flatMap (pcT (bQ T) (cM T))++[pcS (bQ T) 256]).length=n:=⟨_,rfl⟩;obtain⟨a9,c9,rfl⟩:=aa.formN hn9;have A:Below x6.heap.size x6 x9:=aj z b9;have p7:=I.later b9 (a0a _);have p8:=J.later b9 (a0a _);have p9:Pcs x9 x6.heap.size (.slice a9 n9 c9) (T.flatMap (pcT (bQ T) (cM T))++[pcS (bQ T) 256]):=rH aa z.size;refine Shut.out b _ _ (f _ A) (fun cg=>?_);clear b K I J aa b9 Q z cc;have V:=LK T a U;have Y:=vq T a U;have X:(jS T).length<=4000:=by
  have:=Y;unfold lOk at this;simp only[a0k,a0v]at this;exact this.2
 have HC:=af (Ax (.slice x6.heap.size 2 2) (.slice a8 n8 c8) (.slice a9 n9 c9) [(1,1),(2,2)] (dG (bQ T) (cM T)) (T.flatMap (pcT (bQ T) (cM T))++[pcS (bQ T) 256]) x6.heap.size x9 p7 p8 p9 (by have G:=X;rw[←V]at G;simp only[a0i]at G ⊢;omega));rw[V]at HC;have H:Below x6.heap.size x6 (x9.alloc (.cells #[.slice x6.heap.size 2 2,.slice a8 n8 c8,.slice a9 n9 c9] 164)):=A.alloc A.size _;have a0:=af (a0b Y X);clear p7 p8 p9 V Y X hn8 hn9;refine ah 7 fun K b=>?_;go_simp;refine Shut.out b _ _ (f _ H) (fun ch=>?_);clear b K;refine ah 8 fun K b=>?_;go_simp;go_at_call 155;refine HC.mono ?_;rintro e x11⟨v11,rfl,B,b0⟩;have y:=aj A b0;obtain⟨a11,b7,rfl⟩:=B.form;refine Shut.out b _ _ (f _ y) (fun co=>?_);clear b K;have al:=af (ia a11 b7 (jS T) x11 B.row (by have:=a0.2;omega));rw[ee a0.1]at al;refine ah 9 fun K b=>?_;go_simp;go_at_call 142;refine al.mono ?_;rintro e x12⟨rfl,b6⟩;have o:=aj y b6;refine Shut.out b _ _ (f _ o) (fun cp=>?_);clear b K;refine ah 10 fun K b=>?_;go_simp;refine Shut.out b _ _ (f _ o) (fun cr=>?_);clear b K;refine wpAnyH_done (by kernel_rfl) ?_ _;have bk:=af (aj B6 o);clear o y H A hS cg ch co cp cr B;generalize hR:cS (jS T)=R at *
 clear hR;go_wp2;go_ret;exact⟨by rw[ae bs];rfl,bk⟩
def ER{base cap:Nat}(j:l.length=n)(h:an w base (.slice a n cap) l):jM w w.heap.size a l:=by
 refine⟨h.rowN j,fun k x ex=>?_⟩;subst ex;rcases h.2 with⟨e,_⟩|⟨g,b,f,e,i,d,_⟩
 . cases e
 . simp only[a0L,a0l]at e;obtain⟨rfl,_⟩:=e;refine⟨by have:=dS d;show g≠_;omega,fun c fr=>?_⟩;show w.heap[g]?≠_;rw[d];intro e;cases e
def KT{base cap:Nat}{l:List Tk}(j:l.length=n)(h:lU w base (.slice a n cap) l):tQ w w.heap.size a l:=by
 refine⟨h.rowN j,fun k x ex=>?_⟩;subst ex;rcases h.2 with⟨e,_⟩|⟨g,b,f,e,i,d,_⟩
 . cases e
 . simp only[a0L,a0l]at e;obtain⟨rfl,_⟩:=e;refine⟨by have:=dS d;show g≠_;omega,fun c fr=>?_⟩;show w.heap[g]?≠_;rw[d];intro e;cases e
def zb(g:Nat)(n:Nat)(l:List Int)(w:World)(d:l.length=n)(h:bE w (some ⟨g,0,none⟩) l)(a:1<=n)(c:n<=300)(b:okC l)(f:us l<=300) :
  Calls prog 205 #[.slice g n n,.int .i64 15] w fun e w'=>(∃v,e = .returned v/\an w' w.heap.size v (dL 15 l))/\Below w.heap.size w w':=
 zq (some ⟨g,0,none⟩) n n 14 l w d h a c b (by rw[fT];have h2:=EU;omega) (by omega)
def KZ(s:ByteArray)(w:World)(hs:s.size<=300) :
  Ds 167 #[s] w (.string ⟨(nt s).toArray⟩):=by
 obtain⟨T,hT⟩:∃T,bq s.data.toList 0=T:=⟨_,rfl⟩;have a:Hid (T.length<=300):=by show _<=_;rw[←hT];exact jJ s hs
 have u:Hid (∀t∈T,okT t=true):=by rw[←hT];exact fE s
 have aa:Hid (nt s=cS (jS T)):=by show nt s=_;unfold nt;rw[hT]
 have c:=af (rt s w (by omega));rw[hT]at c;clear hs hT;obtain⟨tn,htn⟩:∃tn,T.length=tn:=⟨_,rfl⟩;have l:=af htn;have I:Hid (tn<=300):=by show _<=_;rw[←htn];exact a
 clear htn;go_enter func167,ntmps167;go_wp2_with fail;refine c.mono ?_;rintro e x1⟨v1,rfl,o1,b1⟩;obtain⟨a1,c1,rfl⟩:=o1.formN l;have B:=af (Bp a1 c1 tn T x1 l (o1.rowN l) I u);have O1:=af o1;have B1:=af b1;clear o1 b1 c;go_wp2_with fail;refine B.mono ?_;rintro e x2⟨⟨gl,gd,rfl,o2,o3⟩,b2⟩;have O1':=af (eR O1 b2);have B2:=af (aj B1 b2);have D:=af (zb gl 286 (gW T) x2 (fL T) (o2.rowN (fL T)) (by omega) (by omega) (Bt T a) (by have:=(Bu T).2;omega));have O3:=af (o3.mono B1.size);have y:Hid (w.heap.size<=x2.heap.size):=B2.size;clear o2 o3 b2 B O1 B1;go_wp2_with fail;refine D.mono ?_;rintro e x3⟨⟨v3,rfl,o4⟩,b3⟩;have d:=(OO T a).1;obtain⟨a3,c3,rfl⟩:=o4.formN d;obtain⟨g3,rfl⟩:=o4.somes (by omega);have q:=af (wJ g3 0 c3 286 257 (dL 15 (gW T)) x3 d (fun i hi=>by rw[a0G];exact(o4.at d hi).1) o4.cap.1 (by omega) (by omega));have e2:eW (dL 15 (gW T)) 257 286=(bQ T).length:=by unfold bQ;rw[jz,d]
 rw[e2]at q;have O4:Hid (an x3 w.heap.size (.slice g3 (bQ T).length c3) (bQ T)):=by
  have Q:=o4.cut (m:=(bQ T).length) d (by have:=kO T a;omega) (by omega);have e3:(dL 15 (gW T)).take (bQ T).length=bQ T:=by rw[←e2];unfold bQ px;rw[d]
  rw[e3]at Q;exact Q.mono y
 have O1:=af (eR O1' b3);have O3':=af (O3.later b3 (a0a _));have B3:=af (aj B2 b3);have b:=af (kO T a);obtain⟨nL,hnL⟩:∃n,(bQ T).length=n:=⟨_,rfl⟩;rw[hnL]at q O4 b;have j:=af hnL;clear hnL e2 d o4 b3 D O3 B2 O1' y;go_wp2_with fail;refine q.mono ?_;rintro e x4⟨rfl,U⟩;rw[U];clear U x4 q;have E:=af (zb gd 30 (cW T) x3 (gg T) (O3'.rowN (gg T)) (by omega) (by omega) (vR T a) (by have:=(vS T).2;omega));go_wp2_with fail;refine E.mono ?_;rintro e x4⟨⟨v4,rfl,o5⟩,b4⟩;have f:=(Dg T a).1;obtain⟨a4,c4,rfl⟩:=o5.formN f;obtain⟨g4,rfl⟩:=o5.somes (by omega);have r:=af (wJ g4 0 c4 30 1 (dL 15 (cW T)) x4 f (fun i hi=>by rw[a0G];exact(o5.at f hi).1) o5.cap.1 (by omega) (by omega));have e2:eW (dL 15 (cW T)) 1 30=(cM T).length:=by unfold cM;rw[jz,f]
 rw[e2]at r;have O5:Hid (an x4 w.heap.size (.slice g4 (cM T).length c4) (cM T)):=by
  have Q:=o5.cut (m:=(cM T).length) f (by have:=mr T a;omega) (by omega);have e3:(dL 15 (cW T)).take (cM T).length=cM T:=by rw[←e2];unfold cM px;rw[f]
  rw[e3]at Q;exact Q.mono B3.size
 have O1':=af (eR O1 b4);have O4':=af (O4.later b4 (a0a _));have B4:=af (aj B3 b4);have g:=af (mr T a);obtain⟨nD,hnD⟩:∃n,(cM T).length=n:=⟨_,rfl⟩;rw[hnD]at r O5 g;have k:=af hnD;clear hnD e2 f o5 b4 E O4 O1 O3' B3;go_wp2_with fail;refine r.mono ?_;rintro e x5⟨rfl,V⟩;rw[V];clear V x5 r;have h0:Hid (kZ (x4.alloc (.cells #[.slice none 0 0,.int .i64 0,.int .i64 0] 277)) x4.heap.size (0,0)):=BI x4 277;have o:Below x4.heap.size x4 (x4.alloc (.cells #[.slice none 0 0,.int .i64 0,.int .i64 0] 277)):=cC;have RL:Hid (jM (x4.alloc (.cells #[.slice none 0 0,.int .i64 0,.int .i64 0] 277)) x4.heap.size (some ⟨g3,0,none⟩) (bQ T)):=(ER j O4').below o;have RD:Hid (jM (x4.alloc (.cells #[.slice none 0 0,.int .i64 0,.int .i64 0] 277)) x4.heap.size (some ⟨g4,0,none⟩) (cM T)):=(ER k O5).below o;have RT:Hid (tQ (x4.alloc (.cells #[.slice none 0 0,.int .i64 0,.int .i64 0] 277)) x4.heap.size a1 T):=(KT l O1').keep (ce o);have C:Hid (KB x4.heap.size x4 (x4.alloc (.cells #[.slice none 0 0,.int .i64 0,.int .i64 0] 277))):=(KB.refl _ _).below o (a0a _);clear o O1' O4' O5;go_wp2_with fail;refine(fR _ _ 1 1 _ h0 (by decide) (by show(0:Nat)<=_;omega)).mono ?_;rintro e x6⟨rfl,o6,W⟩;have H6:=af (a0b o6 (C.trans W));have L:=af (RL.keep W.2);have J:=af (RD.keep W.2);have N:=af (RT.keep W.2);clear o6 W h0 C RL RD RT;go_wp2_with fail;refine(fR _ _ 2 2 _ H6.1 (by decide) (by show(1:Nat)<=_;omega)).mono ?_;rintro e x7⟨rfl,o7,X⟩;have H7:=af (a0b o7 (H6.2.trans X));have A:=af (L.keep X.2);have z:=af (J.keep X.2);have O:=af (N.keep X.2);clear o7 X H6 L J N;have F:=af (Li x4.heap.size (bh (bh (0,0) [(1,1)]) [(2,2)]) (some ⟨g3,0,none⟩) (some ⟨g4,0,none⟩) c3 nL c4 nD (bQ T) (cM T) x7 H7.1 A.1 z.1 j k b.1 b.2 g.1 g.2 (ib T a) (jw T a) (by show(3:Nat)<=1000;omega));go_wp2_with fail;refine F.mono ?_;rintro e x8⟨rfl,o8,Z⟩;have G:Hid (bh (bh (bh (0,0) [(1,1)]) [(2,2)]) (dG (bQ T) (cM T))=bh (0,0) ([(1,1),(2,2)]++dG (bQ T) (cM T))):=by
  show _=_;rw[←bw,←bw];rfl
 rw[ae G]at o8;have M:=A.keep Z.2;have K:=z.keep Z.2;have P:=O.keep Z.2;have K8:=af (H7.2.trans Z);have p:=FG (ib T a) (jw T a) (by rw[ae j];exact b.1) (by rw[ae j];exact b.2) (by rw[ae k];exact g.1) (by rw[ae k];exact g.2);have S:(bh (0,0) ([(1,1),(2,2)]++dG (bQ T) (cM T))).2<=10000:=by
  have h1:=eK (0,0) ([(1,1),(2,2)]++dG (bQ T) (cM T)) (by
   intro x hx;rcases a03.1 hx with h|h
   . simp at h;rcases h with rfl|rfl<;>simp
   . have h3:=p.1;unfold aZ at h3;have:=a1c.1 h3 x h;exact(aT.1 this).1.2)
  rw[a0i]at h1;have:=p.2;simp only[a0C,a0U]at h1;omega
 have c:=af (uy x4.heap.size _ a1 (some ⟨g3,0,none⟩) (some ⟨g4,0,none⟩) c1 tn c3 nL c4 nD T (bQ T) (cM T) x8 o8 P M K l j k (by have:=ae b;omega) (by have:=ae g;omega) (ez (ib T a)) (ez (jw T a)) (by have:=ae b;omega) (by have:=ae I;omega) S (fun t ht=>⟨u t ht,oj T a u t ht⟩));have H:Hid (bh (bh (0,0) ([(1,1),(2,2)]++dG (bQ T) (cM T))) (T.flatMap (db (bQ T) (cM T))++[pcM (bQ T) 256])=aV (jS T)):=by
  show bh _ _=_;rw[←bw,a0I];rfl
 rw[ae H]at c;have Hm:Hid ((aV (jS T)).2<=90000):=by
  show _<=_;rw[←ae H,bw];have h1:=mL (bQ T) (cM T) T (bh (0,0) ([(1,1),(2,2)]++dG (bQ T) (cM T))) (ez (ib T a)) (ez (jw T a)) (fun t ht=>oj T a u t ht);have h2:=eK (bh (bh (0,0) ([(1,1),(2,2)]++dG (bQ T) (cM T))) (T.flatMap (db (bQ T) (cM T)))) [pcM (bQ T) 256] (fun x hx=>by simp only[a02,a1D,a1v]at hx;subst hx;have:=(ez (ib T a) 256 (by have:=ae j;have:=ae b;omega)).1.2;show(bQ T).getD 256 0<=16;omega);have h3:=ae a;simp only[a0C,a0U]at h2;omega
 clear o8 Z M K P p S F A z O H7 G;go_wp2_with fail;refine c.mono ?_;rintro e x9⟨rfl,o9,k9⟩;have K9:=af (K8.trans k9).1;have O9:=af o9;clear o9 k9 c K8;go_wp2_with fail;refine(nf _ _ _ _ O9 Hm).mono ?_;rintro e x10⟨rfl,h7,b7⟩;obtain⟨_,v,Th,Y⟩:=h7;have e8:8*(((aV (jS T)).2+7)/8)/8=((aV (jS T)).2+7)/8:=by omega
 rw[e8]at Y;have Y':Bys x10 x4.heap.size v (cS (jS T)):=Y;have ac:=mD Y';have HB:=af (K9.trans b7);obtain⟨k0,k1,k2,f0,f1,f2,ab⟩:=Th;clear Y Y' e8 k1 k2 b7 O9;generalize hR:cS (jS T)=R at *
 clear hR;go_wp2;go_ret;exact⟨by rw[ae aa];rfl,aj B4 HB⟩
def mV(s:ByteArray):List UInt8:=if s.size<=300 then nt s else []
def wm(s:ByteArray)(w:World)(d:s.size<=1048576)(b:dp w) :
  Ds 118 #[s] w (.string ⟨(mV s).toArray⟩):=by
 by_cases h:s.size<=300
 . have a:Hid (mV s=nt s):=a0d h;rw[ae a];exact DX s w h b
 .
  have c:(300:Int)<(s.size:Int):=by omega
  have a:Hid (mV s=[]):=a0e h;clear h b;go_enter func118,ntmps118;go_wp2;go_ret;exact⟨by rw[ae a];rfl,a0c _ _⟩
