/- Texts. -/
import Derived.Test.YtckocaibjciplaaGreatDoorM19
import Derived.Test.YtckocaibjciplaaGreatDoorM14
set_option linter.all false
set_option maxRecDepth 100000
set_option maxHeartbeats 6400000
namespace Go.Proofs.YtckocaibjciplaaGreatDoor
open Go.Proofs.Tryz
open Go.RowKit Corb
variable {l o:List Int}
def zf(w:World)(x y:Value)(t:TypeId)(g:Nat)(a:w.heap.size=g):(w.alloc (.cells #[x,y] t)).cell? ⟨g,0,none⟩=some x/\(w.alloc (.cells #[x,y] t)).cell? ⟨g,1,none⟩=some y:=by
 subst a;simp
def oe(w:World)(b:Nat):Nat:=match w.cell? ⟨b,0,none⟩with|some v=>sliceLen v|none=>0
def nH(a:Option Addr)(cap n:Nat)(l:List Int)(w:World)(hn:l.length=n)(h:br w a l)(hm:n<=300)(hc:∀i,i<l.length->0<=l.getD i 0/\l.getD i 0<=100000)(h2:1<(aB l l.length).length) :
  Calls prog 171 #[.slice a n cap] w fun e w'=>e = .returned (.slice w.heap.size n n)/\an w' w.heap.size (.slice w.heap.size n n) (bZ l)/\Below w.heap.size w w':=by
 have fb:(n:Int)<=300:=by omega
 obtain⟨i0,hi,ek,el,em⟩:=a0s Tryz.infoInt;have E:=af (a0b hn (a0b hm (a0b hc h2)));have HR:=af h;have d3:Hid (∀k,(aB l l.length).length-k<=1->(k<(aB l l.length).length∨k=0)->bZ l=(ay l k).2):=by
  intro k h3 h4;unfold bZ;rw[a0e (by omega)]
  congr 2;omega
 clear hc h2 h;go_enter func171,ntmps171;go_wp2_with (at_make;refine a1F _ rfl _ _ 122 rfl w.heap.size 3 i0 (.int .i64 0) 1 a0F hi ek el .i64 .i64 _ _ n rfl rfl rfl rfl (by rw[em];omega) (by unfold maxLen;omega) (a0a _) ?_;intro w1 bd V);have cr:an w1 w.heap.size (.slice w.heap.size n n) (List.replicate l.length 0):=by
  rw[hn];exact dn bd
 have b5:Below w.heap.size w w1:=(a0c _ _).grown V (a0a _) (fun k h=>by cases h);have fh:w.heap.size+1<=w1.heap.size:=cr.below.2;have c6:=af (xQ a cap n l w1 hn (HR.later b5) hm);have bk:=af (a0b cr b5);clear bd V hn hm cr b5 hi ek el em;apply c6.mono;rintro e w2⟨rfl,L0,va0,vc0,d4,dl,bs,ef,I⟩;have d8:=bk.1.later I (a0a _);have d2:=aj bk.2 I;rw[←E.1]at bs;clear c6 bk;generalize hB:w1.heap.size=B at *;clear hB;go_wp2_with fail
 go_loopw [5,6,7,9] (fun _ _ _ _ wq=>∃(j:Nat) (L:List Grp) (va:Option Addr) (vc:Nat),(j<(aB l l.length).length∨j=0)/\(L.map bare).Perm (ay l j).1/\cY wq B (B+1) (.slice va L.length vc) L/\HP L/\d9 wq (B+1) L/\an wq w.heap.size (.slice w.heap.size n n) (ay l j).2/\Below w.heap.size w wq) (fun _ _ _ _ wq=>oe wq B)
 case atStart=>exact⟨0,L0,va0,vc0,.inr rfl,bs,d4,dl,ef,d8,d2⟩
 case round=>
  obtain⟨j,L,va,vc,hj,hL,hh,hP,hs,hp,d⟩:=hrel;clear bs d4 dl ef d8 d2 I;have HZ:=af (jN B (B+1) L.length vc va L wr hh);have cc:L.length=(aB l l.length).length-j:=by
   have O:=hL.length_eq;rw[a0O,(cn l j hj).2.2.2]at O;exact O
  by_cases a7:1<L.length
  .
   obtain⟨q,hq⟩:∃q,L.length=q+2:=⟨L.length-2,by omega⟩;obtain⟨g,rfl⟩:=hh.2.somes (by omega);rw[hq]at HZ;have cs:q+2<=300:=by
    have h2:=pN l l.length;have:=E.1;have:=E.2.1;omega
   have fc:(q:Int)+2<=300:=(by omega);have b9:cY wr B (B+1) (.slice g (q+1+1) vc) L:=by rw[hq]at hh;exact hh
   have c7:=af (Ew B g (q+1) vc L wr hs hq (by omega) b9 hP);have H:=af (a0b hj (a0b hL (a0b b9 (a0b hP (a0b hs (a0b hp (a0b d a7)))))));clear hj hL b9 hP hs hp d a7 cc hh cs;go_wp2_with fail;apply HZ.mono;rintro e y1⟨rfl,ad⟩;rw[ad];clear ad y1;go_wp2_with fail;apply c7.mono;rintro e x1⟨rfl,M1,r,a2,d5,a5,X⟩;have f:Hid (Calls prog 206 #[.pointer B] x1 fun e w'=>e = .returned (.agg #[.int .i64 (M1.getD 0 g0).cnt,.int .i64 (M1.getD 0 g0).fst,(M1.getD 0 g0).val])/\∃M:List Grp,(M1.getD 0 g0 :: M).Perm M1/\HP M/\cY w' B (B+1) (.slice g q vc) M/\Below B x1 w'/\bG 3 x1 w'):=by
    obtain⟨hj,hL,hh,hP,hs,hp,d,a7⟩:=ae H;have a8:M1.length=q+1:=by have:=r.length_eq;simp at this;omega
    exact Ew B g q vc M1 x1 ((X.syms hs).sub (fun y hy=>r.mem_iff.1 (by simp[hy]))) a8 (by omega) d5 a2
   have bl:=af (a0b r (a0b a2 (a0b a5 X)));obtain⟨aa,ac,b4⟩:=(H.2.2.2.2.1 (L.getD 0 g0) (gt L 0 (by omega))).form;rw[b4];have dd:=gt L 0 (by omega);have cv:=af (a0b b4 dd);clear r a2 d5 a5 X b4 dd;generalize c9:L.getD 0 g0=A at *;have cy:=af c9;clear c9;go_wp2_with fail;apply f.mono;rintro e x2⟨rfl,M2,Q,dq,b8,I,d6⟩;have HF:Hid (M1.length=q+1/\M2.length=q/\an x2 (B+1) A.val A.syms/\an x2 (B+1) (M1.getD 0 g0).val (M1.getD 0 g0).syms/\d9 x2 (B+1) M2/\an x2 w.heap.size (.slice w.heap.size n n) (ay l j).2/\Below w.heap.size w x2/\M2.Perm M2):=by
    obtain⟨hj,hL,hh,hP,hs,hp,d,a7⟩:=ae H;obtain⟨r,a2,a5,X⟩:=ae bl;have a8:M1.length=q+1:=by have:=r.length_eq;simp at this;omega
    have d7:M2.length=q:=by have:=Q.length_eq;simp at this;omega
    have hk:=X.trans d6;have eg:d9 x2 (B+1) M1:=(hk.syms hs).sub (fun y hy=>r.mem_iff.1 (by simp[hy]));exact⟨a8,d7,hk.ints (hs _ cv.2),eg _ (gt M1 0 (by omega)),eg.sub (fun y hy=>Q.mem_iff.1 (by simp[hy])),hk.ints hp,(d.trans (a5.mono (by omega))).trans (I.mono (by omega)),a2w _⟩
   have c8:=af (a0b Q (a0b dq b8));obtain⟨ga,gc,b7⟩:=HF.2.2.2.1.form;have D:=af (Ni E.2.2.1 (by rw[E.1];exact E.2.1) H.1 H.2.1 H.2.2.2.1 (by omega) (by rw[ae cy];exact bl.1) bl.2.1 Q);rw[ae cy]at D;rw[b7];have en:=af b7;have e7:=b8.lt;clear Q dq b8 I d6 b7;generalize M1.getD 0 g0=G at *;clear c7 f HZ;go_wp2_with fail;have a4:Below x2.heap.size x2 (((x2.alloc (.cells #[A.cnt,A.fst,.slice aa A.syms.length ac] 291)).alloc (.cells #[G.cnt,G.fst,.slice ga G.syms.length gc] 291)).alloc (.cells #[.slice aa A.syms.length ac,.slice ga G.syms.length gc] 122)):=
    (cC.alloc (by simp) _).alloc (by simp;omega) _
   have dv:Three (((x2.alloc (.cells #[A.cnt,A.fst,.slice aa A.syms.length ac] 291)).alloc (.cells #[G.cnt,G.fst,.slice ga G.syms.length gc] 291)).alloc (.cells #[.slice aa A.syms.length ac,.slice ga G.syms.length gc] 122)) x2.heap.size (.int .i64 A.cnt) (.int .i64 A.fst) (.slice aa A.syms.length ac):=
    ((rm x2 _ _ _ _).later cC).later cC
   have d1:Three (((x2.alloc (.cells #[A.cnt,A.fst,.slice aa A.syms.length ac] 291)).alloc (.cells #[G.cnt,G.fst,.slice ga G.syms.length gc] 291)).alloc (.cells #[.slice aa A.syms.length ac,.slice ga G.syms.length gc] 122)) (x2.heap.size+1) (.int .i64 G.cnt) (.int .i64 G.fst) (.slice ga G.syms.length gc):=by
    have O:=rm (x2.alloc (.cells #[A.cnt,A.fst,.slice aa A.syms.length ac] 291)) (.int .i64 G.cnt) (.int .i64 G.fst) (.slice ga G.syms.length gc) 291;have e:(x2.alloc (.cells #[A.cnt,A.fst,.slice aa A.syms.length ac] 291)).heap.size=x2.heap.size+1:=(by simp);rw[e]at O;exact O.later cC
   have ds:jJ (((x2.alloc (.cells #[A.cnt,A.fst,.slice aa A.syms.length ac] 291)).alloc (.cells #[G.cnt,G.fst,.slice ga G.syms.length gc] 291)).alloc (.cells #[.slice aa A.syms.length ac,.slice ga G.syms.length gc] 122)) (x2.heap.size+1+1) (B+1) [(.slice aa A.syms.length ac,A.syms.map (Value.int .i64)),(.slice ga G.syms.length gc,G.syms.map (Value.int .i64))]:=by
    have co:=HF.2.2.1.later a4 (a0a _);have cp:=HF.2.2.2.1.later a4 (a0a _);rw[cv.1]at co;rw[ae en]at cp;intro i hi
    match i,hi with
    | 0,_=>exact⟨(zf _ _ _ _ _ (by simp)).1,_,co,a1s .i64 _⟩
    | 1,_=>exact⟨(zf _ _ _ _ _ (by simp)).2,_,cp,a1s .i64 _⟩
   have eu:(((x2.alloc (.cells #[A.cnt,A.fst,.slice aa A.syms.length ac] 291)).alloc (.cells #[G.cnt,G.fst,.slice ga G.syms.length gc] 291)).alloc (.cells #[.slice aa A.syms.length ac,.slice ga G.syms.length gc] 122)).heap.size=x2.heap.size+3:=(by simp);generalize ((x2.alloc (.cells #[A.cnt,A.fst,.slice aa A.syms.length ac] 291)).alloc (.cells #[G.cnt,G.fst,.slice ga G.syms.length gc] 291)).alloc (.cells #[.slice aa A.syms.length ac,.slice ga G.syms.length gc] 122)=W3 at *;have C:aQ [(Value.slice aa A.syms.length ac,A.syms.map (Value.int .i64)),(Value.slice ga G.syms.length gc,G.syms.map (Value.int .i64))]=(A.syms++G.syms).length:=by simp[aQ,cM]
   have R:dz [(Value.slice aa A.syms.length ac,A.syms.map (Value.int .i64)),(Value.slice ga G.syms.length gc,G.syms.map (Value.int .i64))]=(A.syms++G.syms).map (Value.int .i64):=by simp[dz]
   refine(rI (x2.heap.size+1+1) (B+1) 2 2 _ W3 rfl (by omega) (by omega) ds (by rw[C];have:=D.2.2.2.2.2.1;omega)).mono ?_;rintro e x3⟨v,rfl,ch,T⟩;rw[C,R]at ch;have b3:an x3 W3.heap.size v (A.syms++G.syms):=ch;have a9:=dv.later T;have ba:=d1.later T;have m:=aj a4 T;have N:Hid (cY x3 B (B+1) (.slice g q vc) M2/\d9 x3 (B+1) M2/\an x3 w.heap.size (.slice w.heap.size n n) (ay l j).2/\Below w.heap.size w x3/\an x3 W3.heap.size v (A.syms++G.syms)/\Three x3 x2.heap.size (.int .i64 A.cnt) (.int .i64 A.fst) (.slice aa A.syms.length ac)/\Three x3 (x2.heap.size+1) (.int .i64 G.cnt) (.int .i64 G.fst) (.slice ga G.syms.length gc)/\x2.heap.size+3<=x3.heap.size):=by
    obtain⟨a8,d7,co,cp,e3,e2,ev,_⟩:=ae HF;refine⟨c8.2.2.later m,e3.later m (a0a _),e2.later m (a0a _),ev.trans (m.mono (by omega)),b3,a9,ba,?_⟩;have:=T.size;omega
   obtain⟨sa,sc,ei⟩:=b3.form;have a3:Hid ((A.syms++G.syms).length<=300/\0<(A.syms++G.syms).length/\(∀x∈A.syms++G.syms,0<=x/\x<(l.length:Int))):=by
    obtain⟨t1,t2,t3,t4,t5,t6,t7,t8,t9⟩:=ae D;refine⟨t6,?_,t9⟩;rw[a0j];omega
   clear a4 dv d1 ds ch T b3 a9 ba m R C;generalize hS:A.syms++G.syms=S at *;clear hS;obtain⟨gs,ey⟩:=(show an x3 W3.heap.size (.slice sa S.length sc) S by rw[←ei];exact N.2.2.2.2.1).somes a3.2.1;subst ey;subst ei;have sI:(S.length:Int)<=300:=by have:=a3.1;omega
   go_wp2_with fail;have e1:=af (vo l (fun i hi=>(E.2.2.1 i hi).2) (by rw[E.1];exact E.2.1) j H.1);have e0:Hid ((j:Int)<=300):=by
    show(j:Int)<=300;have O:=H.1;have h2:=pN l l.length;have:=E.1;have:=E.2.1;omega
   have c5:Hid (oe wr B=q+2):=by
    show oe wr B=q+2;unfold oe;rw[H.2.2.1.cell];rfl
   go_loopw [9,30] (fun _ i wq=>∃t:Nat,t<=S.length/\i = .int .i64 t/\an wq w.heap.size (.slice w.heap.size n n) (bump (ay l j).2 (S.take t))/\Touch (some ⟨w.heap.size,0,none⟩) x3 wq/\Below w.heap.size w wq) (fun _ i _=>S.length-(intOf i).toNat)
   case atStart=>exact⟨0,a0g _,rfl,N.2.2.1,Touch.refl _ _,N.2.2.2.1⟩
   case round=>
    obtain⟨t,ht,rfl,J,c,a6⟩:=hrel;have cg:Hid ((bump (ay l j).2 (S.take t)).length=n):=by show(bump (ay l j).2 (S.take t)).length=n;rw[qi,eQ,E.1]
    have ej:Hid (t<=S.length):=ht;clear ht;by_cases Y:t<S.length
    .
     have be:=N.2.2.2.2.1.touch c (kw _ _ (by omega));obtain⟨c0,_,_,_⟩:=be.at rfl Y;have hx:=a3.2.2 (S.getD t 0) (by simp[List.getD,Y]);rw[E.1]at hx;have U:=af (xW (ay l j).2 S t Y);have bc:=af (uQ e1 (S.take t));obtain⟨p,eb⟩:=a0p hx.1;rw[eb]at c0 U;have ea:p<n:=(by omega);obtain⟨d0,f0,_,_⟩:=J.at cg ea;have cu:=ae bc p (by rw[ae cg];exact ea);have Z:=J.put (j:=p) cg ((bump (ay l j).2 (S.take t)).getD p 0+1);have eh:Hid (bump (ay l j).2 (S.take (t+1))=(bump (ay l j).2 (S.take t)).set p ((bump (ay l j).2 (S.take t)).getD p 0+1)):=by
      show bump (ay l j).2 (S.take (t+1))=_;rw[ae U];unfold gp;rw[a0o]
     have fl:(bump (ay l j).2 (S.take t)).getD p 0<=100000:=by
      have O:=cu.2;have h2:(S.take t).length<=300:=by rw[a0v];have:=a3.1;omega
      have:=ae e0;omega
     have fk:=cu.1;have bb:=ai a6 (b:=w.heap.size) (o:=p) (a0a _) (.int .i64 ((bump (ay l j).2 (S.take t)).getD p 0+1));have ab:=c.set (o:=p) rfl (.int .i64 ((bump (ay l j).2 (S.take t)).getD p 0+1));have e6:(p:Int)<(n:Int):=(by omega);rw[←ae eh]at Z;generalize (bump (ay l j).2 (S.take t)).getD p 0=y at *;have K:=af (a0b Z (a0b bb ab));have e5:(t:Int)<(S.length:Int):=(by omega);clear Z bb ab eh cu bc U eb hx be c a6 J;go_wp2;go_roundw
     case rel=>exact⟨t+1,by have:=ae ej;omega,by go_num,K.1,K.2.2,K.2.1⟩
     case measure=>simp[intOf];omega
    .
     obtain rfl:t=S.length:=by have:=ae ej;omega
     rw[a0u (a0a _)]at J;obtain⟨h3,s3,_,_,o3,tA,tG,z3⟩:=ae N;have HY:Hid (cY wr B (B+1) (.slice g q vc) M2/\d9 wr (B+1) M2/\an wr (B+1) (.slice gs S.length sc) S):=by
      refine⟨⟨(c.2 B (fun g' e=>by simp only[a0k,a0A,a0Q]at e;omega)).trans h3.1,pa h3.2 c (kw _ _ (by omega))⟩,fun y hy=>(s3 y hy).touch c (kw _ _ (by omega)),?_⟩;have h4:=o3.touch c (kw _ _ (by omega));exact an.mono h4 (by omega)
     obtain⟨a0,a1,_,_,_,_,abl⟩:=tA;obtain⟨b0,b1,_,_,_,_,fa⟩:=tG;have a0':=(iX c (p:=⟨x2.heap.size,0,none⟩) (by show x2.heap.size≠w.heap.size;omega)).trans a0;have a1':=(iX c (p:=⟨x2.heap.size,1,none⟩) (by show x2.heap.size≠w.heap.size;omega)).trans a1;have e8:=(iX c (p:=⟨x2.heap.size+1,0,none⟩) (by show x2.heap.size+1≠w.heap.size;omega)).trans b0;have e9:=(iX c (p:=⟨x2.heap.size+1,1,none⟩) (by show x2.heap.size+1≠w.heap.size;omega)).trans b1;obtain⟨t1,t2,t3,t4,t5,t6,t7,t8,t9⟩:=ae D;obtain⟨F,hF⟩:∃F:Int,F=if G.fst<A.fst then G.fst else A.fst:=⟨_,rfl⟩
     rw[←hF]at t2;have f:=af (a0b t1 t2);have al:=af (Dk B q vc (some ⟨g,0,none⟩) M2 ⟨A.cnt+G.cnt,F,S,.slice gs S.length sc⟩ wr HY.2.1 HY.2.2 HF.2.1 (by omega) HY.1 c8.2.1);have ao:=af (a0b J a6);clear h3 s3 o3 z3 a0 a1 b0 b1 c J a6 eu t1 t2 t6 t7 t8 t9;by_cases e4:A.fst<=G.fst
     .
      have P:F=A.fst:=(by rw[hF,a0e (by omega)]);rw[P]at al f;clear hF P;go_wp2_with fail;apply al.mono;rintro e x5⟨rfl,M3,g',c',s,b2,W,b6,z⟩;go_wp2;go_roundw
      case rel=>
       have ca:M3.length=q+1:=by rw[s.length_eq,a0j,HF.2.1];rfl
       have u:=ao.1;refine⟨j+1,M3,some ⟨g',0,none⟩,c',.inl ?_,f.2 M3 _ s,by rw[ca];exact W,b2,?_,?_,ao.2.trans (b6.mono (by omega))⟩
       . have O:=H.2.1.length_eq;rw[a0O,(cn l j H.1).2.2.2]at O;omega
       . exact(((z.syms HY.2.1)).snoc (z.ints HY.2.2)).perm s
       . show an x5 w.heap.size _ (bump (ay l j).2 (bi (ay l j).1));rw[f.1];exact z.ints u
      case measure=>
       rw[ae c5];unfold oe;rw[W.cell];simp[sliceLen]
     .
      have P:F=G.fst:=(by rw[hF,a0d (by omega)]);rw[P]at al f;clear hF P;go_wp2_with fail;apply al.mono;rintro e x5⟨rfl,M3,g',c',s,b2,W,b6,z⟩;go_wp2;go_roundw
      case rel=>
       have ca:M3.length=q+1:=by rw[s.length_eq,a0j,HF.2.1];rfl
       have u:=ao.1;refine⟨j+1,M3,some ⟨g',0,none⟩,c',.inl ?_,f.2 M3 _ s,by rw[ca];exact W,b2,?_,?_,ao.2.trans (b6.mono (by omega))⟩
       . have O:=H.2.1.length_eq;rw[a0O,(cn l j H.1).2.2.2]at O;omega
       . exact(((z.syms HY.2.1)).snoc (z.ints HY.2.2)).perm s
       . show an x5 w.heap.size _ (bump (ay l j).2 (bi (ay l j).1));rw[f.1];exact z.ints u
      case measure=>
       rw[ae c5];unfold oe;rw[W.cell];simp[sliceLen]
  . obtain⟨va',vc',hform⟩:∃x y,Value.slice va L.length vc = .slice x L.length y:=⟨_,_,rfl⟩;have ed:=ae d3 j (by omega) hj;rw[←ed]at hp;clear hform;go_wp2_with fail;apply HZ.mono;rintro e y1⟨rfl,ad⟩;rw[ad];clear ad y1;go_wp2;go_ret;exact⟨rfl,hp,d⟩
def wk{k:Nat}(h:bX o k<o.getD k 0):bX o (k+1)=o.getD k 0:=by simp only[bX];rw[a0d h]
def Av{k:Nat}(h:¬ bX o k<o.getD k 0):bX o (k+1)=bX o k:=by simp only[bX];rw[a0e h]
def NZ(b:0<=o.getD 0 0):bX o 1=o.getD 0 0:=by
 by_cases h:bX o 0<o.getD 0 0
 . exact wk h
 . have a:bX o 1=bX o 0:=Av h;have e:bX o 0=0:=rfl;rw[e]at h a;rw[a];exact(Int.le_antisymm (Int.not_lt.1 h) b).symm
def GR(v:Value)(w:World)(n:Nat):Nat:=match v with
 | .slice (some a) _ _=>((List.range n).map (fun i=>(intOf ((w.cell? ⟨a.block,a.off+i,none⟩).getD (.int .i64 0))).toNat)).sum
 | _=>0
def IR{w:World}{a:Option Addr}{n c:Nat}(e:l.length=n)(b:1<=n)(h:br w a l):GR (.slice a n c) w n=kC l:=by
 obtain⟨g,o,rfl,f,d⟩:=h (by omega);unfold GR kC;simp only
 congr 1
 apply a2i
 . simp[e]
 . intro i b h2;simp only[a0O,List.length_range]at b;simp only[List.getElem_map,List.getElem_range];rw[d i (by omega)];simp[intOf,List.getD,show i<l.length by omega]
def wi(a:Option Addr)(cap n:Nat)(o:List Int)(w:World)(t:o.length=n)(h:br w a o)(r:1<=n)(z:n<=300)(d:∀i,i<o.length->0<=o.getD i 0) :
  Calls prog 167 #[.slice a n cap] w fun e w'=>e = .returned (.int .i64 (bX o n))/\w'=w:=by
 have A:(n:Int)<=300:=by omega
 have x:(1:Int)<=(n:Int):=by omega
 have p:=af (a0b t (a0b r d));obtain⟨g,off,rfl,E,f⟩:=h (by omega);have c0:=f 0 (by omega);have e0:=af (NZ (d 0 (by omega)));rw[a1b]at c0;have v:=af f;clear t h z d f r;generalize B:o.getD 0 0=y0 at *;clear B;go_enter func167,ntmps167;go_wp2_with fail
 go_loop [3,4] (fun m i=>∃k:Nat,1<=k/\k<=n/\i = .int .i64 k/\m = .int .i64 (bX o k)) (fun _ i=>n-(intOf i).toNat)
 case atStart=>exact⟨1,a0a _,p.2.1,rfl,by rw[ae e0]⟩
 case round=>
  obtain⟨k,u,s,rfl,rfl⟩:=hrel;have C:=af (a0b u s);by_cases j:k<n
  .
   have D:=ae v k (by rw[p.1];exact j);have c:=af (fun h=>wk (o:=o) (k:=k) h);have l:=af (fun h=>Av (o:=o) (k:=k) h);clear s u c0;generalize o.getD k 0=y,bX o k=q at *;by_cases b:q<y
   .
    have e1:=af (ae c b);go_wp2
    go_round
    case rel=>exact⟨k+1,by omega,by omega,by go_num,by rw[ae e1]⟩
    case measure=>simp[intOf];omega
   .
    have e1:=af (ae l b);go_wp2
    go_round
    case rel=>exact⟨k+1,by omega,by omega,by go_num,by rw[ae e1]⟩
    case measure=>simp[intOf];omega
  .
   obtain rfl:k=n:=by omega
   go_wp2;go_ret;exact⟨rfl,rfl⟩
def FW(x:Int)(w:World)(a:0<=x)(b:x<=1000000) :
  Calls prog 172 #[x] w fun e w'=>e = .returned (.int .i64 (jg x))/\w'=w:=by
 go_enter func172,ntmps172;go_wp2;go_ret;exact⟨rfl,rfl⟩
def zN(a:Option Addr)(cap n:Nat)(l:List Int)(w:World)(H:l.length=n)(h:br w a l)(G:n<=1048576)(E:okC l) :
  Calls prog 169 #[.slice a n cap,.func (.func 172) #[] #[]] w fun e w'=>∃v,e = .returned v/\an w' w.heap.size v (bv l)/\Below w.heap.size w w':=by
 have M:(n:Int)<=1048576:=by omega
 have p:=af H;have K:=af G;have I:=af E;clear H G E;obtain⟨i0,L,B,C,D⟩:=a0s Tryz.infoInt;go_enter func169,ntmps169;go_wp2_with fail
 go_loopw [5,7,10] (fun o _ i wr=>∃k:Nat,k<=n/\i = .int .i64 k/\an wr w.heap.size o (bv (l.take k))/\Below w.heap.size w wr) (fun _ _ i _=>n-(intOf i).toNat)
 case atStart=>exact⟨0,a0g _,rfl,a1c _ _ _ _,a0c _ _⟩
 case round=>
  obtain⟨k,F,rfl,hq,b⟩:=hrel;have q:=b.size;by_cases m:k<n
  .
   obtain⟨g,o,rfl,N,r⟩:=(h.later b) (by rw[ae p];omega);have c0:=r k (by rw[ae p];exact m);obtain⟨y0,y1⟩:=ae I k (by rw[ae p];exact m);have A:Hid (bv (l.take (k+1))=bv (l.take k)++[jg (l.getD k 0)]):=by
    show _=_;unfold bv;rw[cz l k (by rw[ae p];exact m),a0J];rfl
   have z:Hid ((bv (l.take k)).length=k):=by show _=k;have:=ae p;rw[eV];simp;omega
   have J:=af F;clear r F h;generalize l.getD k 0=y at *;have HP:=af (FW y wr (by omega) (by omega));generalize jg y=R at *;go_wp2_with fail;apply HP.mono;rintro e x1⟨rfl,u⟩;rw[u];clear u x1;have d:Hid ((bv (l.take k)).length+1<=maxLen/\((bv (l.take k)).length+1)*8<=140737488355328):=by
    show _/\_;rw[ae z];have:=ae K;unfold maxLen;omega
   clear HP;go_wp2_with (at_builtin;refine a0w _ rfl _ _ 122 rfl w.heap.size 3 i0 (.int .i64 0) 1 8 a0F L B C D rfl (by decide) _ _ _ rfl (a0n hq _) ⟨wr.heap.size,0,none⟩ 1 1 [.int .i64 R] rfl rfl (cw _ _ rfl _ _) (fj _) d.1 d.2 (au q _) ?_;intro v' x2 j c s;clear s);have x:=aJ (v:=u5) c hq (a0a _) q b;have t:=ox j;rw[←ae A]at t;clear j c hq;go_wp2;go_roundw
   case rel=>exact⟨k+1,by have:=ae J;omega,by go_num,t,x⟩
   case measure=>simp[intOf];omega
  . have f:l.take k=l:=a0u (by rw[ae p];omega);rw[f]at hq;obtain⟨va,vc,rfl⟩:=hq.form;clear f h;go_wp2;go_ret;exact⟨_,rfl,hq,b⟩
def OT(l:List Int)(k i:Nat)(d:i<k)(c:0<l.getD i 0):∃g∈aB l k,g.fst=(i:Int):=by
 induction k with
 | zero=>omega
 | succ k ih=>
  by_cases e:i=k
  . subst e;refine⟨⟨l.getD i 0,(i:Int),[(i:Int)],.slice none 0 0⟩,?_,rfl⟩;rw[wO c];simp
  .
   obtain⟨g,a,b⟩:=ih (by omega);refine⟨g,?_,b⟩;simp only[aB]
   split
   . simp[a]
   . exact a
def OU(l:List Int)(k:Nat):∀g∈aB l k,∃i:Nat,g.fst=(i:Int)/\i<k/\0<l.getD i 0:=by
 induction k with
 | zero=>intro g a;simp[aB]at a
 | succ k ih=>
  intro g a;simp only[aB]at a
  split at a
  .
   rename_i hp;simp only[a02,a09]at a;rcases a with a|rfl
   . obtain⟨i,b,h2,c⟩:=ih g a;exact⟨i,b,by omega,c⟩
   . exact⟨k,rfl,by omega,hp⟩
  . obtain⟨i,b,h2,c⟩:=ih g a;exact⟨i,b,by omega,c⟩
def Ai(m:okC l)(a:(aB l l.length).length=1):bZ l=l.map iO:=by
 unfold bZ;rw[a0d a];obtain⟨x,hx⟩:∃x,aB l l.length=[x]:=by
  cases j:aB l l.length with
  | nil=>rw[j]at a;simp at a
  | cons x t=>rw[j]at a;simp at a;exact⟨x,by rw[a]⟩
 obtain⟨q,hq,p,h⟩:=OU l l.length x (by rw[hx];simp);rw[hx];simp only[List.getD_cons_zero];rw[hq,a0o];apply a2i
 . simp
 .
  intro i h2 k;have f:i<l.length:=by simpa using k
  have e:l.getD i 0=l[i]:=by simp[List.getD,f]
  have b:=m i f;rw[List.getElem_set,List.getElem_map,List.getElem_replicate];by_cases c:q=i
  .
   subst c;rw[a0d rfl];rw[e]at h b;unfold iO
   split<;>omega
  .
   rw[a0e c];have r:¬ 0<l.getD i 0:=by
    intro o;obtain⟨g,d,n⟩:=OT l l.length i f o;rw[hx]at d;simp only[a09]at d;subst d;rw[hq]at n;omega
   rw[e]at r b;unfold iO
   split<;>omega
def Qo{m:Int}(j:1<=m)(b:okC l)(d:(aB l l.length).length=1):dt m l=l.map iO:=by
 have g:fits (bZ l) m=true:=by
  refine Il (by omega) ?_;rw[Ai b d];intro i h;have a:i<l.length:=by simpa using h
  have e:(l.map iO).getD i 0=iO l[i]:=by simp[List.getD,a]
  have e2:l.getD i 0=l[i]:=by simp[List.getD,a]
  have c:=b i a;rw[e2]at c;rw[e];unfold iO
  split<;>omega
 rw[←Ai b d];unfold dt;cases kC l with
 | zero=>rfl
 | succ f=>simp only[qt];rw[g];rfl
def QD(b:okC l)(c:l.length<=300)(h2:1<(aB l l.length).length):∀i,i<(bZ l).length->0<=(bZ l).getD i 0:=by
 intro i a;have e:bZ l=(ay l ((aB l l.length).length-1)).2:=by unfold bZ;rw[a0e (by omega)]
 rw[e]at a ⊢;exact((vo l (fun i a=>(b i a).2) c _ (.inl (by omega))) i a).1
def vq(a:Option Addr)(cap n:Nat)(l:List Int)(m:Int)(w:World)(g:l.length=n)(h:br w a l)(f:n<=1048576)(c:yG l m=false) :
  Ds 140 #[.slice a n cap,m] w (.slice none 0 0):=by
 have j:=af (m8 a cap n l w g h f);by_cases v:m<1
 .
  clear g h f c;generalize jG l=U at *;go_enter a2W,a2X;go_wp2_with fail;apply j.mono;rintro e x1⟨rfl,d⟩;rw[d];go_wp2;go_ret;exact⟨rfl,a0c _ _⟩
 .
  by_cases p:15<m
  .
   clear g h f c;generalize jG l=U at *;go_enter a2W,a2X;go_wp2_with fail;apply j.mono;rintro e x1⟨rfl,d⟩;rw[d];go_wp2;go_ret;exact⟨rfl,a0c _ _⟩
  .
   by_cases i:jG l<1
   .
    clear g h f c;generalize jG l=U at *;go_enter a2W,a2X;go_wp2_with fail;apply j.mono;rintro e x1⟨rfl,d⟩;rw[d];go_wp2;go_ret;exact⟨rfl,a0c _ _⟩
   .
    obtain⟨mm,rfl⟩:∃mm:Nat,m=(mm:Int)+1:=⟨(m-1).toNat,by omega⟩;have b:(decide (l.length<=300)&&inC l)=true:=by
     cases u:decide (l.length<=300)&&inC l
     . exfalso;apply i;unfold jG;rw[u];simp
     . rfl
    have k:(p2 mm:Int)<jG l:=by
     simp only[a0l,a0t]at b;rw[oJ b.1 b.2]at i ⊢;unfold yG at c;rw[a0B b.1,b.2,aI.2 ⟨by omega,by omega⟩]at c;have e3:((mm:Int)+1).toNat=mm+1:=(by omega);rw[e3,AE]at c;simp only[a24]at c;have:=eW.1 c;omega
    have s:jG l<=300:=by
     simp only[a0l,a0t]at b;rw[oJ b.1 b.2];have:=tU l;omega
    have r:(1:Int)*2 ^ mm=(p2 mm:Int):=(by rw[Int.one_mul,ll]);have o:(2:Int) ^ mm=(p2 mm:Int):=(ll mm).symm;have q:(mm:Int)<=14:=(by omega);have t:IntKind.i64.wrap (p2 mm:Int)=(p2 mm:Int):=bP _ (by omega) (by omega);clear g h f c b;generalize jG l=U,p2 mm=PW at *;go_enter a2W,a2X;go_wp2_with fail;apply j.mono;rintro e x1⟨rfl,d⟩;rw[d];go_wp2;go_ret;exact⟨rfl,a0c _ _⟩
def vP(o:List Int)(i:Nat):Nat:=(o.getD i 0).toNat
def NV(l:List Int)(i:Nat)(h:i<l.length):l.getD i 0∈l:=by simp[List.getD,h]
def yu(h2:2<=(aB l l.length).length) :
  (∀i,i<l.length->0<=(bZ l).getD i 0/\(bZ l).getD i 0<=(((aB l l.length).length-1:Nat):Int)) /\
  (∀i,i<l.length->(0<(bZ l).getD i 0<->0<l.getD i 0)) /\
  (∀D,(aB l l.length).length<=D->krR l (vP (bZ l)) D l.length=2 ^ D) /\
  qo l (bZ l) l.length=sZ ((aB l l.length).length-1) (aB l l.length):=by
 obtain⟨U,hU⟩:∃U,(aB l l.length).length=U+2:=⟨(aB l l.length).length-2,by omega⟩;have A:bZ l=(ay l (U+1)).2:=by
  unfold bZ;rw[a0e (by omega),hU];rfl
 have k:U+1<(aB l l.length).length∨U+1=0:=.inl (by omega);have m:=mf l (U+1) k;have b:(ay l (U+1)).1.length=1:=by have:=(cn l (U+1) k).2.2.2;omega
 have B:(ay l U).1.length=2:=by have:=(cn l U (by omega)).2.2.2;omega
 obtain⟨g,hg⟩:∃g,(ay l (U+1)).1=[g]:=by
  cases v:(ay l (U+1)).1 with
  | nil=>rw[v]at b;simp at b
  | cons x t=>rw[v]at b;simp at b;exact⟨x,by rw[b]⟩
 have a:=ou l (U+1) k;have p:(g.syms).Perm (bq (aB l l.length)):=by
  rw[hg]at a
  simpa[bq]using a
 rw[A];refine⟨?_,?_,?_,?_⟩
 .
  intro i h;have:=m i (by rw[eQ];exact h);refine⟨this.1,?_⟩;have e:(((aB l l.length).length-1:Nat):Int)=((U+1:Nat):Int):=by rw[hU];omega
  rw[e];exact this.2
 .
  intro i h;constructor
  .
   intro u;apply Classical.byContradiction;intro C;have H:=yt l i h (fun q=>by
    obtain⟨j,d,s,w⟩:=(Ch l l.length (i:Int)).1 q;have:i=j:=by omega
    subst this;exact C w) (U+1) k
   omega
  .
   intro u;have q:(i:Int)∈bq (aB l l.length):=(Ch l l.length (i:Int)).2 ⟨i,rfl,h,u⟩;have f:1<(ay l U).1.length:=(by omega);have n:=iJ l U (by omega);have c:=kv _ f;have G:=dy (ay l U).1 (by omega);have E:=dy (ar (ay l U).1) (by omega);have o:ar (ar (ay l U).1)=[]:=a2r (by omega);rw[o]at c;have r:(i:Int)∈bi (ay l U).1:=by
    have d:=(ou l U (by omega)).mem_iff.2 q;have s:=c.mem_iff.2 d;simpa[bq]using s
   have hb:=mZ (ay l U).2 (bi (ay l U).1) i (kp f n.1).1 (fun y F=>(n.2 y (c.mem_iff.1 (by simp[F]))).1) (by rw[eQ];exact h);rw[a0d r]at hb;have hd:=(mf l U (by omega)) i (by rw[eQ];exact h);show 0<(bump (ay l U).2 (bi (ay l U).1)).getD i 0;omega
 . intro D z;have d:=QC l D z (U+1) k g (by rw[hg];simp);rw[←xw,←d];exact(KC _ p).symm
 .
  have d:=QA l (U+1) k;have e:(aB l l.length).length-1-(U+1)=0:=by omega
  rw[e]at d;simp only[sZ,Int.add_zero]at d;exact d
def Nw{len:Nat->Nat}{D E n:Nat}(b:E<=D)(h:∀i,i<n->0<l.getD i 0->len i<=E):krR l len D n=2 ^ (D-E)*krR l len E n:=by
 induction n with
 | zero=>rfl
 | succ n ih=>
  simp only[krR];rw[ih (fun i c=>h i (by omega)),a2q];by_cases a:0<l.getD n 0
  .
   rw[a0d a,a0d a];have:=h n (by omega) a;rw[←a0T]
   congr 2
   omega
  . rw[a0e a,a0e a];rfl
def Nx{E:Nat}(h2:2<=(aB l l.length).length)(h:∀i,i<l.length->(bZ l).getD i 0<=(E:Int)):krR l (vP (bZ l)) E l.length=2 ^ E:=by
 obtain⟨e,_,d,_⟩:=yu h2;have b:∀i,i<l.length->0<l.getD i 0->vP (bZ l) i<=E:=by
  intro i c _;have:=h i c;unfold vP;omega
 have a:=Nw (D:=E+(aB l l.length).length) (Nat.le_add_right _ _) b;rw[d _ (Nat.le_add_left _ _),a1q,a0T,a1h]at a;exact(Nat.eq_of_mul_eq_mul_left (Nat.pow_pos (by omega)) a).symm
def QG(e:o.length=l.length)(h:∀i,i<l.length->(0<o.getD i 0<->0<l.getD i 0))(k:Nat)(d:k<=l.length):kr (o.take k)=krR l (vP o) 15 k/\us (o.take k)=(aB l k).length:=by
 induction k with
 | zero=>exact⟨rfl,rfl⟩
 | succ k ih=>
  obtain⟨c,h2⟩:=ih (by omega);rw[Ak o k (by omega),rp o k (by omega),c,h2];simp only[krR];have b:=h k (by omega);by_cases a:0<l.getD k 0
  .
   rw[a0d a,a0d (b.2 a),j6 a];refine⟨?_,by simp⟩;unfold krN vP p2;rw[a0d (b.2 a)]
   congr 2
   have:=b.2 a;omega
  . rw[a0e a,a0e (fun x=>a (b.1 x)),nR a];refine⟨?_,rfl⟩;unfold krN;rw[a0e (fun x=>a (b.1 x))]
def ES(c:o.length=l.length)(j:l.length<=300)(h:∀i,i<l.length->(0<o.getD i 0<->0<l.getD i 0))(b:∀i,i<l.length->0<=o.getD i 0/\o.getD i 0<=15)(a:krR l (vP o) 15 l.length=32768∨((aB l l.length).length=1/\krR l (vP o) 15 l.length=16384)):ap o=true:=by
 obtain⟨d,h2⟩:=QG c h l.length (a0a _);rw[←c,a2x,c]at d h2;unfold ap mC;simp only[a0l,a1k,a0t];refine⟨⟨?_,by omega⟩,?_⟩
 .
  unfold inL;rw[a08];intro x g;obtain⟨i,f,rfl⟩:=a1I g;have:=b i (by omega);have e:o.getD i 0=o[i]:=by simp[List.getD,f]
  rw[e]at this;exact aI.2 this
 .
  rw[d,h2];rcases a with a|a
  . exact .inl a
  . exact .inr a
def Iy(o:List Int)(k i:Nat)(a:i<k):o.getD i 0<=bX o k:=by
 induction k with
 | zero=>omega
 | succ k ih=>
  by_cases h:bX o k<o.getD k 0
  .
   rw[wk h];by_cases e:i=k
   . subst e;exact a2K _
   . have:=ih (by omega);omega
  .
   rw[Av h];by_cases e:i=k
   . subst e;omega
   . exact ih (by omega)
def JE(m:Nat):∀(f:Nat) (l:List Int),okC l->1<=(aB l l.length).length->(aB l l.length).length<=p2 m->kC l<=f ->
  ∃c:List Int,c.length=l.length/\okC c/\(∀i,i<l.length->(0<c.getD i 0<->0<l.getD i 0))/\qt ((m:Int)+1) f l=bZ c/\(∀i,i<l.length->(bZ c).getD i 0<=(m:Int)+1)/\(aB c c.length).length=(aB l l.length).length:=by
 intro f;induction f with
 | zero=>
  intro l e k _ v;exfalso;obtain⟨g,u⟩:∃g,g∈aB l l.length:=by
   cases b:aB l l.length with
   | nil=>rw[b]at k;simp at k
   | cons x t=>exact⟨x,by simp⟩
  obtain⟨_,i,_,d,q,_⟩:=re l l.length g u;have:∀(a:List Int) (x:Int),x∈a->0<x->0<kC a:=by
   intro a x j q;induction a with
   | nil=>cases j
   | cons y a ih=>
    simp only[kC,a0D,a0N]at ih ⊢;simp only[a01]at j;rcases j with rfl|j
    . omega
    . have:=ih j;omega
  have:=this l (l.getD i 0) (NV l i d) q;omega
 | succ f ih=>
  intro l e k p v;cases h:fits (bZ l) ((m:Int)+1)
  .
   have hex:=wn p h;have r:=(wU l (Ax e)).2 hex;have b:=sH l (fun i d=>(e i d).1) l.length (a0a _);obtain⟨c,c1,c2,c3,c4,n,o⟩:=ih (bv l) (wt e) (by rw[eV,b];exact k) (by rw[eV,b];exact p) (by omega);rw[eV]at c1 c3 n o;refine⟨c,c1,c2,?_,?_,n,by rw[o,b]⟩
   . intro i d;rw[c3 i d,rS l i d];unfold jg;have:=(e i d).1;omega
   . simp only[qt];rw[h];exact c4
  .
   refine⟨l,rfl,e,fun i _=>Iff.rfl,?_,?_,rfl⟩
   . simp only[qt];rw[h];rfl
   . intro i d;unfold fits at h;have s:=a3u h;rw[jh]at s;have:=Iy (bZ l) l.length i d;omega
def yH{c:List Int}(d:okC c)(g:(aB c c.length).length=1)(i:Nat)(b:i<c.length):(bZ c).getD i 0=if 0<c.getD i 0 then 1 else 0:=by
 rw[Ai d g];have e:(c.map iO).getD i 0=iO c[i]:=by simp[List.getD,b]
 have e2:c.getD i 0=c[i]:=by simp[List.getD,b]
 have a:=d i b;rw[e2]at a ⊢;rw[e];unfold iO;by_cases f:0<c[i]
 . rw[a0d f];split<;>omega
 . rw[a0e f];split<;>omega
def Sz{c:List Int}(d:okC c)(k:Nat)(f:k<=c.length)(b:(aB c c.length).length=1):krR c (vP (bZ c)) 15 k=(aB c k).length*16384:=by
 induction k with
 | zero=>simp[krR,aB]
 | succ k ih=>
  simp only[krR];rw[ih (by omega)];have h:=yH d b k (by omega);by_cases a:0<c.getD k 0
  .
   rw[a0d a,j6 a];have e:vP (bZ c) k=1:=by unfold vP;rw[h,a0d a];rfl
   have e2:(2:Nat) ^ (15-1)=16384:=(by decide);rw[e,e2,a0j,a1j,a1z,a3a]
  . rw[a0e a,nR a,a1b]
def vU{m:Nat}(p:okC l)(s:l.length<=300)(n:1<=(aB l l.length).length)(o:(aB l l.length).length<=p2 m)(t:m<=14) :
  (dt ((m:Int)+1) l).length=l.length/\ap (dt ((m:Int)+1) l)=true/\∀i,i<l.length->0<=(dt ((m:Int)+1) l).getD i 0/\(dt ((m:Int)+1) l).getD i 0<=(m:Int)+1/\(0<(dt ((m:Int)+1) l).getD i 0<->0<l.getD i 0):=by
 obtain⟨c,c1,c2,c3,c4,j,r⟩:=JE m (kC l) l p n o (a0a _);have e:dt ((m:Int)+1) l=bZ c:=c4;rw[e];by_cases b:(aB c c.length).length=1
 .
  have q:=yH c2 b;have d:∀i,i<l.length->0<=(bZ c).getD i 0/\(bZ c).getD i 0<=1/\(0<(bZ c).getD i 0<->0<l.getD i 0):=by
   intro i a;have h:=q i (by omega);have k:=c3 i a;by_cases g:0<c.getD i 0
   . rw[a0d g]at h;rw[h];exact⟨by omega,by omega,⟨fun _=>k.1 g,fun _=>by omega⟩⟩
   . rw[a0e g]at h;rw[h];exact⟨by omega,by omega,⟨fun x=>by omega,fun x=>absurd (k.2 x) g⟩⟩
  refine⟨by rw[jh,c1],?_,fun i a=>⟨(d i a).1,j i a,(d i a).2.2⟩⟩;refine ES (l:=c) (jh c) (by omega) ?_ ?_ (.inr ⟨b,by rw[Sz c2 _ (a0a _) b,b]⟩)
  . intro i a;exact(d i (by omega)).2.2.trans (c3 i (by omega)).symm
  . intro i a;have:=d i (by omega);exact⟨this.1,by omega⟩
 .
  have h2:2<=(aB c c.length).length:=by omega
  obtain⟨f0,f1,_,_⟩:=yu h2;refine⟨by rw[jh,c1],?_,fun i a=>⟨(f0 i (by omega)).1,j i a,(f1 i (by omega)).trans (c3 i a)⟩⟩;have f:∀i,i<c.length->(bZ c).getD i 0<=((15:Nat):Int):=fun i a=>by have:=j i (by omega);omega
  refine ES (l:=c) (jh c) (by omega) f1 (fun i a=>⟨(f0 i a).1,f i a⟩) (.inl (Nx h2 f))
def vr(a:Option Addr)(cap n mm:Nat)(l:List Int)(w:World)(M:l.length=n)(h:br w a l)(hm:n<=300)(hc:inC l=true)(Z:mm<=14)(al:1<=us l)(P:us l<=p2 mm) :
  Calls prog 140 #[.slice a n cap,.int .i64 ((mm:Int)+1)] w fun e w'=>(∃v,e = .returned v/\an w' w.heap.size v (dt ((mm:Int)+1) l))/\Below w.heap.size w w':=by
 have Y:=tU l;have HU:=af (m8 a cap n l w M h (by omega));rw[oJ (by omega) hc]at HU;have a4:(us l:Int)<=300:=by omega
 have a2:(1:Int)<=(us l:Int):=by omega
 have a3:(us l:Int)<=(p2 mm:Int):=by omega
 have bb:(1:Int)*2 ^ mm=(p2 mm:Int):=by rw[Int.one_mul,ll]
 have a9:(2:Int) ^ mm=(p2 mm:Int):=(ll mm).symm;have ba:(mm:Int)<=14:=by omega
 have ab:p2 mm<=16384:=by
  have h1:p2 mm<=p2 14:=a0P (by omega) (by omega);have h2:p2 14=16384:=rfl;omega
 have bc:IntKind.i64.wrap (p2 mm:Int)=(p2 mm:Int):=bP _ (by omega) (by omega);have y:=SJ hc;by_cases s:us l=1
 .
  have HE:=af (BU a cap n l w M h (by omega) y);have j:Hid (dt ((mm:Int)+1) l=l.map iO):=Qo (by omega) y (by rw[fC];exact s);rw[s]at a3 HU;have Hn:=af M;clear M h hm hc Z al P Y a4 a2 s y ab;generalize p2 mm=PW at *;go_enter a2W,a2X;go_wp2_with fail;apply HU.mono;rintro e x1⟨rfl,E⟩;rw[E];clear E x1;go_wp2_with fail;apply HE.mono;rintro e x2⟨v,rfl,ho,hb⟩;obtain⟨va,vc,rfl⟩:=ho.formN (n:=n) (by rw[a0O,ae Hn]);go_wp2;go_ret;exact⟨⟨_,rfl,by rw[ae j];exact ho⟩,hb⟩
 .
  have a8:((us l:Int) == 1)=false:=by simp;omega
  have O:1<(aB l l.length).length:=by rw[fC];omega
  have HN:=af (a0b M (a0b hm (a0b y (show(aB l l.length).length<=p2 mm by rw[fC];exact P))));have N:Hid (1<=n):=by show 1<=n;omega
  have HP:=af (nH a cap n l w M h hm y O);have HH:=af (a0b h O);clear M h hm hc Z al P Y s y ab O;have r:Hid (n<=300):=HN.2.1;generalize us l=U,V:p2 mm=PW at *;have R:=af V;clear V;go_enter a2W,a2X;go_wp2_with fail;apply HU.mono;rintro e x1⟨rfl,E⟩;rw[E];clear E x1;go_wp2_with fail;apply HP.mono;rintro e x2⟨rfl,ho,hb⟩;go_wp2_with fail
  go_loopw [0,6] (fun c v wr=>∃(b:List Int) (f ob T:Nat) (S:Option Addr),b.length=n/\okC b/\(aB b b.length).length<=PW/\1<(aB b b.length).length/\kC b<=f/\dt ((mm:Int)+1) l=qt ((mm:Int)+1) f b/\c = .slice S n T/\v = .slice ob n n/\w.heap.size<=ob/\an wr ob (.slice ob n n) (bZ b)/\br wr S b/\Below w.heap.size w wr) (fun c _ wr=>GR c wr n)
  case atStart=>exact⟨l,kC l,w.heap.size,cap,a,HN.1,HN.2.2.1,HN.2.2.2,HH.2,a0a _,rfl,rfl,rfl,a0a _,ho,HH.1.later hb,hb⟩
  case round=>
   obtain⟨b,f,ob,T,S,k,g,p,u,H,j,rfl,rfl,J,D,B,q⟩:=hrel;clear ho hb;have m:(bZ b).length=n:=(jh b).trans k;have Q:=af (wi (some ⟨ob,0,none⟩) n n (bZ b) wr m (D.rowN m) N r (QD g (by rw[k];exact r) u));have C:Hid (fits (bZ b) ((mm:Int)+1)=decide (bX (bZ b) n<=(mm:Int)+1)):=by show _=_;unfold fits;rw[m]
   have HQ:=af (a0b k (a0b g (a0b p (a0b u (a0b H j)))));have HO:=af (a0b D (a0b B (a0b q J)));have HE:=af (zN S T n b wr k B (by have:=ae r;omega) g);have HS:=af (IR (c:=T) k N B);clear k g p u H j m D B q J;generalize bX (bZ b) n=mo at *;by_cases a7:(mm:Int)+1<mo
   .
    have I:fits (bZ b) ((mm:Int)+1)=false:=by rw[ae C];exact a0m (by omega)
    obtain⟨k,g,p,u,H,j⟩:=ae HQ;rw[←ae R]at p;have hex:=wn p I;have K:=(wU b (Ax g)).2 hex;obtain⟨f',hff⟩:∃f',f=f'+1:=⟨f-1,by omega⟩;have L:Hid (dt ((mm:Int)+1) l=qt ((mm:Int)+1) f' (bv b)):=by
     show _=_;rw[j,hff];simp only[qt];rw[I];rfl
    have X:Hid (kC (bv b)<=f'):=by show _<=_;omega
    have a0:=af K;have A:=af (wt g);have ad:=sH b (fun i hi=>(g i hi).1) b.length (a0a _);have z:Hid ((aB (bv b) (bv b).length).length<=PW/\1<(aB (bv b) (bv b).length).length):=by
     show _/\_;rw[eV,ad,←ae R];exact⟨p,u⟩
    have o:Hid ((bv b).length=n):=(eV b).trans k;clear k g p H j hex K hff ad u;go_wp2_with fail;apply Q.mono;rintro e x3⟨rfl,F⟩;rw[F];clear F x3;go_wp2_with fail;apply HE.mono;rintro e x4⟨v,rfl,x,W⟩;obtain⟨va,vc,rfl⟩:=x.formN o;have d:=x.rowN o;have t:Below w.heap.size w x4:=aj HO.2.2.1 W;have ao:=af (nH va vc n (bv b) x4 o d r A z.2);have a1:=af (a0b x (a0b t d));clear x W d t;go_wp2_with fail;apply ao.mono;rintro e x5⟨rfl,aa,G⟩;obtain⟨x,t,d⟩:=ae a1;have a5:Hid (GR (.slice va n vc) x5 n<GR (.slice S n T) wr n):=by
     show GR _ _ _<GR _ _ _;rw[IR o N (d.later G),ae HS];exact a0
    have HR:=af (a0b aa (a0b (d.later G) (aj t G)));have a6:Hid (w.heap.size<=x4.heap.size):=t.size;clear x t d aa G;go_wp2;go_roundw
    case rel=>exact⟨bv b,f',x4.heap.size,vc,va,o,A,z.1,z.2,X,L,rfl,rfl,a6,HR.1,HR.2.1,HR.2.2⟩
    case measure=>exact a5
   .
    have I:fits (bZ b) ((mm:Int)+1)=true:=by rw[ae C];exact a0B (by omega)
    have ac:Hid (dt ((mm:Int)+1) l=bZ b):=by
     show _=_;rw[HQ.2.2.2.2.2];cases f with
     | zero=>rfl
     | succ f=>simp only[qt];rw[I];rfl
    go_wp2_with fail;apply Q.mono;rintro e x3⟨rfl,F⟩;rw[F];clear F x3;obtain⟨D,B,q,J⟩:=ae HO;go_wp2;go_ret;exact⟨⟨_,rfl,by rw[ae ac];exact D.mono J⟩,q⟩
def j9(a:Option Addr)(cap n:Nat)(l:List Int)(m:Int)(w:World)(i:l.length=n)(h:br w a l)(j:n<=1048576) :
  Calls prog 140 #[.slice a n cap,m] w fun e w'=>(∃v,e = .returned v/\an w' w.heap.size v (kI l m))/\Below w.heap.size w w':=by
 cases b:yG l m
 . apply(vq a cap n l m w i h j b).mono;rintro e w'⟨rfl,hb⟩;refine⟨⟨_,rfl,?_⟩,hb⟩;unfold kI;rw[b];exact a1c _ _ _ _
 .
  have f:=b;unfold yG at f;simp only[a0l,a0t]at f;obtain⟨⟨⟨k,g⟩,d⟩,c⟩:=f;obtain⟨m1,m2⟩:=aI.1 g;obtain⟨mm,rfl⟩:∃mm:Nat,m=(mm:Int)+1:=⟨(m-1).toNat,by omega⟩;have e3:((mm:Int)+1).toNat=mm+1:=by omega
  rw[e3,AE]at c;obtain⟨u1,u2⟩:=aI.1 c;have:=vr a cap n mm l w i h (by omega) d (by omega) (by omega) (by omega);unfold kI;rw[b];exact this
