/- Of what the proof is made: 16 texts, one behind the other. -/
import Derived.Test.YtchidddpplangaaGreatDoorM15
import Derived.Test.YtchidddpplangaaGreatDoorRb1
import Derived.Test.YtchidddpplangaaGreatDoorM9
import Derived.BigRegion
import Derived.Test.YtchidddpplangaaGreatDoorM2
set_option maxRecDepth 100000
set_option linter.unusedSimpArgs false
set_option linter.unusedVariables false
set_option maxHeartbeats 6400000
namespace Go.Proofs.YtchidddpplangaaGreatDoor
open Go.Proofs.Tryz
open Go.RowKit
variable {b c g i j k n ob:Nat}{l:List Int}{t:TypeId}{v:Value}{w w':World}
def sliceLen:Value->Nat
 | .slice _ n _=>n
 | _=>0
theorem uw(h:0<l.getD k 0):ax l (k+1)=ax l k++[⟨l.getD k 0,(k:Int),[(k:Int)],.slice none 0 0⟩]:=by simp only[ax];rw[a0e h]
theorem EA(h:¬ 0<l.getD k 0):ax l (k+1)=ax l k:=by simp only[ax];rw[a0d h]
theorem qC(w:World)(x y z:Value)(t:TypeId)(g:Nat)(b:w.heap.size=g):∀(j:Nat) (u:Value),[x,y,z][j]?=some u->(w.alloc (.cells #[x,y,z] t)).cell? ((⟨g,0,none⟩:Addr).add j)=some u:=by
 subst b;intro j u a
 match j,a with
 | 0,a=>simp at a;subst a;simp[Addr.add]
 | 1,a=>simp at a;subst a;simp[Addr.add]
 | 2,a=>simp at a;subst a;simp[Addr.add]
theorem qD(x y:Int)(a:Option Addr)(n c:Nat):∀u∈[Value.int .i64 x,Value.int .i64 y,Value.slice a n c],u.oneCell'=true:=by
 intro u b;simp at b;rcases b with rfl|rfl|rfl<;>rfl
theorem qE{x:World}{base:Nat}{l:List Grp}(g:Grp)(h:x.ownsRow base t 3 v (l.length+1) (aN l++[.int .i64 g.cnt,.int .i64 g.fst,g.val])):cq t x base v (l++[g]):=by
 show World.ownsRow _ _ _ _ _ (l++[g]).length _;rw[j5];simpa[aN]using h
theorem am.one(w:World)(base:Nat)(hb:base<=w.heap.size)(x:Int):am (w.alloc (.cells #[.int .i64 x] 3)) base (.slice (some ⟨w.heap.size,0,none⟩) 1 1) [x]:=
 a0Y w #[.int .i64 x] 1 hb (by unfold maxLen;omega) rfl
theorem AJ(w:World)(ob:Nat):dI w ob []:=fun g a=>by simp at a
theorem dI.snoc{l:List Grp}{g:Grp}(h:dI w ob l)(b:am w ob g.val g.syms):dI w ob (l++[g]):=by
 intro x a;simp only[a0U,a05]at a;rcases a with a|rfl
 . exact h x a
 . exact b
theorem dI.grown{base:Nat}{l m:List Grp}(h:dI w ob l)(c:cq t w base v m)(d:3≠t)(b:w.grownBy w' v.ownBlock):dI w' ob l:=
 fun g a=>a1M (h g a) b (ow (h g a) c d)
theorem kZ{base:Nat}{u:Value}{m:List Grp}(h:am w ob u l)(b:cq t w base v m)(c:3≠t)(a:w.grownBy w' v.ownBlock):am w' ob u l:=
 a1M h a (ow h b c)
theorem pt(w:World)(x y z:Value)(t:TypeId):Three (w.alloc (.cells #[x,y,z] t)) w.heap.size x y z:=⟨by simp,by simp,by simp,by simp,by simp,by simp,by simp⟩
theorem Three.later{v0 v1 v2:Value}(h:Three w b v0 v1 v2)(hb:Below w.heap.size w w'):Three w' b v0 v1 v2:=h.kept (hb.mono h.2.2.2.2.2.2)
theorem cq.mono{base base':Nat}{l:List Grp}(h:cq t w base v l)(hb:base'<=base):cq t w base' v l:=
 ⟨h.1,h.2.imp id fun⟨g,c,u,e,a,r⟩=>⟨g,c,u,e,a0C hb a,r⟩⟩
theorem dI.sub{l m:List Grp}(h:dI w ob l)(b:∀g∈m,g∈l):dI w ob m:=fun g a=>h g (b g a)
theorem nu{a:Option Addr}{base size:Nat}{e:TypeId}{xs:List Value}(h:w.ownsRow base e size v n xs)(j:Touch a w w')(f:∀g,a=some ⟨g,0,none⟩->g<base):w'.ownsRow base e size v n xs:=by
 refine⟨h.1,?_⟩;rcases h.2 with i|⟨g,cap,b,rfl,c,d,rest⟩
 . exact .inl i
 . refine .inr ⟨g,cap,b,rfl,c,?_,rest⟩;rw[j.2 g (fun g' e=>by have:=f g' e;omega)];exact d
theorem gW{p:Addr}(a:Touch (some ⟨b,0,none⟩) w w')(c:p.block≠b):w'.cell? p=w.cell? p:=
 World.cell?_of_block (a.2 p.block (fun g e=>by simp only[a0l,a0B,a0O]at e;omega))
theorem ju(b B:Nat)(h:b<B):∀g,(some ⟨b,0,none⟩:Option Addr)=some ⟨g,0,none⟩->g<B:=by
 intro g e;simp only[a0l,a0B,a0O]at e;omega
theorem tw(a:Option Addr)(cap n:Nat)(l:List Int)(w:World)(hn:l.length=n)(h:aY w a l)(hm:n<=300)(hc:∀i,i<l.length->0<=l.getD i 0/\l.getD i 0<=100000) :
  Calls prog 172 #[.slice a n cap] w fun e w'=>e = .returned (.slice (some ⟨w.heap.size,0,none⟩) n n)/\am w' w.heap.size (.slice (some ⟨w.heap.size,0,none⟩) n n) (bP l)/\Below w.heap.size w w':=by
 have o7:(n:Int)<=300:=by omega
 obtain⟨i0,hi,hr,hu,hz⟩:=a0p Tryz.infoInt;obtain⟨j0,hj,hl,l3,l4⟩:=a0p Tryz.infoTree;have HN:=ae hn;have HC:=ae hc;have HM:=ae hm;clear hc;go_enter func172,ntmps172;go_wp2_with (at_make;refine a1y _ rfl _ _ 137 rfl w.heap.size 3 i0 (.int .i64 0) 1 a0D hi hr hu .i64 .i64 _ _ n rfl rfl rfl rfl (by rw[hz];omega) (by unfold maxLen;omega) (a0a _) ?_;intro w1 a3 m);have k5:am (w1.alloc (.cells #[] 284)) w.heap.size (.slice (some ⟨w.heap.size,0,none⟩) n n) (List.replicate l.length 0):=by
  rw[hn];exact(cU a3).later ((a0c w1.heap.size w1).alloc (a0a _) _) (a0a _)
 have k1:w.heap.size+1<=w1.heap.size:=(cU a3).below.2;have ka:Below w.heap.size w (w1.alloc (.cells #[] 284)):=((a0c _ _).grown m (a0a _) (fun k h=>by cases h)).alloc (by omega) _;have lg:cq 284 (w1.alloc (.cells #[] 284)) (w.heap.size+1) (.slice (some ⟨w1.heap.size,0,none⟩) 0 0) []:=a0Y w1 #[] 0 k1 (by unfold maxLen;omega) rfl;clear a3 m hn hm
 go_loopw [4,5] (fun v i wr=>∃(k:Nat) (L:List Grp),k<=n/\i = .int .i64 k/\L.map bare=ax l k/\cq 284 wr (w.heap.size+1) v L/\dI wr (w.heap.size+1) L/\am wr w.heap.size (.slice (some ⟨w.heap.size,0,none⟩) n n) (List.replicate l.length 0)/\Below w.heap.size w wr) (fun _ i _=>n-(intOf i).toNat)
 case atStart=>exact⟨0,[],a0g _,rfl,rfl,lg,AJ _ _,k5,ka⟩
 case round=>
  obtain⟨k,L,hk,rfl,hL,ht,hs,hp,J⟩:=hrel;clear k5 ka lg;have HL:=ae hL;have m5:w.heap.size+1<=wr.heap.size:=hp.below.2;clear hL;by_cases nq:k<n
  .
   obtain⟨g,o,rfl,hg,ke⟩:=(h.later J) (by rw[ab HN];omega);have c0:=ke k (by rw[ab HN];exact nq);have HK:=ae hk;have nm:L.length<=300:=by
    have h1:(L.map bare).length=(ax l k).length:=by rw[ab HL]
    have h2:=(kB l 100000 (by omega) (fun i hi=>(ab HC i hi).2) k (by rw[ab HN];omega)).2.2;rw[a0K]at h1;have:=ab HM;omega
   clear ke hk;by_cases hy:0<l.getD k 0
   .
    have ek:=ae (uw hy);generalize l.getD k 0=y at *
    have hA:am (wr.alloc (.cells #[.int .i64 (k:Int)] 3)) (w.heap.size+1) (.slice (some ⟨wr.heap.size,0,none⟩) 1 1) [(k:Int)]:=am.one wr _ m5 _;have Z:Below wr.heap.size wr (wr.alloc (.cells #[.int .i64 (k:Int)] 3)):=(a0c _ _).alloc (a0a _) _;have K:(wr.alloc (.cells #[.int .i64 (k:Int)] 3)).heap.size=wr.heap.size+1:=by simp
    have I:=ht.later Z (a0a _);have H:=hs.later Z (a0a _);have G:=hp.later Z (a0a _);have T:=ai J ((a0c wr.heap.size wr).alloc (a0a _) (.cells #[.int .i64 (k:Int)] 3));have HX:=ae (a0b hA (a0b I (a0b H (a0b G (a0b T K)))));have V:Hid (L.length+1<=maxLen/\(L.length+1)*40<=140737488355328):=by show _/\_;unfold maxLen;omega
    clear hA Z I H G T ht hs hp J K;go_wp2_with (at_builtin;refine a0r _ rfl _ _ 282 rfl (w.heap.size+1) 284 j0 (.agg #[.int .i64 0,.int .i64 0,.slice none 0 0]) 3 40 a3G hj hl l3 l4 rfl (by decide) _ _ _ rfl (a0j (ab HX).2.1 _) ⟨wr.heap.size+1,0,none⟩ 1 1 [.int .i64 y,.int .i64 (k:Int),.slice (some ⟨wr.heap.size,0,none⟩) 1 1] rfl rfl (qC _ _ _ _ _ _ (ab HX).2.2.2.2.2) (qD _ _ _ _ _) (ab V).1 (ab V).2 (an (by rw[(ab HX).2.2.2.2.2];omega) _) ?_;intro v' x3 a3 m k3;clear k3);obtain⟨hA,I,H,G,T,K⟩:=ab HX;have e1:∀{B:Nat} {o:Obj},B=wr.heap.size+1->Below B (wr.alloc (.cells #[.int .i64 (k:Int)] 3)) ((wr.alloc (.cells #[.int .i64 (k:Int)] 3)).alloc o):=fun{B} {o} e=>(a0c _ _).alloc (by rw[K];omega) _;have Y:cq 284 ((wr.alloc (.cells #[.int .i64 (k:Int)] 3)).alloc (.cells #[.int .i64 y,.int .i64 (k:Int),.slice (some ⟨wr.heap.size,0,none⟩) 1 1] 284)) (w.heap.size+1) u4 L:=a0j I _;have ad:=(H.later (e1 rfl) (by rw[K];exact a0a _)).grown Y (by decide) m;have a9:=kZ (hA.later (e1 rfl) (by rw[K];exact a0a _)) Y (by decide) m;have a5:=kZ (G.later (e1 rfl) (by rw[K];exact a0a _)) Y (by decide) m;have a4:Below w.heap.size w x3:=aB (v:=u4) m I (by omega) (by rw[K];omega) T;have bl:=qE ⟨y,(k:Int),[(k:Int)],.slice (some ⟨wr.heap.size,0,none⟩) 1 1⟩ a3;have cg:=ad.snoc (g:=⟨y,(k:Int),[(k:Int)],.slice (some ⟨wr.heap.size,0,none⟩) 1 1⟩) a9;clear a3 m HX hA I H G T e1 Y ad a9;go_wp2;go_roundw
    case rel=>exact⟨k+1,L++[⟨y,(k:Int),[(k:Int)],.slice (some ⟨wr.heap.size,0,none⟩) 1 1⟩],by omega,by go_num,by rw[ab ek,a0I,ab HL];rfl,bl,cg,a5,a4⟩
    case measure=>simp[intOf];omega
   .
    have ek:=ae (EA hy);generalize l.getD k 0=y at *
    go_wp2;go_roundw
    case rel=>exact⟨k+1,L,by omega,by go_num,by rw[ab ek];exact ab HL,ht,hs,hp,J⟩
    case measure=>simp[intOf];omega
  .
   obtain rfl:k=n:=by omega
   have a6:Hid (L.map bare=ax l l.length):=by show L.map bare=ax l l.length;rw[ab HN];exact ab HL
   have hU:Hid (L.length=(ax l l.length).length):=by show L.length=(ax l l.length).length;rw[←ab a6,a0K]
   have j1:L.length<=300:=by
    have h2:=(kB l 100000 (by omega) (fun i hi=>(ab HC i hi).2) l.length (a0a _)).2.2;have:=ab hU;have:=ab HM;have:=ab HN;omega
   have l2:=ae (EC l l.length (a0a _));obtain⟨va,vc,rfl⟩:=ht.form;clear h;by_cases d7:L.length=1
   .
    obtain⟨g,rfl⟩:=ht.somes (by omega);obtain⟨_,c1,_,_,_⟩:=ht.at rfl 0 (by omega);have ns:=ab l2 ((ax l l.length).getD 0 g0) (fC _ 0 (by have:=ab hU;omega));have e4:(L.getD 0 g0).fst=((ax l l.length).getD 0 g0).fst:=by rw[←ab a6,mR];rfl
    obtain⟨_,f0,f1,_,_⟩:=ns;rw[←e4,ab HN]at f1;rw[←e4]at f0;have eh:Hid (bP l=(List.replicate l.length 0).set (L.getD 0 g0).fst.toNat 1):=by
     show bP l=_;unfold bP;rw[a0e (by rw[←ab hU];exact d7),e4]
    generalize (L.getD 0 g0).fst=f at *
    obtain⟨q,rfl⟩:=a0s f0;rw[a0t]at eh;have b9:(List.replicate l.length (0:Int)).length=k:=by simp[ab HN]
    obtain⟨d0,e0,_,_⟩:=hp.at (j:=q) b9 (by omega);have C:=hp.put (j:=q) b9 1;have d4:=ah J (b:=w.heap.size) (o:=q) (a0a _) (.int .i64 1);rw[←ab eh]at C;have HP:=ae C;have HB:=ae d4;have o4:wr.cell? ⟨g,1,none⟩=some (.int .i64 (q:Int)):=by simpa using c1
    clear C d4 b9 eh J hp hs ht c1 e4;rw[d7];generalize (List.replicate l.length (0:Int)).getD q 0=y at *
    go_wp2_with fail
    go_loopw [4,6,7,8,9,10,11] (fun v _ _ _ _ _ _ wq=>v = .slice (some ⟨g,0,none⟩) 1 vc/\wq=wr.setCell ⟨w.heap.size,q,none⟩ (.int .i64 1)) (fun _ _ _ _ _ _ _ _=>0)
    case atStart=>exact⟨rfl,rfl⟩
    case round=>
     obtain⟨rfl,hw⟩:=hrel;subst hw;go_wp2;go_ret;exact⟨rfl,ab HP,ab HB⟩
   .
    have n1:((L.length:Int) == 1)=false:=by rw[a07];omega
    have kk:Hid (∀k,(ax l l.length).length-k<=1->(k<(ax l l.length).length∨k=0)->bP l=(aw l k).2):=by
     intro k h1 h2;unfold bP;have:=ab hU;rw[a0d (by omega)]
     congr 2;omega
    have i4:=ae j1;clear j1;have k4:am wr w.heap.size (.slice (some ⟨w.heap.size,0,none⟩) k k) (aw l 0).2:=hp;have jx:L.map bare=(aw l 0).1:=ab a6;generalize j2:(ax l l.length).length=U at *
    have ey:=ae j2;clear j2 l2 a6 HL hp;go_wp2_with fail
    go_loopw [4,6,7,8,9,10,11] (fun v _ _ _ _ _ _ wq=>∃(j:Nat) (M:List Grp),(j<U∨j=0)/\M.map bare=(aw l j).1/\cq 284 wq (w.heap.size+1) v M/\dI wq (w.heap.size+1) M/\am wq w.heap.size (.slice (some ⟨w.heap.size,0,none⟩) k k) (aw l j).2/\Below w.heap.size w wq) (fun v _ _ _ _ _ _ _=>sliceLen v)
    case atStart=>exact⟨0,L,.inr rfl,jx,ht,hs,k4,J⟩
    case round=>
     obtain⟨j,M,hj,hM,a8,c6,be,c5⟩:=hrel;clear ht hs k4 J jx n1 d7;have fl:=bU l j (by rw[ab ey];exact hj);rw[←hM,ab ey]at fl;obtain⟨iw,ic,is,il⟩:=fl;rw[a0K]at il;obtain⟨ma,mc,rfl⟩:=a8.form;have gk:=ae hM;have HJ:=ae hj;clear hM hj;by_cases s:1<M.length
     .
      have ks:(1:Int)<(M.length:Int):=by omega
      have m1:=ab i4;have c:M.length<=300:=by have:=ab hU;omega
      have o5:(M.length:Int)<=300:=by omega
      have al:w.heap.size+1<=wr.heap.size:=be.below.2;have N:=ea M (by omega);have iw':WFL k M:=by
       intro g hg;have h1:=iw (bare g) (a2W hg);rw[ab HN]at h1;exact h1
      have P:=iw' _ (br M (by omega));have D:=dc M (by omega);have Q:=iw' _ (bf M _ (br (ao M) (by omega)));have O:=ea (ao M) (by omega);have r:fU M<=30000000:=by
       have h1:=(kB l 100000 (by omega) (fun i hi=>(ab HC i hi).2) l.length (a0a _)).1;have h2:fU (M.map bare)=fU M:=by simp[fU,Function.comp_def,bare]
       rw[h2]at ic;have:=ab HN;have h3:(100000:Int)*(l.length:Int)<=100000*300:=Int.mul_le_mul_of_nonneg_left (by omega) (by omega);omega
      have d:=xV iw' s;have h0:=ae (qW ma mc M.length (w.heap.size+1) M wr rfl a8 (by omega) c);obtain⟨g,rfl⟩:=a8.somes (by omega);have m6:Hid (ay M=M.getD (least M) g0):=rfl;have n3:Hid (ao M=M.eraseIdx (least M)):=rfl;have HQ:=ae (a0b a8 (a0b c6 (a0b be c5)));have eu:=ae (a0b P (a0b D (a0b Q (a0b O (a0b r d)))));have ev:=ae (a0b s (a0b c (a0b N (a0b al il))));have o2:=ae iw';clear a8 c6 be c5 ic is iw P D Q O r d s c N al il iw' m1;go_wp2_with fail;refine(ab h0).mono ?_;rintro e x1 ⟨rfl,ba⟩;obtain⟨a8,c6,be,c5⟩:=ab HQ;obtain⟨s,c,N,al,il⟩:=ab ev;obtain⟨P,D,Q,O,r,d⟩:=ab eu;have I:=a8.later ba (a0a _);have H:=c6.later ba (a0a _);have G:=be.later ba (a0a _);have Z:=ai c5 ba;have l5:=ba.size;obtain⟨c0,c1,c2,_,e5⟩:=I.at rfl (least M) N;rw[←ab m6]at c0 c1 c2;have bs:=H _ (br M (by omega));obtain⟨aa,ac,e2⟩:=bs.form;obtain⟨ga,kn⟩:=(e2▸bs).somes P.2.2.2.2;rw[kn]at e2;rw[e2]at c2 bs;have e7:((least M:Nat):Int)<(M.length:Int):=by omega
      have dl:=ae (tB (some ⟨g,0,none⟩) mc M.length (w.heap.size+1) (w.heap.size+1) (least M) M (x1.alloc (.cells #[.int .i64 (ay M).cnt,.int .i64 (ay M).fst,.slice (some ⟨ga,0,none⟩) (ay M).syms.length ac] 284)) rfl (I.later ((a0c x1.heap.size x1).alloc (a0a _) _) (a0a _)) (H.later ((a0c x1.heap.size x1).alloc (a0a _) _) (a0a _)) N c);have h9:=ae (a0b I (a0b H (a0b G (a0b Z bs))));have o0:=ae e5;have k7:w.heap.size+1<=x1.heap.size:=G.below.2;clear a8 c6 be c5 HQ h0 I H G Z bs e2 P D Q O r d s c N al il kn e5 l5;generalize i8:ay M=A at *
      have f8:=ae i8;clear i8;go_wp2_with fail;refine(ab dl).mono ?_;rintro e x2 ⟨⟨v1,rfl,Y⟩,cy⟩;obtain⟨I,H,G,Z,bs⟩:=ab h9;obtain⟨s,c,N,al,il⟩:=ab ev;obtain⟨P,D,Q,O,r,d⟩:=ab eu;rw[←ab n3]at Y;have b7:Below x1.heap.size x1 (x1.alloc (.cells #[.int .i64 A.cnt,.int .i64 A.fst,.slice (some ⟨ga,0,none⟩) A.syms.length ac] 284)):=(a0c _ _).alloc (a0a _) _;have bd:=ai b7 cy;have ds:=(pt x1 (.int .i64 A.cnt) (.int .i64 A.fst) (.slice (some ⟨ga,0,none⟩) A.syms.length ac) 284).later cy;have ei:=H.later bd (a0a _);have eg:=G.later bd (a0a _);have b3:=bs.later bd (a0a _);have dv:=ai Z bd;have bk:=Y.mono (show w.heap.size+1<=_ by have:=G.below.2;have:=b7.size;omega);obtain⟨ra,rc,hf⟩:=bk.form;subst hf;obtain⟨g2,m7⟩:=bk.somes (by omega);subst m7;have no:(ao M).length=M.length-1:=D;have e8:=ae (qW (some ⟨g2,0,none⟩) rc (ao M).length (w.heap.size+1) (ao M) x2 rfl bk (by omega) (by omega));have o8:((ao M).length:Int)<=300:=by omega
      have id:=ae (a0b bk (a0b ei (a0b eg (a0b dv (a0b b3 ds)))));clear I H G Z bs h9 dl b7 bd ds ei eg b3 dv bk Y cy c0 c1 c2 e7 P D Q O r d s c N al il no;go_wp2_with fail;refine(ab e8).mono ?_;rintro e x3 ⟨rfl,a4⟩;obtain⟨Y,ei,eg,dv,b3,ds⟩:=ab id;obtain⟨s,c,N,al,il⟩:=ab ev;obtain⟨P,D,Q,O,r,d⟩:=ab eu;have bl:=Y.later a4 (a0a _);have ad:=ei.later a4 (a0a _);have a5:=eg.later a4 (a0a _);have b4:=b3.later a4 (a0a _);have a9:=ds.later a4;have d1:=ai dv a4;have fr:ay (ao M)=(ao M).getD (least (ao M)) g0:=rfl;obtain⟨c0,c1,c2,_,e5⟩:=bl.at rfl (least (ao M)) O;rw[←fr]at c0 c1 c2;have b5:=ad _ (bf M _ (br (ao M) (by omega)));obtain⟨bb,bc,e3⟩:=b5.form;obtain⟨gb,kq⟩:=(e3▸b5).somes Q.2.2.2.2;rw[kq]at e3;rw[e3]at c2 b5;have e7:((least (ao M):Nat):Int)<((ao M).length:Int):=by omega
      have dl:=ae (tB (some ⟨g2,0,none⟩) rc (ao M).length (w.heap.size+1) (w.heap.size+1) (least (ao M)) (ao M) (x3.alloc (.cells #[.int .i64 (ay (ao M)).cnt,.int .i64 (ay (ao M)).fst,.slice (some ⟨gb,0,none⟩) (ay (ao M)).syms.length bc] 284)) rfl (bl.later ((a0c x3.heap.size x3).alloc (a0a _) _) (a0a _)) ((ad.sub (bf M)).later ((a0c x3.heap.size x3).alloc (a0a _) _) (a0a _)) O (by omega));have ih:=ae (a0b bl (a0b ad (a0b a5 (a0b d1 (a0b b4 (a0b a9 b5))))));clear Y ei eg dv b3 ds id e8 bl ad a5 b4 a9 d1 b5 e3 a4 P D Q O r d s c N al il kq e5 fr;generalize ji:ay (ao M)=Bg at *
      have gf:=ae ji;clear ji;go_wp2_with fail;refine(ab dl).mono ?_;rintro e x4 ⟨⟨v2,rfl,c8⟩,g3⟩;obtain⟨bl,ad,a5,d1,b4,a9,b5⟩:=ab ih;obtain⟨s,c,N,al,il⟩:=ab ev;obtain⟨P,D,Q,O,r,d⟩:=ab eu;have f3:(ao M).eraseIdx (least (ao M))=ao (ao M):=rfl;rw[f3]at c8;have b7:Below x3.heap.size x3 (x3.alloc (.cells #[.int .i64 Bg.cnt,.int .i64 Bg.fst,.slice (some ⟨gb,0,none⟩) Bg.syms.length bc] 284)):=(a0c _ _).alloc (a0a _) _;have R:=ai b7 g3;have fk:=(pt x3 (.int .i64 Bg.cnt) (.int .i64 Bg.fst) (.slice (some ⟨gb,0,none⟩) Bg.syms.length bc) 284).later g3;have i9:=a9.later R;have cg:=ad.later R (a0a _);have cc:=a5.later R (a0a _);have f5:=b4.later R (a0a _);have f6:=b5.later R (a0a _);have d2:=ai d1 R;have hh:w.heap.size+1<=x4.heap.size:=cc.below.2;have k8:w.heap.size+1<=x3.heap.size:=a5.below.2;have el:=c8.mono (show w.heap.size+1<=_ by have:=a5.below.2;have:=b7.size;omega);have cr:=dc (ao M) (by omega);obtain⟨ra,l6,hf⟩:=el.form;subst hf;have kc:Hid ((A.syms.map (Value.int .i64)).length=A.syms.length*1):=by show _=_;simp
      have kd:Hid ((Bg.syms.map (Value.int .i64)).length=Bg.syms.length*1):=by show _=_;simp
      have kx:A.syms.length+Bg.syms.length<=300:=by
       have h1:=d.2;have h2:(bg M).length=A.syms.length+Bg.syms.length:=by
        unfold bg;rw[a0k,ab f8,ab gf]
       have h3:=(bU l j (by rw[ab ey];exact ab HJ)).2.2.1;have h4:j6 (M.map bare)=j6 M:=by simp[j6,Function.comp_def,bare]
       rw[←ab gk,h4]at h3;have h5:=(kB l 100000 (by omega) (fun i hi=>(ab HC i hi).2) l.length (a0a _)).2.1;have:=ab HN;have:=ab HM;omega
      have i1:Hid (∀W,Below x4.heap.size x4 W->∀j u,(A.syms.map (Value.int .i64))[j]?=some u->W.cell? ((⟨ga,0,none⟩:Addr).add j)=some u):=fun W hW=>a1V (f5.later hW (a0a _)) rfl;have i2:Hid (∀W,Below x4.heap.size x4 W->∀j u,(Bg.syms.map (Value.int .i64))[j]?=some u->W.cell? ((⟨gb,0,none⟩:Addr).add j)=some u):=fun W hW=>a1V (f6.later hW (a0a _)) rfl;have dd:∀W,Below x4.heap.size x4 W->W.cell? ⟨x1.heap.size,2,none⟩=some (.slice (some ⟨ga,0,none⟩) A.syms.length ac)/\W.cell? ⟨x3.heap.size,2,none⟩=some (.slice (some ⟨gb,0,none⟩) Bg.syms.length bc):=fun W hW=>⟨(i9.later hW).2.2.1,(fk.later hW).2.2.1⟩;have gy:World.ownsRow (x4.alloc (.cells #[] 3)).drew x4.heap.size 3 1 (.slice (some ⟨x4.heap.size,0,none⟩) 0 0) 0 []:=a0Y x4 #[] 0 (a0a _) (by unfold maxLen;omega) rfl;have cv:Below x4.heap.size x4 (x4.alloc (.cells #[] 3)).drew:=((a0c _ _).alloc (a0a _) _).drew;have ba:Hid (0+A.syms.length<=maxLen/\(0+A.syms.length)*8<=140737488355328):=by show _/\_;unfold maxLen;omega
      have cy:Hid (0+A.syms.length+Bg.syms.length<=maxLen/\(0+A.syms.length+Bg.syms.length)*8<=140737488355328):=by show _/\_;unfold maxLen;omega
      obtain⟨a0,a1,a2,_,_,_,abl⟩:=i9;obtain⟨b0,b1,b2,_,_,_,md⟩:=fk;have h6:x1.heap.size≠w.heap.size:=by have:=k7;omega
      have h7:x3.heap.size≠w.heap.size:=by have:=k8;omega
      have fb:Below x4.heap.size x4 x4.drew:=(a0c _ _).drew;have f2:Hid ((dQ A Bg).fst=if Bg.fst<A.fst then Bg.fst else A.fst):=rfl;have l7:=ae kx;have dq:=ae (a0b r (a0b d.1 (a0b P Q)));have it:=ae (a0b cr (a0b D (a0b s (a0b c il))));have l8:=ae (a0b el (a0b cg (a0b cc d2)));clear bl ad a5 d1 b4 a9 b5 ih dl b7 R cg cc f5 f6 d2 el c8 g3 c0 c1 c2 e7 P D Q O r d s c N al il cr kx f3;have kl:∃F:Int,(dQ A Bg).fst=F:=⟨_,rfl⟩;obtain⟨F,hF⟩:=kl;have HF:=ae hF;clear hF;by_cases fz:Bg.fst<A.fst
      case' pos=>have jn:Hid (Bg.fst=F):=by have:=ab f2;rw[ab HF,a0e fz]at this;exact this.symm
      case' neg=>have jn:Hid (A.fst=F):=by have:=ab f2;rw[ab HF,a0d fz]at this;exact this.symm
      all_goals
       go_wp2_with fail
       go_region_held3 (fun W=>W.cell? ⟨x1.heap.size,2,none⟩=some (.slice (some ⟨ga,0,none⟩) A.syms.length ac)/\W.cell? ⟨x3.heap.size,2,none⟩=some (.slice (some ⟨gb,0,none⟩) Bg.syms.length bc)) (first|exact dd _ fb|assumption|exact dd _ cv) (first
        | (refine aG rfl (.tmp 76) (.tmp 78) 137 rfl x4.heap.size 3 i0 (.int .i64 0) 1 8 a0D hi hr hu hz rfl (a1N 0) (.slice (some ⟨x4.heap.size,0,none⟩) 0 0) _ _ rfl gy ⟨ga,0,none⟩ A.syms.length ac (A.syms.map (Value.int .i64)) rfl (ab kc) (ab i1 _ cv) (a1k .i64 _) (ab ba).1 (ab ba).2 cv.size ?_;intro v5 x5 ca co g7;clear g7;have cu:Below x4.heap.size x4 x5:=cv.grown co cv.size (fun j hj=>(a0w gy j hj).1);have mi:=dd _ cu)
        | (refine aG rfl (.tmp 79) (.tmp 81) 137 rfl x4.heap.size 3 i0 (.int .i64 0) 1 8 a0D hi hr hu hz rfl (a1N 0) v5 _ _ rfl ca ⟨gb,0,none⟩ Bg.syms.length bc (Bg.syms.map (Value.int .i64)) rfl (ab kd) (ab i2 _ cu) (a1k .i64 _) (ab cy).1 (ab cy).2 cu.size ?_;intro v6 x6 d8 cp g8;clear g8;have b6:Below x4.heap.size x4 x6:=cu.grown cp cu.size (fun j hj=>(a0w ca j hj).1);have mm:=dd _ b6))
       obtain⟨c8,cg,cc,d2⟩:=ab l8;have hh:w.heap.size+1<=x4.heap.size:=cc.below.2;have c7:am x6 x4.heap.size v6 (A.syms++Bg.syms):=by
        show World.ownsRow _ _ _ _ _ (A.syms++Bg.syms).length ((A.syms++Bg.syms).map (Value.int .i64));rw[a0k,a0I];simpa using d8
       have g1:Hid ((A.syms++Bg.syms).length<=300/\0<(A.syms++Bg.syms).length):=by
        show _/\_;rw[a0k];have:=ab l7;have:=(ab dq).2.2.1.2.2.2.2;omega
       have m0:Hid (∀x∈A.syms++Bg.syms,0<=x/\x<(k:Int)):=by
        intro x hx;simp only[a0U]at hx;rcases hx with hx|hx
        . exact(ab dq).2.2.1.2.2.2.1 x hx
        . exact(ab dq).2.2.2.2.2.2.1 x hx
       have mp:Hid (bg M=A.syms++Bg.syms):=by
        show bg M=_;unfold bg;rw[ab f8,ab gf]
       have mo:Hid ((dQ A Bg).syms=A.syms++Bg.syms):=rfl;generalize A.syms++Bg.syms=S at *
       obtain⟨sv,sc,en⟩:=c7.form;obtain⟨gs,kt⟩:=(en▸c7).somes (ab g1).2;rw[kt]at en;rw[en];rw[en]at c7;have lo:=c8.later b6 (a0a _);have k9:=cg.later b6 (a0a _);have k6:=cc.later b6 (a0a _);have fh:=ai d2 b6;have fv:=c7.below;have a0':=(b6.cell (p:=⟨x1.heap.size,0,none⟩) abl).trans a0;have i5:=(b6.cell (p:=⟨x3.heap.size,0,none⟩) md).trans b0;have n0:=ae (sW l (fun i hi=>(ab HC i hi).2) (by rw[ab HN];exact ab HM) j (by rw[ab ey];exact ab HJ));have nk:Hid ((j:Int)<=300):=by show(j:Int)<=300;have:=ab HJ;have:=ab hU;have:=ab i4;omega
       have f7:x1.heap.size≠w.heap.size/\x3.heap.size≠w.heap.size:=⟨h6,h7⟩;have gv:=ae c7;have i3:=ae lo;have ix:=ae k9;have e9:=ae f7;have gd:=ae (a0b a0' i5);have o1:=ae fv;have sI:(S.length:Int)<=300:=by have:=(ab g1).1;omega
       clear ca d8 co cp mi mm cu c8 cg cc d2 lo k9 c7 dd i1 i2 gy cv fb en kt a0 a1 a2 b0 b1 b2 f7 a0' i5 fv kc kd;go_wp2_with fail
       go_loopw [11] (fun i wq=>∃t:Nat,t<=S.length/\i = .int .i64 t/\am wq w.heap.size (.slice (some ⟨w.heap.size,0,none⟩) k k) (bump (aw l j).2 (S.take t))/\Touch (some ⟨w.heap.size,0,none⟩) x6 wq/\Below w.heap.size w wq) (fun i _=>S.length-(intOf i).toNat)
       case atStart=>exact⟨0,a0g _,rfl,k6,Touch.refl _ _,fh⟩
       case round=>
        obtain⟨t,ht,rfl,X,E,b8⟩:=hrel;clear k6 fh;have g5:Hid ((bump (aw l j).2 (S.take t)).length=k):=by show(bump (aw l j).2 (S.take t)).length=k;rw[oB,dZ,ab HN]
        have oi:Hid (t<=S.length):=ht;clear ht;by_cases d6:t<S.length
        .
         have f4:=(ab gv).touch E (by intro g e;simp only[a0l,a0B,a0O]at e;have:=hh;omega);obtain⟨c0,_,_,_⟩:=f4.at rfl d6;have hx:=ab m0 (S.getD t 0) (by simp[List.getD,d6]);have fn:=ae (vp (aw l j).2 S t d6);have k2:=ae (sF (ab n0) (S.take t));obtain⟨q,hq⟩:=a0s hx.1;rw[hq]at c0 fn;have he:q<k:=by omega
         obtain⟨d0,f0,_,_⟩:=X.at (ab g5) he;have ho:=ab k2 q (by rw[ab g5];exact he);have C:=X.put (j:=q) (ab g5) ((bump (aw l j).2 (S.take t)).getD q 0+1);have ek:Hid (bump (aw l j).2 (S.take (t+1))=(bump (aw l j).2 (S.take t)).set q ((bump (aw l j).2 (S.take t)).getD q 0+1)):=by
          show bump (aw l j).2 (S.take (t+1))=_;rw[ab fn];unfold fy;rw[a0t]
         have pb:(bump (aw l j).2 (S.take t)).getD q 0<=100000:=by
          have h1:=ho.2;have h2:(S.take t).length<=300:=by rw[a0v];have:=(ab g1).1;omega
          have:=ab nk;omega
         have hl:=ho.1;have ch:=ah b8 (b:=w.heap.size) (o:=q) (a0a _) (.int .i64 ((bump (aw l j).2 (S.take t)).getD q 0+1));have a7:=E.set (o:=q) rfl (.int .i64 ((bump (aw l j).2 (S.take t)).getD q 0+1));generalize (bump (aw l j).2 (S.take t)).getD q 0=y at *
         have h8:=ae (a0b C (a0b ch a7));have e7:(q:Int)<(k:Int):=by omega
         have o9:(t:Int)<(S.length:Int):=by omega
         clear C ch a7 X f4 b8 E ho hx hq he;go_wp2_with fail
         go_region
         obtain⟨C,ch,a7⟩:=ab h8;rw[←ab ek]at C;go_wp2;go_roundw
         case rel=>exact⟨t+1,by have:=ab oi;omega,by go_num,C,a7,ch.drew⟩
         case measure=>simp[intOf];omega
        .
         have l0:S.take t=S:=a0x (by omega);rw[l0]at X;have c9:cq 284 wr (w.heap.size+1) (.slice ra (ao (ao M)).length l6) (ao (ao M)):=nu (ab i3) E (ju _ _ (a0i _));have ej:dI wr (w.heap.size+1) (ao (ao M)):=fun g hg=>(ab ix g (bf M _ (bf _ _ hg))).touch E (ju _ _ (a0i _));have em:am wr (w.heap.size+1) (.slice (some ⟨gs,0,none⟩) S.length sc) S:=((ab gv).touch E (ju _ _ (by omega))).mono hh;have a0q:=(gW (p:=⟨x1.heap.size,0,none⟩) E (ab e9).1).trans (ab gd).1;have o3:=(gW (p:=⟨x3.heap.size,0,none⟩) E (ab e9).2).trans (ab gd).2;have g6:Hid ((aw l (j+1)).2=bump (aw l j).2 S):=by
          show(aw l (j+1)).2=_;simp only[aw];rw[←ab gk,GM,ab mp]
         have e6:Hid ((aw l (j+1)).1=(ao (ao M)).map bare++[dQ A Bg]):=by
          show(aw l (j+1)).1=_;simp only[aw];rw[←ab gk,GG,ab f8,ab gf]
         rw[←ab g6]at X;obtain⟨cr,D,s,c,il⟩:=ab it;have m9:Hid (j+1<U):=by show j+1<U;omega
         have ky:Hid ((ao (ao M)).length+1<M.length+0):=by show _<_;omega
         have V:Hid ((ao (ao M)).length+1<=maxLen/\((ao (ao M)).length+1)*40<=140737488355328):=by show _/\_;unfold maxLen;omega
         have d5:=ab dq;have o6:A.cnt+Bg.cnt<=30000000:=by have:=d5.1;have:=d5.2.1;omega
         have ol:=d5.2.2.1.1;have op:=d5.2.2.2.1;have m3:w.heap.size+1<=wr.heap.size:=X.below.2;have gl:=ae (a0b c9 (a0b ej (a0b em (a0b X b8))));have os:Hid ((dQ A Bg).cnt=A.cnt+Bg.cnt):=rfl;clear cr D s c il c9 ej em X b8 E l0 d5 dq it i3 ix gv gd;rw[ab jn];go_wp2_with (at_builtin;refine a0r _ rfl _ _ 282 rfl (w.heap.size+1) 284 j0 (.agg #[.int .i64 0,.int .i64 0,.slice none 0 0]) 3 40 a3G hj hl l3 l4 rfl (by decide) _ _ _ rfl (a0j (ab gl).1 _) ⟨wr.heap.size,0,none⟩ 1 1 [.int .i64 (A.cnt+Bg.cnt),.int .i64 F,.slice (some ⟨gs,0,none⟩) S.length sc] rfl rfl (qC _ _ _ _ _ _ rfl) (qD _ _ _ _ _) (ab V).1 (ab V).2 (an m3 _) ?_;intro v7 x7 ed z ha;clear ha);obtain⟨c9,ej,em,X,b8⟩:=ab gl;have d3:Below wr.heap.size wr (wr.alloc (.cells #[.int .i64 (A.cnt+Bg.cnt),.int .i64 F,.slice (some ⟨gs,0,none⟩) S.length sc] 284)):=(a0c _ _).alloc (a0a _) _;have cs:=c9.later d3 (a0a _);have lb:=(ej.later d3 (a0a _)).grown cs (by decide) z;have l1:=kZ (em.later d3 (a0a _)) cs (by decide) z;have n2:=kZ (X.later d3 (a0a _)) cs (by decide) z;have m2:Below w.heap.size w x7:=aB (v:=.slice ra (ao (ao M)).length l6) z c9 (by omega) (by omega) b8;have ls:=qE ⟨A.cnt+Bg.cnt,F,S,.slice (some ⟨gs,0,none⟩) S.length sc⟩ ed;have ob:=lb.snoc (g:=⟨A.cnt+Bg.cnt,F,S,.slice (some ⟨gs,0,none⟩) S.length sc⟩) l1;have m4:Hid ((ao (ao M)++[(⟨A.cnt+Bg.cnt,F,S,.slice (some ⟨gs,0,none⟩) S.length sc⟩:Grp)]).map bare=(aw l (j+1)).1):=by
          show _=(aw l (j+1)).1;rw[ab e6,a0I]
          congr 1
          have e:dQ A Bg=⟨A.cnt+Bg.cnt,F,S,.slice none 0 0⟩:=by
           rw[←ab HF,←ab mo];rfl
          rw[e];rfl
         have lf:Hid (sliceLen v7<M.length):=by
          show sliceLen v7<M.length;obtain⟨fa,fc,hv⟩:=ls.form;rw[hv];have:=ab ky;simp only[sliceLen,a0k,a1n];omega
         clear ed z d3 cs lb l1 c9 ej em X b8 gl;go_wp2;go_roundw
         case rel=>exact⟨j+1,_,.inl (ab m9),ab m4,ls,ob,n2,m2⟩
         case measure=>exact ab lf
     .
      have g4:=ae (ab kk j (by omega) (ab HJ));have ks:¬ (1:Int)<(M.length:Int):=by omega
      have HP:=ae be;clear a8 c6 be ic is;go_wp2;go_ret;exact⟨rfl,by rw[ab g4];exact ab HP,c5⟩
theorem Cp(a:Option Addr)(cap n:Nat)(o:List Int)(w:World)(s:o.length=n)(h:aY w a o)(q:n<=300) :
  Calls prog 173 #[.slice a n cap] w fun e w'=>e = .returned (.int .i64 (bK o n))/\w'=w:=by
 subst s;have r:(o.length:Int)<=300:=by omega
 clear q;go_enter func173,ntmps173;go_wp2_with fail
 go_loop [3,4] (fun m i=>∃k:Nat,k<=o.length/\i = .int .i64 k/\m = .int .i64 (bK o k)) (fun _ i=>o.length-(intOf i).toNat)
 case atStart=>exact⟨0,a0g _,rfl,rfl⟩
 case round=>
  obtain⟨k,l,rfl,rfl⟩:=hrel;have t:=ae l;by_cases d:k<o.length
  .
   obtain⟨g,f,rfl,u,j⟩:=h (by omega);have c0:=j k d;have c:Hid (bK o (k+1)=if bK o k<o.getD k 0 then o.getD k 0 else bK o k):=rfl;clear j l h;generalize o.getD k 0=y at *
   generalize bK o k=m at *
   by_cases p:m<y
   .
    have b:Hid (bK o (k+1)=y):=by have:=ab c;rw[a0e p]at this;exact this
    go_wp2
    go_round
    case rel=>exact⟨k+1,by omega,by go_num,by rw[ab b]⟩
    case measure=>simp[intOf];omega
   .
    have b:Hid (bK o (k+1)=m):=by have:=ab c;rw[a0d p]at this;exact this
    go_wp2
    go_round
    case rel=>exact⟨k+1,by omega,by go_num,by rw[ab b]⟩
    case measure=>simp[intOf];omega
  .
   obtain rfl:k=o.length:=by omega
   clear h;go_wp2;go_ret;exact⟨rfl,rfl⟩
def Dx(w:World)(b n:Nat):Nat:=((List.range n).map (fun i=>(intOf ((w.cell? ⟨b,i,none⟩).getD (.int .i64 0))).toNat)).sum
theorem EH{base:Nat}(a:l.length=n)(h:am w base (.slice (some ⟨b,0,none⟩) n c) l):Dx w b n=jA l:=by
 unfold Dx jA
 congr 1
 apply a2G
 . simp[a]
 .
  intro i d h2;have f:i<n:=by simpa using d
  have:=(h.at a f).1;simp only[List.getElem_map,List.getElem_range];rw[this];have e:l.getD i 0=l[i]:=by simp[List.getD,show i<l.length by omega]
  rw[e];rfl
theorem FB(l:List Int)(j:Nat)(h:j<l.length):(bo (l.take j)++l.drop j).set j (im (l.getD j 0))=bo (l.take (j+1))++l.drop (j+1):=by
 have b:(bo (l.take j)).length=j:=by simp[bo];omega
 rw[List.set_append_right _ _ (by omega),b,Nat.sub_self,bX l j h];have a:l.drop j=l[j] :: l.drop (j+1):=a2V h;rw[a,List.set_cons_zero];simp[bo]
theorem I7(l:List Int)(j:Nat)(h:j<l.length):(bo (l.take j)++l.drop j).getD j 0=l.getD j 0:=by
 have a:(bo (l.take j)).length=j:=by simp[bo];omega
 simp only[List.getD];rw[List.getElem?_append_right (by omega),a,Nat.sub_self,List.getElem?_drop];simp
def okC(l:List Int):Prop:=∀i,i<l.length->0<=l.getD i 0/\l.getD i 0<=100000
theorem ud(h:okC l):okC (bo l):=by
 intro i a;rw[ee]at a;rw[pR l i a];have:=h i a;unfold im;omega
theorem xE(h:okC l):∀x∈l,0<=x:=by
 intro x b;obtain⟨i,a,rfl⟩:=a1O b;have:=(h i a).1;have e:l.getD i 0=l[i]:=by simp[List.getD,a]
 rw[e]at this;exact this
def cW(m:Int)(l:List Int):List Int:=oI m (jA l) l
theorem vL(a:Option Addr)(cap n mm:Nat)(l:List Int)(w:World)(hn:l.length=n)(h:aY w a l)(h1:1<=n)(hm:n<=300)(hc:okC l)(hU:(ax l l.length).length<=p2 mm)(b8:mm<=14) :
  Calls prog 127 #[.slice a n cap,.int .i64 ((mm:Int)+1)] w fun e w'=>(∃v,e = .returned v/\am w' w.heap.size v (cW ((mm:Int)+1) l))/\Below w.heap.size w w':=by
 obtain⟨i0,hi,cg,ch,co⟩:=a0p Tryz.infoInt;obtain⟨g,o,rfl,hg,a6⟩:=h (by omega);have cs:(n:Int)<=300:=by omega
 have cr:(mm:Int)<=14:=by omega
 have Z:=ae hn;have HC:=ae hc;have HU:=ae hU;have HM:=ae (a0b h1 hm);have G:Below w.heap.size w (w.alloc (.cells #[] 3)):=(a0c _ _).alloc (a0a _) _;have S:World.ownsRow (w.alloc (.cells #[] 3)) w.heap.size 3 1 (.slice (some ⟨w.heap.size,0,none⟩) 0 0) 0 []:=a0Y w #[] 0 (a0a _) (by unfold maxLen;omega) rfl;have W:Hid (∀j u,(l.map (Value.int .i64))[j]?=some u->(w.alloc (.cells #[] 3)).cell? ((⟨g,o,none⟩:Addr).add j)=some u):=by
  intro j u hj;have a8:j<l.length:=by have:=(List.getElem?_eq_some_iff.1 hj).1;simpa using this
  have al:(⟨g,o,none⟩:Addr).add j=⟨g,o+j,none⟩:=by unfold Addr.add;split<;>simp_all
  rw[al,G.cell (p:=⟨g,o+j,none⟩) hg,a6 j a8,←hj];simp[List.getD,a8]
 have b6:Hid ((l.map (Value.int .i64)).length=n*1):=by show _=_;simp[hn]
 have a0:Hid (0+n<=maxLen/\(0+n)*8<=140737488355328):=by show _/\_;unfold maxLen;omega
 clear hn hc hU h1 hm a6 b8 h;go_enter func127,ntmps127;go_wp2_with (at_builtin;refine a0r _ rfl _ _ 137 rfl w.heap.size 3 i0 (.int .i64 0) 1 8 a0D hi cg ch co rfl (by decide) _ _ _ rfl S ⟨g,o,none⟩ n cap (l.map (Value.int .i64)) rfl (ab b6) (ab W) (a1k .i64 _) (ab a0).1 (ab a0).2 G.size ?_;intro v1 x1 Q K bc;clear bc);have A:am x1 w.heap.size v1 l:=by
  show World.ownsRow _ _ _ _ _ l.length _;rw[ab Z];simpa using Q
 have ac:Below w.heap.size w x1:=G.grown K G.size (fun j hj=>(a0w S j hj).1);obtain⟨va,vc,X⟩:=A.formN (ab Z);rw[X];rw[X]at A;refine(tw va vc n l x1 (ab Z) (A.rowN (ab Z)) (ab HM).2 (ab HC)).mono ?_;rintro e x2 ⟨rfl,bd,T⟩;have bk:=A.later T (a0a _);have ad:=ai ac T;have bl:w.heap.size<=x1.heap.size:=ac.size;obtain⟨lb,b4⟩:=A.somes (by rw[ab Z];exact(ab HM).1);subst b4;have P:=A.below;have HX:=ae (a0b bl P);clear A T Q K X S G P;go_wp2_with fail
 go_loopw [6,7] (fun v _ wr=>∃(c:List Int) (f ob:Nat),c.length=n/\okC c/\(ax c c.length).length<=p2 mm/\jA c<=f/\cW ((mm:Int)+1) l=oI ((mm:Int)+1) f c/\v = .slice (some ⟨ob,0,none⟩) n n/\lb<ob/\am wr ob (.slice (some ⟨ob,0,none⟩) n n) (bP c)/\am wr w.heap.size (.slice (some ⟨lb,0,none⟩) n vc) c/\Below w.heap.size w wr) (fun _ _ wr=>Dx wr lb n)
 case atStart=>exact⟨l,jA l,x1.heap.size,ab Z,ab HC,ab HU,a0a _,rfl,rfl,(ab HX).2.2,bd,bk,ad⟩
 case round=>
  obtain⟨c,f,ob,m,d,E,M,s,rfl,ba,F,z,q⟩:=hrel;clear bd bk ad;have r:(bP c).length=n:=(io c).trans m;have aa:=ae (Cp (some ⟨ob,0,none⟩) n n (bP c) wr r (F.rowN r) (ab HM).2);have L:Hid (fits (bP c) ((mm:Int)+1)=decide (bK (bP c) n<=(mm:Int)+1)):=by show _=_;unfold fits;rw[r]
  have HQ:=ae (a0b m (a0b d (a0b E (a0b M s))));have HO:=ae (a0b F (a0b z q));have HS:=ae (EH m z);have bb:=ae ba;clear m d E M s r ba;generalize bK (bP c) n=mo at *
  by_cases cp:(mm:Int)+1<mo
  .
   have N:fits (bP c) ((mm:Int)+1)=false:=by rw[ab L];exact a0h (by omega)
   obtain⟨m,d,E,M,s⟩:=ab HQ;have hex:=ub E N;have R:=(uC c (xE d)).2 hex;have b3:∃f',f=f'+1:=⟨f-1,by omega⟩;obtain⟨f',a7⟩:=b3;have V:Hid (cW ((mm:Int)+1) l=oI ((mm:Int)+1) f' (bo c)):=by
    show _=_;rw[s,a7];simp only[oI];rw[N];rfl
   have a5:Hid (jA (bo c)<=f'):=by show _<=_;omega
   have b0:=ae R;have I:=ae (ud d);have a4:Hid ((ax (bo c) (bo c).length).length<=p2 mm):=by show _<=_;rw[ee,qs c (fun i hi=>(d i hi).1) _ (a0a _)];exact E
   have B:Hid ((bo c).length=n):=(ee c).trans m;clear m d E M s hex R a7;go_wp2_with fail;refine(ab aa).mono ?_;rintro e x3 ⟨rfl,Y⟩;subst Y;obtain⟨F,z,q⟩:=ab HO;have a2:am x3 w.heap.size (.slice (some ⟨lb,0,none⟩) n vc) (bo (c.take 0)++c.drop 0):=by simpa[bo]using z
   clear F z;go_wp2_with fail
   go_loopw [7] (fun i wq=>∃t:Nat,t<=n/\i = .int .i64 t/\am wq w.heap.size (.slice (some ⟨lb,0,none⟩) n vc) (bo (c.take t)++c.drop t)/\Below w.heap.size w wq) (fun i _=>n-(intOf i).toNat)
   case atStart=>exact⟨0,a0g _,rfl,a2,q⟩
   case round=>
    obtain⟨t,ht,rfl,k,x⟩:=hrel;clear a2 q;obtain⟨m,d,_,_,_⟩:=ab HQ;have a9:Hid ((bo (c.take t)++c.drop t).length=n):=by show _=n;rw[a0k,ee,a0v,a1b];omega
    by_cases b7:t<n
    .
     have D:=k.put (j:=t) (ab a9) (im (c.getD t 0));rw[FB c t (by omega)]at D;obtain⟨d0,f0,a1,_⟩:=k.at (ab a9) b7;rw[I7 c t (by omega)]at d0;have hy:=d t (by omega);have H:=ah x (b:=lb) (o:=t) a1 (.int .i64 (im (c.getD t 0)));unfold im at D H;have O:=ae (a0b D H);have cc:(t:Int)<(n:Int):=by omega
     have Ht:=ae ht;generalize c.getD t 0=y at *
     obtain⟨y0,y1⟩:=hy;have e1:IntKind.i64.wrap ((y+1).tdiv 2)=(y+1)/2:=by rw[Int.tdiv_eq_ediv_of_nonneg (by omega)];simp[IntKind.wrap,IntKind.bits,IntKind.signed];omega
     clear D H k x m d ht a1;go_wp2;go_roundw
     case rel=>exact⟨t+1,by have:=ab Ht;omega,by go_num,(ab O).1,(ab O).2⟩
     case measure=>simp[intOf];omega
    .
     have cu:t=n:=by omega
     have J:bo (c.take t)++c.drop t=bo c:=by rw[a0x (by omega),a26 (by omega)];simp
     rw[J]at k;have b5:=ae (tw (some ⟨lb,0,none⟩) vc n (bo c) wr (ab B) (k.rowN (ab B)) (ab HM).2 (ab I));have C:=k.below;have bs:=ae (a0b k (a0b x C));have cc:¬ (t:Int)<(n:Int):=by omega
     clear k x m d J C;go_wp2_with fail;refine(ab b5).mono ?_;rintro e x4 ⟨rfl,ca,U⟩;obtain⟨k,x,C⟩:=ab bs;have a3:=k.later U (a0a _);have b1:=ai x U;have b9:Hid (Dx x4 lb n<Dx x3 lb n):=by
      show Dx x4 lb n<Dx x3 lb n;rw[EH (ab B) a3,ab HS];exact ab b0
     clear k x U;go_wp2;go_roundw
     case rel=>exact⟨bo c,f',wr.heap.size,ab B,ab I,ab a4,ab a5,ab V,rfl,C.2,ca,a3,b1⟩
     case measure=>exact ab b9
  .
   have N:fits (bP c) ((mm:Int)+1)=true:=by rw[ab L];exact a0u (by omega)
   have be:Hid (cW ((mm:Int)+1) l=bP c):=by
    show _=_;rw[(ab HQ).2.2.2.2];cases f with
    | zero=>rfl
    | succ f=>simp only[oI];rw[N];rfl
   go_wp2_with fail;refine(ab aa).mono ?_;rintro e x3 ⟨rfl,Y⟩;subst Y;obtain⟨F,z,q⟩:=ab HO;have b2:w.heap.size<=ob:=by have:=z.below.1;have:=ab bb;omega
   go_wp2;go_ret;exact⟨⟨_,rfl,by rw[ab be];exact F.mono b2⟩,q⟩
def inC(l:List Int):Bool:=l.all (fun b=>inB b 0 100000)
def vQ(l:List Int)(m:Int):Bool:=decide (l.length<=300)&&inB m 1 15&&inC l&&inB (us l:Nat) 1 ((p2 m.toNat/2:Nat):Int)
def jG(l:List Int)(m:Int):List Int:=if vQ l m then cW m l else []
theorem Jh(l:List Int)(k:Nat)(h:k<l.length):inC (l.take (k+1))=(inC (l.take k)&&inB (l.getD k 0) 0 100000):=by
 rw[bX l k h];simp[inC]
theorem LV(h:k<l.length)(a:inB (l.getD k 0) 0 100000=false):inC l=false:=by
 rcases hb:inC l with _|_
 . rfl
 . have:=a09.1 hb (l.getD k 0) (by simp[List.getD,h]);rw[a]at this;exact absurd this (by simp)
theorem Nw(h:inC l=true):okC l:=by
 intro i a;have:=a09.1 h (l.getD i 0) (by simp[List.getD,a]);exact az.1 this
theorem Mp(l:List Int)(k:Nat)(a:k<=l.length):(ax l k).length=us (l.take k):=by
 induction k with
 | zero=>rfl
 | succ k ih=>
  rw[pw l k (by omega),←ih (by omega)];simp only[ax]
  split
  . simp
  . rfl
theorem eV(l:List Int):(ax l l.length).length=us l:=by
 rw[Mp l _ (a0a _),List.take_length]
theorem xI(m:Nat):p2 (m+1)/2=p2 m:=by rw[lj];omega
theorem nR{x y:Grp}(h:aU x y=true):aU y x=false:=by
 simp only[aU,a1A,a0o,a0y]at h;simp only[aU,a2r,a2L,a2M];omega
theorem iq{x y z:Grp}(h:aU x y=false)(h2:aU y z=false):aU x z=false:=by
 simp only[aU,a2r,a2L,a2M]at h h2 ⊢;omega
theorem zG{x y z:Grp}(h:aU x y=false)(h2:aU z y=true):aU x z=false:=by
 simp only[aU,a1A,a0o,a0y]at h2;simp only[aU,a2r,a2L,a2M]at h ⊢;omega
theorem fR(x:Grp):aU x x=false:=by
 simp only[aU,a2r,a2L,a2M];omega
def cH(L:List Grp)(i j:Nat):List Grp:=(L.set i (L.getD j g0)).set j (L.getD i g0)
theorem fT(L:List Grp)(i j:Nat):(cH L i j).length=L.length:=by simp[cH]
theorem we{L:List Grp}(a:i<L.length):(cH L i j).getD i g0=L.getD j g0:=by
 unfold cH;rw[List.getD_eq_getElem?_getD,List.getElem?_set];by_cases h:j=i
 . subst h;simp[a]
 . rw[a0d h,List.getElem?_set_self a];rfl
theorem nc{L:List Grp}(a:j<L.length):(cH L i j).getD j g0=L.getD i g0:=by
 unfold cH;rw[List.getD_eq_getElem?_getD,List.getElem?_set_self (by simpa using a)];rfl
theorem cO{L:List Grp}(a:k≠i)(h2:k≠j):(cH L i j).getD k g0=L.getD k g0:=by
 unfold cH;rw[List.getD_eq_getElem?_getD,List.getElem?_set_ne (fun e=>h2 e.symm),List.getElem?_set_ne (fun e=>a e.symm),←List.getD_eq_getElem?_getD]
theorem set_perm(L:List Grp)(i:Nat)(x:Grp)(h:i<L.length):(L.getD i g0 :: L.set i x).Perm (x :: L):=by
 induction L generalizing i with
 | nil=>simp at h
 | cons g L ih=>
  cases i with
  | zero=>simp only[List.getD_cons_zero,List.set_cons_zero];exact a3I _ _ _
  | succ i=>
   simp only[a2z,List.set_cons_succ];have a:=ih i (by simpa using h);exact(a3I _ _ _).trans ((a.cons g).trans (a3I _ _ _))
theorem gU{L:List Grp}(b:i<L.length)(d:j<L.length):(cH L i j).Perm L:=by
 have c:=set_perm L i (L.getD j g0) b;have h2:=set_perm (L.set i (L.getD j g0)) j (L.getD i g0) (by simpa using d);have e:(L.set i (L.getD j g0)).getD j g0=L.getD j g0:=by
  rw[List.getD_eq_getElem?_getD,List.getElem?_set];by_cases a:i=j
  . subst a;simp[b]
  . rw[a0d a,←List.getD_eq_getElem?_getD]
 rw[e]at h2;exact(h2.trans c).cons_inv
def HP(L:List Grp):Prop:=∀i,0<i->i<L.length->aU (L.getD i g0) (L.getD ((i-1)/2) g0)=false
def UpI(L:List Grp)(k:Nat):Prop:=
 (∀i,0<i->i<L.length->i≠k->aU (L.getD i g0) (L.getD ((i-1)/2) g0)=false) /\
 (∀i,0<i->i<L.length->(i-1)/2=k->0<k->aU (L.getD i g0) (L.getD ((k-1)/2) g0)=false)
def DnI(L:List Grp)(k:Nat):Prop:=
 (∀i,0<i->i<L.length->(i-1)/2≠k->aU (L.getD i g0) (L.getD ((i-1)/2) g0)=false) /\
 (∀i,0<i->i<L.length->(i-1)/2=k->0<k->aU (L.getD i g0) (L.getD ((k-1)/2) g0)=false)
theorem KX{L:List Grp}(h:UpI L k)(a:k=0∨aU (L.getD k g0) (L.getD ((k-1)/2) g0)=false):HP L:=by
 intro i b c;by_cases e:i=k
 .
  subst e;rcases a with a|a
  . omega
  . exact a
 . exact h.1 i b c e
theorem ME{L:List Grp}(h:UpI L k)(l:0<k)(m:k<L.length)(g:aU (L.getD k g0) (L.getD ((k-1)/2) g0)=true):UpI (cH L k ((k-1)/2)) ((k-1)/2):=by
 have hq:(k-1)/2<k:=by omega
 have b:(k-1)/2<L.length:=by omega
 have sk:=we (L:=L) (j:=(k-1)/2) m;have sq:=nc (L:=L) (i:=k) b;refine⟨?_,?_⟩
 .
  intro i i0 a d;rw[fT]at a;by_cases e:i=k
  . subst e;rw[sk,sq];exact nR g
  .
   rw[cO e d];by_cases p:(i-1)/2=(k-1)/2
   . rw[p,sq];have:=h.1 i i0 a e;rw[p]at this;exact zG this g
   .
    by_cases p2:(i-1)/2=k
    . rw[p2,sk];exact h.2 i i0 a p2 l
    . rw[cO p2 p];exact h.1 i i0 a e
 .
  intro i i0 a n f;rw[fT]at a;have o:((k-1)/2-1)/2<(k-1)/2:=by omega
  rw[cO (k:=((k-1)/2-1)/2) (by omega) (by omega)];have c:=h.1 ((k-1)/2) f b (by omega);by_cases e:i=k
  . subst e;rw[sk];exact c
  . rw[cO e (by omega)];have:=h.1 i i0 a e;rw[n]at this;exact iq this c
theorem wP{L:List Grp}(h:DnI L k)(d:∀c,0<c->c<L.length->(c-1)/2=k->aU (L.getD c g0) (L.getD k g0)=false):HP L:=by
 intro i a b;by_cases e:(i-1)/2=k
 . rw[e];exact d i a b e
 . exact h.1 i a b e
theorem wQ{L:List Grp}(h:DnI L k)(l:k<L.length)(g:c<L.length)(d:0<c)(f:(c-1)/2=k)(o:∀i,0<i->i<L.length->(i-1)/2=k->aU (L.getD i g0) (L.getD c g0)=false)(n:aU (L.getD c g0) (L.getD k g0)=true):DnI (cH L c k) c:=by
 have m:k<c:=by omega
 have sc:=we (L:=L) (j:=k) g;have sk:=nc (L:=L) (i:=c) l;refine⟨?_,?_⟩
 .
  intro i i0 b a;rw[fT]at b;by_cases e:i=c
  . subst e;rw[f,sc,sk];exact nR n
  .
   by_cases p:(i-1)/2=k
   . rw[p,sk,cO e (by omega)];exact o i i0 b p
   .
    rw[cO a p];by_cases e2:i=k
    . subst e2;rw[sk];exact h.2 c d g f i0
    . rw[cO e e2];exact h.1 i i0 b p
 . intro i i0 b a _;rw[fT]at b;rw[f,sk,cO (by omega) (by omega)];have:=h.1 i i0 b (by omega);rw[a]at this;exact this
theorem Je{L:List Grp}(h:HP L):∀i,i<L.length->aU (L.getD i g0) (L.getD 0 g0)=false:=by
 intro i;induction i using Nat.strongRecOn with
 | ind i ih=>
  intro a;by_cases e:i=0
  . subst e;exact fR _
  . exact iq (h i (by omega) a) (ih ((i-1)/2) (by omega) (by omega))
theorem LL{L:List Grp}(h:HP L)(g:Grp):UpI (L++[g]) L.length:=by
 refine⟨?_,?_⟩
 .
  intro i i0 b d;have a:i<L.length:=by simp at b;omega
  have e1:∀k,k<L.length->(L++[g]).getD k g0=L.getD k g0:=by
   intro k c;rw[List.getD_eq_getElem?_getD,List.getElem?_append_left c,←List.getD_eq_getElem?_getD]
  rw[e1 i a,e1 _ (by omega)];exact h i i0 a
 . intro i i0 b e _;simp at b;omega
theorem sR(L:List Grp)(m k:Nat)(h:k<m):(L.take m).getD k g0=L.getD k g0:=by
 rw[List.getD_eq_getElem?_getD,List.getElem?_take_of_lt h,←List.getD_eq_getElem?_getD]
theorem Nm{L:List Grp}(h:HP L):DnI ((cH L 0 (L.length-1)).take (L.length-1)) 0:=by
 refine⟨?_,fun i _ _ _ b=>absurd b (a3K 0)⟩;intro i i0 c d;have a:i<L.length-1:=by rw[a0v,fT]at c;omega
 rw[sR _ _ _ a,sR _ _ _ (by omega),cO (by omega) (by omega),cO d (by omega)];exact h i i0 (by omega)
theorem DC(L:List Grp)(n:Nat)(h:L.length=n+1):L=L.take n++[L.getD n g0]:=by
 have e:L.take (n+1)=L:=a0x (by omega);have h2:L.take (n+1)=L.take n++[L.getD n g0]:=by
  rw[a1e (by omega)]
  congr 2
  simp[List.getD,h]
 rw[e]at h2;exact h2
theorem ID{L:List Grp}(h:0<L.length):(L.getD 0 g0 :: (cH L 0 (L.length-1)).take (L.length-1)).Perm L:=by
 have b:=gU (L:=L) (i:=0) (j:=L.length-1) h (by omega);have h2:=DC (cH L 0 (L.length-1)) (L.length-1) (by rw[fT];omega);rw[nc (by omega)]at h2;have a:(L.getD 0 g0 :: (cH L 0 (L.length-1)).take (L.length-1)).Perm ((cH L 0 (L.length-1)).take (L.length-1)++[L.getD 0 g0]):=(List.perm_append_singleton _ _).symm;rw[←h2]at a;exact a.trans b
theorem zD(L:List Grp)(k j:Nat)(b:j<=k):aU (L.getD j g0) (L.getD (bY L k) g0)=false:=by
 induction k with
 | zero=>
  obtain rfl:j=0:=by omega
  exact fR _
 | succ k ih=>
  simp only[bY];cases a:aU (L.getD (k+1) g0) (L.getD (bY L k) g0)
  .
   simp only[a01,a02];by_cases e:j=k+1
   . subst e;exact a
   . exact ih (by omega)
  .
   simp only[a0W];by_cases e:j=k+1
   . subst e;exact fR _
   . exact zG (ih (by omega)) a
theorem Cb(M:List Grp)(g:Grp)(a:g∈M):aU g (ay M)=false:=by
 obtain⟨i,b,rfl⟩:=a1O a;have:=zD M (M.length-1) i (by omega);have e:M.getD i g0=M[i]:=by simp[List.getD,b]
 rw[e]at this;exact this
def qR(M:List Grp):Prop:=∀g∈M,g.fst∈g.syms
theorem Kt(l:List Int)(k:Nat):qR (ax l k):=by
 induction k with
 | zero=>intro g a;simp[ax]at a
 | succ k ih=>
  simp only[ax]
  split
  .
   intro g a;simp only[a0U,a05]at a;rcases a with a|rfl
   . exact ih g a
   . simp
  . exact ih
theorem KC{M:List Grp}(h:qR M)(c:1<M.length):qR (stepG M):=by
 have d:=dc M (by omega);intro g a;simp only[stepG,a0U,a05]at a;rcases a with a|rfl
 . exact h g (bf M _ (bf _ _ a))
 .
  have b:=h _ (br M (by omega));have hb:=h _ (bf M _ (br (ao M) (by omega)));simp only[dQ,a0U]
  split
  . exact .inr hb
  . exact .inl b
theorem Jg(l:List Int)(k:Nat)(b:k<(ax l l.length).length∨k=0):qR (aw l k).1:=by
 induction k with
 | zero=>exact Kt l _
 | succ k ih=>
  have a:1<(aw l k).1.length:=by have:=(bU l k (by omega)).2.2.2;omega
  exact KC (ih (by omega)) a
theorem Ks{M:List Grp}(j:(bm M).Nodup)(i:qR M){x y:Grp}(b:x∈M)(a:y∈M)(e:x.fst=y.fst):x=y:=by
 induction M with
 | nil=>cases b
 | cons g M ih=>
  have k:bm (g :: M)=g.syms++bm M:=by simp[bm]
  rw[k,a3J]at j;obtain⟨_,n2,n3⟩:=j;have c:qR M:=fun z h=>i z (by simp[h]);have f:∀z∈M,z.fst∈bm M:=fun z h=>List.mem_flatMap.2 ⟨z,h,c z h⟩;have d:g.fst∈g.syms:=i g (by simp);simp only[a0Z]at b a;rcases b with rfl|b
  .
   rcases a with rfl|a
   . rfl
   . exact absurd e (n3 _ d _ (f y a))
  .
   rcases a with rfl|a
   . exact absurd e.symm (n3 _ d _ (f x b))
   . exact ih n2 c b a
theorem F3{x y:Grp}(h:aU x y=false)(h2:aU y x=false):x.fst=y.fst:=by
 simp only[aU,a2r,a2L,a2M]at h h2;omega
theorem wn{L M:List Grp}{a:Grp}{L1:List Grp}(h:(L.map bare).Perm M)(k:L.Perm (a :: L1))(f:∀g∈L,aU g a=false)(m:0<L.length)(s:(bm M).Nodup)(r:qR M):bare a=ay M/\(L1.map bare).Perm (ao M):=by
 have l:0<M.length:=by rw[←h.length_eq,a0K];exact m
 have p:a∈L:=k.mem_iff.2 (by simp);have b:bare a∈M:=h.mem_iff.1 (a2W p);have d:=br M l;obtain⟨c,q,i⟩:=a2J.1 (h.mem_iff.2 d);have n:aU (ay M) (bare a)=false:=by rw[←i,tN];exact f c q
 have h2:=Cb M (bare a) b;have e:bare a=ay M:=Ks s r b d (F3 h2 n);refine⟨e,?_⟩;have o:(bare a :: L1.map bare).Perm M:=by
  have:=(k.map bare).symm.trans h;simpa using this
 have j:=o.trans (ll M l).symm;rw[e]at j;exact j.cons_inv
theorem Fy{M:List Grp}(b:0<M.length)(c:(bm M).Nodup):(bm (ao M)).Nodup:=by
 have a:=pO (ll M b);have h2:=a.nodup_iff.2 c;have e:bm (ay M :: ao M)=(ay M).syms++bm (ao M):=by simp[bm]
 rw[e,a3J]at h2;exact h2.2.1
theorem Gi{α:Type}(f:α->Nat){A B:List α}(h:A.Perm B):(A.map f).sum=(B.map f).sum:=by
 induction h with
 | nil=>rfl
 | cons x _ ih=>simp only[a0H,a0M];omega
 | swap x y l=>simp only[a0H,a0M];omega
 | trans _ _ h1 h2=>omega
def qM:Nat->List Grp->Int
 | 0,_=>0
 | n+1,M=>if 1<M.length then(ay M).cnt+(ay (ao M)).cnt+qM n (stepG M)else 0
theorem i6(h:0<l.getD k 0):ax l (k+1)=ax l k++[⟨l.getD k 0,(k:Int),[(k:Int)],.slice none 0 0⟩]:=by simp only[ax];rw[a0e h]
theorem ms(h:¬ 0<l.getD k 0):ax l (k+1)=ax l k:=by simp only[ax];rw[a0d h]
def krR(l:List Int)(len:Nat->Nat)(D:Nat):Nat->Nat
 | 0=>0
 | n+1=>krR l len D n+(if 0<l.getD n 0 then 2 ^ (D-len n)else 0)
theorem pm(l:List Int)(k:Nat):∀g∈ax l k,0<=g.cnt/\∃i:Nat,g.fst=(i:Int)/\i<k/\0<l.getD i 0/\g.cnt=l.getD i 0/\g.syms=[(i:Int)]:=by
 induction k with
 | zero=>intro g a;simp[ax]at a
 | succ k ih=>
  intro g a;by_cases d:0<l.getD k 0
  .
   rw[i6 d]at a;simp only[a0U,a05]at a;rcases a with a|rfl
   . obtain⟨b,i,h2,e,c⟩:=ih g a;exact⟨b,i,h2,by omega,c⟩
   . exact⟨by simp only;omega,k,rfl,by omega,d,rfl,rfl⟩
  . rw[ms d]at a;obtain⟨b,i,h2,e,c⟩:=ih g a;exact⟨b,i,h2,by omega,c⟩
theorem uS(l:List Int)(len:Nat->Nat)(D k:Nat):((bm (ax l k)).map fun s=>2 ^ (D-len s.toNat)).sum=krR l len D k:=by
 induction k with
 | zero=>rfl
 | succ k ih=>
  simp only[krR];by_cases h:0<l.getD k 0
  . rw[a0e h,←ih,i6 h];simp[bm]
  . rw[a0d h,←ih,ms h];simp
theorem y6(l:List Int)(k:Nat)(x:Int):x∈bm (ax l k)<->∃i:Nat,x=(i:Int)/\i<k/\0<l.getD i 0:=by
 constructor
 . intro h;obtain⟨g,d,a⟩:=List.mem_flatMap.1 h;obtain⟨_,i,j,h2,b,_,c⟩:=pm l k g d;rw[c]at a;simp only[a05]at a;exact⟨i,a,h2,b⟩
 .
  rintro⟨i,rfl,m,f⟩;induction k with
  | zero=>omega
  | succ k ih=>
   by_cases e:i=k
   . subst e;rw[i6 f];simp[bm]
   .
    have:=ih (by omega);by_cases h:0<l.getD k 0
    . rw[i6 h];simp only[bm,a2n,a0U];exact .inl this
    . rw[ms h];exact this
/-! What holds behind so many steps. -/
def j4(l s:List Int):Int:=(s.map fun x=>l.getD x.toNat 0).sum
theorem nw(l a b:List Int):j4 l (a++b)=j4 l a+j4 l b:=by simp[j4]
theorem Ed(l:List Int)(k:Nat)(j:k<(ax l l.length).length∨k=0):∀g∈(aw l k).1,g.cnt=j4 l g.syms:=by
 induction k with
 | zero=>
  intro g b;obtain⟨_,i,f,h2,h,d,e⟩:=pm l l.length g b;rw[d,e];simp[j4]
 | succ k ih=>
  have c:1<(aw l k).1.length:=by have:=(bU l k (by omega)).2.2.2;omega
  have m:=dc (aw l k).1 (by omega);have ih':=ih (by omega);intro g b;have a:g∈stepG (aw l k).1:=b;simp only[stepG,a0U,a05]at a;rcases a with a|rfl
  . exact ih' g (bf _ _ (bf _ _ a))
  . simp only[dQ];rw[nw,ih' _ (br _ (by omega)),ih' _ (bf _ _ (br (ao _) (by omega)))]
def oG(l o:List Int):Nat->Int
 | 0=>0
 | n+1=>oG l o n+l.getD n 0*o.getD n 0
theorem Ff(l o:List Int)(s:Int)(a:0<=s)(n:Nat)(b:n<=o.length):oG l (fy o s) n=oG l o n+(if s<(n:Int)then l.getD s.toNat 0 else 0):=by
 induction n with
 | zero=>simp only[oG];rw[a0d (by omega)];rfl
 | succ n ih=>
  simp only[oG];rw[ih (by omega),vo o s n a (by omega)];by_cases e:s=(n:Int)
  . subst e;rw[a0d (by omega),a0e rfl,a0e (by omega),Int.mul_add,Int.mul_one,a0t];omega
  .
   rw[a0d e,Int.add_zero];by_cases h:s<(n:Int)
   . rw[a0e h,a0e (by omega)];omega
   . rw[a0d h,a0d (by omega)];omega
theorem II(l s:List Int)(n:Nat):∀(o:List Int),n<=o.length->(∀x∈s,0<=x/\x<(n:Int))->oG l (bump o s) n=oG l o n+j4 l s:=by
 induction s with
 | nil=>intro o _ _;simp[bump,j4]
 | cons x s ih=>
  intro o b a;show oG l (bump (fy o x) s) n=_;rw[ih (fy o x) (by rw[mG];exact b) (fun y c=>a y (by simp[c])),Ff l o x (a x (by simp)).1 n b,a0e (a x (by simp)).2];simp only[j4,a0H,a0M];omega
theorem IJ(l:List Int)(m n:Nat):oG l (List.replicate m 0) n=0:=by
 induction n with
 | zero=>rfl
 | succ n ih=>
  simp only[oG];rw[ih];have:(List.replicate m (0:Int)).getD n 0=0:=by
   rw[List.getD_eq_getElem?_getD,List.getElem?_replicate]
   split<;>rfl
  rw[this];omega
theorem LQ(l:List Int)(k:Nat)(i:k<(ax l l.length).length∨k=0):oG l (aw l k).2 l.length+qM ((ax l l.length).length-1-k) (aw l k).1=qM ((ax l l.length).length-1) (ax l l.length):=by
 induction k with
 | zero=>
  show oG l (List.replicate l.length 0) l.length+qM _ (ax l l.length)=_;rw[IJ,Int.zero_add,Nat.sub_zero]
 | succ k ih=>
  have ih':=ih (by omega);have a:1<(aw l k).1.length:=by have:=(bU l k (by omega)).2.2.2;omega
  have j:=dc (aw l k).1 (by omega);obtain⟨m,hm⟩:∃m,(ax l l.length).length-1-k=m+1:=⟨(ax l l.length).length-1-k-1,by omega⟩;have b:(ax l l.length).length-1-(k+1)=m:=by omega
  rw[hm]at ih';rw[b];simp only[qM]at ih';rw[a0e a]at ih';have c:∀x∈bg (aw l k).1,0<=x/\x<(l.length:Int):=by
   intro x h;have g:=(gF l k (by omega)).2;exact g x ((jt _ a).mem_iff.1 (by simp[h]))
  have d:=II l (bg (aw l k).1) l.length (aw l k).2 (by rw[dZ];exact a0a _) c;have h2:=Ed l k (by omega) _ (br (aw l k).1 (by omega));have e:=Ed l k (by omega) _ (bf _ _ (br (ao (aw l k).1) (by omega)));have f:j4 l (bg (aw l k).1)=(ay (aw l k).1).cnt+(ay (ao (aw l k).1)).cnt:=by
   unfold bg;rw[nw,←h2,←e]
  show oG l (bump (aw l k).2 (bg (aw l k).1)) l.length+qM m (stepG (aw l k).1)=_;rw[d,f];omega
def nO(o s:List Int)(D:Nat):Nat:=(s.map fun x=>2 ^ (D-(o.getD x.toNat 0).toNat)).sum
theorem zq(o a b:List Int)(D:Nat):nO o (a++b) D=nO o a D+nO o b D:=by simp[nO]
theorem FF{o o' s:List Int}{D:Nat}(h:∀x∈s,o'.getD x.toNat 0=o.getD x.toNat 0):nO o' s D=nO o s D:=by
 unfold nO
 congr 1
 apply List.map_congr_left;intro x a;rw[h x a]
theorem FE{o o' s:List Int}{D:Nat}(h:∀x∈s,0<=o.getD x.toNat 0/\o.getD x.toNat 0<(D:Int)/\o'.getD x.toNat 0=o.getD x.toNat 0+1):2*nO o' s D=nO o s D:=by
 induction s with
 | nil=>rfl
 | cons x s ih=>
  have ih':=ih (fun y c=>h y (by simp[c]));obtain⟨e,h2,b⟩:=h x (by simp);simp only[nO,a0H,a0M]at ih' ⊢;rw[b];obtain⟨d,hd⟩:∃d,D-(o.getD x.toNat 0).toNat=d+1:=⟨D-(o.getD x.toNat 0).toNat-1,by omega⟩;have a:D-(o.getD x.toNat 0+1).toNat=d:=by omega
  rw[hd,a,a15];omega
theorem LS(l:List Int)(D:Nat)(A:(ax l l.length).length<=D)(k:Nat)(B:k<(ax l l.length).length∨k=0):∀g∈(aw l k).1,nO (aw l k).2 g.syms D=2 ^ D:=by
 induction k with
 | zero=>
  intro g m;obtain⟨_,i,q,h2,w,z,r⟩:=pm l l.length g m;rw[r];show nO (List.replicate l.length 0) [(i:Int)] D=2 ^ D;simp[nO,List.getD,h2]
 | succ k ih=>
  have c:1<(aw l k).1.length:=by have:=(bU l k (by omega)).2.2.2;omega
  have C:=dc (aw l k).1 (by omega);have ih':=ih (by omega);have d:=gF l k (by omega);obtain⟨n,h⟩:=js c d.1;have f:=kW l k (by omega);have j:∀x∈bg (aw l k).1,0<=x/\x<(l.length:Int):=fun x e=>d.2 x ((jt _ c).mem_iff.1 (by simp[e]));have b:=fun(x:Int) (h0:0<=x) (q:x<(l.length:Int))=>lO (aw l k).2 (bg (aw l k).1) x.toNat n (fun y v=>(j y v).1) (by rw[dZ];omega);intro g m;show nO (bump (aw l k).2 (bg (aw l k).1)) g.syms D=2 ^ D;have a:g∈stepG (aw l k).1:=m;simp only[stepG,a0U,a05]at a;rcases a with a|rfl
  .
   rw[FF (o:=(aw l k).2)]
   . exact ih' g (bf _ _ (bf _ _ a))
   . intro x e;have p:x∈bm (aw l k).1:=List.mem_flatMap.2 ⟨g,bf _ _ (bf _ _ a),e⟩;obtain⟨x0,x1⟩:=d.2 x p;rw[b x x0 x1,Int.toNat_of_nonneg x0,a0d (h g a x e),Int.add_zero]
  .
   have u:(dQ (ay (aw l k).1) (ay (ao (aw l k).1))).syms=bg (aw l k).1:=rfl;rw[u];have t:=FE (o:=(aw l k).2) (o':=bump (aw l k).2 (bg (aw l k).1)) (s:=bg (aw l k).1) (D:=D) (by
    intro x e;obtain⟨x0,x1⟩:=j x e;have hd:=f x.toNat (by rw[dZ];omega);refine⟨hd.1,by omega,?_⟩;rw[b x x0 x1,Int.toNat_of_nonneg x0,a0e e])
   have h2:nO (aw l k).2 (bg (aw l k).1) D=2 ^ D+2 ^ D:=by
    unfold bg;rw[zq,ih' _ (br _ (by omega)),ih' _ (bf _ _ (br (ao _) (by omega)))]
   omega
open Corb
def cB(w:World)(b base:Nat)(v:Value)(L:List Grp):Prop:=w.heap[b]?=some (Obj.cells #[v] 319)/\cq 302 w base v L
theorem cB.cell{base:Nat}{L:List Grp}(h:cB w b base v L):w.cell? ⟨b,0,none⟩=some v:=by simp[World.cell?,h.1]
theorem cB.frz{base:Nat}{L:List Grp}(h:cB w b base v L):w.frozen? ⟨b,0,none⟩=false:=by simp[World.frozen?,h.1]
theorem cB.lt{base:Nat}{L:List Grp}(h:cB w b base v L):b<w.heap.size:=(Array.getElem?_eq_some_iff.1 h.1).1
theorem iS(b base n cap:Nat)(a:Option Addr)(L:List Grp)(w:World)(h:cB w b base (.slice a n cap) L) :
  Calls prog 220 #[.pointer (some ⟨b,0,none⟩)] w fun e w'=>e = .returned (.int .i64 (n:Nat))/\w'=w:=by
 have c0:=h.cell;clear h;go_enter func220,ntmps220;go_wp2;go_ret;exact⟨rfl,rfl⟩
theorem jb(b base ob g n cap i j:Nat)(L:List Grp)(w:World)(d:dI w ob L)(f:L.length=n)(t:n<=300)(h:cB w b base (.slice (some ⟨g,0,none⟩) n cap) L)(l:i<n)(m:j<n) :
  Ds 297 #[.pointer (some ⟨b,0,none⟩),.int .i64 (i:Nat),.int .i64 (j:Nat)] w (.bool (aU (L.getD i g0) (L.getD j g0))):=by
 have c0:=h.cell;obtain⟨a0,a1,a2,_,z⟩:=h.2.at f i l;obtain⟨o,p,k,_,_⟩:=h.2.at f j m;have q:b<w.heap.size:=World.block_lt_of_cell? w ⟨b,0,none⟩ c0;obtain⟨xa,xq,a⟩:=(d (L.getD i g0) (fC L i (by omega))).form;obtain⟨ya,yq,c⟩:=(d (L.getD j g0) (fC L j (by omega))).form;have r:(i:Int)<(n:Int):=by omega
 have s:(j:Int)<(n:Int):=by omega
 have u:(n:Int)<=300:=by omega
 rw[a]at a2;rw[c]at k;clear h f t l m a c d;generalize L.getD i g0=x at *
 generalize L.getD j g0=y at *
 obtain⟨xc,xf,xs,xv⟩:=x;obtain⟨yc,yf,ys,yv⟩:=y;simp only at a0 a1 a2 o p k;generalize xs.length=xn at *
 generalize ys.length=yn at *
 go_enter func297,ntmps297;go_wp2_with fail
 go_region
 all_goals
  by_cases e:xc=yc
  . subst e;go_wp2;go_ret;exact⟨congrArg (fun x=>Ending.returned (.bool x)) (by simp[aU]),(((a0c _ _).alloc (a0a _) _).alloc (by simp) _).drew⟩
  .
   have v:(xc == yc)=false:=by simpa using e
   go_wp2;go_ret;exact⟨congrArg (fun x=>Ending.returned (.bool x)) (by simp[aU,e]),(((a0c _ _).alloc (a0a _) _).alloc (by simp) _).drew⟩
theorem bj.ints{base:Nat}(h:bj 3 w w')(a:am w base v l):am w' base v l:=h.own a
theorem bj.syms{l:List Grp}(h:bj 3 w w')(b:dI w ob l):dI w' ob l:=fun g a=>h.ints (b g a)
theorem dI.perm{l m:List Grp}(h:dI w ob l)(b:m.Perm l):dI w ob m:=fun g a=>h g (b.mem_iff.1 a)
def bz(g:Nat)(w w':World):Prop:=bj 3 w w'/\w.heap.size<=w'.heap.size/\∀k,k<w.heap.size->k≠g->w'.heap[k]?=w.heap[k]?
theorem bz.refl(g:Nat)(w:World):bz g w w:=⟨bj.refl _ _,a0a _,fun _ _ _=>rfl⟩
theorem bz.trans{w1 w2:World}(h:bz g w w1)(k:bz g w1 w2):bz g w w2:=
 ⟨h.1.trans k.1,a0C h.2.1 k.2.1,fun j b a=>(k.2.2 j (a0m b h.2.1) a).trans (h.2.2 j b a)⟩
theorem bz.below(h:Below w.heap.size w w'):bz g w w':=⟨bj.below h,h.size,fun j a _=>h.block j a⟩
theorem bz.syms{l:List Grp}(h:bz g w w')(a:dI w ob l):dI w' ob l:=h.1.syms a
theorem bz.drew(h:bz g w w'):bz g w w'.drew:=h
theorem bz.touch{t':TypeId}{c:Array Value}{f:Nat×Nat}(d:w.heap[g]?=some (.cells c t' f))(a:3≠t')(b:Touch (some ⟨g,0,none⟩) w w'):bz g w w':=
 ⟨bj.touch d a b,Nat.le_of_eq b.1.symm,fun j _ h=>b.2 j (fun g' e=>by simp only[a0l,a0B,a0O]at e;omega)⟩
theorem DG(l:List Grp)(j:Nat)(x:Grp):(((aN l).set (j*3) (.int .i64 x.cnt)).set (j*3+1) (.int .i64 x.fst)).set (j*3+2) x.val=aN (l.set j x):=by
 induction l generalizing j with
 | nil=>simp[aN]
 | cons p l ih=>
  cases j with
  | zero=>simp[aN]
  | succ j=>
   rw[show(j+1)*3=j*3+1+1+1 by omega];simp only[aN,List.set_cons_succ];rw[ih j]
theorem cq.put{base cap:Nat}{l:List Grp}(c:l.length=n)(h:cq t w base (.slice (some ⟨g,0,none⟩) n cap) l)(j:Nat)(x:Grp) :
  cq t (((w.setCell ⟨g,j*3,none⟩ (.int .i64 x.cnt)).setCell ⟨g,j*3+1,none⟩ (.int .i64 x.fst)).setCell ⟨g,j*3+2,none⟩ x.val) base (.slice (some ⟨g,0,none⟩) n cap) (l.set j x):=by
 subst c;have b:=(a1X h (j*3) (.int .i64 x.cnt)).1;have h2:=(a1X b (j*3+1) (.int .i64 x.fst)).1;have a:=(a1X h2 (j*3+2) x.val).1;rw[DG]at a;show World.ownsRow _ _ _ _ _ (l.set j x).length _;rw[a1L];exact a
theorem cq.frozen{base cap:Nat}{l:List Grp}(a:l.length=n)(h:cq t w base (.slice (some ⟨g,0,none⟩) n cap) l)(j:Nat):w.frozen? ⟨g,j,none⟩=false:=by
 subst a;exact a2m h j
theorem Touch.drew{a:Option Addr}(h:Touch a w w'):Touch a w w'.drew:=h
theorem cq.drew{base:Nat}{l:List Grp}(h:cq t w base v l):cq t w.drew base v l:=h
theorem cB.drew{base:Nat}{L:List Grp}(h:cB w b base v L):cB w.drew b base v L:=⟨h.1,h.2.drew⟩
theorem mw(b base ob g n cap i j:Nat)(L:List Grp)(w:World)(u:dI w ob L)(a:L.length=n)(V:n<=300)(h:cB w b base (.slice (some ⟨g,0,none⟩) n cap) L)(O:b<base)(B:i<n)(C:j<n) :
  Calls prog 234 #[.pointer (some ⟨b,0,none⟩),.int .i64 (i:Nat),.int .i64 (j:Nat)] w fun e w'=>e = .returned (.tuple #[])/\cB w' b base (.slice (some ⟨g,0,none⟩) n cap) (cH L i j)/\Below b w w'/\bz g w w':=by
 have c0:=h.cell;have R:=(a0w h.2 g rfl).1;have v:b≠g:=by omega
 obtain⟨gc,q⟩:=Gn (n:=n) (by have h2:=h.2;unfold cq at h2;rw[a]at h2;exact h2) rfl;have s:=ae q;clear q;obtain⟨a0,a1,a2,_,X⟩:=h.2.at a i B;obtain⟨K,M,A,_,_⟩:=h.2.at a j C;have f0:=h.2.frozen a (i*3);have f1:=h.2.frozen a (i*3+1);have f2:=h.2.frozen a (i*3+2);have k0:=h.2.frozen a (j*3);have Y:=h.2.frozen a (j*3+1);have Z:=h.2.frozen a (j*3+2);have P:b<w.heap.size:=World.block_lt_of_cell? w ⟨b,0,none⟩ c0;obtain⟨xa,xq,d⟩:=(u (L.getD i g0) (fC L i (by omega))).form;obtain⟨ya,yq,f⟩:=(u (L.getD j g0) (fC L j (by omega))).form;have S:(i:Int)<(n:Int):=by omega
 have T:(j:Int)<(n:Int):=by omega
 have W:(n:Int)<=300:=by omega
 rw[d]at a2;rw[f]at A;have H:=ae h;have z:=ae a;clear h a V B C u;have F:=ae d;have G:=ae f;have Q:g≠b:=fun e=>v e.symm;clear d f;generalize D:L.getD i g0=x at *
 generalize E:L.getD j g0=y at *
 obtain⟨xc,xf,xs,xv⟩:=x;obtain⟨yc,yf,ys,yv⟩:=y;simp only at a0 a1 a2 K M A;generalize xs.length=xn at *
 generalize ys.length=yn at *
 have I:=ae D;have J:=ae E;clear D E;go_enter func234,ntmps234;go_wp2_with fail;have ex:Hid (L.getD i g0=⟨xc,xf,xs,.slice xa xn xq⟩):=by
  have e:xv = .slice xa xn xq:=ab F;show L.getD i g0=_;rw[ab I,e]
 have ey:Hid (L.getD j g0=⟨yc,yf,ys,.slice ya yn yq⟩):=by
  have e:yv = .slice ya yn yq:=ab G;show L.getD j g0=_;rw[ab J,e]
 have N:=ae (cq.put (by rw[a1L];exact ab z) (cq.put (ab z) (ab H).2 i ⟨yc,yf,ys,.slice ya yn yq⟩) j ⟨xc,xf,xs,.slice xa xn xq⟩);have p:=ae (((((((Touch.refl (some ⟨g,0,none⟩) w).set (o:=i*3) rfl (.int .i64 yc)).set (o:=i*3+1) rfl (.int .i64 yf)).set (o:=i*3+2) rfl (.slice ya yn yq)).set (o:=j*3) rfl (.int .i64 xc)).set (o:=j*3+1) rfl (.int .i64 xf)).set (o:=j*3+2) rfl (.slice xa xn xq));have k:=ae ((ah (ah (ah (ah (ah (ah (a0c b w) (b:=g) (o:=i*3) (by omega) (.int .i64 yc)) (b:=g) (o:=i*3+1) (by omega) (.int .i64 yf)) (b:=g) (o:=i*3+2) (by omega) (.slice ya yn yq)) (b:=g) (o:=j*3) (by omega) (.int .i64 xc)) (b:=g) (o:=j*3+1) (by omega) (.int .i64 xf)) (b:=g) (o:=j*3+2) (by omega) (.slice xa xn xq)));have l:=ae (bz.touch (ab s) (by decide) (ab p));have t:=ae (((ab p).2 b (fun g' e=>by simp only[a0l,a0B,a0O]at e;omega)).trans (ab H).1);have c:Hid (cB ((((((w.setCell ⟨g,i*3,none⟩ (.int .i64 yc)).setCell ⟨g,i*3+1,none⟩ (.int .i64 yf)).setCell ⟨g,i*3+2,none⟩ (.slice ya yn yq)).setCell ⟨g,j*3,none⟩ (.int .i64 xc)).setCell ⟨g,j*3+1,none⟩ (.int .i64 xf)).setCell ⟨g,j*3+2,none⟩ (.slice xa xn xq)) b base (.slice (some ⟨g,0,none⟩) n cap) ((L.set i ⟨yc,yf,ys,.slice ya yn yq⟩).set j ⟨xc,xf,xs,.slice xa xn xq⟩)):=⟨ab t,ab N⟩;clear H;have m:Hid (cH L i j=(L.set i ⟨yc,yf,ys,.slice ya yn yq⟩).set j ⟨xc,xf,xs,.slice xa xn xq⟩):=by
  show cH L i j=_;unfold cH;rw[ab ex,ab ey]
 by_cases r:i=j
 .
  subst r;have exy:=(ab ex).symm.trans (ab ey);simp only[Grp.mk.injEq,a0J]at exy;obtain⟨rfl,rfl,rfl,rfl,rfl,rfl⟩:=exy
  go_region
  all_goals
   go_wp2
   go_end0
   refine⟨rfl,?_,(ab k).drew,(ab l).drew⟩;rw[ab m];exact(ab c).drew
 .
  have U:¬ j=i:=fun e=>r e.symm;have q1:¬ j*3=i*3+1:=by omega
  have q2:¬ j*3=i*3+2:=by omega
  have q3:¬ j*3+1=i*3:=by omega
  have q4:¬ j*3+1=i*3+2:=by omega
  have q5:¬ j*3+2=i*3:=by omega
  have q6:¬ j*3+2=i*3+1:=by omega
  have q7:¬ j*3=i*3:=by omega
  have q8:¬ j*3+1=i*3+1:=by omega
  have q9:¬ j*3+2=i*3+2:=by omega
  go_region
  all_goals
   go_wp2
   go_end0
   refine⟨rfl,?_,(ab k).drew,(ab l).drew⟩;rw[ab m];exact(ab c).drew
theorem JN(a:Addr)(w:World):(method 471 299 (.pointer (some a)) "loop.example/corbel/impl.size").run prog w = .ok (220,.pointer (some a)) w:=by kernel_rfl
theorem tX(a:Addr)(w:World):(method 471 299 (.pointer (some a)) "loop.example/corbel/impl.before").run prog w = .ok (297,.pointer (some a)) w:=by kernel_rfl
theorem zU(a:Addr)(w:World):(method 471 299 (.pointer (some a)) "loop.example/corbel/impl.swap").run prog w = .ok (234,.pointer (some a)) w:=by kernel_rfl
theorem cB.later{base:Nat}{L:List Grp}(h:cB w b base v L)(hb:Below w.heap.size w w'):cB w' b base v L:=
 ⟨(hb.block b h.lt).trans h.1,h.2.later hb (a0a _)⟩
theorem xe(b g n cap p:Nat)(L:List Grp)(w:World)(D:dI w (b+1) L)(F:L.length=n)(E:n<=300)(h:cB w b (b+1) (.slice (some ⟨g,0,none⟩) n cap) L)(G:p<n)(l:UpI L p) :
  Calls prog 236 #[.iface 299 (.pointer (some ⟨b,0,none⟩)),.int .i64 (p:Nat)] w fun e w'=>e = .returned (.tuple #[])/\∃M:List Grp,M.Perm L/\HP M/\cB w' b (b+1) (.slice (some ⟨g,0,none⟩) n cap) M/\Below b w w'/\bz g w w':=by
 have m1:=tX ⟨b,0,none⟩;have m2:=zU ⟨b,0,none⟩;have N:(n:Int)<=300:=by omega
 have C:=ae D;have x:=ae (a0b F E);have u:=ae (a0b h (a0b G l));clear D F E h G l;go_enter func236,ntmps236;go_wp2_with fail
 go_loopw [1] (fun p wr=>∃(k:Nat) (M:List Grp),p = .int .i64 k/\k<n/\M.Perm L/\UpI M k/\cB wr b (b+1) (.slice (some ⟨g,0,none⟩) n cap) M/\Below b w wr/\bz g w wr) (fun p _=>(intOf p).toNat)
 case atStart=>exact⟨p,L,rfl,(ab u).2.1,a2p _,(ab u).2.2,(ab u).1,a0c _ _,bz.refl _ _⟩
 case round=>
  obtain⟨k,M,rfl,m,i,l,j,a,c⟩:=hrel;have K:(k:Int)<(n:Int):=by omega
  have d:M.length=n:=i.length_eq.trans (ab x).1;have t:=ae (a0b m (a0b i (a0b l (a0b j (a0b a (a0b c d))))));by_cases I:k=0
  .
   subst I;clear m i l j a c d;go_wp2
   go_end0
   obtain⟨m,i,l,j,a,c,d⟩:=ab t;exact⟨rfl,M,i,KX l (.inl rfl),j,a,c⟩
  .
   have B:dI wr (b+1) M:=(c.syms (ab C)).perm i;obtain⟨q,hq⟩:∃q,q=(k-1)/2:=⟨_,rfl⟩;have P:((k:Int)-1)/2=(q:Int):=by omega
   have O:(q:Int)<(n:Int):=by omega
   have J:(1:Int)<=(k:Int):=by omega
   have s:=ae (jb b (b+1) (b+1) g n cap k q M wr B d (ab x).2 j m (by omega));have o:=ae hq;clear m i l j a c d hq;cases r:aU (M.getD k g0) (M.getD q g0)
   .
    rw[r]at s;have v:=ae r;clear r;go_wp2_with fail;refine(ab s).mono ?_;rintro e x1 ⟨rfl,f⟩;go_wp2
    go_end0
    obtain⟨m,i,l,j,a,c,d⟩:=ab t;exact⟨rfl,M,i,KX l (.inr (by rw[←ab o];exact ab v)),j.later f,a.trans (f.mono (a0z (j.lt))),c.trans (bz.below f)⟩
   .
    rw[r]at s;have v:=ae r;clear r;go_wp2_with fail;refine(ab s).mono ?_;rintro e x1 ⟨rfl,f⟩;have H:Hid (Calls prog 234 #[.pointer (some ⟨b,0,none⟩),.int .i64 (k:Nat),.int .i64 (q:Nat)] x1 fun e w'=>e = .returned (.tuple #[])/\cB w' b (b+1) (.slice (some ⟨g,0,none⟩) n cap) (cH M k q)/\Below b x1 w'/\bz g x1 w'):=by
     obtain⟨m,i,l,j,a,c,d⟩:=ab t;exact mw b (b+1) (b+1) g n cap k q M x1 (((c.trans (bz.below f)).syms (ab C)).perm i) d (ab x).2 (j.later f) (a0i _) m (by omega)
    go_wp2_with fail;refine(ab H).mono ?_;rintro e x2 ⟨rfl,z,y,A⟩;go_wp2;go_roundw
    case rel=>
     obtain⟨m,i,l,j,a,c,d⟩:=ab t;have hq:=ab o;refine⟨q,cH M k q,by first|rfl|go_num,by omega,(gU (by omega) (by omega)).trans i,?_,z,(a.trans (f.mono (a0z (j.lt)))).trans y,(c.trans (bz.below f)).trans A⟩;subst hq;exact ME l (by omega) (by omega) (ab v)
    case measure=>
     have hq:=ab o;simp[intOf];omega
theorem xW{L:List Grp}(b:(c=2*k+1/\(L.length<=2*k+2∨aU (L.getD (2*k+2) g0) (L.getD (2*k+1) g0)=false))∨(c=2*k+2/\aU (L.getD (2*k+2) g0) (L.getD (2*k+1) g0)=true)) :
  ∀i,0<i->i<L.length->(i-1)/2=k->aU (L.getD i g0) (L.getD c g0)=false:=by
 intro i i0 d e;have a:i=2*k+1∨i=2*k+2:=by omega
 rcases b with⟨rfl,h|h⟩|⟨rfl,h⟩
 .
  rcases a with rfl|rfl
  . exact fR _
  . omega
 .
  rcases a with rfl|rfl
  . exact fR _
  . exact h
 .
  rcases a with rfl|rfl
  . exact nR h
  . exact fR _
theorem xg(b g n cap p:Nat)(L:List Grp)(w:World)(X:dI w (b+1) L)(hn:L.length=n)(hm:n<=300)(h:cB w b (b+1) (.slice (some ⟨g,0,none⟩) n cap) L)(G:p<=n)(r:DnI L p) :
  Calls prog 235 #[.iface 299 (.pointer (some ⟨b,0,none⟩)),.int .i64 (p:Nat)] w fun e w'=>e = .returned (.tuple #[])/\∃M:List Grp,M.Perm L/\HP M/\cB w' b (b+1) (.slice (some ⟨g,0,none⟩) n cap) M/\Below b w w'/\bz g w w':=by
 have m1:=tX ⟨b,0,none⟩;have m2:=zU ⟨b,0,none⟩;have m3:=JN ⟨b,0,none⟩;have ac:(n:Int)<=300:=by omega
 have J:=ae X;have I:=ae (a0b hn hm);have T:=ae (a0b h (a0b G r));clear X hn hm h G r;go_enter func235,ntmps235;go_wp2_with fail
 go_loopw [1,4] (fun p _ wr=>∃(k:Nat) (M:List Grp),p = .int .i64 k/\k<=n/\M.Perm L/\DnI M k/\cB wr b (b+1) (.slice (some ⟨g,0,none⟩) n cap) M/\Below b w wr/\bz g w wr) (fun p _ _=>n-(intOf p).toNat)
 case atStart=>exact⟨p,L,rfl,(ab T).2.1,a2p _,(ab T).2.2,(ab T).1,a0c _ _,bz.refl _ _⟩
 case round=>
  obtain⟨k,M,rfl,v,o,r,t,a,j⟩:=hrel;have aa:(k:Int)<=(n:Int):=by omega
  have d:M.length=n:=o.length_eq.trans (ab I).1;have z:=ae (a0b v (a0b o (a0b r (a0b t (a0b a (a0b j d))))));have K:=ae (iS b (b+1) n cap _ M wr t);have H:dI wr (b+1) M:=(j.syms (ab J)).perm o;obtain⟨c1,D⟩:∃q,q=2*k+1:=⟨_,rfl⟩;have Y:2*(k:Int)+1=(c1:Int):=by omega
  have x:=ae D;by_cases S:c1<n
  .
   have V:(c1:Int)<(n:Int):=by omega
   obtain⟨c2,hc2⟩:∃q,q=2*k+2:=⟨_,rfl⟩;have Z:(c1:Int)+1=(c2:Int):=by omega
   have B:=ae hc2;by_cases h2:c2<n
   .
    have W:(c2:Int)<(n:Int):=by omega
    have R:=ae (jb b (b+1) (b+1) g n cap c2 c1 M wr H d (ab I).2 t h2 S);clear v o r t a j d D hc2 S h2 H;cases O:aU (M.getD c2 g0) (M.getD c1 g0)
    .
     rw[O]at R;have U:=ae O;clear O;go_wp2_with fail;refine(ab K).mono ?_;rintro e y1 ⟨rfl,m⟩;rw[m];clear m y1;go_wp2_with fail;refine(ab K).mono ?_;rintro e y1 ⟨rfl,m⟩;rw[m];clear m y1;go_wp2_with fail;refine(ab R).mono ?_;rintro e x1 ⟨rfl,A⟩;have y:Hid (cB x1 b (b+1) (.slice (some ⟨g,0,none⟩) n cap) M/\Below b w x1/\bz g w x1/\c1<n/\0<c1/\(c1-1)/2=k/\(∀i,0<i->i<M.length->(i-1)/2=k->aU (M.getD i g0) (M.getD c1 g0)=false)):=by
      obtain⟨v,o,r,t,a,j,d⟩:=ab z;refine⟨(t.later A),(a.trans (A.mono (a0z (t.lt)))),(j.trans (bz.below A)),by omega,?_,?_,xW (k:=k) (.inl ⟨ab x,.inr (by rw[←ab x,←ab B];exact ab U)⟩)⟩
      . have:=ab x;omega
      . have:=ab x;omega
     have s:Hid (Calls prog 297 #[.pointer (some ⟨b,0,none⟩),.int .i64 (c1:Nat),.int .i64 (k:Nat)] x1 fun e w'=>e = .returned (.bool (aU (M.getD c1 g0) (M.getD k g0)))/\Below (x1).heap.size x1 w'):=by
      obtain⟨v,o,r,t,a,j,d⟩:=ab z;obtain⟨xh,xb,xk,xc,xc0,xp,xm⟩:=ab y;exact jb b (b+1) (b+1) g n cap c1 k M x1 ((xk.syms (ab J)).perm o) d (ab I).2 xh xc (by omega)
     cases l:aU (M.getD c1 g0) (M.getD k g0)
     . rw[l]at s;have u:=ae l;clear l;go_wp2_with fail;refine(ab s).mono ?_;rintro e x2 ⟨rfl,f⟩;go_wp2;refine a0F (a3c rfl _ _ _) rfl ?_;obtain⟨v,o,r,t,a,j,d⟩:=ab z;obtain⟨xh,xb,xk,xc,xc0,xp,xm⟩:=ab y;exact⟨rfl,M,o,wP r (fun c c0 N G=>iq (xm c c0 N G) (ab u)),xh.later f,xb.trans (f.mono (a0z (xh.lt))),xk.trans (bz.below f)⟩
     .
      rw[l]at s;have u:=ae l;clear l;go_wp2_with fail;refine(ab s).mono ?_;rintro e x2 ⟨rfl,f⟩;have P:Hid (Calls prog 234 #[.pointer (some ⟨b,0,none⟩),.int .i64 (c1:Nat),.int .i64 (k:Nat)] x2 fun e w'=>e = .returned (.tuple #[])/\cB w' b (b+1) (.slice (some ⟨g,0,none⟩) n cap) (cH M c1 k)/\Below b x2 w'/\bz g x2 w'):=by
       obtain⟨v,o,r,t,a,j,d⟩:=ab z;obtain⟨xh,xb,xk,xc,xc0,xp,xm⟩:=ab y;exact mw b (b+1) (b+1) g n cap c1 k M x2 (((xk.trans (bz.below f)).syms (ab J)).perm o) d (ab I).2 (xh.later f) (a0i _) xc (by omega)
      go_wp2_with fail;refine(ab P).mono ?_;rintro e x3 ⟨rfl,E,C,F⟩;go_wp2;go_roundw
      case rel=>
       obtain⟨v,o,r,t,a,j,d⟩:=ab z;obtain⟨xh,xb,xk,xc,xc0,xp,xm⟩:=ab y;exact⟨c1,cH M c1 k,rfl,by omega,(gU (by omega) (by omega)).trans o,wQ r (by omega) (by omega) xc0 xp xm (ab u),E,(xb.trans (f.mono (a0z (xh.lt)))).trans C,(xk.trans (bz.below f)).trans F⟩
      case measure=>
       obtain⟨xh,xb,xk,xc,xc0,xp,xm⟩:=ab y;simp[intOf];omega
    .
     rw[O]at R;have U:=ae O;clear O;go_wp2_with fail;refine(ab K).mono ?_;rintro e y1 ⟨rfl,m⟩;rw[m];clear m y1;go_wp2_with fail;refine(ab K).mono ?_;rintro e y1 ⟨rfl,m⟩;rw[m];clear m y1;go_wp2_with fail;refine(ab R).mono ?_;rintro e x1 ⟨rfl,A⟩;have y:Hid (cB x1 b (b+1) (.slice (some ⟨g,0,none⟩) n cap) M/\Below b w x1/\bz g w x1/\c2<n/\0<c2/\(c2-1)/2=k/\(∀i,0<i->i<M.length->(i-1)/2=k->aU (M.getD i g0) (M.getD c2 g0)=false)):=by
      obtain⟨v,o,r,t,a,j,d⟩:=ab z;refine⟨(t.later A),(a.trans (A.mono (a0z (t.lt)))),(j.trans (bz.below A)),by omega,?_,?_,xW (k:=k) (.inr ⟨ab B,by rw[←ab x,←ab B];exact ab U⟩)⟩
      . have:=ab B;omega
      . have:=ab B;omega
     have s:Hid (Calls prog 297 #[.pointer (some ⟨b,0,none⟩),.int .i64 (c2:Nat),.int .i64 (k:Nat)] x1 fun e w'=>e = .returned (.bool (aU (M.getD c2 g0) (M.getD k g0)))/\Below (x1).heap.size x1 w'):=by
      obtain⟨v,o,r,t,a,j,d⟩:=ab z;obtain⟨xh,xb,xk,xc,xc0,xp,xm⟩:=ab y;exact jb b (b+1) (b+1) g n cap c2 k M x1 ((xk.syms (ab J)).perm o) d (ab I).2 xh xc (by omega)
     cases l:aU (M.getD c2 g0) (M.getD k g0)
     . rw[l]at s;have u:=ae l;clear l;go_wp2_with fail;refine(ab s).mono ?_;rintro e x2 ⟨rfl,f⟩;go_wp2;refine a0F (a3c rfl _ _ _) rfl ?_;obtain⟨v,o,r,t,a,j,d⟩:=ab z;obtain⟨xh,xb,xk,xc,xc0,xp,xm⟩:=ab y;exact⟨rfl,M,o,wP r (fun c c0 N G=>iq (xm c c0 N G) (ab u)),xh.later f,xb.trans (f.mono (a0z (xh.lt))),xk.trans (bz.below f)⟩
     .
      rw[l]at s;have u:=ae l;clear l;go_wp2_with fail;refine(ab s).mono ?_;rintro e x2 ⟨rfl,f⟩;have P:Hid (Calls prog 234 #[.pointer (some ⟨b,0,none⟩),.int .i64 (c2:Nat),.int .i64 (k:Nat)] x2 fun e w'=>e = .returned (.tuple #[])/\cB w' b (b+1) (.slice (some ⟨g,0,none⟩) n cap) (cH M c2 k)/\Below b x2 w'/\bz g x2 w'):=by
       obtain⟨v,o,r,t,a,j,d⟩:=ab z;obtain⟨xh,xb,xk,xc,xc0,xp,xm⟩:=ab y;exact mw b (b+1) (b+1) g n cap c2 k M x2 (((xk.trans (bz.below f)).syms (ab J)).perm o) d (ab I).2 (xh.later f) (a0i _) xc (by omega)
      go_wp2_with fail;refine(ab P).mono ?_;rintro e x3 ⟨rfl,E,C,F⟩;go_wp2;go_roundw
      case rel=>
       obtain⟨v,o,r,t,a,j,d⟩:=ab z;obtain⟨xh,xb,xk,xc,xc0,xp,xm⟩:=ab y;exact⟨c2,cH M c2 k,rfl,by omega,(gU (by omega) (by omega)).trans o,wQ r (by omega) (by omega) xc0 xp xm (ab u),E,(xb.trans (f.mono (a0z (xh.lt)))).trans C,(xk.trans (bz.below f)).trans F⟩
      case measure=>
       obtain⟨xh,xb,xk,xc,xc0,xp,xm⟩:=ab y;simp[intOf];omega
   .
    have W:¬ (c2:Int)<(n:Int):=by omega
    have Q:Hid (n<=c2):=by show n<=c2;omega
    clear v o r t a j d D hc2 S h2 H;go_wp2_with fail;refine(ab K).mono ?_;rintro e y1 ⟨rfl,m⟩;rw[m];clear m y1;go_wp2_with fail;refine(ab K).mono ?_;rintro e y1 ⟨rfl,m⟩;rw[m];clear m y1;have y:Hid (cB wr b (b+1) (.slice (some ⟨g,0,none⟩) n cap) M/\Below b w wr/\bz g w wr/\c1<n/\0<c1/\(c1-1)/2=k/\(∀i,0<i->i<M.length->(i-1)/2=k->aU (M.getD i g0) (M.getD c1 g0)=false)):=by
     obtain⟨v,o,r,t,a,j,d⟩:=ab z;refine⟨t,a,j,by omega,?_,?_,xW (k:=k) (.inl ⟨ab x,.inl (by rw[d,←ab B];exact ab Q)⟩)⟩
     . have:=ab x;omega
     . have:=ab x;omega
    have s:Hid (Calls prog 297 #[.pointer (some ⟨b,0,none⟩),.int .i64 (c1:Nat),.int .i64 (k:Nat)] wr fun e w'=>e = .returned (.bool (aU (M.getD c1 g0) (M.getD k g0)))/\Below (wr).heap.size wr w'):=by
     obtain⟨v,o,r,t,a,j,d⟩:=ab z;obtain⟨xh,xb,xk,xc,xc0,xp,xm⟩:=ab y;exact jb b (b+1) (b+1) g n cap c1 k M wr ((xk.syms (ab J)).perm o) d (ab I).2 xh xc (by omega)
    cases l:aU (M.getD c1 g0) (M.getD k g0)
    . rw[l]at s;have u:=ae l;clear l;go_wp2_with fail;refine(ab s).mono ?_;rintro e x2 ⟨rfl,f⟩;go_wp2;refine a0F (a3c rfl _ _ _) rfl ?_;obtain⟨v,o,r,t,a,j,d⟩:=ab z;obtain⟨xh,xb,xk,xc,xc0,xp,xm⟩:=ab y;exact⟨rfl,M,o,wP r (fun c c0 N G=>iq (xm c c0 N G) (ab u)),xh.later f,xb.trans (f.mono (a0z (xh.lt))),xk.trans (bz.below f)⟩
    .
     rw[l]at s;have u:=ae l;clear l;go_wp2_with fail;refine(ab s).mono ?_;rintro e x2 ⟨rfl,f⟩;have P:Hid (Calls prog 234 #[.pointer (some ⟨b,0,none⟩),.int .i64 (c1:Nat),.int .i64 (k:Nat)] x2 fun e w'=>e = .returned (.tuple #[])/\cB w' b (b+1) (.slice (some ⟨g,0,none⟩) n cap) (cH M c1 k)/\Below b x2 w'/\bz g x2 w'):=by
      obtain⟨v,o,r,t,a,j,d⟩:=ab z;obtain⟨xh,xb,xk,xc,xc0,xp,xm⟩:=ab y;exact mw b (b+1) (b+1) g n cap c1 k M x2 (((xk.trans (bz.below f)).syms (ab J)).perm o) d (ab I).2 (xh.later f) (a0i _) xc (by omega)
     go_wp2_with fail;refine(ab P).mono ?_;rintro e x3 ⟨rfl,E,C,F⟩;go_wp2;go_roundw
     case rel=>
      obtain⟨v,o,r,t,a,j,d⟩:=ab z;obtain⟨xh,xb,xk,xc,xc0,xp,xm⟩:=ab y;exact⟨c1,cH M c1 k,rfl,by omega,(gU (by omega) (by omega)).trans o,wQ r (by omega) (by omega) xc0 xp xm (ab u),E,(xb.trans (f.mono (a0z (xh.lt)))).trans C,(xk.trans (bz.below f)).trans F⟩
     case measure=>
      obtain⟨xh,xb,xk,xc,xc0,xp,xm⟩:=ab y;simp[intOf];omega
  .
   have V:¬ (c1:Int)<(n:Int):=by omega
   have Q:Hid (n<=c1):=by show n<=c1;omega
   clear v o r t a j d D S H;go_wp2_with fail;refine(ab K).mono ?_;rintro e y1 ⟨rfl,m⟩;rw[m];clear m y1;go_wp2
   go_end0
   obtain⟨v,o,r,t,a,j,d⟩:=ab z;have D:=ab x;exact⟨rfl,M,o,wP r (fun c c0 N G=>by omega),t,a,j⟩
theorem D3(h:w.heap[b]?=some (Obj.cells #[v] t))(u:Value):(w.setCell ⟨b,0,none⟩ u).heap[b]?=some (Obj.cells #[u] t):=by
 show(w.heap.modify b _)[b]?=_;rw[Array.getElem?_modify,a0e rfl,h];simp
theorem Iw(h:w.heap[b]?=some (Obj.cells #[v] t)):w.cell? ⟨b,0,none⟩=some v:=by simp[World.cell?,h]
theorem Lo(h:w.heap[b]?=some (Obj.cells #[v] t)):w.frozen? ⟨b,0,none⟩=false:=by simp[World.frozen?,h]
theorem Tryz.infoGrp:(prog.info? 302).map (fun i=>(i.zero,i.size,i.bytes))=some (some (.agg #[.int .i64 0,.int .i64 0,.slice none 0 0]),3,40):=by kernel_rfl
theorem Ct{W x1:World}{v':Value}{L:List Grp}{x:Grp}{o:Obj}(z:L.length=n)(h:cB w b (b+1) v L)(m:Below w.heap.size w W)(y:bj 3 w W)(l:x1.ownsRow (b+1) 302 3 v' (n+1) (aN L++[.int .i64 x.cnt,.int .i64 x.fst,x.val]))(a:(W.alloc o).drew.grownBy x1 v.ownBlock) :
  (∃g c,v' = .slice (some ⟨g,0,none⟩) (n+1) c)/\(x1.heap[b]?=some (Obj.cells #[v] 319))/\cB (x1.setCell ⟨b,0,none⟩ v') b (b+1) v' (L++[x])/\Below b w (x1.setCell ⟨b,0,none⟩ v')/\bj 3 w (x1.setCell ⟨b,0,none⟩ v'):=by
 have p:(W.alloc o).grownBy x1 v.ownBlock:=⟨a.os,a.tape,a.output,a.size,a.block⟩;have u:=m.size;have s:=h.lt;have t:=h.later m;have h2:cq 302 (W.alloc o) (b+1) v L:=a0j t.2 _;have j:∀k,v.ownBlock=some k->b<k:=fun k e=>(a0w h2 k e).1;have f:x1.heap[b]?=some (Obj.cells #[v] 319):=by
  rw[p.block b (by simp;omega) (fun e=>by have:=j b e.symm;omega),a1i W o b (by omega)];exact t.1
 have i:Below b w x1:=(((m.mono (a0z s)).alloc (by omega) o)).grown p (by simp;omega) (fun k e=>a0z (j k e));have r:bj 3 w x1:=(y.alloc o).grown h2 (by decide) p;subst z;have d:=qE x l;obtain⟨va,vc,e⟩:=d.formN (n:=L.length+1) (by simp);obtain⟨g,q⟩:=(show cq 302 x1 (b+1) (.slice va (L.length+1) vc) (L++[x]) by rw[←e];exact d).somes (by simp);refine⟨⟨g,vc,by rw[e,q]⟩,f,⟨D3 f v',?_⟩,ah i (a0a _) _,r.set f (by decide) _⟩;exact a23 d (a0i _) _
theorem zy(b n cap:Nat)(a:Option Addr)(L:List Grp)(x:Grp)(w:World)(Q:dI w (b+1) L)(G:am w (b+1) x.val x.syms)(E:L.length=n)(R:n<300)(h:cB w b (b+1) (.slice a n cap) L)(S:HP L) :
  Calls prog 222 #[.pointer (some ⟨b,0,none⟩),.agg #[.int .i64 x.cnt,.int .i64 x.fst,x.val]] w fun e w'=>e = .returned (.tuple #[])/\∃(M:List Grp) (g cap':Nat),M.Perm (L++[x])/\HP M/\cB w' b (b+1) (.slice (some ⟨g,0,none⟩) (n+1) cap') M/\Below b w w'/\bj 3 w w':=by
 obtain⟨i0,Z,H,I,J⟩:=a0p Tryz.infoGrp;have ac:(n:Int)<300:=by omega
 have aa:=h.lt;have c0:=h.cell;obtain⟨xa,xq,o⟩:=G.form;have U:=ae Q;have s:=ae (a0b E R);have K:=ae (a0b h S);have V:=ae (a0b G o);obtain⟨xc,xf,xs,xv⟩:=x;simp only at o;subst o;generalize ad:xs.length=xn at *
 have f:Hid (n+1<=maxLen/\(n+1)*40<=140737488355328):=by show _/\_;unfold maxLen;omega
 have Y:Hid (World.ownsRow ((w.alloc (.cells #[.int .i64 xc,.int .i64 xf,.slice xa xn xq] 302)).alloc (.cells #[.int .i64 xc,.int .i64 xf,.slice xa xn xq] 302)).drew (b+1) 302 3 (.slice a n cap) n (aN L)):=by
  have h2:=h.2;unfold cq at h2;rw[E]at h2;exact a0j (a0j h2 _) _
 have z:Hid (∀(j:Nat) (u:Value),[Value.int .i64 xc,.int .i64 xf,.slice xa xn xq][j]?=some u->World.cell? ((w.alloc (.cells #[.int .i64 xc,.int .i64 xf,.slice xa xn xq] 302)).alloc (.cells #[.int .i64 xc,.int .i64 xf,.slice xa xn xq] 302)).drew ((⟨w.heap.size+1,0,none⟩:Addr).add j)=some u):=qC _ _ _ _ _ _ (by simp);have A:Hid (b+1<=((w.alloc (.cells #[.int .i64 xc,.int .i64 xf,.slice xa xn xq] 302)).alloc (.cells #[.int .i64 xc,.int .i64 xf,.slice xa xn xq] 302)).drew.heap.size):=by show b+1<=((w.alloc (.cells #[.int .i64 xc,.int .i64 xf,.slice xa xn xq] 302)).alloc (.cells #[.int .i64 xc,.int .i64 xf,.slice xa xn xq] 302)).drew.heap.size;simp;omega
 clear Q E R h S G;go_enter func222,ntmps222;go_wp2_with fail
 go_region_law (refine aG rfl (.tmp 8) (.tmp 10) 317 rfl (b+1) 302 i0 (.agg #[.int .i64 0,.int .i64 0,.slice none 0 0]) 3 40 underlying317 Z H I J rfl (by decide) _ _ _ rfl (ab Y) ⟨w.heap.size+1,0,none⟩ 1 1 [.int .i64 xc,.int .i64 xf,.slice xa xn xq] rfl rfl (ab z) (qD _ _ _ _ _) (ab f).1 (ab f).2 (ab A) ?_;intro v' w' k c q;clear q;have O:=ae (Ct (x:=⟨xc,xf,xs,.slice xa xn xq⟩) (ab s).1 (ab K).1 ((a0c _ _).alloc (a0a _) _) ((bj.refl _ _).alloc _) k c);obtain⟨⟨g',v,F⟩,t,N⟩:=(ab O);subst F;clear k c O;have c1:=Iw t;have f1:=Lo t;have p:=ae N;clear N t)
 all_goals
  go_wp2_with fail;obtain⟨i,m,d⟩:=ab p;have l:=(d.syms (ab U)).snoc (g:=⟨xc,xf,xs,.slice xa xn xq⟩) (d.ints (ab V).1);have W:=ae (iS b (b+1) (n+1) v (some ⟨g',0,none⟩) _ _ i);have T:=ae (xe b g' (n+1) v n _ _ l (by rw[a0k,(ab s).1];rfl) (by have:=(ab s).2;omega) i (a0i _) (by have P:=LL (ab K).2 ⟨xc,xf,xs,.slice xa xn xq⟩;rw[(ab s).1]at P;exact P));clear i m d l;refine(ab W).mono ?_;rintro e y1 ⟨rfl,r⟩;rw[r];clear r y1;go_wp2_with fail;refine(ab T).mono ?_;rintro e x3 ⟨rfl,M,X,y,C,B,D⟩;go_wp2
  go_end0
  obtain⟨i,m,d⟩:=ab p;exact⟨rfl,M,g',v,X,y,C,m.trans B,d.trans D.1⟩
theorem LH(g n cap k:Nat)(d:k<=cap)(c:0<cap)(W:World):(Instr.slice 317 (.slice (some ⟨g,0,none⟩) n cap) none (some (.int .i64 (k:Int))) none).run prog W = .ok (.slice (some ⟨g,0,none⟩) k cap) W:=by
 have b:(k:Int)<=(cap:Int):=by omega
 have h2:¬ ((k:Int)<0):=by omega
 have a:(cap == 0)=false:=by simp;omega
 go_simp
theorem KQ{base cap:Nat}{l:List Grp}(b:l.length=n+1)(h:cq 302 w base (.slice (some ⟨g,0,none⟩) (n+1) cap) l):cq 302 w base (.slice (some ⟨g,0,none⟩) n cap) (l.take n):=by
 have e:aN l=aN (l.take n)++aN (l.drop n):=by rw[←j5,a1H]
 have a:(l.take n).length=n:=by rw[a0v];omega
 unfold cq at h ⊢;rw[b,e]at h;rw[a];exact ownsRow_pop (by rw[lr,a]) h
theorem ql{base size o m cap:Nat}{e:TypeId}{xs:List Value}(h:w.ownsRow base e size (.slice (some ⟨g,0,none⟩) n cap) m xs)(f:k≠g)(u:Value):(w.setCell ⟨k,o,none⟩ u).ownsRow base e size (.slice (some ⟨g,0,none⟩) n cap) m xs:=by
 refine⟨h.1,?_⟩;rcases h.2 with d|⟨g1,cap,a,e,b,c,rest⟩
 . exact .inl d
 . refine .inr ⟨g1,cap,a,e,b,?_,rest⟩;simp only[a0J,a0l,a0B,a0O]at e;rw[a0P w ⟨k,o,none⟩ u g1 (by show g1≠k;omega)];exact c
theorem cB.setOther{base o cap:Nat}{L:List Grp}(h:cB w b base (.slice (some ⟨g,0,none⟩) n cap) L)(hb:k≠b)(a:k≠g)(u:Value):cB (w.setCell ⟨k,o,none⟩ u) b base (.slice (some ⟨g,0,none⟩) n cap) L:=
 ⟨(a0P w ⟨k,o,none⟩ u b (fun e=>hb e.symm)).trans h.1,ql h.2 a u⟩
theorem rt{x y z:Value}(h:w.heap[b]?=some (Obj.cells #[x,y,z] t)):Three w b x y z:=
 ⟨by simp[World.cell?,h],by simp[World.cell?,h],by simp[World.cell?,h],by simp[World.frozen?,h],by simp[World.frozen?,h],by simp[World.frozen?,h],(Array.getElem?_eq_some_iff.1 h).1⟩
theorem pS(w:World)(o:Obj):(w.alloc o).heap[w.heap.size]?=some o:=Array.getElem?_push_size
theorem AO(b g N cap:Nat)(L:List Grp)(w:World)(T:dI w (b+1) L)(y:L.length=N+1)(hm:N<300)(h:cB w b (b+1) (.slice (some ⟨g,0,none⟩) (N+1) cap) L)(hp:HP L) :
  Calls prog 221 #[.pointer (some ⟨b,0,none⟩)] w fun e w'=>e = .returned (.agg #[.int .i64 (L.getD 0 g0).cnt,.int .i64 (L.getD 0 g0).fst,(L.getD 0 g0).val])/\∃M:List Grp,(L.getD 0 g0 :: M).Perm L/\HP M/\cB w' b (b+1) (.slice (some ⟨g,0,none⟩) N cap) M/\Below b w w'/\bj 3 w w':=by
 have ba:(N:Int)<300:=by omega
 have s:=h.lt;have l:=h.2.cap y;have HS:=ae T;have B:=ae (a0b y hm);have Q:=ae (a0b h hp);have i:Below w.heap.size w (w.alloc (.cells #[.int .i64 0,.int .i64 0,.slice none 0 0] 302)):=(a0c _ _).alloc (a0a _) _;have HZ:=ae (iS b (b+1) (N+1) cap (some ⟨g,0,none⟩) L _ (h.later i));have HW:=ae (mw b (b+1) (b+1) g (N+1) cap 0 N L _ ((bz.below (g:=g) i).syms T) y (by omega) (h.later i) (a0i _) (by omega) (by omega));have u:=ae i;clear T y h hp i;go_enter func221,ntmps221;go_wp2_with fail;refine(ab HZ).mono ?_;rintro e y1 ⟨rfl,O⟩;rw[O];clear O y1;go_wp2_with fail;refine(ab HW).mono ?_;rintro e x1 ⟨rfl,c,j,d⟩;have a9:=(a0w (ab Q).1.2 g rfl).2;have a:(cH L 0 N).length=N+1:=by rw[fT];exact(ab B).1
 obtain⟨c0,c1,c2,_,a0⟩:=c.2.at a N (a0i _);rw[nc (by rw[(ab B).1];exact a0i _)]at c0 c1 c2;have hA:=ab HS (L.getD 0 g0) (fC L 0 (by rw[(ab B).1];exact Nat.succ_pos _));obtain⟨aa,ac,f⟩:=hA.form;rw[f]at c2;have a6:=c.cell;have a7:=c.frz;have ad:=c.lt;have a8:b≠g:=by have:=(a0w (ab Q).1.2 g rfl).1;omega
 have K:w.heap.size<x1.heap.size:=by have:=d.2.1;simp at this;omega
 have a5:=LH g (N+1) cap N (by omega) (by omega);have al:(cap:Int)<=9223372036854775807:=by have:=l.2;unfold maxLen at this;omega
 have P:(N:Int)+1<=(cap:Int):=by have:=l.1;omega
 have m:x1.heap[w.heap.size]?=some (Obj.cells #[.int .i64 0,.int .i64 0,.slice none 0 0] 302):=by
  rw[d.2.2 w.heap.size (by simp) (by omega)];exact pS _ _
 have HX:=ae (a0b c (a0b j (a0b d (a0b a (a0b f m)))));clear c j d a l a0 hA m hm HZ HW;generalize D:(L.getD 0 g0).cnt=Ac at *
 generalize E:(L.getD 0 g0).fst=Af at *
 generalize F:(L.getD 0 g0).syms.length=An at *
 have R:=ae (a0b D (a0b E F));clear D E F f;go_wp2_with fail;have S:Hid (cB ((x1.setCell ⟨b,0,none⟩ (.slice (some ⟨g,0,none⟩) N cap)).alloc (.cells #[.int .i64 Ac,.int .i64 Af,.slice aa An ac] 302)) b (b+1) (.slice (some ⟨g,0,none⟩) N cap) ((cH L 0 N).take N) /\
   Below b w ((x1.setCell ⟨b,0,none⟩ (.slice (some ⟨g,0,none⟩) N cap)).alloc (.cells #[.int .i64 Ac,.int .i64 Af,.slice aa An ac] 302)) /\
   bj 3 w ((x1.setCell ⟨b,0,none⟩ (.slice (some ⟨g,0,none⟩) N cap)).alloc (.cells #[.int .i64 Ac,.int .i64 Af,.slice aa An ac] 302)) /\
   ((x1.setCell ⟨b,0,none⟩ (.slice (some ⟨g,0,none⟩) N cap)).alloc (.cells #[.int .i64 Ac,.int .i64 Af,.slice aa An ac] 302)).heap[w.heap.size]?=some (Obj.cells #[.int .i64 0,.int .i64 0,.slice none 0 0] 302) /\
   ((x1.setCell ⟨b,0,none⟩ (.slice (some ⟨g,0,none⟩) N cap)).alloc (.cells #[.int .i64 Ac,.int .i64 Af,.slice aa An ac] 302)).heap[x1.heap.size]?=some (Obj.cells #[.int .i64 Ac,.int .i64 Af,.slice aa An ac] 302)):=by
  obtain⟨c,j,d,a,f,m⟩:=ab HX;have t:(x1.setCell ⟨b,0,none⟩ (.slice (some ⟨g,0,none⟩) N cap)).heap.size=x1.heap.size:=by simp
  refine⟨⟨?_,?_⟩,?_,?_,?_,?_⟩
  . rw[a1i _ _ b (by rw[t];exact ad)];exact D3 c.1 _
  . exact a0j (a23 (KQ a c.2) (a0i _) _) _
  . exact(ah (((ab u).mono (a0z s)).trans j) (a0a _) _).alloc (by rw[t];omega) _
  . exact(((bj.below (ab u)).trans d.1).set c.1 (by decide) _).alloc _
  . rw[a1i _ _ w.heap.size (by rw[t];exact K),a0P _ _ _ _ (by show w.heap.size≠b;omega)];exact m
  . rw[←t];exact pS _ _
 generalize (x1.setCell ⟨b,0,none⟩ (.slice (some ⟨g,0,none⟩) N cap)).alloc (.cells #[.int .i64 Ac,.int .i64 Af,.slice aa An ac] 302)=Y at *
 have HK:Hid (Calls prog 235 #[.iface 299 (.pointer (some ⟨b,0,none⟩)),.int .i64 ((0:Nat):Int)] Y fun e w'=>e = .returned (.tuple #[])/\∃M:List Grp,M.Perm ((cH L 0 N).take N)/\HP M/\cB w' b (b+1) (.slice (some ⟨g,0,none⟩) N cap) M/\Below b Y w'/\bz g Y w'):=by
  obtain⟨z,A,n,p,q⟩:=ab S;obtain⟨y,hm⟩:=ab B;have a4:dI Y (b+1) ((cH L 0 N).take N):=fun x hx=>n.syms (ab HS) x ((gU (by omega) (by omega)).mem_iff.1 (a2a hx));exact xg b g N cap 0 _ Y a4 (by rw[a0v,fT];omega) (by omega) z (a0g _) (by have C:=Nm (ab Q).2;rw[y]at C;exact C)
 refine(ab HK).mono ?_;rintro e x5 ⟨rfl,M,hM,G,J,H,r⟩;have HF:Hid (cB x5 b (b+1) (.slice (some ⟨g,0,none⟩) N cap) M/\Below b w x5/\bj 3 w x5/\x5.heap[w.heap.size]?=some (Obj.cells #[.int .i64 0,.int .i64 0,.slice none 0 0] 302)/\M.Perm ((cH L 0 N).take N)/\HP M):=by
  obtain⟨z,A,n,p,q⟩:=ab S;exact⟨J,A.trans H,n.trans r.1,(r.2.2 _ (dh p) (by omega)).trans p,hM,G⟩
 have U:Three x5 w.heap.size _ _ _:=rt (ab HF).2.2.2.1;have V:Three x5 x1.heap.size (.int .i64 Ac) (.int .i64 Af) (.slice aa An ac):=by
  obtain⟨z,A,n,p,q⟩:=ab S;exact rt ((r.2.2 _ (dh q) (by omega)).trans q)
 clear hM G J H r HK;obtain⟨p0,p1,p2,q0,q1,q2,a3⟩:=U;obtain⟨r0,r1,r2,s0,s1,s2,bb⟩:=V;go_wp2_with fail;obtain⟨c,j,d,a,f,m⟩:=ab HX;obtain⟨fh,fb,fk,fr,fM,fP⟩:=ab HF;obtain⟨eA,eF,eS⟩:=ab R;have X:=(((Three.set0 ⟨p0,p1,p2,q0,q1,q2,a3⟩ (.int .i64 Ac)).set1 (.int .i64 Af)).set2 (.slice aa An ac));have W:=((((Touch.refl (some ⟨w.heap.size,0,none⟩) x5).set (o:=0) rfl (.int .i64 Ac)).set (o:=1) rfl (.int .i64 Af)).set (o:=2) rfl (.slice aa An ac));have I:=ah (ah (ah fb (b:=w.heap.size) (o:=0) (a0z s) (.int .i64 Ac)) (b:=w.heap.size) (o:=1) (a0z s) (.int .i64 Af)) (b:=w.heap.size) (o:=2) (a0z s) (.slice aa An ac);have a2:=fk.trans (bj.touch fr (by decide) W);have a1:=((fh.setOther (k:=w.heap.size) (o:=0) (by omega) (by omega) (.int .i64 Ac)).setOther (k:=w.heap.size) (o:=1) (by omega) (by omega) (.int .i64 Af)).setOther (k:=w.heap.size) (o:=2) (by omega) (by omega) (.slice aa An ac);generalize ((x5.setCell ⟨w.heap.size,0,none⟩ (.int .i64 Ac)).setCell ⟨w.heap.size,1,none⟩ (.int .i64 Af)).setCell ⟨w.heap.size,2,none⟩ (.slice aa An ac)=Z at *
 obtain⟨t0,t1,t2,_,_,_,_⟩:=X;refine a0F (v:=.agg #[.int .i64 Ac,.int .i64 Af,.slice aa An ac]) (by simp[results,results221,go_sem,t0,t1,t2]) rfl ⟨?_,M,?_,fP,a1,I,a2⟩
 . rw[eA,eF,f]
 . have y:=(ab B).1;have C:=ID (L:=L) (by omega);rw[y]at C;exact(fM.cons _).trans C
theorem oj(l:List Int)(k:Nat):(ax l k).length<=k:=by
 induction k with
 | zero=>simp[ax]
 | succ k ih=>
  simp only[ax]
  split
  . simp;omega
  . omega
theorem vj(a:Option Addr)(cap n:Nat)(l:List Int)(w:World)(K:l.length=n)(h:aY w a l)(J:n<=300) :
  Calls prog 219 #[.slice a n cap] w fun e w'=>e = .returned (.pointer (some ⟨w.heap.size,0,none⟩))/\∃(L:List Grp) (va:Option Addr) (vc:Nat),cB w' w.heap.size (w.heap.size+1) (.slice va L.length vc) L/\HP L/\(L.map bare).Perm (ax l n)/\dI w' (w.heap.size+1) L/\Below w.heap.size w w':=by
 have S:(n:Int)<=300:=by omega
 have A:=ae (a0b K J);have s:Below w.heap.size w (w.alloc (.cells #[.slice none 0 0] 319)):=(a0c _ _).alloc (a0a _) _;have t:cB (w.alloc (.cells #[.slice none 0 0] 319)) w.heap.size (w.heap.size+1) (.slice none 0 0) []:=⟨pS _ _,a04 _ _ _ _⟩;clear K J;go_enter func219,ntmps219;go_wp2_with fail
 go_loopw [4,5,10] (fun _ _ i wr=>∃(k:Nat) (L:List Grp) (va:Option Addr) (vc:Nat),k<=n/\i = .int .i64 k/\cB wr w.heap.size (w.heap.size+1) (.slice va L.length vc) L/\HP L/\(L.map bare).Perm (ax l k)/\dI wr (w.heap.size+1) L/\Below w.heap.size w wr) (fun _ _ i _=>n-(intOf i).toNat)
 case atStart=>exact⟨0,[],none,0,a0g _,rfl,t,fun i _ R=>by simp at R,a2p _,AJ _ _,s⟩
 case round=>
  obtain⟨k,L,va,vc,v,rfl,d,p,j,m,b⟩:=hrel;clear s t;by_cases H:k<n
  .
   obtain⟨g,o,rfl,T,u⟩:=(h.later b) (by rw[(ab A).1];omega);have c0:=u k (by rw[(ab A).1];exact H);have c:L.length<300:=by
    have Q:=j.length_eq;rw[a0K]at Q;have h2:=oj l k;have:=(ab A).2;omega
   have I:=ae (a0b v (a0b d (a0b p (a0b j (a0b m b)))));clear u;by_cases N:0<l.getD k 0
   .
    have q:=ae (uw N);generalize l.getD k 0=y at *
    have f:Below wr.heap.size wr (wr.alloc (.cells #[.int .i64 (k:Int)] 3)):=(a0c _ _).alloc (a0a _) _;have B:am (wr.alloc (.cells #[.int .i64 (k:Int)] 3)) (w.heap.size+1) (.slice (some ⟨wr.heap.size,0,none⟩) 1 1) [(k:Int)]:=am.one wr _ d.lt _;have z:=ae (zy w.heap.size L.length vc va L ⟨y,(k:Int),[(k:Int)],.slice (some ⟨wr.heap.size,0,none⟩) 1 1⟩ _ ((bj.below f).syms m) B rfl c (d.later f) p);have r:=ae f;have O:=ae B;clear v d p j m b B f c;go_wp2_with fail;refine(ab z).mono ?_;rintro e x1 ⟨rfl,M,g',P,D,C,F,E,x⟩;go_wp2;go_roundw
    case rel=>
     obtain⟨v,d,p,j,m,b⟩:=ab I;have G:M.length=L.length+1:=by rw[D.length_eq];simp
     refine⟨k+1,M,some ⟨g',0,none⟩,P,by omega,by go_num,by rw[G];exact F,C,?_,?_,(b.trans ((ab r).mono (a0z d.lt))).trans E⟩
     . rw[ab q];refine(D.map bare).trans ?_;rw[a0I];exact j.append_right _
     . exact((x.syms ((bj.below (ab r)).syms m)).snoc (x.ints (ab O))).perm D
    case measure=>simp[intOf];omega
   .
    have q:=ae (EA N);generalize l.getD k 0=y at *
    clear v d p j m b c;go_wp2;go_roundw
    case rel=>
     obtain⟨v,d,p,j,m,b⟩:=ab I;exact⟨k+1,L,va,vc,by omega,by go_num,d,p,by rw[ab q];exact j,m,b⟩
    case measure=>simp[intOf];omega
  .
   obtain rfl:k=n:=by omega
   clear h;go_wp2;go_ret;exact⟨rfl,L,va,vc,d,p,j,m,b⟩
theorem Jc{L M1 M2:List Grp}(E:∀i,i<l.length->0<=l.getD i 0/\l.getD i 0<=100000)(M:l.length<=300)(t:j<(ax l l.length).length∨j=0)(A:(L.map bare).Perm (aw l j).1)(F:HP L)(h2:1<L.length)(y:(L.getD 0 g0 :: M1).Perm L)(u:HP M1)(q:(M1.getD 0 g0 :: M2).Perm M1) :
  bg (aw l j).1=(L.getD 0 g0).syms++(M1.getD 0 g0).syms /\
  (∀(M3:List Grp) (v:Value),M3.Perm (M2++[⟨(L.getD 0 g0).cnt+(M1.getD 0 g0).cnt,if (M1.getD 0 g0).fst<(L.getD 0 g0).fst then(M1.getD 0 g0).fst else(L.getD 0 g0).fst,(L.getD 0 g0).syms++(M1.getD 0 g0).syms,v⟩])->(M3.map bare).Perm (aw l (j+1)).1) /\
  0<=(L.getD 0 g0).cnt/\0<=(M1.getD 0 g0).cnt/\(L.getD 0 g0).cnt+(M1.getD 0 g0).cnt<=30000000 /\
  ((L.getD 0 g0).syms++(M1.getD 0 g0).syms).length<=300/\0<(L.getD 0 g0).syms.length/\0<(M1.getD 0 g0).syms.length/\(∀x∈(L.getD 0 g0).syms++(M1.getD 0 g0).syms,0<=x/\x<(l.length:Int)):=by
 have B:M1.length+1=L.length:=by have:=y.length_eq;simpa using this
 obtain⟨d,J,K,C⟩:=bU l j t;have D:(aw l j).1.length=L.length:=by rw[←A.length_eq,a0K]
 have m:=(gF l j t).1;have h:=Jg l j t;have o:∀g∈L,aU g (L.getD 0 g0)=false:=by
  intro g k;obtain⟨i,b,rfl⟩:=a1O k;have:=Je F i b;have e:L.getD i g0=L[i]:=by simp[List.getD,b]
  rw[e]at this;exact this
 have c:∀g∈M1,aU g (M1.getD 0 g0)=false:=by
  intro g k;obtain⟨i,b,rfl⟩:=a1O k;have:=Je u i b;have e:M1.getD i g0=M1[i]:=by simp[List.getD,b]
  rw[e]at this;exact this
 obtain⟨e1,I⟩:=wn A y.symm o (by omega) m h;have s:qR (ao (aw l j).1):=fun g k=>h g (bf _ g k);obtain⟨e2,p2⟩:=wn I q.symm c (by omega) (Fy (by omega) m) s;have a:=xV d (by omega:1<(aw l j).1.length);have p:=d _ (br (aw l j).1 (by omega));have G:=dc (aw l j).1 (by omega);have hb:=d _ (bf _ _ (br (ao (aw l j).1) (by omega)));have H:=kB l 100000 (by omega) (fun i b=>(E i b).2) l.length (a0a _);have n:bg (aw l j).1=(L.getD 0 g0).syms++(M1.getD 0 g0).syms:=by
  unfold bg;rw[←e1,←e2];rfl
 rw[←e1]at p a;rw[←e2]at hb a;refine⟨n,?_,p.1,hb.1,?_,?_,p.2.2.2.2,hb.2.2.2.2,?_⟩
 . intro M3 v r;have z:=r.map bare;rw[a0I]at z;refine z.trans ?_;show List.Perm _ (stepG (aw l j).1);unfold stepG;rw[←e1,←e2];exact p2.append_right _
 . have w:=a.1;have:(bare (L.getD 0 g0)).cnt=(L.getD 0 g0).cnt:=rfl;have:(bare (M1.getD 0 g0)).cnt=(M1.getD 0 g0).cnt:=rfl;omega
 . have w:=a.2;rw[n]at w;omega
 .
  intro x f;simp only[a0U]at f;rcases f with f|f
  . exact p.2.2.2.1 x f
  . exact hb.2.2.2.1 x f
def iL(l:List Int):Int:=if decide (l.length<=300)&&inC l then(us l:Nat)else -1
theorem GY(h:300<l.length):iL l = -1:=by
 unfold iL;rw[a0h (by omega)];rfl
theorem GZ(h:inC l=false):iL l = -1:=by
 unfold iL;rw[h];simp
theorem nf(h:l.length<=300)(h2:inC l=true):iL l=(us l:Nat):=by
 unfold iL;rw[a0u h,h2];rfl
theorem lP(a:Option Addr)(cap n:Nat)(l:List Int)(w:World)(E:l.length=n)(h:aY w a l)(C:n<=1048576) :
  Calls prog 187 #[.slice a n cap] w fun e w'=>e = .returned (.int .i64 (iL l))/\w'=w:=by
 subst E;have D:(l.length:Int)<=1048576:=by omega
 clear C;by_cases H:(l.length:Int)<=300
 .
  go_enter func187,ntmps187;go_wp2_with fail
  go_loop [3,5,11] (fun n _ i=>∃k:Nat,k<=l.length/\i = .int .i64 k/\n = .int .i64 (us (l.take k):Nat)/\inC (l.take k)=true) (fun _ _ i=>l.length-(intOf i).toNat)
  case atStart=>exact⟨0,a0g _,rfl,rfl,rfl⟩
  case round=>
   obtain⟨k,B,rfl,rfl,j⟩:=hrel;have x:=ae j;clear j;by_cases d:k<l.length
   .
    obtain⟨g,o,rfl,I,z⟩:=h (by omega);have c0:=z k d;have p:=ae (pw l k d);have hit:=ae (Jh l k d);have s:=ae (fun hb=>LV (l:=l) (k:=k) d hb);have t:=rD (l.take k);have A:(us (l.take k):Int)<=300:=by
     have:(l.take k).length<=l.length:=by simp;omega
     omega
    clear z B h t;generalize l.getD k 0=y at *
    generalize us (l.take k)=u at *
    by_cases hb:0<=y/\y<=100000
    .
     obtain⟨q,r⟩:=hb;have b:Hid (inC (l.take (k+1))=true):=by
      show _=true;rw[ab hit,ab x,az.2 ⟨q,r⟩];rfl
     by_cases v:0<y
     .
      have c:Hid (us (l.take (k+1))=u+1):=by have:=ab p;rw[a0e v]at this;exact this
      go_wp2
      go_round
      case rel=>exact⟨k+1,by omega,by go_num,by rw[ab c];go_num,ab b⟩
      case measure=>simp[intOf];omega
     .
      have c:Hid (us (l.take (k+1))=u):=by have:=ab p;rw[a0d v]at this;exact this
      go_wp2
      go_round
      case rel=>exact⟨k+1,by omega,by go_num,by rw[ab c],ab b⟩
      case measure=>simp[intOf];omega
    .
     have f:Hid (iL l = -1):=GZ (ab s (by
      cases F:inB y 0 100000
      . rfl
      . exact absurd (az.1 F) hb))
     by_cases v:y<0
     . go_wp2;go_ret;exact⟨aH (ab f).symm,rfl⟩
     .
      have G:¬ y<=100000:=by omega
      go_wp2;go_ret;exact⟨aH (ab f).symm,rfl⟩
   .
    have m:Hid (l.take k=l):=a0x (by omega);have b:Hid (inC l=true):=by show inC l=true;rw[←ab m];exact ab x
    clear h;go_wp2;go_ret;exact⟨aH (by rw[nf (by omega) (ab b),ab m]),rfl⟩
 . have f:=ae (GY (l:=l) (by omega));go_enter func187,ntmps187;clear h;go_wp2;go_ret;exact⟨aH (ab f).symm,rfl⟩
def gN(x:Int):Int:=if x<=1 then x else 1
theorem zF(x:Int)(w:World)(a : -1000000<=x)(b:x<=1000000) :
  Calls prog 189 #[.int .i64 x] w fun e w'=>e = .returned (.int .i64 (gN x))/\w'=w:=by
 by_cases h:x<=1
 .
  have e:Hid (gN x=x):=by show gN x=x;simp[gN,h]
  go_enter func189,ntmps189;go_wp2;go_ret;exact⟨aH (ab e).symm,rfl⟩
 .
  have e:Hid (gN x=1):=by show gN x=1;simp[gN,h]
  go_enter func189,ntmps189;go_wp2;go_ret;exact⟨aH (ab e).symm,rfl⟩
theorem yR(a:Option Addr)(cap n:Nat)(l:List Int)(w:World)(H:l.length=n)(h:aY w a l)(G:n<=1048576)(E:okC l) :
  Calls prog 188 #[.slice a n cap,.func (.func 189) #[] #[]] w fun e w'=>∃v,e = .returned v/\am w' w.heap.size v (l.map gN)/\Below w.heap.size w w':=by
 have M:(n:Int)<=1048576:=by omega
 have p:=ae H;have K:=ae G;have I:=ae E;clear H G E;obtain⟨i0,L,B,C,D⟩:=a0p Tryz.infoInt;go_enter func188,ntmps188;go_wp2_with fail
 go_loopw [5,7,10] (fun o _ i wr=>∃k:Nat,k<=n/\i = .int .i64 k/\am wr w.heap.size o ((l.take k).map gN)/\Below w.heap.size w wr) (fun _ _ i _=>n-(intOf i).toNat)
 case atStart=>exact⟨0,a0g _,rfl,a04 _ _ _ _,a0c _ _⟩
 case round=>
  obtain⟨k,F,rfl,hq,b⟩:=hrel;have q:=b.size;by_cases m:k<n
  .
   obtain⟨g,o,rfl,N,r⟩:=(h.later b) (by rw[ab p];omega);have c0:=r k (by rw[ab p];exact m);obtain⟨y0,y1⟩:=ab I k (by rw[ab p];exact m);have A:Hid ((l.take (k+1)).map gN=(l.take k).map gN++[gN (l.getD k 0)]):=by
    show _=_;rw[bX l k (by rw[ab p];exact m),a0I];rfl
   have z:Hid (((l.take k).map gN).length=k):=by show _=k;have:=ab p;simp;omega
   have J:=ae F;clear r F h;generalize l.getD k 0=y at *
   have HP:=ae (zF y wr (by omega) (by omega));generalize gN y=R at *
   go_wp2_with fail;refine(ab HP).mono ?_;rintro e x1 ⟨rfl,u⟩;rw[u];clear u x1;have d:Hid (((l.take k).map gN).length+1<=maxLen/\(((l.take k).map gN).length+1)*8<=140737488355328):=by
    show _/\_;rw[ab z];have:=ab K;unfold maxLen;omega
   clear HP;go_wp2_with (at_builtin;refine a0r _ rfl _ _ 137 rfl w.heap.size 3 i0 (.int .i64 0) 1 8 a0D L B C D rfl (by decide) _ _ _ rfl (a0j hq _) ⟨wr.heap.size,0,none⟩ 1 1 [.int .i64 R] rfl rfl (bC _ _ rfl _ _) (ew _) (ab d).1 (ab d).2 (an q _) ?_;intro v' x2 j c s;clear s);have x:=aB (v:=u5) c hq (a0a _) q b;have t:=mS j;rw[←ab A]at t;clear j c hq;go_wp2;go_roundw
   case rel=>exact⟨k+1,by have:=ab J;omega,by go_num,t,x⟩
   case measure=>simp[intOf];omega
  . have f:l.take k=l:=a0x (by rw[ab p];omega);rw[f]at hq;obtain⟨va,vc,rfl⟩:=hq.form;clear f h;go_wp2;go_ret;exact⟨_,rfl,hq,b⟩
end Go.Proofs.YtchidddpplangaaGreatDoor
