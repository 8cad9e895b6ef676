/- Of what the proof is made: 16 texts, one behind the other. -/
import Derived.Test.YtchidddpplangaaGreatDoorM15
import Derived.Test.YtchidddpplangaaGreatDoorRb1
import Derived.Test.YtchidddpplangaaGreatDoorM9
import Derived.BigRegion
import Derived.Test.YtchidddpplangaaGreatDoorM2
set_option maxRecDepth 100000
set_option linter.unusedSimpArgs false
set_option linter.unusedVariables false
set_option maxHeartbeats 6400000
namespace Go.Proofs.YtchidddpplangaaGreatDoor
open Go.Proofs.Tryz
open Go.RowKit
variable {b c g i j k n ob:Nat}{l:List Int}{t:TypeId}{v:Value}{w w':World}
def sliceLen:Value->Nat
 | .slice _ n _=>n
 | _=>0
theorem uK(h:0<l.getD k 0):ay l (k+1)=ay l k++[⟨l.getD k 0,(k:Int),[(k:Int)],.slice none 0 0⟩]:=by simp only[ay];rw[a0e h]
theorem Fi(h:¬ 0<l.getD k 0):ay l (k+1)=ay l k:=by simp only[ay];rw[a0d h]
theorem qS(w:World)(x y z:Value)(t:TypeId)(g:Nat)(b:w.heap.size=g):∀(j:Nat) (u:Value),[x,y,z][j]?=some u->(w.alloc (.cells #[x,y,z] t)).cell? ((⟨g,0,none⟩:Addr).add j)=some u:=by
 subst b;intro j u a
 match j,a with
 | 0,a=>simp at a;subst a;simp[Addr.add]
 | 1,a=>simp at a;subst a;simp[Addr.add]
 | 2,a=>simp at a;subst a;simp[Addr.add]
theorem qT(x y:Int)(a:Option Addr)(n c:Nat):∀u∈[Value.int .i64 x,Value.int .i64 y,Value.slice a n c],u.oneCell'=true:=by
 intro u b;simp at b;rcases b with rfl|rfl|rfl<;>rfl
theorem qU{x:World}{base:Nat}{l:List Grp}(g:Grp)(h:x.ownsRow base t 3 v (l.length+1) (aP l++[.int .i64 g.cnt,.int .i64 g.fst,g.val])):cF t x base v (l++[g]):=by
 show World.ownsRow _ _ _ _ _ (l++[g]).length _;rw[kg];simpa[aP]using h
theorem am.one(w:World)(base:Nat)(hb:base<=w.heap.size)(x:Int):am (w.alloc (.cells #[.int .i64 x] 3)) base (.slice (some ⟨w.heap.size,0,none⟩) 1 1) [x]:=
 a05 w #[.int .i64 x] 1 hb (by unfold maxLen;omega) rfl
theorem Bw(w:World)(ob:Nat):dM w ob []:=fun g a=>by simp at a
theorem dM.snoc{l:List Grp}{g:Grp}(h:dM w ob l)(b:am w ob g.val g.syms):dM w ob (l++[g]):=by
 intro x a;simp only[a0T,a07]at a;rcases a with a|rfl
 . exact h x a
 . exact b
theorem dM.grown{base:Nat}{l m:List Grp}(h:dM w ob l)(c:cF t w base v m)(d:3≠t)(b:w.grownBy w' v.ownBlock):dM w' ob l:=
 fun g a=>a1N (h g a) b (oJ (h g a) c d)
theorem lm{base:Nat}{u:Value}{m:List Grp}(h:am w ob u l)(b:cF t w base v m)(c:3≠t)(a:w.grownBy w' v.ownBlock):am w' ob u l:=
 a1N h a (oJ h b c)
theorem pK(w:World)(x y z:Value)(t:TypeId):Three (w.alloc (.cells #[x,y,z] t)) w.heap.size x y z:=⟨by simp,by simp,by simp,by simp,by simp,by simp,by simp⟩
theorem Three.later{v0 v1 v2:Value}(h:Three w b v0 v1 v2)(hb:Below w.heap.size w w'):Three w' b v0 v1 v2:=h.kept (hb.mono h.2.2.2.2.2.2)
theorem cF.mono{base base':Nat}{l:List Grp}(h:cF t w base v l)(hb:base'<=base):cF t w base' v l:=
 ⟨h.1,h.2.imp id fun⟨g,c,u,e,a,r⟩=>⟨g,c,u,e,a0E hb a,r⟩⟩
theorem dM.sub{l m:List Grp}(h:dM w ob l)(b:∀g∈m,g∈l):dM w ob m:=fun g a=>h g (b g a)
theorem nN{a:Option Addr}{base size:Nat}{e:TypeId}{xs:List Value}(h:w.ownsRow base e size v n xs)(j:Touch a w w')(f:∀g,a=some ⟨g,0,none⟩->g<base):w'.ownsRow base e size v n xs:=by
 refine⟨h.1,?_⟩;rcases h.2 with i|⟨g,cap,b,rfl,c,d,rest⟩
 . exact .inl i
 . refine .inr ⟨g,cap,b,rfl,c,?_,rest⟩;rw[j.2 g (fun g' e=>by have:=f g' e;omega)];exact d
theorem ik{p:Addr}(a:Touch (some ⟨b,0,none⟩) w w')(c:p.block≠b):w'.cell? p=w.cell? p:=
 World.cell?_of_block (a.2 p.block (fun g e=>by simp only[a0l,a0B,a0P]at e;omega))
theorem jF(b B:Nat)(h:b<B):∀g,(some ⟨b,0,none⟩:Option Addr)=some ⟨g,0,none⟩->g<B:=by
 intro g e;simp only[a0l,a0B,a0P]at e;omega
theorem tP(a:Option Addr)(cap n:Nat)(l:List Int)(w:World)(hn:l.length=n)(h:aZ w a l)(hm:n<=300)(hc:∀i,i<l.length->0<=l.getD i 0/\l.getD i 0<=100000) :
  Calls prog 172 #[.slice a n cap] w fun e w'=>e = .returned (.slice (some ⟨w.heap.size,0,none⟩) n n)/\am w' w.heap.size (.slice (some ⟨w.heap.size,0,none⟩) n n) (bS l)/\Below w.heap.size w w':=by
 have o5:(n:Int)<=300:=by omega
 obtain⟨i0,hi,hl,ho,hr⟩:=a0o Tryz.infoInt;obtain⟨j0,hj,hf,l1,l2⟩:=a0o Tryz.infoTree;have HN:=ae hn;have HC:=ae hc;have HM:=ae hm;clear hc;go_enter func172,ntmps172;go_wp2_with (at_make;refine a1w _ rfl _ _ 137 rfl w.heap.size 3 i0 (.int .i64 0) 1 a0C hi hl ho .i64 .i64 _ _ n rfl rfl rfl rfl (by rw[hr];omega) (by unfold maxLen;omega) (a0a _) ?_;intro w1 an m);have k3:am (w1.alloc (.cells #[] 284)) w.heap.size (.slice (some ⟨w.heap.size,0,none⟩) n n) (List.replicate l.length 0):=by
  rw[hn];exact(cY an).later ((a0c w1.heap.size w1).alloc (a0a _) _) (a0a _)
 have kx:w.heap.size+1<=w1.heap.size:=(cY an).below.2;have j1:Below w.heap.size w (w1.alloc (.cells #[] 284)):=((a0c _ _).grown m (a0a _) (fun k h=>by cases h)).alloc (by omega) _;have lb:cF 284 (w1.alloc (.cells #[] 284)) (w.heap.size+1) (.slice (some ⟨w1.heap.size,0,none⟩) 0 0) []:=a05 w1 #[] 0 kx (by unfold maxLen;omega) rfl;clear an m hn hm
 go_loopw [4,5] (fun v i wr=>∃(k:Nat) (L:List Grp),k<=n/\i = .int .i64 k/\L.map bare=ay l k/\cF 284 wr (w.heap.size+1) v L/\dM wr (w.heap.size+1) L/\am wr w.heap.size (.slice (some ⟨w.heap.size,0,none⟩) n n) (List.replicate l.length 0)/\Below w.heap.size w wr) (fun _ i _=>n-(intOf i).toNat)
 case atStart=>exact⟨0,[],a0g _,rfl,rfl,lb,Bw _ _,k3,j1⟩
 case round=>
  obtain⟨k,L,hk,rfl,hL,ht,hs,hp,J⟩:=hrel;clear k3 j1 lb;have HL:=ae hL;have m3:w.heap.size+1<=wr.heap.size:=hp.below.2;clear hL;by_cases nm:k<n
  .
   obtain⟨g,o,rfl,hg,kc⟩:=(h.later J) (by rw[ab HN];omega);have c0:=kc k (by rw[ab HN];exact nm);have HK:=ae hk;have m9:L.length<=300:=by
    have h1:(L.map bare).length=(ay l k).length:=by rw[ab HL]
    have h2:=(kK l 100000 (by omega) (fun i hi=>(ab HC i hi).2) k (by rw[ab HN];omega)).2.2;rw[a0K]at h1;have:=ab HM;omega
   clear kc hk;by_cases hy:0<l.getD k 0
   .
    have ei:=ae (uK hy);generalize l.getD k 0=y at *
    have hA:am (wr.alloc (.cells #[.int .i64 (k:Int)] 3)) (w.heap.size+1) (.slice (some ⟨wr.heap.size,0,none⟩) 1 1) [(k:Int)]:=am.one wr _ m3 _;have Z:Below wr.heap.size wr (wr.alloc (.cells #[.int .i64 (k:Int)] 3)):=(a0c _ _).alloc (a0a _) _;have K:(wr.alloc (.cells #[.int .i64 (k:Int)] 3)).heap.size=wr.heap.size+1:=by simp
    have I:=ht.later Z (a0a _);have H:=hs.later Z (a0a _);have G:=hp.later Z (a0a _);have T:=ai J ((a0c wr.heap.size wr).alloc (a0a _) (.cells #[.int .i64 (k:Int)] 3));have HX:=ae (a0b hA (a0b I (a0b H (a0b G (a0b T K)))));have V:Hid (L.length+1<=maxLen/\(L.length+1)*40<=140737488355328):=by show _/\_;unfold maxLen;omega
    clear hA Z I H G T ht hs hp J K;go_wp2_with (at_builtin;refine a0r _ rfl _ _ 282 rfl (w.heap.size+1) 284 j0 (.agg #[.int .i64 0,.int .i64 0,.slice none 0 0]) 3 40 a3L hj hf l1 l2 rfl (by decide) _ _ _ rfl (a0k (ab HX).2.1 _) ⟨wr.heap.size+1,0,none⟩ 1 1 [.int .i64 y,.int .i64 (k:Int),.slice (some ⟨wr.heap.size,0,none⟩) 1 1] rfl rfl (qS _ _ _ _ _ _ (ab HX).2.2.2.2.2) (qT _ _ _ _ _) (ab V).1 (ab V).2 (ao (by rw[(ab HX).2.2.2.2.2];omega) _) ?_;intro v' x3 an m k1;clear k1);obtain⟨hA,I,H,G,T,K⟩:=ab HX;have ev:∀{B:Nat} {o:Obj},B=wr.heap.size+1->Below B (wr.alloc (.cells #[.int .i64 (k:Int)] 3)) ((wr.alloc (.cells #[.int .i64 (k:Int)] 3)).alloc o):=fun{B} {o} e=>(a0c _ _).alloc (by rw[K];omega) _;have Y:cF 284 ((wr.alloc (.cells #[.int .i64 (k:Int)] 3)).alloc (.cells #[.int .i64 y,.int .i64 (k:Int),.slice (some ⟨wr.heap.size,0,none⟩) 1 1] 284)) (w.heap.size+1) u4 L:=a0k I _;have ad:=(H.later (ev rfl) (by rw[K];exact a0a _)).grown Y (by decide) m;have a8:=lm (hA.later (ev rfl) (by rw[K];exact a0a _)) Y (by decide) m;have a4:=lm (G.later (ev rfl) (by rw[K];exact a0a _)) Y (by decide) m;have a3:Below w.heap.size w x3:=aC (v:=u4) m I (by omega) (by rw[K];omega) T;have bk:=qU ⟨y,(k:Int),[(k:Int)],.slice (some ⟨wr.heap.size,0,none⟩) 1 1⟩ an;have ca:=ad.snoc (g:=⟨y,(k:Int),[(k:Int)],.slice (some ⟨wr.heap.size,0,none⟩) 1 1⟩) a8;clear an m HX hA I H G T ev Y ad a8;go_wp2;go_roundw
    case rel=>exact⟨k+1,L++[⟨y,(k:Int),[(k:Int)],.slice (some ⟨wr.heap.size,0,none⟩) 1 1⟩],by omega,by go_num,by rw[ab ei,a0I,ab HL];rfl,bk,ca,a4,a3⟩
    case measure=>simp[intOf];omega
   .
    have ei:=ae (Fi hy);generalize l.getD k 0=y at *
    go_wp2;go_roundw
    case rel=>exact⟨k+1,L,by omega,by go_num,by rw[ab ei];exact ab HL,ht,hs,hp,J⟩
    case measure=>simp[intOf];omega
  .
   obtain rfl:k=n:=by omega
   have a5:Hid (L.map bare=ay l l.length):=by show L.map bare=ay l l.length;rw[ab HN];exact ab HL
   have hU:Hid (L.length=(ay l l.length).length):=by show L.length=(ay l l.length).length;rw[←ab a5,a0K]
   have jn:L.length<=300:=by
    have h2:=(kK l 100000 (by omega) (fun i hi=>(ab HC i hi).2) l.length (a0a _)).2.2;have:=ab hU;have:=ab HM;have:=ab HN;omega
   have l0:=ae (Fj l l.length (a0a _));obtain⟨va,vc,rfl⟩:=ht.form;clear h;by_cases d5:L.length=1
   .
    obtain⟨g,rfl⟩:=ht.somes (by omega);obtain⟨_,c1,_,_,_⟩:=ht.at rfl 0 (by omega);have no:=ab l0 ((ay l l.length).getD 0 g0) (fK _ 0 (by have:=ab hU;omega));have e2:(L.getD 0 g0).fst=((ay l l.length).getD 0 g0).fst:=by rw[←ab a5,nb];rfl
    obtain⟨_,f0,f1,_,_⟩:=no;rw[←e2,ab HN]at f1;rw[←e2]at f0;have ed:Hid (bS l=(List.replicate l.length 0).set (L.getD 0 g0).fst.toNat 1):=by
     show bS l=_;unfold bS;rw[a0e (by rw[←ab hU];exact d5),e2]
    generalize (L.getD 0 g0).fst=f at *
    obtain⟨q,rfl⟩:=a0t f0;rw[a0p]at ed;have b7:(List.replicate l.length (0:Int)).length=k:=by simp[ab HN]
    obtain⟨d0,e0,_,_⟩:=hp.at (j:=q) b7 (by omega);have C:=hp.put (j:=q) b7 1;have d2:=ah J (b:=w.heap.size) (o:=q) (a0a _) (.int .i64 1);rw[←ab ed]at C;have HP:=ae C;have HB:=ae d2;have o2:wr.cell? ⟨g,1,none⟩=some (.int .i64 (q:Int)):=by simpa using c1
    clear C d2 b7 ed J hp hs ht c1 e2;rw[d5];generalize (List.replicate l.length (0:Int)).getD q 0=y at *
    go_wp2_with fail
    go_loopw [4,6,7,8,9,10,11] (fun v _ _ _ _ _ _ wq=>v = .slice (some ⟨g,0,none⟩) 1 vc/\wq=wr.setCell ⟨w.heap.size,q,none⟩ (.int .i64 1)) (fun _ _ _ _ _ _ _ _=>0)
    case atStart=>exact⟨rfl,rfl⟩
    case round=>
     obtain⟨rfl,hw⟩:=hrel;subst hw;go_wp2;go_ret;exact⟨rfl,ab HP,ab HB⟩
   .
    have ns:((L.length:Int) == 1)=false:=by rw[a03];omega
    have kd:Hid (∀k,(ay l l.length).length-k<=1->(k<(ay l l.length).length∨k=0)->bS l=(ax l k).2):=by
     intro k h1 h2;unfold bS;have:=ab hU;rw[a0d (by omega)]
     congr 2;omega
    have i2:=ae jn;clear jn;have k2:am wr w.heap.size (.slice (some ⟨w.heap.size,0,none⟩) k k) (ax l 0).2:=hp;have ji:L.map bare=(ax l 0).1:=ab a5;generalize jx:(ay l l.length).length=U at *
    have eu:=ae jx;clear jx l0 a5 HL hp;go_wp2_with fail
    go_loopw [4,6,7,8,9,10,11] (fun v _ _ _ _ _ _ wq=>∃(j:Nat) (M:List Grp),(j<U∨j=0)/\M.map bare=(ax l j).1/\cF 284 wq (w.heap.size+1) v M/\dM wq (w.heap.size+1) M/\am wq w.heap.size (.slice (some ⟨w.heap.size,0,none⟩) k k) (ax l j).2/\Below w.heap.size w wq) (fun v _ _ _ _ _ _ _=>sliceLen v)
    case atStart=>exact⟨0,L,.inr rfl,ji,ht,hs,k2,J⟩
    case round=>
     obtain⟨j,M,hj,hM,a7,cy,bd,cv⟩:=hrel;clear ht hs k2 J ji ns d5;have fh:=cb l j (by rw[ab eu];exact hj);rw[←hM,ab eu]at fh;obtain⟨iw,ic,is,il⟩:=fh;rw[a0K]at il;obtain⟨ma,mc,rfl⟩:=a7.form;have gd:=ae hM;have HJ:=ae hj;clear hM hj;by_cases s:1<M.length
     .
      have kn:(1:Int)<(M.length:Int):=by omega
      have mp:=ab i2;have c:M.length<=300:=by have:=ab hU;omega
      have o3:(M.length:Int)<=300:=by omega
      have al:w.heap.size+1<=wr.heap.size:=bd.below.2;have N:=eq M (by omega);have iw':WFL k M:=by
       intro g hg;have h1:=iw (bare g) (a2V hg);rw[ab HN]at h1;exact h1
      have P:=iw' _ (bv M (by omega));have D:=di M (by omega);have Q:=iw' _ (bg M _ (bv (ap M) (by omega)));have O:=eq (ap M) (by omega);have r:gh M<=30000000:=by
       have h1:=(kK l 100000 (by omega) (fun i hi=>(ab HC i hi).2) l.length (a0a _)).1;have h2:gh (M.map bare)=gh M:=by simp[gh,Function.comp_def,bare]
       rw[h2]at ic;have:=ab HN;have h3:(100000:Int)*(l.length:Int)<=100000*300:=Int.mul_le_mul_of_nonneg_left (by omega) (by omega);omega
      have d:=yC iw' s;have hu:=ae (rp ma mc M.length (w.heap.size+1) M wr rfl a7 (by omega) c);obtain⟨g,rfl⟩:=a7.somes (by omega);have m4:Hid (az M=M.getD (least M) g0):=rfl;have n1:Hid (ap M=M.eraseIdx (least M)):=rfl;have HQ:=ae (a0b a7 (a0b cy (a0b bd cv)));have em:=ae (a0b P (a0b D (a0b Q (a0b O (a0b r d)))));have en:=ae (a0b s (a0b c (a0b N (a0b al il))));have o0:=ae iw';clear a7 cy bd cv ic is iw P D Q O r d s c N al il iw' mp;go_wp2_with fail;refine(ab hu).mono ?_;rintro e x1 ⟨rfl,a9⟩;obtain⟨a7,cy,bd,cv⟩:=ab HQ;obtain⟨s,c,N,al,il⟩:=ab en;obtain⟨P,D,Q,O,r,d⟩:=ab em;have I:=a7.later a9 (a0a _);have H:=cy.later a9 (a0a _);have G:=bd.later a9 (a0a _);have Z:=ai cv a9;have l3:=a9.size;obtain⟨c0,c1,c2,_,e3⟩:=I.at rfl (least M) N;rw[←ab m4]at c0 c1 c2;have bl:=H _ (bv M (by omega));obtain⟨aa,ac,ey⟩:=bl.form;obtain⟨ga,kk⟩:=(ey▸bl).somes P.2.2.2.2;rw[kk]at ey;rw[ey]at c2 bl;have e5:((least M:Nat):Int)<(M.length:Int):=by omega
      have c9:=ae (tQ (some ⟨g,0,none⟩) mc M.length (w.heap.size+1) (w.heap.size+1) (least M) M (x1.alloc (.cells #[.int .i64 (az M).cnt,.int .i64 (az M).fst,.slice (some ⟨ga,0,none⟩) (az M).syms.length ac] 284)) rfl (I.later ((a0c x1.heap.size x1).alloc (a0a _) _) (a0a _)) (H.later ((a0c x1.heap.size x1).alloc (a0a _) _) (a0a _)) N c);have h7:=ae (a0b I (a0b H (a0b G (a0b Z bl))));have op:=ae e3;have k5:w.heap.size+1<=x1.heap.size:=G.below.2;clear a7 cy bd cv HQ hu I H G Z bl ey P D Q O r d s c N al il kk e3 l3;generalize i4:az M=A at *
      have f6:=ae i4;clear i4;go_wp2_with fail;refine(ab c9).mono ?_;rintro e x2 ⟨⟨v1,rfl,Y⟩,cu⟩;obtain⟨I,H,G,Z,bl⟩:=ab h7;obtain⟨s,c,N,al,il⟩:=ab en;obtain⟨P,D,Q,O,r,d⟩:=ab em;rw[←ab n1]at Y;have b5:Below x1.heap.size x1 (x1.alloc (.cells #[.int .i64 A.cnt,.int .i64 A.fst,.slice (some ⟨ga,0,none⟩) A.syms.length ac] 284)):=(a0c _ _).alloc (a0a _) _;have ba:=ai b5 cu;have dl:=(pK x1 (.int .i64 A.cnt) (.int .i64 A.fst) (.slice (some ⟨ga,0,none⟩) A.syms.length ac) 284).later cu;have eg:=H.later ba (a0a _);have d8:=G.later ba (a0a _);have bn:=bl.later ba (a0a _);have dq:=ai Z ba;have be:=Y.mono (show w.heap.size+1<=_ by have:=G.below.2;have:=b5.size;omega);obtain⟨ra,rc,ha⟩:=be.form;subst ha;obtain⟨g2,m5⟩:=be.somes (by omega);subst m5;have nk:(ap M).length=M.length-1:=D;have e6:=ae (rp (some ⟨g2,0,none⟩) rc (ap M).length (w.heap.size+1) (ap M) x2 rfl be (by omega) (by omega));have o6:((ap M).length:Int)<=300:=by omega
      have h8:=ae (a0b be (a0b eg (a0b d8 (a0b dq (a0b bn dl)))));clear I H G Z bl h7 c9 b5 ba dl eg d8 bn dq be Y cu c0 c1 c2 e5 P D Q O r d s c N al il nk;go_wp2_with fail;refine(ab e6).mono ?_;rintro e x3 ⟨rfl,a3⟩;obtain⟨Y,eg,d8,dq,bn,dl⟩:=ab h8;obtain⟨s,c,N,al,il⟩:=ab en;obtain⟨P,D,Q,O,r,d⟩:=ab em;have bk:=Y.later a3 (a0a _);have ad:=eg.later a3 (a0a _);have a4:=d8.later a3 (a0a _);have bs:=bn.later a3 (a0a _);have a8:=dl.later a3;have ds:=ai dq a3;have fl:az (ap M)=(ap M).getD (least (ap M)) g0:=rfl;obtain⟨c0,c1,c2,_,e3⟩:=bk.at rfl (least (ap M)) O;rw[←fl]at c0 c1 c2;have b3:=ad _ (bg M _ (bv (ap M) (by omega)));obtain⟨bb,bc,e1⟩:=b3.form;obtain⟨gb,kl⟩:=(e1▸b3).somes Q.2.2.2.2;rw[kl]at e1;rw[e1]at c2 b3;have e5:((least (ap M):Nat):Int)<((ap M).length:Int):=by omega
      have c9:=ae (tQ (some ⟨g2,0,none⟩) rc (ap M).length (w.heap.size+1) (w.heap.size+1) (least (ap M)) (ap M) (x3.alloc (.cells #[.int .i64 (az (ap M)).cnt,.int .i64 (az (ap M)).fst,.slice (some ⟨gb,0,none⟩) (az (ap M)).syms.length bc] 284)) rfl (bk.later ((a0c x3.heap.size x3).alloc (a0a _) _) (a0a _)) ((ad.sub (bg M)).later ((a0c x3.heap.size x3).alloc (a0a _) _) (a0a _)) O (by omega));have h9:=ae (a0b bk (a0b ad (a0b a4 (a0b ds (a0b bs (a0b a8 b3))))));clear Y eg d8 dq bn dl h8 e6 bk ad a4 bs a8 ds b3 e1 a3 P D Q O r d s c N al il kl e3 fl;generalize i8:az (ap M)=Bg at *
      have f8:=ae i8;clear i8;go_wp2_with fail;refine(ab c9).mono ?_;rintro e x4 ⟨⟨v2,rfl,c6⟩,gy⟩;obtain⟨bk,ad,a4,ds,bs,a8,b3⟩:=ab h9;obtain⟨s,c,N,al,il⟩:=ab en;obtain⟨P,D,Q,O,r,d⟩:=ab em;have fz:(ap M).eraseIdx (least (ap M))=ap (ap M):=rfl;rw[fz]at c6;have b5:Below x3.heap.size x3 (x3.alloc (.cells #[.int .i64 Bg.cnt,.int .i64 Bg.fst,.slice (some ⟨gb,0,none⟩) Bg.syms.length bc] 284)):=(a0c _ _).alloc (a0a _) _;have R:=ai b5 gy;have fb:=(pK x3 (.int .i64 Bg.cnt) (.int .i64 Bg.fst) (.slice (some ⟨gb,0,none⟩) Bg.syms.length bc) 284).later gy;have i5:=a8.later R;have ca:=ad.later R (a0a _);have b9:=a4.later R (a0a _);have f3:=bs.later R (a0a _);have f4:=b3.later R (a0a _);have dv:=ai ds R;have he:w.heap.size+1<=x4.heap.size:=b9.below.2;have k6:w.heap.size+1<=x3.heap.size:=a4.below.2;have ej:=c6.mono (show w.heap.size+1<=_ by have:=a4.below.2;have:=b5.size;omega);have co:=di (ap M) (by omega);obtain⟨ra,l4,ha⟩:=ej.form;subst ha;have j2:Hid ((A.syms.map (Value.int .i64)).length=A.syms.length*1):=by show _=_;simp
      have ka:Hid ((Bg.syms.map (Value.int .i64)).length=Bg.syms.length*1):=by show _=_;simp
      have ks:A.syms.length+Bg.syms.length<=300:=by
       have h1:=d.2;have h2:(bh M).length=A.syms.length+Bg.syms.length:=by
        unfold bh;rw[a0j,ab f6,ab f8]
       have h3:=(cb l j (by rw[ab eu];exact ab HJ)).2.2.1;have h4:kh (M.map bare)=kh M:=by simp[kh,Function.comp_def,bare]
       rw[←ab gd,h4]at h3;have h5:=(kK l 100000 (by omega) (fun i hi=>(ab HC i hi).2) l.length (a0a _)).2.1;have:=ab HN;have:=ab HM;omega
      have it:Hid (∀W,Below x4.heap.size x4 W->∀j u,(A.syms.map (Value.int .i64))[j]?=some u->W.cell? ((⟨ga,0,none⟩:Addr).add j)=some u):=fun W hW=>a1K (f3.later hW (a0a _)) rfl;have ix:Hid (∀W,Below x4.heap.size x4 W->∀j u,(Bg.syms.map (Value.int .i64))[j]?=some u->W.cell? ((⟨gb,0,none⟩:Addr).add j)=some u):=fun W hW=>a1K (f4.later hW (a0a _)) rfl;have c8:∀W,Below x4.heap.size x4 W->W.cell? ⟨x1.heap.size,2,none⟩=some (.slice (some ⟨ga,0,none⟩) A.syms.length ac)/\W.cell? ⟨x3.heap.size,2,none⟩=some (.slice (some ⟨gb,0,none⟩) Bg.syms.length bc):=fun W hW=>⟨(i5.later hW).2.2.1,(fb.later hW).2.2.1⟩;have gl:World.ownsRow (x4.alloc (.cells #[] 3)).drew x4.heap.size 3 1 (.slice (some ⟨x4.heap.size,0,none⟩) 0 0) 0 []:=a05 x4 #[] 0 (a0a _) (by unfold maxLen;omega) rfl;have cs:Below x4.heap.size x4 (x4.alloc (.cells #[] 3)).drew:=((a0c _ _).alloc (a0a _) _).drew;have a9:Hid (0+A.syms.length<=maxLen/\(0+A.syms.length)*8<=140737488355328):=by show _/\_;unfold maxLen;omega
      have cu:Hid (0+A.syms.length+Bg.syms.length<=maxLen/\(0+A.syms.length+Bg.syms.length)*8<=140737488355328):=by show _/\_;unfold maxLen;omega
      obtain⟨a0,a1,a2,_,_,_,abl⟩:=i5;obtain⟨b0,b1,b2,_,_,_,l7⟩:=fb;have hz:x1.heap.size≠w.heap.size:=by have:=k5;omega
      have h0:x3.heap.size≠w.heap.size:=by have:=k6;omega
      have e8:Below x4.heap.size x4 x4.drew:=(a0c _ _).drew;have fv:Hid ((dW A Bg).fst=if Bg.fst<A.fst then Bg.fst else A.fst):=rfl;have l5:=ae ks;have dd:=ae (a0b r (a0b d.1 (a0b P Q)));have id:=ae (a0b co (a0b D (a0b s (a0b c il))));have l6:=ae (a0b ej (a0b ca (a0b b9 dv)));clear bk ad a4 ds bs a8 b3 h9 c9 b5 R ca b9 f3 f4 dv ej c6 gy c0 c1 c2 e5 P D Q O r d s c N al il co ks fz;have ke:∃F:Int,(dW A Bg).fst=F:=⟨_,rfl⟩;obtain⟨F,hF⟩:=ke;have HF:=ae hF;clear hF;by_cases fr:Bg.fst<A.fst
      case' pos=>have i9:Hid (Bg.fst=F):=by have:=ab fv;rw[ab HF,a0e fr]at this;exact this.symm
      case' neg=>have i9:Hid (A.fst=F):=by have:=ab fv;rw[ab HF,a0d fr]at this;exact this.symm
      all_goals
       go_wp2_with fail
       go_region_held3 (fun W=>W.cell? ⟨x1.heap.size,2,none⟩=some (.slice (some ⟨ga,0,none⟩) A.syms.length ac)/\W.cell? ⟨x3.heap.size,2,none⟩=some (.slice (some ⟨gb,0,none⟩) Bg.syms.length bc)) (first|exact c8 _ e8|assumption|exact c8 _ cs) (first
        | (refine aL rfl (.tmp 76) (.tmp 78) 137 rfl x4.heap.size 3 i0 (.int .i64 0) 1 8 a0C hi hl ho hr rfl (a1O 0) (.slice (some ⟨x4.heap.size,0,none⟩) 0 0) _ _ rfl gl ⟨ga,0,none⟩ A.syms.length ac (A.syms.map (Value.int .i64)) rfl (ab j2) (ab it _ cs) (a1l .i64 _) (ab a9).1 (ab a9).2 cs.size ?_;intro v5 x5 b8 cg g5;clear g5;have cr:Below x4.heap.size x4 x5:=cs.grown cg cs.size (fun j hj=>(a0y gl j hj).1);have l8:=c8 _ cr)
        | (refine aL rfl (.tmp 79) (.tmp 81) 137 rfl x4.heap.size 3 i0 (.int .i64 0) 1 8 a0C hi hl ho hr rfl (a1O 0) v5 _ _ rfl b8 ⟨gb,0,none⟩ Bg.syms.length bc (Bg.syms.map (Value.int .i64)) rfl (ab ka) (ab ix _ cr) (a1l .i64 _) (ab cu).1 (ab cu).2 cr.size ?_;intro v6 x6 d6 ch g6;clear g6;have b4:Below x4.heap.size x4 x6:=cr.grown ch cr.size (fun j hj=>(a0y b8 j hj).1);have md:=c8 _ b4))
       obtain⟨c6,ca,b9,dv⟩:=ab l6;have he:w.heap.size+1<=x4.heap.size:=b9.below.2;have c5:am x6 x4.heap.size v6 (A.syms++Bg.syms):=by
        show World.ownsRow _ _ _ _ _ (A.syms++Bg.syms).length ((A.syms++Bg.syms).map (Value.int .i64));rw[a0j,a0I];simpa using d6
       have gv:Hid ((A.syms++Bg.syms).length<=300/\0<(A.syms++Bg.syms).length):=by
        show _/\_;rw[a0j];have:=ab l5;have:=(ab dd).2.2.1.2.2.2.2;omega
       have mo:Hid (∀x∈A.syms++Bg.syms,0<=x/\x<(k:Int)):=by
        intro x hx;simp only[a0T]at hx;rcases hx with hx|hx
        . exact(ab dd).2.2.1.2.2.2.1 x hx
        . exact(ab dd).2.2.2.2.2.2.1 x hx
       have mm:Hid (bh M=A.syms++Bg.syms):=by
        show bh M=_;unfold bh;rw[ab f6,ab f8]
       have mi:Hid ((dW A Bg).syms=A.syms++Bg.syms):=rfl;generalize A.syms++Bg.syms=S at *
       obtain⟨sv,sc,el⟩:=c5.form;obtain⟨gs,kq⟩:=(el▸c5).somes (ab gv).2;rw[kq]at el;rw[el];rw[el]at c5;have lf:=c6.later b4 (a0a _);have k7:=ca.later b4 (a0a _);have k4:=b9.later b4 (a0a _);have e9:=ai dv b4;have fn:=c5.below;have a0':=(b4.cell (p:=⟨x1.heap.size,0,none⟩) abl).trans a0;have i3:=(b4.cell (p:=⟨x3.heap.size,0,none⟩) l7).trans b0;have nq:=ae (tr l (fun i hi=>(ab HC i hi).2) (by rw[ab HN];exact ab HM) j (by rw[ab eu];exact ab HJ));have m7:Hid ((j:Int)<=300):=by show(j:Int)<=300;have:=ab HJ;have:=ab hU;have:=ab i2;omega
       have f5:x1.heap.size≠w.heap.size/\x3.heap.size≠w.heap.size:=⟨hz,h0⟩;have gk:=ae c5;have i1:=ae lf;have ih:=ae k7;have e7:=ae f5;have f7:=ae (a0b a0' i3);have os:=ae fn;have sI:(S.length:Int)<=300:=by have:=(ab gv).1;omega
       clear b8 d6 cg ch l8 md cr c6 ca b9 dv lf k7 c5 c8 it ix gl cs e8 el kq a0 a1 a2 b0 b1 b2 f5 a0' i3 fn j2 ka;go_wp2_with fail
       go_loopw [11] (fun i wq=>∃t:Nat,t<=S.length/\i = .int .i64 t/\am wq w.heap.size (.slice (some ⟨w.heap.size,0,none⟩) k k) (bump (ax l j).2 (S.take t))/\Touch (some ⟨w.heap.size,0,none⟩) x6 wq/\Below w.heap.size w wq) (fun i _=>S.length-(intOf i).toNat)
       case atStart=>exact⟨0,a0g _,rfl,k4,Touch.refl _ _,e9⟩
       case round=>
        obtain⟨t,ht,rfl,X,E,b6⟩:=hrel;clear k4 e9;have g3:Hid ((bump (ax l j).2 (S.take t)).length=k):=by show(bump (ax l j).2 (S.take t)).length=k;rw[oN,eo,ab HN]
        have n3:Hid (t<=S.length):=ht;clear ht;by_cases d4:t<S.length
        .
         have f2:=(ab gk).touch E (by intro g e;simp only[a0l,a0B,a0P]at e;have:=he;omega);obtain⟨c0,_,_,_⟩:=f2.at rfl d4;have hx:=ab mo (S.getD t 0) (by simp[List.getD,d4]);have fk:=ae (vF (ax l j).2 S t d4);have ky:=ae (sT (ab nq) (S.take t));obtain⟨q,hq⟩:=a0t hx.1;rw[hq]at c0 fk;have g8:q<k:=by omega
         obtain⟨d0,f0,_,_⟩:=X.at (ab g3) g8;have hh:=ab ky q (by rw[ab g3];exact g8);have C:=X.put (j:=q) (ab g3) ((bump (ax l j).2 (S.take t)).getD q 0+1);have ei:Hid (bump (ax l j).2 (S.take (t+1))=(bump (ax l j).2 (S.take t)).set q ((bump (ax l j).2 (S.take t)).getD q 0+1)):=by
          show bump (ax l j).2 (S.take (t+1))=_;rw[ab fk];unfold fI;rw[a0p]
         have o8:(bump (ax l j).2 (S.take t)).getD q 0<=100000:=by
          have h1:=hh.2;have h2:(S.take t).length<=300:=by rw[a0s];have:=(ab gv).1;omega
          have:=ab m7;omega
         have hf:=hh.1;have cc:=ah b6 (b:=w.heap.size) (o:=q) (a0a _) (.int .i64 ((bump (ax l j).2 (S.take t)).getD q 0+1));have a6:=E.set (o:=q) rfl (.int .i64 ((bump (ax l j).2 (S.take t)).getD q 0+1));generalize (bump (ax l j).2 (S.take t)).getD q 0=y at *
         have h6:=ae (a0b C (a0b cc a6));have e5:(q:Int)<(k:Int):=by omega
         have o7:(t:Int)<(S.length:Int):=by omega
         clear C cc a6 X f2 b6 E hh hx hq g8;go_wp2_with fail
         go_region
         obtain⟨C,cc,a6⟩:=ab h6;rw[←ab ei]at C;go_wp2;go_roundw
         case rel=>exact⟨t+1,by have:=ab n3;omega,by go_num,C,a6,cc.drew⟩
         case measure=>simp[intOf];omega
        .
         have lo:S.take t=S:=a0u (by omega);rw[lo]at X;have c7:cF 284 wr (w.heap.size+1) (.slice ra (ap (ap M)).length l4) (ap (ap M)):=nN (ab i1) E (jF _ _ (a0i _));have eh:dM wr (w.heap.size+1) (ap (ap M)):=fun g hg=>(ab ih g (bg M _ (bg _ _ hg))).touch E (jF _ _ (a0i _));have ek:am wr (w.heap.size+1) (.slice (some ⟨gs,0,none⟩) S.length sc) S:=((ab gk).touch E (jF _ _ (by omega))).mono he;have a0q:=(ik (p:=⟨x1.heap.size,0,none⟩) E (ab e7).1).trans (ab f7).1;have o1:=(ik (p:=⟨x3.heap.size,0,none⟩) E (ab e7).2).trans (ab f7).2;have g4:Hid ((ax l (j+1)).2=bump (ax l j).2 S):=by
          show(ax l (j+1)).2=_;simp only[ax];rw[←ab gd,Ih,ab mm]
         have e4:Hid ((ax l (j+1)).1=(ap (ap M)).map bare++[dW A Bg]):=by
          show(ax l (j+1)).1=_;simp only[ax];rw[←ab gd,H9,ab f6,ab f8]
         rw[←ab g4]at X;obtain⟨co,D,s,c,il⟩:=ab id;have m6:Hid (j+1<U):=by show j+1<U;omega
         have kt:Hid ((ap (ap M)).length+1<M.length+0):=by show _<_;omega
         have V:Hid ((ap (ap M)).length+1<=maxLen/\((ap (ap M)).length+1)*40<=140737488355328):=by show _/\_;unfold maxLen;omega
         have d3:=ab dd;have o4:A.cnt+Bg.cnt<=30000000:=by have:=d3.1;have:=d3.2.1;omega
         have ob:=d3.2.2.1.1;have oi:=d3.2.2.2.1;have m1:w.heap.size+1<=wr.heap.size:=X.below.2;have gf:=ae (a0b c7 (a0b eh (a0b ek (a0b X b6))));have ol:Hid ((dW A Bg).cnt=A.cnt+Bg.cnt):=rfl;clear co D s c il c7 eh ek X b6 E lo d3 dd id i1 ih gk f7;rw[ab i9];go_wp2_with (at_builtin;refine a0r _ rfl _ _ 282 rfl (w.heap.size+1) 284 j0 (.agg #[.int .i64 0,.int .i64 0,.slice none 0 0]) 3 40 a3L hj hf l1 l2 rfl (by decide) _ _ _ rfl (a0k (ab gf).1 _) ⟨wr.heap.size,0,none⟩ 1 1 [.int .i64 (A.cnt+Bg.cnt),.int .i64 F,.slice (some ⟨gs,0,none⟩) S.length sc] rfl rfl (qS _ _ _ _ _ _ rfl) (qT _ _ _ _ _) (ab V).1 (ab V).2 (ao m1 _) ?_;intro v7 x7 d7 z g7;clear g7);obtain⟨c7,eh,ek,X,b6⟩:=ab gf;have d1:Below wr.heap.size wr (wr.alloc (.cells #[.int .i64 (A.cnt+Bg.cnt),.int .i64 F,.slice (some ⟨gs,0,none⟩) S.length sc] 284)):=(a0c _ _).alloc (a0a _) _;have cp:=c7.later d1 (a0a _);have k8:=(eh.later d1 (a0a _)).grown cp (by decide) z;have ls:=lm (ek.later d1 (a0a _)) cp (by decide) z;have n0:=lm (X.later d1 (a0a _)) cp (by decide) z;have m0:Below w.heap.size w x7:=aC (v:=.slice ra (ap (ap M)).length l4) z c7 (by omega) (by omega) b6;have lg:=qU ⟨A.cnt+Bg.cnt,F,S,.slice (some ⟨gs,0,none⟩) S.length sc⟩ d7;have n2:=k8.snoc (g:=⟨A.cnt+Bg.cnt,F,S,.slice (some ⟨gs,0,none⟩) S.length sc⟩) ls;have m2:Hid ((ap (ap M)++[(⟨A.cnt+Bg.cnt,F,S,.slice (some ⟨gs,0,none⟩) S.length sc⟩:Grp)]).map bare=(ax l (j+1)).1):=by
          show _=(ax l (j+1)).1;rw[ab e4,a0I]
          congr 1
          have e:dW A Bg=⟨A.cnt+Bg.cnt,F,S,.slice none 0 0⟩:=by
           rw[←ab HF,←ab mi];rfl
          rw[e];rfl
         have k9:Hid (sliceLen v7<M.length):=by
          show sliceLen v7<M.length;obtain⟨fa,fc,hv⟩:=lg.form;rw[hv];have:=ab kt;simp only[sliceLen,a0j,a1o];omega
         clear d7 z d1 cp k8 ls c7 eh ek X b6 gf;go_wp2;go_roundw
         case rel=>exact⟨j+1,_,.inl (ab m6),ab m2,lg,n2,n0,m0⟩
         case measure=>exact ab k9
     .
      have g1:=ae (ab kd j (by omega) (ab HJ));have kn:¬ (1:Int)<(M.length:Int):=by omega
      have HP:=ae bd;clear a7 cy bd ic is;go_wp2;go_ret;exact⟨rfl,by rw[ab g1];exact ab HP,cv⟩
theorem Dr(a:Option Addr)(cap n:Nat)(o:List Int)(w:World)(s:o.length=n)(h:aZ w a o)(q:n<=300) :
  Calls prog 173 #[.slice a n cap] w fun e w'=>e = .returned (.int .i64 (bR o n))/\w'=w:=by
 subst s;have r:(o.length:Int)<=300:=by omega
 clear q;go_enter func173,ntmps173;go_wp2_with fail
 go_loop [3,4] (fun m i=>∃k:Nat,k<=o.length/\i = .int .i64 k/\m = .int .i64 (bR o k)) (fun _ i=>o.length-(intOf i).toNat)
 case atStart=>exact⟨0,a0g _,rfl,rfl⟩
 case round=>
  obtain⟨k,l,rfl,rfl⟩:=hrel;have t:=ae l;by_cases d:k<o.length
  .
   obtain⟨g,f,rfl,u,j⟩:=h (by omega);have c0:=j k d;have c:Hid (bR o (k+1)=if bR o k<o.getD k 0 then o.getD k 0 else bR o k):=rfl;clear j l h;generalize o.getD k 0=y at *
   generalize bR o k=m at *
   by_cases p:m<y
   .
    have b:Hid (bR o (k+1)=y):=by have:=ab c;rw[a0e p]at this;exact this
    go_wp2
    go_round
    case rel=>exact⟨k+1,by omega,by go_num,by rw[ab b]⟩
    case measure=>simp[intOf];omega
   .
    have b:Hid (bR o (k+1)=m):=by have:=ab c;rw[a0d p]at this;exact this
    go_wp2
    go_round
    case rel=>exact⟨k+1,by omega,by go_num,by rw[ab b]⟩
    case measure=>simp[intOf];omega
  .
   obtain rfl:k=o.length:=by omega
   clear h;go_wp2;go_ret;exact⟨rfl,rfl⟩
def Ec(w:World)(b n:Nat):Nat:=((List.range n).map (fun i=>(intOf ((w.cell? ⟨b,i,none⟩).getD (.int .i64 0))).toNat)).sum
theorem Fs{base:Nat}(a:l.length=n)(h:am w base (.slice (some ⟨b,0,none⟩) n c) l):Ec w b n=jJ l:=by
 unfold Ec jJ
 congr 1
 apply a2D
 . simp[a]
 .
  intro i d h2;have f:i<n:=by simpa using d
  have:=(h.at a f).1;simp only[List.getElem_map,List.getElem_range];rw[this];have e:l.getD i 0=l[i]:=by simp[List.getD,show i<l.length by omega]
  rw[e];rfl
theorem Gf(l:List Int)(j:Nat)(h:j<l.length):(bq (l.take j)++l.drop j).set j (iE (l.getD j 0))=bq (l.take (j+1))++l.drop (j+1):=by
 have b:(bq (l.take j)).length=j:=by simp[bq];omega
 rw[List.set_append_right _ _ (by omega),b,Nat.sub_self,ci l j h];have a:l.drop j=l[j] :: l.drop (j+1):=a3m h;rw[a,List.set_cons_zero];simp[bq]
theorem JC(l:List Int)(j:Nat)(h:j<l.length):(bq (l.take j)++l.drop j).getD j 0=l.getD j 0:=by
 have a:(bq (l.take j)).length=j:=by simp[bq];omega
 simp only[List.getD];rw[List.getElem?_append_right (by omega),a,Nat.sub_self,List.getElem?_drop];simp
def okC(l:List Int):Prop:=∀i,i<l.length->0<=l.getD i 0/\l.getD i 0<=100000
theorem uu(h:okC l):okC (bq l):=by
 intro i a;rw[eE]at a;rw[qj l i a];have:=h i a;unfold iE;omega
theorem yj(h:okC l):∀x∈l,0<=x:=by
 intro x b;obtain⟨i,a,rfl⟩:=a1z b;have:=(h i a).1;have e:l.getD i 0=l[i]:=by simp[List.getD,a]
 rw[e]at this;exact this
def db(m:Int)(l:List Int):List Int:=oV m (jJ l) l
theorem wg(a:Option Addr)(cap n mm:Nat)(l:List Int)(w:World)(hn:l.length=n)(h:aZ w a l)(h1:1<=n)(hm:n<=300)(hc:okC l)(hU:(ay l l.length).length<=p2 mm)(b6:mm<=14) :
  Calls prog 127 #[.slice a n cap,.int .i64 ((mm:Int)+1)] w fun e w'=>(∃v,e = .returned v/\am w' w.heap.size v (db ((mm:Int)+1) l))/\Below w.heap.size w w':=by
 obtain⟨i0,hi,ca,cc,cg⟩:=a0o Tryz.infoInt;obtain⟨g,o,rfl,hg,a5⟩:=h (by omega);have cp:(n:Int)<=300:=by omega
 have co:(mm:Int)<=14:=by omega
 have Z:=ae hn;have HC:=ae hc;have HU:=ae hU;have HM:=ae (a0b h1 hm);have G:Below w.heap.size w (w.alloc (.cells #[] 3)):=(a0c _ _).alloc (a0a _) _;have S:World.ownsRow (w.alloc (.cells #[] 3)) w.heap.size 3 1 (.slice (some ⟨w.heap.size,0,none⟩) 0 0) 0 []:=a05 w #[] 0 (a0a _) (by unfold maxLen;omega) rfl;have W:Hid (∀j u,(l.map (Value.int .i64))[j]?=some u->(w.alloc (.cells #[] 3)).cell? ((⟨g,o,none⟩:Addr).add j)=some u):=by
  intro j u hj;have a7:j<l.length:=by have:=(List.getElem?_eq_some_iff.1 hj).1;simpa using this
  have al:(⟨g,o,none⟩:Addr).add j=⟨g,o+j,none⟩:=by unfold Addr.add;split<;>simp_all
  rw[al,G.cell (p:=⟨g,o+j,none⟩) hg,a5 j a7,←hj];simp[List.getD,a7]
 have b4:Hid ((l.map (Value.int .i64)).length=n*1):=by show _=_;simp[hn]
 have an:Hid (0+n<=maxLen/\(0+n)*8<=140737488355328):=by show _/\_;unfold maxLen;omega
 clear hn hc hU h1 hm a5 b6 h;go_enter func127,ntmps127;go_wp2_with (at_builtin;refine a0r _ rfl _ _ 137 rfl w.heap.size 3 i0 (.int .i64 0) 1 8 a0C hi ca cc cg rfl (by decide) _ _ _ rfl S ⟨g,o,none⟩ n cap (l.map (Value.int .i64)) rfl (ab b4) (ab W) (a1l .i64 _) (ab an).1 (ab an).2 G.size ?_;intro v1 x1 Q K bb;clear bb);have A:am x1 w.heap.size v1 l:=by
  show World.ownsRow _ _ _ _ _ l.length _;rw[ab Z];simpa using Q
 have ac:Below w.heap.size w x1:=G.grown K G.size (fun j hj=>(a0y S j hj).1);obtain⟨va,vc,X⟩:=A.formN (ab Z);rw[X];rw[X]at A;refine(tP va vc n l x1 (ab Z) (A.rowN (ab Z)) (ab HM).2 (ab HC)).mono ?_;rintro e x2 ⟨rfl,bc,T⟩;have be:=A.later T (a0a _);have ad:=ai ac T;have bk:w.heap.size<=x1.heap.size:=ac.size;obtain⟨lb,b2⟩:=A.somes (by rw[ab Z];exact(ab HM).1);subst b2;have P:=A.below;have HX:=ae (a0b bk P);clear A T Q K X S G P;go_wp2_with fail
 go_loopw [6,7] (fun v _ wr=>∃(c:List Int) (f ob:Nat),c.length=n/\okC c/\(ay c c.length).length<=p2 mm/\jJ c<=f/\db ((mm:Int)+1) l=oV ((mm:Int)+1) f c/\v = .slice (some ⟨ob,0,none⟩) n n/\lb<ob/\am wr ob (.slice (some ⟨ob,0,none⟩) n n) (bS c)/\am wr w.heap.size (.slice (some ⟨lb,0,none⟩) n vc) c/\Below w.heap.size w wr) (fun _ _ wr=>Ec wr lb n)
 case atStart=>exact⟨l,jJ l,x1.heap.size,ab Z,ab HC,ab HU,a0a _,rfl,rfl,(ab HX).2.2,bc,be,ad⟩
 case round=>
  obtain⟨c,f,ob,m,d,E,M,s,rfl,a9,F,z,q⟩:=hrel;clear bc be ad;have r:(bS c).length=n:=(iF c).trans m;have aa:=ae (Dr (some ⟨ob,0,none⟩) n n (bS c) wr r (F.rowN r) (ab HM).2);have L:Hid (fits (bS c) ((mm:Int)+1)=decide (bR (bS c) n<=(mm:Int)+1)):=by show _=_;unfold fits;rw[r]
  have HQ:=ae (a0b m (a0b d (a0b E (a0b M s))));have HO:=ae (a0b F (a0b z q));have HS:=ae (Fs m z);have ba:=ae a9;clear m d E M s r a9;generalize bR (bS c) n=mo at *
  by_cases ch:(mm:Int)+1<mo
  .
   have N:fits (bS c) ((mm:Int)+1)=false:=by rw[ab L];exact a0h (by omega)
   obtain⟨m,d,E,M,s⟩:=ab HQ;have hex:=uq E N;have R:=(uO c (yj d)).2 hex;have b1:∃f',f=f'+1:=⟨f-1,by omega⟩;obtain⟨f',a6⟩:=b1;have V:Hid (db ((mm:Int)+1) l=oV ((mm:Int)+1) f' (bq c)):=by
    show _=_;rw[s,a6];simp only[oV];rw[N];rfl
   have a4:Hid (jJ (bq c)<=f'):=by show _<=_;omega
   have bn:=ae R;have I:=ae (uu d);have a3:Hid ((ay (bq c) (bq c).length).length<=p2 mm):=by show _<=_;rw[eE,qJ c (fun i hi=>(d i hi).1) _ (a0a _)];exact E
   have B:Hid ((bq c).length=n):=(eE c).trans m;clear m d E M s hex R a6;go_wp2_with fail;refine(ab aa).mono ?_;rintro e x3 ⟨rfl,Y⟩;subst Y;obtain⟨F,z,q⟩:=ab HO;have a1:am x3 w.heap.size (.slice (some ⟨lb,0,none⟩) n vc) (bq (c.take 0)++c.drop 0):=by simpa[bq]using z
   clear F z;go_wp2_with fail
   go_loopw [7] (fun i wq=>∃t:Nat,t<=n/\i = .int .i64 t/\am wq w.heap.size (.slice (some ⟨lb,0,none⟩) n vc) (bq (c.take t)++c.drop t)/\Below w.heap.size w wq) (fun i _=>n-(intOf i).toNat)
   case atStart=>exact⟨0,a0g _,rfl,a1,q⟩
   case round=>
    obtain⟨t,ht,rfl,k,x⟩:=hrel;clear a1 q;obtain⟨m,d,_,_,_⟩:=ab HQ;have a8:Hid ((bq (c.take t)++c.drop t).length=n):=by show _=n;rw[a0j,eE,a0s,a04];omega
    by_cases b5:t<n
    .
     have D:=k.put (j:=t) (ab a8) (iE (c.getD t 0));rw[Gf c t (by omega)]at D;obtain⟨d0,f0,a0,_⟩:=k.at (ab a8) b5;rw[JC c t (by omega)]at d0;have hy:=d t (by omega);have H:=ah x (b:=lb) (o:=t) a0 (.int .i64 (iE (c.getD t 0)));unfold iE at D H;have O:=ae (a0b D H);have b9:(t:Int)<(n:Int):=by omega
     have Ht:=ae ht;generalize c.getD t 0=y at *
     obtain⟨y0,y1⟩:=hy;have e1:IntKind.i64.wrap ((y+1).tdiv 2)=(y+1)/2:=by rw[Int.tdiv_eq_ediv_of_nonneg (by omega)];simp[IntKind.wrap,IntKind.bits,IntKind.signed];omega
     clear D H k x m d ht a0;go_wp2;go_roundw
     case rel=>exact⟨t+1,by have:=ab Ht;omega,by go_num,(ab O).1,(ab O).2⟩
     case measure=>simp[intOf];omega
    .
     have cr:t=n:=by omega
     have J:bq (c.take t)++c.drop t=bq c:=by rw[a0u (by omega),a3J (by omega)];simp
     rw[J]at k;have b3:=ae (tP (some ⟨lb,0,none⟩) vc n (bq c) wr (ab B) (k.rowN (ab B)) (ab HM).2 (ab I));have C:=k.below;have bl:=ae (a0b k (a0b x C));have b9:¬ (t:Int)<(n:Int):=by omega
     clear k x m d J C;go_wp2_with fail;refine(ab b3).mono ?_;rintro e x4 ⟨rfl,b8,U⟩;obtain⟨k,x,C⟩:=ab bl;have a2:=k.later U (a0a _);have bs:=ai x U;have b7:Hid (Ec x4 lb n<Ec x3 lb n):=by
      show Ec x4 lb n<Ec x3 lb n;rw[Fs (ab B) a2,ab HS];exact ab bn
     clear k x U;go_wp2;go_roundw
     case rel=>exact⟨bq c,f',wr.heap.size,ab B,ab I,ab a3,ab a4,ab V,rfl,C.2,b8,a2,bs⟩
     case measure=>exact ab b7
  .
   have N:fits (bS c) ((mm:Int)+1)=true:=by rw[ab L];exact a0v (by omega)
   have bd:Hid (db ((mm:Int)+1) l=bS c):=by
    show _=_;rw[(ab HQ).2.2.2.2];cases f with
    | zero=>rfl
    | succ f=>simp only[oV];rw[N];rfl
   go_wp2_with fail;refine(ab aa).mono ?_;rintro e x3 ⟨rfl,Y⟩;subst Y;obtain⟨F,z,q⟩:=ab HO;have b0:w.heap.size<=ob:=by have:=z.below.1;have:=ab ba;omega
   go_wp2;go_ret;exact⟨⟨_,rfl,by rw[ab bd];exact F.mono b0⟩,q⟩
def inC(l:List Int):Bool:=l.all (fun b=>inB b 0 100000)
def wl(l:List Int)(m:Int):Bool:=decide (l.length<=300)&&inB m 1 15&&inC l&&inB (us l:Nat) 1 ((p2 m.toNat/2:Nat):Int)
def jP(l:List Int)(m:Int):List Int:=if wl l m then db m l else []
theorem JO(l:List Int)(k:Nat)(h:k<l.length):inC (l.take (k+1))=(inC (l.take k)&&inB (l.getD k 0) 0 100000):=by
 rw[ci l k h];simp[inC]
theorem Mw(h:k<l.length)(a:inB (l.getD k 0) 0 100000=false):inC l=false:=by
 rcases hb:inC l with _|_
 . rfl
 . have:=a1a.1 hb (l.getD k 0) (by simp[List.getD,h]);rw[a]at this;exact absurd this (by simp)
theorem Oa(h:inC l=true):okC l:=by
 intro i a;have:=a1a.1 h (l.getD i 0) (by simp[List.getD,a]);exact aB.1 this
theorem MX(l:List Int)(k:Nat)(a:k<=l.length):(ay l k).length=us (l.take k):=by
 induction k with
 | zero=>rfl
 | succ k ih=>
  rw[pM l k (by omega),←ih (by omega)];simp only[ay]
  split
  . simp
  . rfl
theorem fj(l:List Int):(ay l l.length).length=us l:=by
 rw[MX l _ (a0a _),List.take_length]
theorem yo(m:Nat):p2 (m+1)/2=p2 m:=by rw[lr];omega
theorem og{x y:Grp}(h:aW x y=true):aW y x=false:=by
 simp only[aW,a1y,a0n,a0w]at h;simp only[aW,a2n,a2K,a2L];omega
theorem iH{x y z:Grp}(h:aW x y=false)(h2:aW y z=false):aW x z=false:=by
 simp only[aW,a2n,a2K,a2L]at h h2 ⊢;omega
theorem Ak{x y z:Grp}(h:aW x y=false)(h2:aW z y=true):aW x z=false:=by
 simp only[aW,a1y,a0n,a0w]at h2;simp only[aW,a2n,a2K,a2L]at h ⊢;omega
theorem f9(x:Grp):aW x x=false:=by
 simp only[aW,a2n,a2K,a2L];omega
def cO(L:List Grp)(i j:Nat):List Grp:=(L.set i (L.getD j g0)).set j (L.getD i g0)
theorem gg(L:List Grp)(i j:Nat):(cO L i j).length=L.length:=by simp[cO]
theorem wE{L:List Grp}(a:i<L.length):(cO L i j).getD i g0=L.getD j g0:=by
 unfold cO;rw[List.getD_eq_getElem?_getD,List.getElem?_set];by_cases h:j=i
 . subst h;simp[a]
 . rw[a0d h,List.getElem?_set_self a];rfl
theorem nt{L:List Grp}(a:j<L.length):(cO L i j).getD j g0=L.getD i g0:=by
 unfold cO;rw[List.getD_eq_getElem?_getD,List.getElem?_set_self (by simpa using a)];rfl
theorem cV{L:List Grp}(a:k≠i)(h2:k≠j):(cO L i j).getD k g0=L.getD k g0:=by
 unfold cO;rw[List.getD_eq_getElem?_getD,List.getElem?_set_ne (fun e=>h2 e.symm),List.getElem?_set_ne (fun e=>a e.symm),←List.getD_eq_getElem?_getD]
theorem set_perm(L:List Grp)(i:Nat)(x:Grp)(h:i<L.length):(L.getD i g0 :: L.set i x).Perm (x :: L):=by
 induction L generalizing i with
 | nil=>simp at h
 | cons g L ih=>
  cases i with
  | zero=>simp only[List.getD_cons_zero,List.set_cons_zero];exact a3M _ _ _
  | succ i=>
   simp only[a2v,List.set_cons_succ];have a:=ih i (by simpa using h);exact(a3M _ _ _).trans ((a.cons g).trans (a3M _ _ _))
theorem ii{L:List Grp}(b:i<L.length)(d:j<L.length):(cO L i j).Perm L:=by
 have c:=set_perm L i (L.getD j g0) b;have h2:=set_perm (L.set i (L.getD j g0)) j (L.getD i g0) (by simpa using d);have e:(L.set i (L.getD j g0)).getD j g0=L.getD j g0:=by
  rw[List.getD_eq_getElem?_getD,List.getElem?_set];by_cases a:i=j
  . subst a;simp[b]
  . rw[a0d a,←List.getD_eq_getElem?_getD]
 rw[e]at h2;exact(h2.trans c).cons_inv
def HP(L:List Grp):Prop:=∀i,0<i->i<L.length->aW (L.getD i g0) (L.getD ((i-1)/2) g0)=false
def UpI(L:List Grp)(k:Nat):Prop:=
 (∀i,0<i->i<L.length->i≠k->aW (L.getD i g0) (L.getD ((i-1)/2) g0)=false) /\
 (∀i,0<i->i<L.length->(i-1)/2=k->0<k->aW (L.getD i g0) (L.getD ((k-1)/2) g0)=false)
def DnI(L:List Grp)(k:Nat):Prop:=
 (∀i,0<i->i<L.length->(i-1)/2≠k->aW (L.getD i g0) (L.getD ((i-1)/2) g0)=false) /\
 (∀i,0<i->i<L.length->(i-1)/2=k->0<k->aW (L.getD i g0) (L.getD ((k-1)/2) g0)=false)
theorem LA{L:List Grp}(h:UpI L k)(a:k=0∨aW (L.getD k g0) (L.getD ((k-1)/2) g0)=false):HP L:=by
 intro i b c;by_cases e:i=k
 .
  subst e;rcases a with a|a
  . omega
  . exact a
 . exact h.1 i b c e
theorem Ni{L:List Grp}(h:UpI L k)(l:0<k)(m:k<L.length)(g:aW (L.getD k g0) (L.getD ((k-1)/2) g0)=true):UpI (cO L k ((k-1)/2)) ((k-1)/2):=by
 have hq:(k-1)/2<k:=by omega
 have b:(k-1)/2<L.length:=by omega
 have sk:=wE (L:=L) (j:=(k-1)/2) m;have sq:=nt (L:=L) (i:=k) b;refine⟨?_,?_⟩
 .
  intro i i0 a d;rw[gg]at a;by_cases e:i=k
  . subst e;rw[sk,sq];exact og g
  .
   rw[cV e d];by_cases p:(i-1)/2=(k-1)/2
   . rw[p,sq];have:=h.1 i i0 a e;rw[p]at this;exact Ak this g
   .
    by_cases p2:(i-1)/2=k
    . rw[p2,sk];exact h.2 i i0 a p2 l
    . rw[cV p2 p];exact h.1 i i0 a e
 .
  intro i i0 a n f;rw[gg]at a;have o:((k-1)/2-1)/2<(k-1)/2:=by omega
  rw[cV (k:=((k-1)/2-1)/2) (by omega) (by omega)];have c:=h.1 ((k-1)/2) f b (by omega);by_cases e:i=k
  . subst e;rw[sk];exact c
  . rw[cV e (by omega)];have:=h.1 i i0 a e;rw[n]at this;exact iH this c
theorem xw{L:List Grp}(h:DnI L k)(d:∀c,0<c->c<L.length->(c-1)/2=k->aW (L.getD c g0) (L.getD k g0)=false):HP L:=by
 intro i a b;by_cases e:(i-1)/2=k
 . rw[e];exact d i a b e
 . exact h.1 i a b e
theorem xy{L:List Grp}(h:DnI L k)(l:k<L.length)(g:c<L.length)(d:0<c)(f:(c-1)/2=k)(o:∀i,0<i->i<L.length->(i-1)/2=k->aW (L.getD i g0) (L.getD c g0)=false)(n:aW (L.getD c g0) (L.getD k g0)=true):DnI (cO L c k) c:=by
 have m:k<c:=by omega
 have sc:=wE (L:=L) (j:=k) g;have sk:=nt (L:=L) (i:=c) l;refine⟨?_,?_⟩
 .
  intro i i0 b a;rw[gg]at b;by_cases e:i=c
  . subst e;rw[f,sc,sk];exact og n
  .
   by_cases p:(i-1)/2=k
   . rw[p,sk,cV e (by omega)];exact o i i0 b p
   .
    rw[cV a p];by_cases e2:i=k
    . subst e2;rw[sk];exact h.2 c d g f i0
    . rw[cV e e2];exact h.1 i i0 b p
 . intro i i0 b a _;rw[gg]at b;rw[f,sk,cV (by omega) (by omega)];have:=h.1 i i0 b (by omega);rw[a]at this;exact this
theorem JK{L:List Grp}(h:HP L):∀i,i<L.length->aW (L.getD i g0) (L.getD 0 g0)=false:=by
 intro i;induction i using Nat.strongRecOn with
 | ind i ih=>
  intro a;by_cases e:i=0
  . subst e;exact f9 _
  . exact iH (h i (by omega) a) (ih ((i-1)/2) (by omega) (by omega))
theorem Mq{L:List Grp}(h:HP L)(g:Grp):UpI (L++[g]) L.length:=by
 refine⟨?_,?_⟩
 .
  intro i i0 b d;have a:i<L.length:=by simp at b;omega
  have e1:∀k,k<L.length->(L++[g]).getD k g0=L.getD k g0:=by
   intro k c;rw[List.getD_eq_getElem?_getD,List.getElem?_append_left c,←List.getD_eq_getElem?_getD]
  rw[e1 i a,e1 _ (by omega)];exact h i i0 a
 . intro i i0 b e _;simp at b;omega
theorem ti(L:List Grp)(m k:Nat)(h:k<m):(L.take m).getD k g0=L.getD k g0:=by
 rw[List.getD_eq_getElem?_getD,List.getElem?_take_of_lt h,←List.getD_eq_getElem?_getD]
theorem NV{L:List Grp}(h:HP L):DnI ((cO L 0 (L.length-1)).take (L.length-1)) 0:=by
 refine⟨?_,fun i _ _ _ b=>absurd b (a3O 0)⟩;intro i i0 c d;have a:i<L.length-1:=by rw[a0s,gg]at c;omega
 rw[ti _ _ _ a,ti _ _ _ (by omega),cV (by omega) (by omega),cV d (by omega)];exact h i i0 (by omega)
theorem Ef(L:List Grp)(n:Nat)(h:L.length=n+1):L=L.take n++[L.getD n g0]:=by
 have e:L.take (n+1)=L:=a0u (by omega);have h2:L.take (n+1)=L.take n++[L.getD n g0]:=by
  rw[a1b (by omega)]
  congr 2
  simp[List.getD,h]
 rw[e]at h2;exact h2
theorem Jc{L:List Grp}(h:0<L.length):(L.getD 0 g0 :: (cO L 0 (L.length-1)).take (L.length-1)).Perm L:=by
 have b:=ii (L:=L) (i:=0) (j:=L.length-1) h (by omega);have h2:=Ef (cO L 0 (L.length-1)) (L.length-1) (by rw[gg];omega);rw[nt (by omega)]at h2;have a:(L.getD 0 g0 :: (cO L 0 (L.length-1)).take (L.length-1)).Perm ((cO L 0 (L.length-1)).take (L.length-1)++[L.getD 0 g0]):=(List.perm_append_singleton _ _).symm;rw[←h2]at a;exact a.trans b
theorem Ah(L:List Grp)(k j:Nat)(b:j<=k):aW (L.getD j g0) (L.getD (ck L k) g0)=false:=by
 induction k with
 | zero=>
  obtain rfl:j=0:=by omega
  exact f9 _
 | succ k ih=>
  simp only[ck];cases a:aW (L.getD (k+1) g0) (L.getD (ck L k) g0)
  .
   simp only[a01,a02];by_cases e:j=k+1
   . subst e;exact a
   . exact ih (by omega)
  .
   simp only[a0X];by_cases e:j=k+1
   . subst e;exact f9 _
   . exact Ak (ih (by omega)) a
theorem Dc(M:List Grp)(g:Grp)(a:g∈M):aW g (az M)=false:=by
 obtain⟨i,b,rfl⟩:=a1z a;have:=Ah M (M.length-1) i (by omega);have e:M.getD i g0=M[i]:=by simp[List.getD,b]
 rw[e]at this;exact this
def rj(M:List Grp):Prop:=∀g∈M,g.fst∈g.syms
theorem La(l:List Int)(k:Nat):rj (ay l k):=by
 induction k with
 | zero=>intro g a;simp[ay]at a
 | succ k ih=>
  simp only[ay]
  split
  .
   intro g a;simp only[a0T,a07]at a;rcases a with a|rfl
   . exact ih g a
   . simp
  . exact ih
theorem Lh{M:List Grp}(h:rj M)(c:1<M.length):rj (stepG M):=by
 have d:=di M (by omega);intro g a;simp only[stepG,a0T,a07]at a;rcases a with a|rfl
 . exact h g (bg M _ (bg _ _ a))
 .
  have b:=h _ (bv M (by omega));have hb:=h _ (bg M _ (bv (ap M) (by omega)));simp only[dW,a0T]
  split
  . exact .inr hb
  . exact .inl b
theorem JN(l:List Int)(k:Nat)(b:k<(ay l l.length).length∨k=0):rj (ax l k).1:=by
 induction k with
 | zero=>exact La l _
 | succ k ih=>
  have a:1<(ax l k).1.length:=by have:=(cb l k (by omega)).2.2.2;omega
  exact Lh (ih (by omega)) a
theorem K7{M:List Grp}(j:(bo M).Nodup)(i:rj M){x y:Grp}(b:x∈M)(a:y∈M)(e:x.fst=y.fst):x=y:=by
 induction M with
 | nil=>cases b
 | cons g M ih=>
  have k:bo (g :: M)=g.syms++bo M:=by simp[bo]
  rw[k,a3N]at j;obtain⟨_,n2,n3⟩:=j;have c:rj M:=fun z h=>i z (by simp[h]);have f:∀z∈M,z.fst∈bo M:=fun z h=>List.mem_flatMap.2 ⟨z,h,c z h⟩;have d:g.fst∈g.syms:=i g (by simp);simp only[a0U]at b a;rcases b with rfl|b
  .
   rcases a with rfl|a
   . rfl
   . exact absurd e (n3 _ d _ (f y a))
  .
   rcases a with rfl|a
   . exact absurd e.symm (n3 _ d _ (f x b))
   . exact ih n2 c b a
theorem GB{x y:Grp}(h:aW x y=false)(h2:aW y x=false):x.fst=y.fst:=by
 simp only[aW,a2n,a2K,a2L]at h h2;omega
theorem wM{L M:List Grp}{a:Grp}{L1:List Grp}(h:(L.map bare).Perm M)(k:L.Perm (a :: L1))(f:∀g∈L,aW g a=false)(m:0<L.length)(s:(bo M).Nodup)(r:rj M):bare a=az M/\(L1.map bare).Perm (ap M):=by
 have l:0<M.length:=by rw[←h.length_eq,a0K];exact m
 have p:a∈L:=k.mem_iff.2 (by simp);have b:bare a∈M:=h.mem_iff.1 (a2V p);have d:=bv M l;obtain⟨c,q,i⟩:=a2H.1 (h.mem_iff.2 d);have n:aW (az M) (bare a)=false:=by rw[←i,uc];exact f c q
 have h2:=Dc M (bare a) b;have e:bare a=az M:=K7 s r b d (GB h2 n);refine⟨e,?_⟩;have o:(bare a :: L1.map bare).Perm M:=by
  have:=(k.map bare).symm.trans h;simpa using this
 have j:=o.trans (lv M l).symm;rw[e]at j;exact j.cons_inv
theorem Gc{M:List Grp}(b:0<M.length)(c:(bo M).Nodup):(bo (ap M)).Nodup:=by
 have a:=qg (lv M b);have h2:=a.nodup_iff.2 c;have e:bo (az M :: ap M)=(az M).syms++bo (ap M):=by simp[bo]
 rw[e,a3N]at h2;exact h2.2.1
theorem GT{α:Type}(f:α->Nat){A B:List α}(h:A.Perm B):(A.map f).sum=(B.map f).sum:=by
 induction h with
 | nil=>rfl
 | cons x _ ih=>simp only[a0H,a0M];omega
 | swap x y l=>simp only[a0H,a0M];omega
 | trans _ _ h1 h2=>omega
def qZ:Nat->List Grp->Int
 | 0,_=>0
 | n+1,M=>if 1<M.length then(az M).cnt+(az (ap M)).cnt+qZ n (stepG M)else 0
theorem jk(h:0<l.getD k 0):ay l (k+1)=ay l k++[⟨l.getD k 0,(k:Int),[(k:Int)],.slice none 0 0⟩]:=by simp only[ay];rw[a0e h]
theorem mG(h:¬ 0<l.getD k 0):ay l (k+1)=ay l k:=by simp only[ay];rw[a0d h]
def krR(l:List Int)(len:Nat->Nat)(D:Nat):Nat->Nat
 | 0=>0
 | n+1=>krR l len D n+(if 0<l.getD n 0 then 2 ^ (D-len n)else 0)
theorem pE(l:List Int)(k:Nat):∀g∈ay l k,0<=g.cnt/\∃i:Nat,g.fst=(i:Int)/\i<k/\0<l.getD i 0/\g.cnt=l.getD i 0/\g.syms=[(i:Int)]:=by
 induction k with
 | zero=>intro g a;simp[ay]at a
 | succ k ih=>
  intro g a;by_cases d:0<l.getD k 0
  .
   rw[jk d]at a;simp only[a0T,a07]at a;rcases a with a|rfl
   . obtain⟨b,i,h2,e,c⟩:=ih g a;exact⟨b,i,h2,by omega,c⟩
   . exact⟨by simp only;omega,k,rfl,by omega,d,rfl,rfl⟩
  . rw[mG d]at a;obtain⟨b,i,h2,e,c⟩:=ih g a;exact⟨b,i,h2,by omega,c⟩
theorem vg(l:List Int)(len:Nat->Nat)(D k:Nat):((bo (ay l k)).map fun s=>2 ^ (D-len s.toNat)).sum=krR l len D k:=by
 induction k with
 | zero=>rfl
 | succ k ih=>
  simp only[krR];by_cases h:0<l.getD k 0
  . rw[a0e h,←ih,jk h];simp[bo]
  . rw[a0d h,←ih,mG h];simp
theorem zC(l:List Int)(k:Nat)(x:Int):x∈bo (ay l k)<->∃i:Nat,x=(i:Int)/\i<k/\0<l.getD i 0:=by
 constructor
 . intro h;obtain⟨g,d,a⟩:=List.mem_flatMap.1 h;obtain⟨_,i,j,h2,b,_,c⟩:=pE l k g d;rw[c]at a;simp only[a07]at a;exact⟨i,a,h2,b⟩
 .
  rintro⟨i,rfl,m,f⟩;induction k with
  | zero=>omega
  | succ k ih=>
   by_cases e:i=k
   . subst e;rw[jk f];simp[bo]
   .
    have:=ih (by omega);by_cases h:0<l.getD k 0
    . rw[jk h];simp only[bo,a12,a0T];exact .inl this
    . rw[mG h];exact this
/-! What holds behind so many steps. -/
def kf(l s:List Int):Int:=(s.map fun x=>l.getD x.toNat 0).sum
theorem nP(l a b:List Int):kf l (a++b)=kf l a+kf l b:=by simp[kf]
theorem EL(l:List Int)(k:Nat)(j:k<(ay l l.length).length∨k=0):∀g∈(ax l k).1,g.cnt=kf l g.syms:=by
 induction k with
 | zero=>
  intro g b;obtain⟨_,i,f,h2,h,d,e⟩:=pE l l.length g b;rw[d,e];simp[kf]
 | succ k ih=>
  have c:1<(ax l k).1.length:=by have:=(cb l k (by omega)).2.2.2;omega
  have m:=di (ax l k).1 (by omega);have ih':=ih (by omega);intro g b;have a:g∈stepG (ax l k).1:=b;simp only[stepG,a0T,a07]at a;rcases a with a|rfl
  . exact ih' g (bg _ _ (bg _ _ a))
  . simp only[dW];rw[nP,ih' _ (bv _ (by omega)),ih' _ (bg _ _ (bv (ap _) (by omega)))]
def oS(l o:List Int):Nat->Int
 | 0=>0
 | n+1=>oS l o n+l.getD n 0*o.getD n 0
theorem FR(l o:List Int)(s:Int)(a:0<=s)(n:Nat)(b:n<=o.length):oS l (fI o s) n=oS l o n+(if s<(n:Int)then l.getD s.toNat 0 else 0):=by
 induction n with
 | zero=>simp only[oS];rw[a0d (by omega)];rfl
 | succ n ih=>
  simp only[oS];rw[ih (by omega),vE o s n a (by omega)];by_cases e:s=(n:Int)
  . subst e;rw[a0d (by omega),a0e rfl,a0e (by omega),Int.mul_add,Int.mul_one,a0p];omega
  .
   rw[a0d e,Int.add_zero];by_cases h:s<(n:Int)
   . rw[a0e h,a0e (by omega)];omega
   . rw[a0d h,a0d (by omega)];omega
theorem Jh(l s:List Int)(n:Nat):∀(o:List Int),n<=o.length->(∀x∈s,0<=x/\x<(n:Int))->oS l (bump o s) n=oS l o n+kf l s:=by
 induction s with
 | nil=>intro o _ _;simp[bump,kf]
 | cons x s ih=>
  intro o b a;show oS l (bump (fI o x) s) n=_;rw[ih (fI o x) (by rw[mU];exact b) (fun y c=>a y (by simp[c])),FR l o x (a x (by simp)).1 n b,a0e (a x (by simp)).2];simp only[kf,a0H,a0M];omega
theorem Ji(l:List Int)(m n:Nat):oS l (List.replicate m 0) n=0:=by
 induction n with
 | zero=>rfl
 | succ n ih=>
  simp only[oS];rw[ih];have:(List.replicate m (0:Int)).getD n 0=0:=by
   rw[List.getD_eq_getElem?_getD,List.getElem?_replicate]
   split<;>rfl
  rw[this];omega
theorem Mt(l:List Int)(k:Nat)(i:k<(ay l l.length).length∨k=0):oS l (ax l k).2 l.length+qZ ((ay l l.length).length-1-k) (ax l k).1=qZ ((ay l l.length).length-1) (ay l l.length):=by
 induction k with
 | zero=>
  show oS l (List.replicate l.length 0) l.length+qZ _ (ay l l.length)=_;rw[Ji,Int.zero_add,Nat.sub_zero]
 | succ k ih=>
  have ih':=ih (by omega);have a:1<(ax l k).1.length:=by have:=(cb l k (by omega)).2.2.2;omega
  have j:=di (ax l k).1 (by omega);obtain⟨m,hm⟩:∃m,(ay l l.length).length-1-k=m+1:=⟨(ay l l.length).length-1-k-1,by omega⟩;have b:(ay l l.length).length-1-(k+1)=m:=by omega
  rw[hm]at ih';rw[b];simp only[qZ]at ih';rw[a0e a]at ih';have c:∀x∈bh (ax l k).1,0<=x/\x<(l.length:Int):=by
   intro x h;have g:=(gW l k (by omega)).2;exact g x ((jE _ a).mem_iff.1 (by simp[h]))
  have d:=Jh l (bh (ax l k).1) l.length (ax l k).2 (by rw[eo];exact a0a _) c;have h2:=EL l k (by omega) _ (bv (ax l k).1 (by omega));have e:=EL l k (by omega) _ (bg _ _ (bv (ap (ax l k).1) (by omega)));have f:kf l (bh (ax l k).1)=(az (ax l k).1).cnt+(az (ap (ax l k).1)).cnt:=by
   unfold bh;rw[nP,←h2,←e]
  show oS l (bump (ax l k).2 (bh (ax l k).1)) l.length+qZ m (stepG (ax l k).1)=_;rw[d,f];omega
def oc(o s:List Int)(D:Nat):Nat:=(s.map fun x=>2 ^ (D-(o.getD x.toNat 0).toNat)).sum
theorem zU(o a b:List Int)(D:Nat):oc o (a++b) D=oc o a D+oc o b D:=by simp[oc]
theorem Gj{o o' s:List Int}{D:Nat}(h:∀x∈s,o'.getD x.toNat 0=o.getD x.toNat 0):oc o' s D=oc o s D:=by
 unfold oc
 congr 1
 apply List.map_congr_left;intro x a;rw[h x a]
theorem Gi{o o' s:List Int}{D:Nat}(h:∀x∈s,0<=o.getD x.toNat 0/\o.getD x.toNat 0<(D:Int)/\o'.getD x.toNat 0=o.getD x.toNat 0+1):2*oc o' s D=oc o s D:=by
 induction s with
 | nil=>rfl
 | cons x s ih=>
  have ih':=ih (fun y c=>h y (by simp[c]));obtain⟨e,h2,b⟩:=h x (by simp);simp only[oc,a0H,a0M]at ih' ⊢;rw[b];obtain⟨d,hd⟩:∃d,D-(o.getD x.toNat 0).toNat=d+1:=⟨D-(o.getD x.toNat 0).toNat-1,by omega⟩;have a:D-(o.getD x.toNat 0+1).toNat=d:=by omega
  rw[hd,a,a16];omega
theorem Mu(l:List Int)(D:Nat)(A:(ay l l.length).length<=D)(k:Nat)(B:k<(ay l l.length).length∨k=0):∀g∈(ax l k).1,oc (ax l k).2 g.syms D=2 ^ D:=by
 induction k with
 | zero=>
  intro g m;obtain⟨_,i,q,h2,w,z,r⟩:=pE l l.length g m;rw[r];show oc (List.replicate l.length 0) [(i:Int)] D=2 ^ D;simp[oc,List.getD,h2]
 | succ k ih=>
  have c:1<(ax l k).1.length:=by have:=(cb l k (by omega)).2.2.2;omega
  have C:=di (ax l k).1 (by omega);have ih':=ih (by omega);have d:=gW l k (by omega);obtain⟨n,h⟩:=jC c d.1;have f:=lj l k (by omega);have j:∀x∈bh (ax l k).1,0<=x/\x<(l.length:Int):=fun x e=>d.2 x ((jE _ c).mem_iff.1 (by simp[e]));have b:=fun(x:Int) (h0:0<=x) (q:x<(l.length:Int))=>lX (ax l k).2 (bh (ax l k).1) x.toNat n (fun y v=>(j y v).1) (by rw[eo];omega);intro g m;show oc (bump (ax l k).2 (bh (ax l k).1)) g.syms D=2 ^ D;have a:g∈stepG (ax l k).1:=m;simp only[stepG,a0T,a07]at a;rcases a with a|rfl
  .
   rw[Gj (o:=(ax l k).2)]
   . exact ih' g (bg _ _ (bg _ _ a))
   . intro x e;have p:x∈bo (ax l k).1:=List.mem_flatMap.2 ⟨g,bg _ _ (bg _ _ a),e⟩;obtain⟨x0,x1⟩:=d.2 x p;rw[b x x0 x1,Int.toNat_of_nonneg x0,a0d (h g a x e),Int.add_zero]
  .
   have u:(dW (az (ax l k).1) (az (ap (ax l k).1))).syms=bh (ax l k).1:=rfl;rw[u];have t:=Gi (o:=(ax l k).2) (o':=bump (ax l k).2 (bh (ax l k).1)) (s:=bh (ax l k).1) (D:=D) (by
    intro x e;obtain⟨x0,x1⟩:=j x e;have hd:=f x.toNat (by rw[eo];omega);refine⟨hd.1,by omega,?_⟩;rw[b x x0 x1,Int.toNat_of_nonneg x0,a0e e])
   have h2:oc (ax l k).2 (bh (ax l k).1) D=2 ^ D+2 ^ D:=by
    unfold bh;rw[zU,ih' _ (bv _ (by omega)),ih' _ (bg _ _ (bv (ap _) (by omega)))]
   omega
open Corb
def cK(w:World)(b base:Nat)(v:Value)(L:List Grp):Prop:=w.heap[b]?=some (Obj.cells #[v] 319)/\cF 302 w base v L
theorem cK.cell{base:Nat}{L:List Grp}(h:cK w b base v L):w.cell? ⟨b,0,none⟩=some v:=by simp[World.cell?,h.1]
theorem cK.frz{base:Nat}{L:List Grp}(h:cK w b base v L):w.frozen? ⟨b,0,none⟩=false:=by simp[World.frozen?,h.1]
theorem cK.lt{base:Nat}{L:List Grp}(h:cK w b base v L):b<w.heap.size:=(Array.getElem?_eq_some_iff.1 h.1).1
theorem jc(b base n cap:Nat)(a:Option Addr)(L:List Grp)(w:World)(h:cK w b base (.slice a n cap) L) :
  Calls prog 220 #[.pointer (some ⟨b,0,none⟩)] w fun e w'=>e = .returned (.int .i64 (n:Nat))/\w'=w:=by
 have c0:=h.cell;clear h;go_enter func220,ntmps220;go_wp2;go_ret;exact⟨rfl,rfl⟩
theorem jo(b base ob g n cap i j:Nat)(L:List Grp)(w:World)(d:dM w ob L)(f:L.length=n)(t:n<=300)(h:cK w b base (.slice (some ⟨g,0,none⟩) n cap) L)(l:i<n)(m:j<n) :
  Ds 297 #[.pointer (some ⟨b,0,none⟩),.int .i64 (i:Nat),.int .i64 (j:Nat)] w (.bool (aW (L.getD i g0) (L.getD j g0))):=by
 have c0:=h.cell;obtain⟨a0,a1,a2,_,z⟩:=h.2.at f i l;obtain⟨o,p,k,_,_⟩:=h.2.at f j m;have q:b<w.heap.size:=World.block_lt_of_cell? w ⟨b,0,none⟩ c0;obtain⟨xa,xq,a⟩:=(d (L.getD i g0) (fK L i (by omega))).form;obtain⟨ya,yq,c⟩:=(d (L.getD j g0) (fK L j (by omega))).form;have r:(i:Int)<(n:Int):=by omega
 have s:(j:Int)<(n:Int):=by omega
 have u:(n:Int)<=300:=by omega
 rw[a]at a2;rw[c]at k;clear h f t l m a c d;generalize L.getD i g0=x at *
 generalize L.getD j g0=y at *
 obtain⟨xc,xf,xs,xv⟩:=x;obtain⟨yc,yf,ys,yv⟩:=y;simp only at a0 a1 a2 o p k;generalize xs.length=xn at *
 generalize ys.length=yn at *
 go_enter func297,ntmps297;go_wp2_with fail
 go_region
 all_goals
  by_cases e:xc=yc
  . subst e;go_wp2;go_ret;exact⟨congrArg (fun x=>Ending.returned (.bool x)) (by simp[aW]),(((a0c _ _).alloc (a0a _) _).alloc (by simp) _).drew⟩
  .
   have v:(xc == yc)=false:=by simpa using e
   go_wp2;go_ret;exact⟨congrArg (fun x=>Ending.returned (.bool x)) (by simp[aW,e]),(((a0c _ _).alloc (a0a _) _).alloc (by simp) _).drew⟩
theorem bm.ints{base:Nat}(h:bm 3 w w')(a:am w base v l):am w' base v l:=h.own a
theorem bm.syms{l:List Grp}(h:bm 3 w w')(b:dM w ob l):dM w' ob l:=fun g a=>h.ints (b g a)
theorem dM.perm{l m:List Grp}(h:dM w ob l)(b:m.Perm l):dM w ob m:=fun g a=>h g (b.mem_iff.1 a)
def bD(g:Nat)(w w':World):Prop:=bm 3 w w'/\w.heap.size<=w'.heap.size/\∀k,k<w.heap.size->k≠g->w'.heap[k]?=w.heap[k]?
theorem bD.refl(g:Nat)(w:World):bD g w w:=⟨bm.refl _ _,a0a _,fun _ _ _=>rfl⟩
theorem bD.trans{w1 w2:World}(h:bD g w w1)(k:bD g w1 w2):bD g w w2:=
 ⟨h.1.trans k.1,a0E h.2.1 k.2.1,fun j b a=>(k.2.2 j (a0m b h.2.1) a).trans (h.2.2 j b a)⟩
theorem bD.below(h:Below w.heap.size w w'):bD g w w':=⟨bm.below h,h.size,fun j a _=>h.block j a⟩
theorem bD.syms{l:List Grp}(h:bD g w w')(a:dM w ob l):dM w' ob l:=h.1.syms a
theorem bD.drew(h:bD g w w'):bD g w w'.drew:=h
theorem bD.touch{t':TypeId}{c:Array Value}{f:Nat×Nat}(d:w.heap[g]?=some (.cells c t' f))(a:3≠t')(b:Touch (some ⟨g,0,none⟩) w w'):bD g w w':=
 ⟨bm.touch d a b,Nat.le_of_eq b.1.symm,fun j _ h=>b.2 j (fun g' e=>by simp only[a0l,a0B,a0P]at e;omega)⟩
theorem Ei(l:List Grp)(j:Nat)(x:Grp):(((aP l).set (j*3) (.int .i64 x.cnt)).set (j*3+1) (.int .i64 x.fst)).set (j*3+2) x.val=aP (l.set j x):=by
 induction l generalizing j with
 | nil=>simp[aP]
 | cons p l ih=>
  cases j with
  | zero=>simp[aP]
  | succ j=>
   rw[show(j+1)*3=j*3+1+1+1 by omega];simp only[aP,List.set_cons_succ];rw[ih j]
theorem cF.put{base cap:Nat}{l:List Grp}(c:l.length=n)(h:cF t w base (.slice (some ⟨g,0,none⟩) n cap) l)(j:Nat)(x:Grp) :
  cF t (((w.setCell ⟨g,j*3,none⟩ (.int .i64 x.cnt)).setCell ⟨g,j*3+1,none⟩ (.int .i64 x.fst)).setCell ⟨g,j*3+2,none⟩ x.val) base (.slice (some ⟨g,0,none⟩) n cap) (l.set j x):=by
 subst c;have b:=(a1M h (j*3) (.int .i64 x.cnt)).1;have h2:=(a1M b (j*3+1) (.int .i64 x.fst)).1;have a:=(a1M h2 (j*3+2) x.val).1;rw[Ei]at a;show World.ownsRow _ _ _ _ _ (l.set j x).length _;rw[a1d];exact a
theorem cF.frozen{base cap:Nat}{l:List Grp}(a:l.length=n)(h:cF t w base (.slice (some ⟨g,0,none⟩) n cap) l)(j:Nat):w.frozen? ⟨g,j,none⟩=false:=by
 subst a;exact a2j h j
theorem Touch.drew{a:Option Addr}(h:Touch a w w'):Touch a w w'.drew:=h
theorem cF.drew{base:Nat}{l:List Grp}(h:cF t w base v l):cF t w.drew base v l:=h
theorem cK.drew{base:Nat}{L:List Grp}(h:cK w b base v L):cK w.drew b base v L:=⟨h.1,h.2.drew⟩
theorem mM(b base ob g n cap i j:Nat)(L:List Grp)(w:World)(u:dM w ob L)(a:L.length=n)(V:n<=300)(h:cK w b base (.slice (some ⟨g,0,none⟩) n cap) L)(O:b<base)(B:i<n)(C:j<n) :
  Calls prog 234 #[.pointer (some ⟨b,0,none⟩),.int .i64 (i:Nat),.int .i64 (j:Nat)] w fun e w'=>e = .returned (.tuple #[])/\cK w' b base (.slice (some ⟨g,0,none⟩) n cap) (cO L i j)/\Below b w w'/\bD g w w':=by
 have c0:=h.cell;have R:=(a0y h.2 g rfl).1;have v:b≠g:=by omega
 obtain⟨gc,q⟩:=GY (n:=n) (by have h2:=h.2;unfold cF at h2;rw[a]at h2;exact h2) rfl;have s:=ae q;clear q;obtain⟨a0,a1,a2,_,X⟩:=h.2.at a i B;obtain⟨K,M,A,_,_⟩:=h.2.at a j C;have f0:=h.2.frozen a (i*3);have f1:=h.2.frozen a (i*3+1);have f2:=h.2.frozen a (i*3+2);have k0:=h.2.frozen a (j*3);have Y:=h.2.frozen a (j*3+1);have Z:=h.2.frozen a (j*3+2);have P:b<w.heap.size:=World.block_lt_of_cell? w ⟨b,0,none⟩ c0;obtain⟨xa,xq,d⟩:=(u (L.getD i g0) (fK L i (by omega))).form;obtain⟨ya,yq,f⟩:=(u (L.getD j g0) (fK L j (by omega))).form;have S:(i:Int)<(n:Int):=by omega
 have T:(j:Int)<(n:Int):=by omega
 have W:(n:Int)<=300:=by omega
 rw[d]at a2;rw[f]at A;have H:=ae h;have z:=ae a;clear h a V B C u;have F:=ae d;have G:=ae f;have Q:g≠b:=fun e=>v e.symm;clear d f;generalize D:L.getD i g0=x at *
 generalize E:L.getD j g0=y at *
 obtain⟨xc,xf,xs,xv⟩:=x;obtain⟨yc,yf,ys,yv⟩:=y;simp only at a0 a1 a2 K M A;generalize xs.length=xn at *
 generalize ys.length=yn at *
 have I:=ae D;have J:=ae E;clear D E;go_enter func234,ntmps234;go_wp2_with fail;have ex:Hid (L.getD i g0=⟨xc,xf,xs,.slice xa xn xq⟩):=by
  have e:xv = .slice xa xn xq:=ab F;show L.getD i g0=_;rw[ab I,e]
 have ey:Hid (L.getD j g0=⟨yc,yf,ys,.slice ya yn yq⟩):=by
  have e:yv = .slice ya yn yq:=ab G;show L.getD j g0=_;rw[ab J,e]
 have N:=ae (cF.put (by rw[a1d];exact ab z) (cF.put (ab z) (ab H).2 i ⟨yc,yf,ys,.slice ya yn yq⟩) j ⟨xc,xf,xs,.slice xa xn xq⟩);have p:=ae (((((((Touch.refl (some ⟨g,0,none⟩) w).set (o:=i*3) rfl (.int .i64 yc)).set (o:=i*3+1) rfl (.int .i64 yf)).set (o:=i*3+2) rfl (.slice ya yn yq)).set (o:=j*3) rfl (.int .i64 xc)).set (o:=j*3+1) rfl (.int .i64 xf)).set (o:=j*3+2) rfl (.slice xa xn xq));have k:=ae ((ah (ah (ah (ah (ah (ah (a0c b w) (b:=g) (o:=i*3) (by omega) (.int .i64 yc)) (b:=g) (o:=i*3+1) (by omega) (.int .i64 yf)) (b:=g) (o:=i*3+2) (by omega) (.slice ya yn yq)) (b:=g) (o:=j*3) (by omega) (.int .i64 xc)) (b:=g) (o:=j*3+1) (by omega) (.int .i64 xf)) (b:=g) (o:=j*3+2) (by omega) (.slice xa xn xq)));have l:=ae (bD.touch (ab s) (by decide) (ab p));have t:=ae (((ab p).2 b (fun g' e=>by simp only[a0l,a0B,a0P]at e;omega)).trans (ab H).1);have c:Hid (cK ((((((w.setCell ⟨g,i*3,none⟩ (.int .i64 yc)).setCell ⟨g,i*3+1,none⟩ (.int .i64 yf)).setCell ⟨g,i*3+2,none⟩ (.slice ya yn yq)).setCell ⟨g,j*3,none⟩ (.int .i64 xc)).setCell ⟨g,j*3+1,none⟩ (.int .i64 xf)).setCell ⟨g,j*3+2,none⟩ (.slice xa xn xq)) b base (.slice (some ⟨g,0,none⟩) n cap) ((L.set i ⟨yc,yf,ys,.slice ya yn yq⟩).set j ⟨xc,xf,xs,.slice xa xn xq⟩)):=⟨ab t,ab N⟩;clear H;have m:Hid (cO L i j=(L.set i ⟨yc,yf,ys,.slice ya yn yq⟩).set j ⟨xc,xf,xs,.slice xa xn xq⟩):=by
  show cO L i j=_;unfold cO;rw[ab ex,ab ey]
 by_cases r:i=j
 .
  subst r;have exy:=(ab ex).symm.trans (ab ey);simp only[Grp.mk.injEq,a0J]at exy;obtain⟨rfl,rfl,rfl,rfl,rfl,rfl⟩:=exy
  go_region
  all_goals
   go_wp2
   go_end0
   refine⟨rfl,?_,(ab k).drew,(ab l).drew⟩;rw[ab m];exact(ab c).drew
 .
  have U:¬ j=i:=fun e=>r e.symm;have q1:¬ j*3=i*3+1:=by omega
  have q2:¬ j*3=i*3+2:=by omega
  have q3:¬ j*3+1=i*3:=by omega
  have q4:¬ j*3+1=i*3+2:=by omega
  have q5:¬ j*3+2=i*3:=by omega
  have q6:¬ j*3+2=i*3+1:=by omega
  have q7:¬ j*3=i*3:=by omega
  have q8:¬ j*3+1=i*3+1:=by omega
  have q9:¬ j*3+2=i*3+2:=by omega
  go_region
  all_goals
   go_wp2
   go_end0
   refine⟨rfl,?_,(ab k).drew,(ab l).drew⟩;rw[ab m];exact(ab c).drew
theorem Km(a:Addr)(w:World):(method 471 299 (.pointer (some a)) "loop.example/corbel/impl.size").run prog w = .ok (220,.pointer (some a)) w:=by kernel_rfl
theorem ul(a:Addr)(w:World):(method 471 299 (.pointer (some a)) "loop.example/corbel/impl.before").run prog w = .ok (297,.pointer (some a)) w:=by kernel_rfl
theorem AC(a:Addr)(w:World):(method 471 299 (.pointer (some a)) "loop.example/corbel/impl.swap").run prog w = .ok (234,.pointer (some a)) w:=by kernel_rfl
theorem cK.later{base:Nat}{L:List Grp}(h:cK w b base v L)(hb:Below w.heap.size w w'):cK w' b base v L:=
 ⟨(hb.block b h.lt).trans h.1,h.2.later hb (a0a _)⟩
theorem xO(b g n cap p:Nat)(L:List Grp)(w:World)(D:dM w (b+1) L)(F:L.length=n)(E:n<=300)(h:cK w b (b+1) (.slice (some ⟨g,0,none⟩) n cap) L)(G:p<n)(l:UpI L p) :
  Calls prog 236 #[.iface 299 (.pointer (some ⟨b,0,none⟩)),.int .i64 (p:Nat)] w fun e w'=>e = .returned (.tuple #[])/\∃M:List Grp,M.Perm L/\HP M/\cK w' b (b+1) (.slice (some ⟨g,0,none⟩) n cap) M/\Below b w w'/\bD g w w':=by
 have m1:=ul ⟨b,0,none⟩;have m2:=AC ⟨b,0,none⟩;have N:(n:Int)<=300:=by omega
 have C:=ae D;have x:=ae (a0b F E);have u:=ae (a0b h (a0b G l));clear D F E h G l;go_enter func236,ntmps236;go_wp2_with fail
 go_loopw [1] (fun p wr=>∃(k:Nat) (M:List Grp),p = .int .i64 k/\k<n/\M.Perm L/\UpI M k/\cK wr b (b+1) (.slice (some ⟨g,0,none⟩) n cap) M/\Below b w wr/\bD g w wr) (fun p _=>(intOf p).toNat)
 case atStart=>exact⟨p,L,rfl,(ab u).2.1,a2l _,(ab u).2.2,(ab u).1,a0c _ _,bD.refl _ _⟩
 case round=>
  obtain⟨k,M,rfl,m,i,l,j,a,c⟩:=hrel;have K:(k:Int)<(n:Int):=by omega
  have d:M.length=n:=i.length_eq.trans (ab x).1;have t:=ae (a0b m (a0b i (a0b l (a0b j (a0b a (a0b c d))))));by_cases I:k=0
  .
   subst I;clear m i l j a c d;go_wp2
   go_end0
   obtain⟨m,i,l,j,a,c,d⟩:=ab t;exact⟨rfl,M,i,LA l (.inl rfl),j,a,c⟩
  .
   have B:dM wr (b+1) M:=(c.syms (ab C)).perm i;obtain⟨q,hq⟩:∃q,q=(k-1)/2:=⟨_,rfl⟩;have P:((k:Int)-1)/2=(q:Int):=by omega
   have O:(q:Int)<(n:Int):=by omega
   have J:(1:Int)<=(k:Int):=by omega
   have s:=ae (jo b (b+1) (b+1) g n cap k q M wr B d (ab x).2 j m (by omega));have o:=ae hq;clear m i l j a c d hq;cases r:aW (M.getD k g0) (M.getD q g0)
   .
    rw[r]at s;have v:=ae r;clear r;go_wp2_with fail;refine(ab s).mono ?_;rintro e x1 ⟨rfl,f⟩;go_wp2
    go_end0
    obtain⟨m,i,l,j,a,c,d⟩:=ab t;exact⟨rfl,M,i,LA l (.inr (by rw[←ab o];exact ab v)),j.later f,a.trans (f.mono (a0z (j.lt))),c.trans (bD.below f)⟩
   .
    rw[r]at s;have v:=ae r;clear r;go_wp2_with fail;refine(ab s).mono ?_;rintro e x1 ⟨rfl,f⟩;have H:Hid (Calls prog 234 #[.pointer (some ⟨b,0,none⟩),.int .i64 (k:Nat),.int .i64 (q:Nat)] x1 fun e w'=>e = .returned (.tuple #[])/\cK w' b (b+1) (.slice (some ⟨g,0,none⟩) n cap) (cO M k q)/\Below b x1 w'/\bD g x1 w'):=by
     obtain⟨m,i,l,j,a,c,d⟩:=ab t;exact mM b (b+1) (b+1) g n cap k q M x1 (((c.trans (bD.below f)).syms (ab C)).perm i) d (ab x).2 (j.later f) (a0i _) m (by omega)
    go_wp2_with fail;refine(ab H).mono ?_;rintro e x2 ⟨rfl,z,y,A⟩;go_wp2;go_roundw
    case rel=>
     obtain⟨m,i,l,j,a,c,d⟩:=ab t;have hq:=ab o;refine⟨q,cO M k q,by first|rfl|go_num,by omega,(ii (by omega) (by omega)).trans i,?_,z,(a.trans (f.mono (a0z (j.lt)))).trans y,(c.trans (bD.below f)).trans A⟩;subst hq;exact Ni l (by omega) (by omega) (ab v)
    case measure=>
     have hq:=ab o;simp[intOf];omega
theorem yD{L:List Grp}(b:(c=2*k+1/\(L.length<=2*k+2∨aW (L.getD (2*k+2) g0) (L.getD (2*k+1) g0)=false))∨(c=2*k+2/\aW (L.getD (2*k+2) g0) (L.getD (2*k+1) g0)=true)) :
  ∀i,0<i->i<L.length->(i-1)/2=k->aW (L.getD i g0) (L.getD c g0)=false:=by
 intro i i0 d e;have a:i=2*k+1∨i=2*k+2:=by omega
 rcases b with⟨rfl,h|h⟩|⟨rfl,h⟩
 .
  rcases a with rfl|rfl
  . exact f9 _
  . omega
 .
  rcases a with rfl|rfl
  . exact f9 _
  . exact h
 .
  rcases a with rfl|rfl
  . exact og h
  . exact f9 _
theorem xP(b g n cap p:Nat)(L:List Grp)(w:World)(X:dM w (b+1) L)(hn:L.length=n)(hm:n<=300)(h:cK w b (b+1) (.slice (some ⟨g,0,none⟩) n cap) L)(G:p<=n)(r:DnI L p) :
  Calls prog 235 #[.iface 299 (.pointer (some ⟨b,0,none⟩)),.int .i64 (p:Nat)] w fun e w'=>e = .returned (.tuple #[])/\∃M:List Grp,M.Perm L/\HP M/\cK w' b (b+1) (.slice (some ⟨g,0,none⟩) n cap) M/\Below b w w'/\bD g w w':=by
 have m1:=ul ⟨b,0,none⟩;have m2:=AC ⟨b,0,none⟩;have m3:=Km ⟨b,0,none⟩;have ac:(n:Int)<=300:=by omega
 have J:=ae X;have I:=ae (a0b hn hm);have T:=ae (a0b h (a0b G r));clear X hn hm h G r;go_enter func235,ntmps235;go_wp2_with fail
 go_loopw [1,4] (fun p _ wr=>∃(k:Nat) (M:List Grp),p = .int .i64 k/\k<=n/\M.Perm L/\DnI M k/\cK wr b (b+1) (.slice (some ⟨g,0,none⟩) n cap) M/\Below b w wr/\bD g w wr) (fun p _ _=>n-(intOf p).toNat)
 case atStart=>exact⟨p,L,rfl,(ab T).2.1,a2l _,(ab T).2.2,(ab T).1,a0c _ _,bD.refl _ _⟩
 case round=>
  obtain⟨k,M,rfl,v,o,r,t,a,j⟩:=hrel;have aa:(k:Int)<=(n:Int):=by omega
  have d:M.length=n:=o.length_eq.trans (ab I).1;have z:=ae (a0b v (a0b o (a0b r (a0b t (a0b a (a0b j d))))));have K:=ae (jc b (b+1) n cap _ M wr t);have H:dM wr (b+1) M:=(j.syms (ab J)).perm o;obtain⟨c1,D⟩:∃q,q=2*k+1:=⟨_,rfl⟩;have Y:2*(k:Int)+1=(c1:Int):=by omega
  have x:=ae D;by_cases S:c1<n
  .
   have V:(c1:Int)<(n:Int):=by omega
   obtain⟨c2,hc2⟩:∃q,q=2*k+2:=⟨_,rfl⟩;have Z:(c1:Int)+1=(c2:Int):=by omega
   have B:=ae hc2;by_cases h2:c2<n
   .
    have W:(c2:Int)<(n:Int):=by omega
    have R:=ae (jo b (b+1) (b+1) g n cap c2 c1 M wr H d (ab I).2 t h2 S);clear v o r t a j d D hc2 S h2 H;cases O:aW (M.getD c2 g0) (M.getD c1 g0)
    .
     rw[O]at R;have U:=ae O;clear O;go_wp2_with fail;refine(ab K).mono ?_;rintro e y1 ⟨rfl,m⟩;rw[m];clear m y1;go_wp2_with fail;refine(ab K).mono ?_;rintro e y1 ⟨rfl,m⟩;rw[m];clear m y1;go_wp2_with fail;refine(ab R).mono ?_;rintro e x1 ⟨rfl,A⟩;have y:Hid (cK x1 b (b+1) (.slice (some ⟨g,0,none⟩) n cap) M/\Below b w x1/\bD g w x1/\c1<n/\0<c1/\(c1-1)/2=k/\(∀i,0<i->i<M.length->(i-1)/2=k->aW (M.getD i g0) (M.getD c1 g0)=false)):=by
      obtain⟨v,o,r,t,a,j,d⟩:=ab z;refine⟨(t.later A),(a.trans (A.mono (a0z (t.lt)))),(j.trans (bD.below A)),by omega,?_,?_,yD (k:=k) (.inl ⟨ab x,.inr (by rw[←ab x,←ab B];exact ab U)⟩)⟩
      . have:=ab x;omega
      . have:=ab x;omega
     have s:Hid (Calls prog 297 #[.pointer (some ⟨b,0,none⟩),.int .i64 (c1:Nat),.int .i64 (k:Nat)] x1 fun e w'=>e = .returned (.bool (aW (M.getD c1 g0) (M.getD k g0)))/\Below (x1).heap.size x1 w'):=by
      obtain⟨v,o,r,t,a,j,d⟩:=ab z;obtain⟨xh,xb,xk,xc,xc0,xp,xm⟩:=ab y;exact jo b (b+1) (b+1) g n cap c1 k M x1 ((xk.syms (ab J)).perm o) d (ab I).2 xh xc (by omega)
     cases l:aW (M.getD c1 g0) (M.getD k g0)
     . rw[l]at s;have u:=ae l;clear l;go_wp2_with fail;refine(ab s).mono ?_;rintro e x2 ⟨rfl,f⟩;go_wp2;refine a0F (a3c rfl _ _ _) rfl ?_;obtain⟨v,o,r,t,a,j,d⟩:=ab z;obtain⟨xh,xb,xk,xc,xc0,xp,xm⟩:=ab y;exact⟨rfl,M,o,xw r (fun c c0 N G=>iH (xm c c0 N G) (ab u)),xh.later f,xb.trans (f.mono (a0z (xh.lt))),xk.trans (bD.below f)⟩
     .
      rw[l]at s;have u:=ae l;clear l;go_wp2_with fail;refine(ab s).mono ?_;rintro e x2 ⟨rfl,f⟩;have P:Hid (Calls prog 234 #[.pointer (some ⟨b,0,none⟩),.int .i64 (c1:Nat),.int .i64 (k:Nat)] x2 fun e w'=>e = .returned (.tuple #[])/\cK w' b (b+1) (.slice (some ⟨g,0,none⟩) n cap) (cO M c1 k)/\Below b x2 w'/\bD g x2 w'):=by
       obtain⟨v,o,r,t,a,j,d⟩:=ab z;obtain⟨xh,xb,xk,xc,xc0,xp,xm⟩:=ab y;exact mM b (b+1) (b+1) g n cap c1 k M x2 (((xk.trans (bD.below f)).syms (ab J)).perm o) d (ab I).2 (xh.later f) (a0i _) xc (by omega)
      go_wp2_with fail;refine(ab P).mono ?_;rintro e x3 ⟨rfl,E,C,F⟩;go_wp2;go_roundw
      case rel=>
       obtain⟨v,o,r,t,a,j,d⟩:=ab z;obtain⟨xh,xb,xk,xc,xc0,xp,xm⟩:=ab y;exact⟨c1,cO M c1 k,rfl,by omega,(ii (by omega) (by omega)).trans o,xy r (by omega) (by omega) xc0 xp xm (ab u),E,(xb.trans (f.mono (a0z (xh.lt)))).trans C,(xk.trans (bD.below f)).trans F⟩
      case measure=>
       obtain⟨xh,xb,xk,xc,xc0,xp,xm⟩:=ab y;simp[intOf];omega
    .
     rw[O]at R;have U:=ae O;clear O;go_wp2_with fail;refine(ab K).mono ?_;rintro e y1 ⟨rfl,m⟩;rw[m];clear m y1;go_wp2_with fail;refine(ab K).mono ?_;rintro e y1 ⟨rfl,m⟩;rw[m];clear m y1;go_wp2_with fail;refine(ab R).mono ?_;rintro e x1 ⟨rfl,A⟩;have y:Hid (cK x1 b (b+1) (.slice (some ⟨g,0,none⟩) n cap) M/\Below b w x1/\bD g w x1/\c2<n/\0<c2/\(c2-1)/2=k/\(∀i,0<i->i<M.length->(i-1)/2=k->aW (M.getD i g0) (M.getD c2 g0)=false)):=by
      obtain⟨v,o,r,t,a,j,d⟩:=ab z;refine⟨(t.later A),(a.trans (A.mono (a0z (t.lt)))),(j.trans (bD.below A)),by omega,?_,?_,yD (k:=k) (.inr ⟨ab B,by rw[←ab x,←ab B];exact ab U⟩)⟩
      . have:=ab B;omega
      . have:=ab B;omega
     have s:Hid (Calls prog 297 #[.pointer (some ⟨b,0,none⟩),.int .i64 (c2:Nat),.int .i64 (k:Nat)] x1 fun e w'=>e = .returned (.bool (aW (M.getD c2 g0) (M.getD k g0)))/\Below (x1).heap.size x1 w'):=by
      obtain⟨v,o,r,t,a,j,d⟩:=ab z;obtain⟨xh,xb,xk,xc,xc0,xp,xm⟩:=ab y;exact jo b (b+1) (b+1) g n cap c2 k M x1 ((xk.syms (ab J)).perm o) d (ab I).2 xh xc (by omega)
     cases l:aW (M.getD c2 g0) (M.getD k g0)
     . rw[l]at s;have u:=ae l;clear l;go_wp2_with fail;refine(ab s).mono ?_;rintro e x2 ⟨rfl,f⟩;go_wp2;refine a0F (a3c rfl _ _ _) rfl ?_;obtain⟨v,o,r,t,a,j,d⟩:=ab z;obtain⟨xh,xb,xk,xc,xc0,xp,xm⟩:=ab y;exact⟨rfl,M,o,xw r (fun c c0 N G=>iH (xm c c0 N G) (ab u)),xh.later f,xb.trans (f.mono (a0z (xh.lt))),xk.trans (bD.below f)⟩
     .
      rw[l]at s;have u:=ae l;clear l;go_wp2_with fail;refine(ab s).mono ?_;rintro e x2 ⟨rfl,f⟩;have P:Hid (Calls prog 234 #[.pointer (some ⟨b,0,none⟩),.int .i64 (c2:Nat),.int .i64 (k:Nat)] x2 fun e w'=>e = .returned (.tuple #[])/\cK w' b (b+1) (.slice (some ⟨g,0,none⟩) n cap) (cO M c2 k)/\Below b x2 w'/\bD g x2 w'):=by
       obtain⟨v,o,r,t,a,j,d⟩:=ab z;obtain⟨xh,xb,xk,xc,xc0,xp,xm⟩:=ab y;exact mM b (b+1) (b+1) g n cap c2 k M x2 (((xk.trans (bD.below f)).syms (ab J)).perm o) d (ab I).2 (xh.later f) (a0i _) xc (by omega)
      go_wp2_with fail;refine(ab P).mono ?_;rintro e x3 ⟨rfl,E,C,F⟩;go_wp2;go_roundw
      case rel=>
       obtain⟨v,o,r,t,a,j,d⟩:=ab z;obtain⟨xh,xb,xk,xc,xc0,xp,xm⟩:=ab y;exact⟨c2,cO M c2 k,rfl,by omega,(ii (by omega) (by omega)).trans o,xy r (by omega) (by omega) xc0 xp xm (ab u),E,(xb.trans (f.mono (a0z (xh.lt)))).trans C,(xk.trans (bD.below f)).trans F⟩
      case measure=>
       obtain⟨xh,xb,xk,xc,xc0,xp,xm⟩:=ab y;simp[intOf];omega
   .
    have W:¬ (c2:Int)<(n:Int):=by omega
    have Q:Hid (n<=c2):=by show n<=c2;omega
    clear v o r t a j d D hc2 S h2 H;go_wp2_with fail;refine(ab K).mono ?_;rintro e y1 ⟨rfl,m⟩;rw[m];clear m y1;go_wp2_with fail;refine(ab K).mono ?_;rintro e y1 ⟨rfl,m⟩;rw[m];clear m y1;have y:Hid (cK wr b (b+1) (.slice (some ⟨g,0,none⟩) n cap) M/\Below b w wr/\bD g w wr/\c1<n/\0<c1/\(c1-1)/2=k/\(∀i,0<i->i<M.length->(i-1)/2=k->aW (M.getD i g0) (M.getD c1 g0)=false)):=by
     obtain⟨v,o,r,t,a,j,d⟩:=ab z;refine⟨t,a,j,by omega,?_,?_,yD (k:=k) (.inl ⟨ab x,.inl (by rw[d,←ab B];exact ab Q)⟩)⟩
     . have:=ab x;omega
     . have:=ab x;omega
    have s:Hid (Calls prog 297 #[.pointer (some ⟨b,0,none⟩),.int .i64 (c1:Nat),.int .i64 (k:Nat)] wr fun e w'=>e = .returned (.bool (aW (M.getD c1 g0) (M.getD k g0)))/\Below (wr).heap.size wr w'):=by
     obtain⟨v,o,r,t,a,j,d⟩:=ab z;obtain⟨xh,xb,xk,xc,xc0,xp,xm⟩:=ab y;exact jo b (b+1) (b+1) g n cap c1 k M wr ((xk.syms (ab J)).perm o) d (ab I).2 xh xc (by omega)
    cases l:aW (M.getD c1 g0) (M.getD k g0)
    . rw[l]at s;have u:=ae l;clear l;go_wp2_with fail;refine(ab s).mono ?_;rintro e x2 ⟨rfl,f⟩;go_wp2;refine a0F (a3c rfl _ _ _) rfl ?_;obtain⟨v,o,r,t,a,j,d⟩:=ab z;obtain⟨xh,xb,xk,xc,xc0,xp,xm⟩:=ab y;exact⟨rfl,M,o,xw r (fun c c0 N G=>iH (xm c c0 N G) (ab u)),xh.later f,xb.trans (f.mono (a0z (xh.lt))),xk.trans (bD.below f)⟩
    .
     rw[l]at s;have u:=ae l;clear l;go_wp2_with fail;refine(ab s).mono ?_;rintro e x2 ⟨rfl,f⟩;have P:Hid (Calls prog 234 #[.pointer (some ⟨b,0,none⟩),.int .i64 (c1:Nat),.int .i64 (k:Nat)] x2 fun e w'=>e = .returned (.tuple #[])/\cK w' b (b+1) (.slice (some ⟨g,0,none⟩) n cap) (cO M c1 k)/\Below b x2 w'/\bD g x2 w'):=by
      obtain⟨v,o,r,t,a,j,d⟩:=ab z;obtain⟨xh,xb,xk,xc,xc0,xp,xm⟩:=ab y;exact mM b (b+1) (b+1) g n cap c1 k M x2 (((xk.trans (bD.below f)).syms (ab J)).perm o) d (ab I).2 (xh.later f) (a0i _) xc (by omega)
     go_wp2_with fail;refine(ab P).mono ?_;rintro e x3 ⟨rfl,E,C,F⟩;go_wp2;go_roundw
     case rel=>
      obtain⟨v,o,r,t,a,j,d⟩:=ab z;obtain⟨xh,xb,xk,xc,xc0,xp,xm⟩:=ab y;exact⟨c1,cO M c1 k,rfl,by omega,(ii (by omega) (by omega)).trans o,xy r (by omega) (by omega) xc0 xp xm (ab u),E,(xb.trans (f.mono (a0z (xh.lt)))).trans C,(xk.trans (bD.below f)).trans F⟩
     case measure=>
      obtain⟨xh,xb,xk,xc,xc0,xp,xm⟩:=ab y;simp[intOf];omega
  .
   have V:¬ (c1:Int)<(n:Int):=by omega
   have Q:Hid (n<=c1):=by show n<=c1;omega
   clear v o r t a j d D S H;go_wp2_with fail;refine(ab K).mono ?_;rintro e y1 ⟨rfl,m⟩;rw[m];clear m y1;go_wp2
   go_end0
   obtain⟨v,o,r,t,a,j,d⟩:=ab z;have D:=ab x;exact⟨rfl,M,o,xw r (fun c c0 N G=>by omega),t,a,j⟩
theorem Ey(h:w.heap[b]?=some (Obj.cells #[v] t))(u:Value):(w.setCell ⟨b,0,none⟩ u).heap[b]?=some (Obj.cells #[u] t):=by
 show(w.heap.modify b _)[b]?=_;rw[Array.getElem?_modify,a0e rfl,h];simp
theorem I5(h:w.heap[b]?=some (Obj.cells #[v] t)):w.cell? ⟨b,0,none⟩=some v:=by simp[World.cell?,h]
theorem L3(h:w.heap[b]?=some (Obj.cells #[v] t)):w.frozen? ⟨b,0,none⟩=false:=by simp[World.frozen?,h]
theorem Tryz.infoGrp:(prog.info? 302).map (fun i=>(i.zero,i.size,i.bytes))=some (some (.agg #[.int .i64 0,.int .i64 0,.slice none 0 0]),3,40):=by kernel_rfl
theorem Dw{W x1:World}{v':Value}{L:List Grp}{x:Grp}{o:Obj}(z:L.length=n)(h:cK w b (b+1) v L)(m:Below w.heap.size w W)(y:bm 3 w W)(l:x1.ownsRow (b+1) 302 3 v' (n+1) (aP L++[.int .i64 x.cnt,.int .i64 x.fst,x.val]))(a:(W.alloc o).drew.grownBy x1 v.ownBlock) :
  (∃g c,v' = .slice (some ⟨g,0,none⟩) (n+1) c)/\(x1.heap[b]?=some (Obj.cells #[v] 319))/\cK (x1.setCell ⟨b,0,none⟩ v') b (b+1) v' (L++[x])/\Below b w (x1.setCell ⟨b,0,none⟩ v')/\bm 3 w (x1.setCell ⟨b,0,none⟩ v'):=by
 have p:(W.alloc o).grownBy x1 v.ownBlock:=⟨a.os,a.tape,a.output,a.size,a.block⟩;have u:=m.size;have s:=h.lt;have t:=h.later m;have h2:cF 302 (W.alloc o) (b+1) v L:=a0k t.2 _;have j:∀k,v.ownBlock=some k->b<k:=fun k e=>(a0y h2 k e).1;have f:x1.heap[b]?=some (Obj.cells #[v] 319):=by
  rw[p.block b (by simp;omega) (fun e=>by have:=j b e.symm;omega),a1i W o b (by omega)];exact t.1
 have i:Below b w x1:=(((m.mono (a0z s)).alloc (by omega) o)).grown p (by simp;omega) (fun k e=>a0z (j k e));have r:bm 3 w x1:=(y.alloc o).grown h2 (by decide) p;subst z;have d:=qU x l;obtain⟨va,vc,e⟩:=d.formN (n:=L.length+1) (by simp);obtain⟨g,q⟩:=(show cF 302 x1 (b+1) (.slice va (L.length+1) vc) (L++[x]) by rw[←e];exact d).somes (by simp);refine⟨⟨g,vc,by rw[e,q]⟩,f,⟨Ey f v',?_⟩,ah i (a0a _) _,r.set f (by decide) _⟩;exact a23 d (a0i _) _
theorem Ad(b n cap:Nat)(a:Option Addr)(L:List Grp)(x:Grp)(w:World)(Q:dM w (b+1) L)(G:am w (b+1) x.val x.syms)(E:L.length=n)(R:n<300)(h:cK w b (b+1) (.slice a n cap) L)(S:HP L) :
  Calls prog 222 #[.pointer (some ⟨b,0,none⟩),.agg #[.int .i64 x.cnt,.int .i64 x.fst,x.val]] w fun e w'=>e = .returned (.tuple #[])/\∃(M:List Grp) (g cap':Nat),M.Perm (L++[x])/\HP M/\cK w' b (b+1) (.slice (some ⟨g,0,none⟩) (n+1) cap') M/\Below b w w'/\bm 3 w w':=by
 obtain⟨i0,Z,H,I,J⟩:=a0o Tryz.infoGrp;have ac:(n:Int)<300:=by omega
 have aa:=h.lt;have c0:=h.cell;obtain⟨xa,xq,o⟩:=G.form;have U:=ae Q;have s:=ae (a0b E R);have K:=ae (a0b h S);have V:=ae (a0b G o);obtain⟨xc,xf,xs,xv⟩:=x;simp only at o;subst o;generalize ad:xs.length=xn at *
 have f:Hid (n+1<=maxLen/\(n+1)*40<=140737488355328):=by show _/\_;unfold maxLen;omega
 have Y:Hid (World.ownsRow ((w.alloc (.cells #[.int .i64 xc,.int .i64 xf,.slice xa xn xq] 302)).alloc (.cells #[.int .i64 xc,.int .i64 xf,.slice xa xn xq] 302)).drew (b+1) 302 3 (.slice a n cap) n (aP L)):=by
  have h2:=h.2;unfold cF at h2;rw[E]at h2;exact a0k (a0k h2 _) _
 have z:Hid (∀(j:Nat) (u:Value),[Value.int .i64 xc,.int .i64 xf,.slice xa xn xq][j]?=some u->World.cell? ((w.alloc (.cells #[.int .i64 xc,.int .i64 xf,.slice xa xn xq] 302)).alloc (.cells #[.int .i64 xc,.int .i64 xf,.slice xa xn xq] 302)).drew ((⟨w.heap.size+1,0,none⟩:Addr).add j)=some u):=qS _ _ _ _ _ _ (by simp);have A:Hid (b+1<=((w.alloc (.cells #[.int .i64 xc,.int .i64 xf,.slice xa xn xq] 302)).alloc (.cells #[.int .i64 xc,.int .i64 xf,.slice xa xn xq] 302)).drew.heap.size):=by show b+1<=((w.alloc (.cells #[.int .i64 xc,.int .i64 xf,.slice xa xn xq] 302)).alloc (.cells #[.int .i64 xc,.int .i64 xf,.slice xa xn xq] 302)).drew.heap.size;simp;omega
 clear Q E R h S G;go_enter func222,ntmps222;go_wp2_with fail
 go_region_law (refine aL rfl (.tmp 8) (.tmp 10) 317 rfl (b+1) 302 i0 (.agg #[.int .i64 0,.int .i64 0,.slice none 0 0]) 3 40 underlying317 Z H I J rfl (by decide) _ _ _ rfl (ab Y) ⟨w.heap.size+1,0,none⟩ 1 1 [.int .i64 xc,.int .i64 xf,.slice xa xn xq] rfl rfl (ab z) (qT _ _ _ _ _) (ab f).1 (ab f).2 (ab A) ?_;intro v' w' k c q;clear q;have O:=ae (Dw (x:=⟨xc,xf,xs,.slice xa xn xq⟩) (ab s).1 (ab K).1 ((a0c _ _).alloc (a0a _) _) ((bm.refl _ _).alloc _) k c);obtain⟨⟨g',v,F⟩,t,N⟩:=(ab O);subst F;clear k c O;have c1:=I5 t;have f1:=L3 t;have p:=ae N;clear N t)
 all_goals
  go_wp2_with fail;obtain⟨i,m,d⟩:=ab p;have l:=(d.syms (ab U)).snoc (g:=⟨xc,xf,xs,.slice xa xn xq⟩) (d.ints (ab V).1);have W:=ae (jc b (b+1) (n+1) v (some ⟨g',0,none⟩) _ _ i);have T:=ae (xO b g' (n+1) v n _ _ l (by rw[a0j,(ab s).1];rfl) (by have:=(ab s).2;omega) i (a0i _) (by have P:=Mq (ab K).2 ⟨xc,xf,xs,.slice xa xn xq⟩;rw[(ab s).1]at P;exact P));clear i m d l;refine(ab W).mono ?_;rintro e y1 ⟨rfl,r⟩;rw[r];clear r y1;go_wp2_with fail;refine(ab T).mono ?_;rintro e x3 ⟨rfl,M,X,y,C,B,D⟩;go_wp2
  go_end0
  obtain⟨i,m,d⟩:=ab p;exact⟨rfl,M,g',v,X,y,C,m.trans B,d.trans D.1⟩
theorem Mn(g n cap k:Nat)(d:k<=cap)(c:0<cap)(W:World):(Instr.slice 317 (.slice (some ⟨g,0,none⟩) n cap) none (some (.int .i64 (k:Int))) none).run prog W = .ok (.slice (some ⟨g,0,none⟩) k cap) W:=by
 have b:(k:Int)<=(cap:Int):=by omega
 have h2:¬ ((k:Int)<0):=by omega
 have a:(cap == 0)=false:=by simp;omega
 go_simp
theorem Lt{base cap:Nat}{l:List Grp}(b:l.length=n+1)(h:cF 302 w base (.slice (some ⟨g,0,none⟩) (n+1) cap) l):cF 302 w base (.slice (some ⟨g,0,none⟩) n cap) (l.take n):=by
 have e:aP l=aP (l.take n)++aP (l.drop n):=by rw[←kg,a1n]
 have a:(l.take n).length=n:=by rw[a0s];omega
 unfold cF at h ⊢;rw[b,e]at h;rw[a];exact ownsRow_pop (by rw[lA,a]) h
theorem qD{base size o m cap:Nat}{e:TypeId}{xs:List Value}(h:w.ownsRow base e size (.slice (some ⟨g,0,none⟩) n cap) m xs)(f:k≠g)(u:Value):(w.setCell ⟨k,o,none⟩ u).ownsRow base e size (.slice (some ⟨g,0,none⟩) n cap) m xs:=by
 refine⟨h.1,?_⟩;rcases h.2 with d|⟨g1,cap,a,e,b,c,rest⟩
 . exact .inl d
 . refine .inr ⟨g1,cap,a,e,b,?_,rest⟩;simp only[a0J,a0l,a0B,a0P]at e;rw[a0O w ⟨k,o,none⟩ u g1 (by show g1≠k;omega)];exact c
theorem cK.setOther{base o cap:Nat}{L:List Grp}(h:cK w b base (.slice (some ⟨g,0,none⟩) n cap) L)(hb:k≠b)(a:k≠g)(u:Value):cK (w.setCell ⟨k,o,none⟩ u) b base (.slice (some ⟨g,0,none⟩) n cap) L:=
 ⟨(a0O w ⟨k,o,none⟩ u b (fun e=>hb e.symm)).trans h.1,qD h.2 a u⟩
theorem rJ{x y z:Value}(h:w.heap[b]?=some (Obj.cells #[x,y,z] t)):Three w b x y z:=
 ⟨by simp[World.cell?,h],by simp[World.cell?,h],by simp[World.cell?,h],by simp[World.frozen?,h],by simp[World.frozen?,h],by simp[World.frozen?,h],(Array.getElem?_eq_some_iff.1 h).1⟩
theorem qk(w:World)(o:Obj):(w.alloc o).heap[w.heap.size]?=some o:=Array.getElem?_push_size
theorem Bz(b g N cap:Nat)(L:List Grp)(w:World)(T:dM w (b+1) L)(y:L.length=N+1)(hm:N<300)(h:cK w b (b+1) (.slice (some ⟨g,0,none⟩) (N+1) cap) L)(hp:HP L) :
  Calls prog 221 #[.pointer (some ⟨b,0,none⟩)] w fun e w'=>e = .returned (.agg #[.int .i64 (L.getD 0 g0).cnt,.int .i64 (L.getD 0 g0).fst,(L.getD 0 g0).val])/\∃M:List Grp,(L.getD 0 g0 :: M).Perm L/\HP M/\cK w' b (b+1) (.slice (some ⟨g,0,none⟩) N cap) M/\Below b w w'/\bm 3 w w':=by
 have a9:(N:Int)<300:=by omega
 have s:=h.lt;have l:=h.2.cap y;have HS:=ae T;have B:=ae (a0b y hm);have Q:=ae (a0b h hp);have i:Below w.heap.size w (w.alloc (.cells #[.int .i64 0,.int .i64 0,.slice none 0 0] 302)):=(a0c _ _).alloc (a0a _) _;have HZ:=ae (jc b (b+1) (N+1) cap (some ⟨g,0,none⟩) L _ (h.later i));have HW:=ae (mM b (b+1) (b+1) g (N+1) cap 0 N L _ ((bD.below (g:=g) i).syms T) y (by omega) (h.later i) (a0i _) (by omega) (by omega));have u:=ae i;clear T y h hp i;go_enter func221,ntmps221;go_wp2_with fail;refine(ab HZ).mono ?_;rintro e y1 ⟨rfl,O⟩;rw[O];clear O y1;go_wp2_with fail;refine(ab HW).mono ?_;rintro e x1 ⟨rfl,c,j,d⟩;have a8:=(a0y (ab Q).1.2 g rfl).2;have a:(cO L 0 N).length=N+1:=by rw[gg];exact(ab B).1
 obtain⟨c0,c1,c2,_,an⟩:=c.2.at a N (a0i _);rw[nt (by rw[(ab B).1];exact a0i _)]at c0 c1 c2;have hA:=ab HS (L.getD 0 g0) (fK L 0 (by rw[(ab B).1];exact Nat.succ_pos _));obtain⟨aa,ac,f⟩:=hA.form;rw[f]at c2;have a5:=c.cell;have a6:=c.frz;have ad:=c.lt;have a7:b≠g:=by have:=(a0y (ab Q).1.2 g rfl).1;omega
 have K:w.heap.size<x1.heap.size:=by have:=d.2.1;simp at this;omega
 have a4:=Mn g (N+1) cap N (by omega) (by omega);have al:(cap:Int)<=9223372036854775807:=by have:=l.2;unfold maxLen at this;omega
 have P:(N:Int)+1<=(cap:Int):=by have:=l.1;omega
 have m:x1.heap[w.heap.size]?=some (Obj.cells #[.int .i64 0,.int .i64 0,.slice none 0 0] 302):=by
  rw[d.2.2 w.heap.size (by simp) (by omega)];exact qk _ _
 have HX:=ae (a0b c (a0b j (a0b d (a0b a (a0b f m)))));clear c j d a l an hA m hm HZ HW;generalize D:(L.getD 0 g0).cnt=Ac at *
 generalize E:(L.getD 0 g0).fst=Af at *
 generalize F:(L.getD 0 g0).syms.length=An at *
 have R:=ae (a0b D (a0b E F));clear D E F f;go_wp2_with fail;have S:Hid (cK ((x1.setCell ⟨b,0,none⟩ (.slice (some ⟨g,0,none⟩) N cap)).alloc (.cells #[.int .i64 Ac,.int .i64 Af,.slice aa An ac] 302)) b (b+1) (.slice (some ⟨g,0,none⟩) N cap) ((cO L 0 N).take N) /\
   Below b w ((x1.setCell ⟨b,0,none⟩ (.slice (some ⟨g,0,none⟩) N cap)).alloc (.cells #[.int .i64 Ac,.int .i64 Af,.slice aa An ac] 302)) /\
   bm 3 w ((x1.setCell ⟨b,0,none⟩ (.slice (some ⟨g,0,none⟩) N cap)).alloc (.cells #[.int .i64 Ac,.int .i64 Af,.slice aa An ac] 302)) /\
   ((x1.setCell ⟨b,0,none⟩ (.slice (some ⟨g,0,none⟩) N cap)).alloc (.cells #[.int .i64 Ac,.int .i64 Af,.slice aa An ac] 302)).heap[w.heap.size]?=some (Obj.cells #[.int .i64 0,.int .i64 0,.slice none 0 0] 302) /\
   ((x1.setCell ⟨b,0,none⟩ (.slice (some ⟨g,0,none⟩) N cap)).alloc (.cells #[.int .i64 Ac,.int .i64 Af,.slice aa An ac] 302)).heap[x1.heap.size]?=some (Obj.cells #[.int .i64 Ac,.int .i64 Af,.slice aa An ac] 302)):=by
  obtain⟨c,j,d,a,f,m⟩:=ab HX;have t:(x1.setCell ⟨b,0,none⟩ (.slice (some ⟨g,0,none⟩) N cap)).heap.size=x1.heap.size:=by simp
  refine⟨⟨?_,?_⟩,?_,?_,?_,?_⟩
  . rw[a1i _ _ b (by rw[t];exact ad)];exact Ey c.1 _
  . exact a0k (a23 (Lt a c.2) (a0i _) _) _
  . exact(ah (((ab u).mono (a0z s)).trans j) (a0a _) _).alloc (by rw[t];omega) _
  . exact(((bm.below (ab u)).trans d.1).set c.1 (by decide) _).alloc _
  . rw[a1i _ _ w.heap.size (by rw[t];exact K),a0O _ _ _ _ (by show w.heap.size≠b;omega)];exact m
  . rw[←t];exact qk _ _
 generalize (x1.setCell ⟨b,0,none⟩ (.slice (some ⟨g,0,none⟩) N cap)).alloc (.cells #[.int .i64 Ac,.int .i64 Af,.slice aa An ac] 302)=Y at *
 have HK:Hid (Calls prog 235 #[.iface 299 (.pointer (some ⟨b,0,none⟩)),.int .i64 ((0:Nat):Int)] Y fun e w'=>e = .returned (.tuple #[])/\∃M:List Grp,M.Perm ((cO L 0 N).take N)/\HP M/\cK w' b (b+1) (.slice (some ⟨g,0,none⟩) N cap) M/\Below b Y w'/\bD g Y w'):=by
  obtain⟨z,A,n,p,q⟩:=ab S;obtain⟨y,hm⟩:=ab B;have a3:dM Y (b+1) ((cO L 0 N).take N):=fun x hx=>n.syms (ab HS) x ((ii (by omega) (by omega)).mem_iff.1 (a2d hx));exact xP b g N cap 0 _ Y a3 (by rw[a0s,gg];omega) (by omega) z (a0g _) (by have C:=NV (ab Q).2;rw[y]at C;exact C)
 refine(ab HK).mono ?_;rintro e x5 ⟨rfl,M,hM,G,J,H,r⟩;have HF:Hid (cK x5 b (b+1) (.slice (some ⟨g,0,none⟩) N cap) M/\Below b w x5/\bm 3 w x5/\x5.heap[w.heap.size]?=some (Obj.cells #[.int .i64 0,.int .i64 0,.slice none 0 0] 302)/\M.Perm ((cO L 0 N).take N)/\HP M):=by
  obtain⟨z,A,n,p,q⟩:=ab S;exact⟨J,A.trans H,n.trans r.1,(r.2.2 _ (dn p) (by omega)).trans p,hM,G⟩
 have U:Three x5 w.heap.size _ _ _:=rJ (ab HF).2.2.2.1;have V:Three x5 x1.heap.size (.int .i64 Ac) (.int .i64 Af) (.slice aa An ac):=by
  obtain⟨z,A,n,p,q⟩:=ab S;exact rJ ((r.2.2 _ (dn q) (by omega)).trans q)
 clear hM G J H r HK;obtain⟨p0,p1,p2,q0,q1,q2,a2⟩:=U;obtain⟨r0,r1,r2,s0,s1,s2,ba⟩:=V;go_wp2_with fail;obtain⟨c,j,d,a,f,m⟩:=ab HX;obtain⟨fh,fb,fk,fr,fM,fP⟩:=ab HF;obtain⟨eA,eF,eS⟩:=ab R;have X:=(((Three.set0 ⟨p0,p1,p2,q0,q1,q2,a2⟩ (.int .i64 Ac)).set1 (.int .i64 Af)).set2 (.slice aa An ac));have W:=((((Touch.refl (some ⟨w.heap.size,0,none⟩) x5).set (o:=0) rfl (.int .i64 Ac)).set (o:=1) rfl (.int .i64 Af)).set (o:=2) rfl (.slice aa An ac));have I:=ah (ah (ah fb (b:=w.heap.size) (o:=0) (a0z s) (.int .i64 Ac)) (b:=w.heap.size) (o:=1) (a0z s) (.int .i64 Af)) (b:=w.heap.size) (o:=2) (a0z s) (.slice aa An ac);have a1:=fk.trans (bm.touch fr (by decide) W);have a0:=((fh.setOther (k:=w.heap.size) (o:=0) (by omega) (by omega) (.int .i64 Ac)).setOther (k:=w.heap.size) (o:=1) (by omega) (by omega) (.int .i64 Af)).setOther (k:=w.heap.size) (o:=2) (by omega) (by omega) (.slice aa An ac);generalize ((x5.setCell ⟨w.heap.size,0,none⟩ (.int .i64 Ac)).setCell ⟨w.heap.size,1,none⟩ (.int .i64 Af)).setCell ⟨w.heap.size,2,none⟩ (.slice aa An ac)=Z at *
 obtain⟨t0,t1,t2,_,_,_,_⟩:=X;refine a0F (v:=.agg #[.int .i64 Ac,.int .i64 Af,.slice aa An ac]) (by simp[results,results221,go_sem,t0,t1,t2]) rfl ⟨?_,M,?_,fP,a0,I,a1⟩
 . rw[eA,eF,f]
 . have y:=(ab B).1;have C:=Jc (L:=L) (by omega);rw[y]at C;exact(fM.cons _).trans C
theorem oC(l:List Int)(k:Nat):(ay l k).length<=k:=by
 induction k with
 | zero=>simp[ay]
 | succ k ih=>
  simp only[ay]
  split
  . simp;omega
  . omega
theorem vB(a:Option Addr)(cap n:Nat)(l:List Int)(w:World)(K:l.length=n)(h:aZ w a l)(J:n<=300) :
  Calls prog 219 #[.slice a n cap] w fun e w'=>e = .returned (.pointer (some ⟨w.heap.size,0,none⟩))/\∃(L:List Grp) (va:Option Addr) (vc:Nat),cK w' w.heap.size (w.heap.size+1) (.slice va L.length vc) L/\HP L/\(L.map bare).Perm (ay l n)/\dM w' (w.heap.size+1) L/\Below w.heap.size w w':=by
 have S:(n:Int)<=300:=by omega
 have A:=ae (a0b K J);have s:Below w.heap.size w (w.alloc (.cells #[.slice none 0 0] 319)):=(a0c _ _).alloc (a0a _) _;have t:cK (w.alloc (.cells #[.slice none 0 0] 319)) w.heap.size (w.heap.size+1) (.slice none 0 0) []:=⟨qk _ _,a00 _ _ _ _⟩;clear K J;go_enter func219,ntmps219;go_wp2_with fail
 go_loopw [4,5,10] (fun _ _ i wr=>∃(k:Nat) (L:List Grp) (va:Option Addr) (vc:Nat),k<=n/\i = .int .i64 k/\cK wr w.heap.size (w.heap.size+1) (.slice va L.length vc) L/\HP L/\(L.map bare).Perm (ay l k)/\dM wr (w.heap.size+1) L/\Below w.heap.size w wr) (fun _ _ i _=>n-(intOf i).toNat)
 case atStart=>exact⟨0,[],none,0,a0g _,rfl,t,fun i _ R=>by simp at R,a2l _,Bw _ _,s⟩
 case round=>
  obtain⟨k,L,va,vc,v,rfl,d,p,j,m,b⟩:=hrel;clear s t;by_cases H:k<n
  .
   obtain⟨g,o,rfl,T,u⟩:=(h.later b) (by rw[(ab A).1];omega);have c0:=u k (by rw[(ab A).1];exact H);have c:L.length<300:=by
    have Q:=j.length_eq;rw[a0K]at Q;have h2:=oC l k;have:=(ab A).2;omega
   have I:=ae (a0b v (a0b d (a0b p (a0b j (a0b m b)))));clear u;by_cases N:0<l.getD k 0
   .
    have q:=ae (uK N);generalize l.getD k 0=y at *
    have f:Below wr.heap.size wr (wr.alloc (.cells #[.int .i64 (k:Int)] 3)):=(a0c _ _).alloc (a0a _) _;have B:am (wr.alloc (.cells #[.int .i64 (k:Int)] 3)) (w.heap.size+1) (.slice (some ⟨wr.heap.size,0,none⟩) 1 1) [(k:Int)]:=am.one wr _ d.lt _;have z:=ae (Ad w.heap.size L.length vc va L ⟨y,(k:Int),[(k:Int)],.slice (some ⟨wr.heap.size,0,none⟩) 1 1⟩ _ ((bm.below f).syms m) B rfl c (d.later f) p);have r:=ae f;have O:=ae B;clear v d p j m b B f c;go_wp2_with fail;refine(ab z).mono ?_;rintro e x1 ⟨rfl,M,g',P,D,C,F,E,x⟩;go_wp2;go_roundw
    case rel=>
     obtain⟨v,d,p,j,m,b⟩:=ab I;have G:M.length=L.length+1:=by rw[D.length_eq];simp
     refine⟨k+1,M,some ⟨g',0,none⟩,P,by omega,by go_num,by rw[G];exact F,C,?_,?_,(b.trans ((ab r).mono (a0z d.lt))).trans E⟩
     . rw[ab q];refine(D.map bare).trans ?_;rw[a0I];exact j.append_right _
     . exact((x.syms ((bm.below (ab r)).syms m)).snoc (x.ints (ab O))).perm D
    case measure=>simp[intOf];omega
   .
    have q:=ae (Fi N);generalize l.getD k 0=y at *
    clear v d p j m b c;go_wp2;go_roundw
    case rel=>
     obtain⟨v,d,p,j,m,b⟩:=ab I;exact⟨k+1,L,va,vc,by omega,by go_num,d,p,by rw[ab q];exact j,m,b⟩
    case measure=>simp[intOf];omega
  .
   obtain rfl:k=n:=by omega
   clear h;go_wp2;go_ret;exact⟨rfl,L,va,vc,d,p,j,m,b⟩
theorem JI{L M1 M2:List Grp}(E:∀i,i<l.length->0<=l.getD i 0/\l.getD i 0<=100000)(M:l.length<=300)(t:j<(ay l l.length).length∨j=0)(A:(L.map bare).Perm (ax l j).1)(F:HP L)(h2:1<L.length)(y:(L.getD 0 g0 :: M1).Perm L)(u:HP M1)(q:(M1.getD 0 g0 :: M2).Perm M1) :
  bh (ax l j).1=(L.getD 0 g0).syms++(M1.getD 0 g0).syms /\
  (∀(M3:List Grp) (v:Value),M3.Perm (M2++[⟨(L.getD 0 g0).cnt+(M1.getD 0 g0).cnt,if (M1.getD 0 g0).fst<(L.getD 0 g0).fst then(M1.getD 0 g0).fst else(L.getD 0 g0).fst,(L.getD 0 g0).syms++(M1.getD 0 g0).syms,v⟩])->(M3.map bare).Perm (ax l (j+1)).1) /\
  0<=(L.getD 0 g0).cnt/\0<=(M1.getD 0 g0).cnt/\(L.getD 0 g0).cnt+(M1.getD 0 g0).cnt<=30000000 /\
  ((L.getD 0 g0).syms++(M1.getD 0 g0).syms).length<=300/\0<(L.getD 0 g0).syms.length/\0<(M1.getD 0 g0).syms.length/\(∀x∈(L.getD 0 g0).syms++(M1.getD 0 g0).syms,0<=x/\x<(l.length:Int)):=by
 have B:M1.length+1=L.length:=by have:=y.length_eq;simpa using this
 obtain⟨d,J,K,C⟩:=cb l j t;have D:(ax l j).1.length=L.length:=by rw[←A.length_eq,a0K]
 have m:=(gW l j t).1;have h:=JN l j t;have o:∀g∈L,aW g (L.getD 0 g0)=false:=by
  intro g k;obtain⟨i,b,rfl⟩:=a1z k;have:=JK F i b;have e:L.getD i g0=L[i]:=by simp[List.getD,b]
  rw[e]at this;exact this
 have c:∀g∈M1,aW g (M1.getD 0 g0)=false:=by
  intro g k;obtain⟨i,b,rfl⟩:=a1z k;have:=JK u i b;have e:M1.getD i g0=M1[i]:=by simp[List.getD,b]
  rw[e]at this;exact this
 obtain⟨e1,I⟩:=wM A y.symm o (by omega) m h;have s:rj (ap (ax l j).1):=fun g k=>h g (bg _ g k);obtain⟨e2,p2⟩:=wM I q.symm c (by omega) (Gc (by omega) m) s;have a:=yC d (by omega:1<(ax l j).1.length);have p:=d _ (bv (ax l j).1 (by omega));have G:=di (ax l j).1 (by omega);have hb:=d _ (bg _ _ (bv (ap (ax l j).1) (by omega)));have H:=kK l 100000 (by omega) (fun i b=>(E i b).2) l.length (a0a _);have n:bh (ax l j).1=(L.getD 0 g0).syms++(M1.getD 0 g0).syms:=by
  unfold bh;rw[←e1,←e2];rfl
 rw[←e1]at p a;rw[←e2]at hb a;refine⟨n,?_,p.1,hb.1,?_,?_,p.2.2.2.2,hb.2.2.2.2,?_⟩
 . intro M3 v r;have z:=r.map bare;rw[a0I]at z;refine z.trans ?_;show List.Perm _ (stepG (ax l j).1);unfold stepG;rw[←e1,←e2];exact p2.append_right _
 . have w:=a.1;have:(bare (L.getD 0 g0)).cnt=(L.getD 0 g0).cnt:=rfl;have:(bare (M1.getD 0 g0)).cnt=(M1.getD 0 g0).cnt:=rfl;omega
 . have w:=a.2;rw[n]at w;omega
 .
  intro x f;simp only[a0T]at f;rcases f with f|f
  . exact p.2.2.2.1 x f
  . exact hb.2.2.2.1 x f
def iY(l:List Int):Int:=if decide (l.length<=300)&&inC l then(us l:Nat)else -1
theorem Is(h:300<l.length):iY l = -1:=by
 unfold iY;rw[a0h (by omega)];rfl
theorem It(h:inC l=false):iY l = -1:=by
 unfold iY;rw[h];simp
theorem nv(h:l.length<=300)(h2:inC l=true):iY l=(us l:Nat):=by
 unfold iY;rw[a0v h,h2];rfl
theorem lY(a:Option Addr)(cap n:Nat)(l:List Int)(w:World)(E:l.length=n)(h:aZ w a l)(C:n<=1048576) :
  Calls prog 187 #[.slice a n cap] w fun e w'=>e = .returned (.int .i64 (iY l))/\w'=w:=by
 subst E;have D:(l.length:Int)<=1048576:=by omega
 clear C;by_cases H:(l.length:Int)<=300
 .
  go_enter func187,ntmps187;go_wp2_with fail
  go_loop [3,5,11] (fun n _ i=>∃k:Nat,k<=l.length/\i = .int .i64 k/\n = .int .i64 (us (l.take k):Nat)/\inC (l.take k)=true) (fun _ _ i=>l.length-(intOf i).toNat)
  case atStart=>exact⟨0,a0g _,rfl,rfl,rfl⟩
  case round=>
   obtain⟨k,B,rfl,rfl,j⟩:=hrel;have x:=ae j;clear j;by_cases d:k<l.length
   .
    obtain⟨g,o,rfl,I,z⟩:=h (by omega);have c0:=z k d;have p:=ae (pM l k d);have hit:=ae (JO l k d);have s:=ae (fun hb=>Mw (l:=l) (k:=k) d hb);have t:=rP (l.take k);have A:(us (l.take k):Int)<=300:=by
     have:(l.take k).length<=l.length:=by simp;omega
     omega
    clear z B h t;generalize l.getD k 0=y at *
    generalize us (l.take k)=u at *
    by_cases hb:0<=y/\y<=100000
    .
     obtain⟨q,r⟩:=hb;have b:Hid (inC (l.take (k+1))=true):=by
      show _=true;rw[ab hit,ab x,aB.2 ⟨q,r⟩];rfl
     by_cases v:0<y
     .
      have c:Hid (us (l.take (k+1))=u+1):=by have:=ab p;rw[a0e v]at this;exact this
      go_wp2
      go_round
      case rel=>exact⟨k+1,by omega,by go_num,by rw[ab c];go_num,ab b⟩
      case measure=>simp[intOf];omega
     .
      have c:Hid (us (l.take (k+1))=u):=by have:=ab p;rw[a0d v]at this;exact this
      go_wp2
      go_round
      case rel=>exact⟨k+1,by omega,by go_num,by rw[ab c],ab b⟩
      case measure=>simp[intOf];omega
    .
     have f:Hid (iY l = -1):=It (ab s (by
      cases F:inB y 0 100000
      . rfl
      . exact absurd (aB.1 F) hb))
     by_cases v:y<0
     . go_wp2;go_ret;exact⟨aH (ab f).symm,rfl⟩
     .
      have G:¬ y<=100000:=by omega
      go_wp2;go_ret;exact⟨aH (ab f).symm,rfl⟩
   .
    have m:Hid (l.take k=l):=a0u (by omega);have b:Hid (inC l=true):=by show inC l=true;rw[←ab m];exact ab x
    clear h;go_wp2;go_ret;exact⟨aH (by rw[nv (by omega) (ab b),ab m]),rfl⟩
 . have f:=ae (Is (l:=l) (by omega));go_enter func187,ntmps187;clear h;go_wp2;go_ret;exact⟨aH (ab f).symm,rfl⟩
def hH(x:Int):Int:=if x<=1 then x else 1
theorem Aj(x:Int)(w:World)(a : -1000000<=x)(b:x<=1000000) :
  Calls prog 189 #[.int .i64 x] w fun e w'=>e = .returned (.int .i64 (hH x))/\w'=w:=by
 by_cases h:x<=1
 .
  have e:Hid (hH x=x):=by show hH x=x;simp[hH,h]
  go_enter func189,ntmps189;go_wp2;go_ret;exact⟨aH (ab e).symm,rfl⟩
 .
  have e:Hid (hH x=1):=by show hH x=1;simp[hH,h]
  go_enter func189,ntmps189;go_wp2;go_ret;exact⟨aH (ab e).symm,rfl⟩
theorem zp(a:Option Addr)(cap n:Nat)(l:List Int)(w:World)(H:l.length=n)(h:aZ w a l)(G:n<=1048576)(E:okC l) :
  Calls prog 188 #[.slice a n cap,.func (.func 189) #[] #[]] w fun e w'=>∃v,e = .returned v/\am w' w.heap.size v (l.map hH)/\Below w.heap.size w w':=by
 have M:(n:Int)<=1048576:=by omega
 have p:=ae H;have K:=ae G;have I:=ae E;clear H G E;obtain⟨i0,L,B,C,D⟩:=a0o Tryz.infoInt;go_enter func188,ntmps188;go_wp2_with fail
 go_loopw [5,7,10] (fun o _ i wr=>∃k:Nat,k<=n/\i = .int .i64 k/\am wr w.heap.size o ((l.take k).map hH)/\Below w.heap.size w wr) (fun _ _ i _=>n-(intOf i).toNat)
 case atStart=>exact⟨0,a0g _,rfl,a00 _ _ _ _,a0c _ _⟩
 case round=>
  obtain⟨k,F,rfl,hq,b⟩:=hrel;have q:=b.size;by_cases m:k<n
  .
   obtain⟨g,o,rfl,N,r⟩:=(h.later b) (by rw[ab p];omega);have c0:=r k (by rw[ab p];exact m);obtain⟨y0,y1⟩:=ab I k (by rw[ab p];exact m);have A:Hid ((l.take (k+1)).map hH=(l.take k).map hH++[hH (l.getD k 0)]):=by
    show _=_;rw[ci l k (by rw[ab p];exact m),a0I];rfl
   have z:Hid (((l.take k).map hH).length=k):=by show _=k;have:=ab p;simp;omega
   have J:=ae F;clear r F h;generalize l.getD k 0=y at *
   have HP:=ae (Aj y wr (by omega) (by omega));generalize hH y=R at *
   go_wp2_with fail;refine(ab HP).mono ?_;rintro e x1 ⟨rfl,u⟩;rw[u];clear u x1;have d:Hid (((l.take k).map hH).length+1<=maxLen/\(((l.take k).map hH).length+1)*8<=140737488355328):=by
    show _/\_;rw[ab z];have:=ab K;unfold maxLen;omega
   clear HP;go_wp2_with (at_builtin;refine a0r _ rfl _ _ 137 rfl w.heap.size 3 i0 (.int .i64 0) 1 8 a0C L B C D rfl (by decide) _ _ _ rfl (a0k hq _) ⟨wr.heap.size,0,none⟩ 1 1 [.int .i64 R] rfl rfl (bE _ _ rfl _ _) (eO _) (ab d).1 (ab d).2 (ao q _) ?_;intro v' x2 j c s;clear s);have x:=aC (v:=u5) c hq (a0a _) q b;have t:=nc j;rw[←ab A]at t;clear j c hq;go_wp2;go_roundw
   case rel=>exact⟨k+1,by have:=ab J;omega,by go_num,t,x⟩
   case measure=>simp[intOf];omega
  . have f:l.take k=l:=a0u (by rw[ab p];omega);rw[f]at hq;obtain⟨va,vc,rfl⟩:=hq.form;clear f h;go_wp2;go_ret;exact⟨_,rfl,hq,b⟩
end Go.Proofs.YtchidddpplangaaGreatDoor
