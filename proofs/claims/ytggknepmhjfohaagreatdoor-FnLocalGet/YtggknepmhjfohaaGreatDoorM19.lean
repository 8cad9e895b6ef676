/- Of what the proof is made: 16 texts, one behind the other. -/
import Derived.Test.YtggknepmhjfohaaGreatDoorM15
import Derived.Test.YtggknepmhjfohaaGreatDoorRb1
import Derived.Test.YtggknepmhjfohaaGreatDoorM8
import Derived.BigRegion
import Derived.Test.YtggknepmhjfohaaGreatDoorM2
set_option maxRecDepth 100000
set_option linter.unusedSimpArgs false
set_option linter.unusedVariables false
set_option maxHeartbeats 6400000
namespace Go.Proofs.YtggknepmhjfohaaGreatDoor
open Go.Proofs.Tryz
open Go.RowKit
variable {b c g i j k n ob:Nat}{l:List Int}{t:TypeId}{v:Value}{w w':World}
def sliceLen:Value->Nat
 | .slice _ n _=>n
 | _=>0
theorem tJ(h:0<l.getD k 0):az l (k+1)=az l k++[⟨l.getD k 0,(k:Int),[(k:Int)],.slice none 0 0⟩]:=by simp only[az];rw[a0d h]
theorem Dw(h:¬ 0<l.getD k 0):az l (k+1)=az l k:=by simp only[az];rw[a0e h]
theorem qh(w:World)(x y z:Value)(t:TypeId)(g:Nat)(b:w.heap.size=g):∀(j:Nat) (u:Value),[x,y,z][j]?=some u->(w.alloc (.cells #[x,y,z] t)).cell? ((⟨g,0,none⟩:Addr).add j)=some u:=by
 subst b;intro j u a
 match j,a with
 | 0,a=>simp at a;subst a;simp[Addr.add]
 | 1,a=>simp at a;subst a;simp[Addr.add]
 | 2,a=>simp at a;subst a;simp[Addr.add]
theorem qi(x y:Int)(a:Option Addr)(n c:Nat):∀u∈[Value.int .i64 x,Value.int .i64 y,Value.slice a n c],u.oneCell'=true:=by
 intro u b;simp at b;rcases b with rfl|rfl|rfl<;>rfl
theorem qk{x:World}{base:Nat}{l:List Grp}(g:Grp)(h:x.ownsRow base t 3 v (l.length+1) (aM l++[.int .i64 g.cnt,.int .i64 g.fst,g.val])):cJ t x base v (l++[g]):=by
 show World.ownsRow _ _ _ _ _ (l++[g]).length _;rw[jK];simpa[aM]using h
theorem ak.one(w:World)(base:Nat)(hb:base<=w.heap.size)(x:Int):ak (w.alloc (.cells #[.int .i64 x] 3)) base (.slice (some ⟨w.heap.size,0,none⟩) 1 1) [x]:=
 a04 w #[.int .i64 x] 1 hb (by unfold maxLen;omega) rfl
theorem zL(w:World)(ob:Nat):dE w ob []:=fun g a=>by simp at a
theorem dE.snoc{l:List Grp}{g:Grp}(h:dE w ob l)(b:ak w ob g.val g.syms):dE w ob (l++[g]):=by
 intro x a;simp only[a0X,a02]at a;rcases a with a|rfl
 . exact h x a
 . exact b
theorem dE.grown{base:Nat}{l m:List Grp}(h:dE w ob l)(c:cJ t w base v m)(d:3≠t)(b:w.grownBy w' v.ownBlock):dE w' ob l:=
 fun g a=>a12 (h g a) b (tW (h g a) c d)
theorem kH{base:Nat}{u:Value}{m:List Grp}(h:ak w ob u l)(b:cJ t w base v m)(c:3≠t)(a:w.grownBy w' v.ownBlock):ak w' ob u l:=
 a12 h a (tW h b c)
theorem oU(w:World)(x y z:Value)(t:TypeId):Three (w.alloc (.cells #[x,y,z] t)) w.heap.size x y z:=⟨by simp,by simp,by simp,by simp,by simp,by simp,by simp⟩
theorem Three.later{v0 v1 v2:Value}(h:Three w b v0 v1 v2)(hb:Below w.heap.size w w'):Three w' b v0 v1 v2:=h.kept (hb.mono h.2.2.2.2.2.2)
theorem cJ.mono{base base':Nat}{l:List Grp}(h:cJ t w base v l)(hb:base'<=base):cJ t w base' v l:=
 ⟨h.1,h.2.imp id fun⟨g,c,u,e,a,r⟩=>⟨g,c,u,e,a0z hb a,r⟩⟩
theorem dE.sub{l m:List Grp}(h:dE w ob l)(b:∀g∈m,g∈l):dE w ob m:=fun g a=>h g (b g a)
theorem mT{a:Option Addr}{base size:Nat}{e:TypeId}{xs:List Value}(h:w.ownsRow base e size v n xs)(j:Touch a w w')(f:∀g,a=some ⟨g,0,none⟩->g<base):w'.ownsRow base e size v n xs:=by
 refine⟨h.1,?_⟩;rcases h.2 with i|⟨g,cap,b,rfl,c,d,rest⟩
 . exact .inl i
 . refine .inr ⟨g,cap,b,rfl,c,?_,rest⟩;rw[j.2 g (fun g' e=>by have:=f g' e;omega)];exact d
theorem gP{p:Addr}(a:Touch (some ⟨b,0,none⟩) w w')(c:p.block≠b):w'.cell? p=w.cell? p:=
 World.cell?_of_block (a.2 p.block (fun g e=>by simp only[a0i,a0A,a0V]at e;omega))
theorem jc(b B:Nat)(h:b<B):∀g,(some ⟨b,0,none⟩:Option Addr)=some ⟨g,0,none⟩->g<B:=by
 intro g e;simp only[a0i,a0A,a0V]at e;omega
theorem sJ(a:Option Addr)(cap n:Nat)(l:List Int)(w:World)(hn:l.length=n)(h:bp w a l)(hm:n<=300)(hc:∀i,i<l.length->0<=l.getD i 0/\l.getD i 0<=100000) :
  Calls prog 180 #[.slice a n cap] w fun e w'=>e = .returned (.slice (some ⟨w.heap.size,0,none⟩) n n)/\ak w' w.heap.size (.slice (some ⟨w.heap.size,0,none⟩) n n) (bQ l)/\Below w.heap.size w w':=by
 have o8:(n:Int)<=300:=by omega
 obtain⟨i0,hi,hr,hu,hz⟩:=a0t Tryz.infoInt;obtain⟨j0,hj,hl,l2,l3⟩:=a0t Tryz.infoTree;have HN:=af hn;have HC:=af hc;have HM:=af hm;clear hc;go_enter func180,ntmps180;go_wp2_with (at_make;refine a1y _ rfl _ _ 56 rfl w.heap.size 3 i0 (.int .i64 0) 1 a0D hi hr hu .i64 .i64 _ _ n rfl rfl rfl rfl (by rw[hz];omega) (by unfold maxLen;omega) (a0a _) ?_;intro w1 al m);have k4:ak (w1.alloc (.cells #[] 250)) w.heap.size (.slice (some ⟨w.heap.size,0,none⟩) n n) (List.replicate l.length 0):=by
  rw[hn];exact(cZ al).later ((a0c w1.heap.size w1).alloc (a0a _) _) (a0a _)
 have ky:w.heap.size+1<=w1.heap.size:=(cZ al).below.2;have j3:Below w.heap.size w (w1.alloc (.cells #[] 250)):=((a0c _ _).grown m (a0a _) (fun k h=>by cases h)).alloc (by omega) _;have lf:cJ 250 (w1.alloc (.cells #[] 250)) (w.heap.size+1) (.slice (some ⟨w1.heap.size,0,none⟩) 0 0) []:=a04 w1 #[] 0 ky (by unfold maxLen;omega) rfl;clear al m hn hm
 go_loopw [4,5] (fun v i wr=>∃(k:Nat) (L:List Grp),k<=n/\i = .int .i64 k/\L.map bare=az l k/\cJ 250 wr (w.heap.size+1) v L/\dE wr (w.heap.size+1) L/\ak wr w.heap.size (.slice (some ⟨w.heap.size,0,none⟩) n n) (List.replicate l.length 0)/\Below w.heap.size w wr) (fun _ i _=>n-(intOf i).toNat)
 case atStart=>exact⟨0,[],a0g _,rfl,rfl,lf,zL _ _,k4,j3⟩
 case round=>
  obtain⟨k,L,hk,rfl,hL,ht,hs,hp,J⟩:=hrel;clear k4 j3 lf;have HL:=af hL;have m6:w.heap.size+1<=wr.heap.size:=hp.below.2;clear hL;by_cases ns:k<n
  .
   obtain⟨g,o,rfl,hg,ka⟩:=(h.later J) (by rw[ae HN];omega);have c0:=ka k (by rw[ae HN];exact ns);have HK:=af hk;have no:L.length<=300:=by
    have h1:(L.map bare).length=(az l k).length:=by rw[ae HL]
    have h2:=(j9 l 100000 (by omega) (fun i hi=>(ae HC i hi).2) k (by rw[ae HN];omega)).2.2;rw[a0N]at h1;have:=ae HM;omega
   clear ka hk;by_cases hy:0<l.getD k 0
   .
    have ei:=af (tJ hy);generalize l.getD k 0=y at *
    have hA:ak (wr.alloc (.cells #[.int .i64 (k:Int)] 3)) (w.heap.size+1) (.slice (some ⟨wr.heap.size,0,none⟩) 1 1) [(k:Int)]:=ak.one wr _ m6 _;have Z:Below wr.heap.size wr (wr.alloc (.cells #[.int .i64 (k:Int)] 3)):=(a0c _ _).alloc (a0a _) _;have K:(wr.alloc (.cells #[.int .i64 (k:Int)] 3)).heap.size=wr.heap.size+1:=by simp
    have I:=ht.later Z (a0a _);have H:=hs.later Z (a0a _);have G:=hp.later Z (a0a _);have T:=ap J ((a0c wr.heap.size wr).alloc (a0a _) (.cells #[.int .i64 (k:Int)] 3));have HX:=af (a0b hA (a0b I (a0b H (a0b G (a0b T K)))));have V:Hid (L.length+1<=maxLen/\(L.length+1)*40<=140737488355328):=by show _/\_;unfold maxLen;omega
    clear hA Z I H G T ht hs hp J K;go_wp2_with (at_builtin;refine a0x _ rfl _ _ 248 rfl (w.heap.size+1) 250 j0 (.agg #[.int .i64 0,.int .i64 0,.slice none 0 0]) 3 40 a3B hj hl l2 l3 rfl (by decide) _ _ _ rfl (a0r (ae HX).2.1 _) ⟨wr.heap.size+1,0,none⟩ 1 1 [.int .i64 y,.int .i64 (k:Int),.slice (some ⟨wr.heap.size,0,none⟩) 1 1] rfl rfl (qh _ _ _ _ _ _ (ae HX).2.2.2.2.2) (qi _ _ _ _ _) (ae V).1 (ae V).2 (ax (by rw[(ae HX).2.2.2.2.2];omega) _) ?_;intro v' x3 al m k2;clear k2);obtain⟨hA,I,H,G,T,K⟩:=ae HX;have e1:∀{B:Nat} {o:Obj},B=wr.heap.size+1->Below B (wr.alloc (.cells #[.int .i64 (k:Int)] 3)) ((wr.alloc (.cells #[.int .i64 (k:Int)] 3)).alloc o):=fun{B} {o} e=>(a0c _ _).alloc (by rw[K];omega) _;have Y:cJ 250 ((wr.alloc (.cells #[.int .i64 (k:Int)] 3)).alloc (.cells #[.int .i64 y,.int .i64 (k:Int),.slice (some ⟨wr.heap.size,0,none⟩) 1 1] 250)) (w.heap.size+1) u4 L:=a0r I _;have ab:=(H.later (e1 rfl) (by rw[K];exact a0a _)).grown Y (by decide) m;have a6:=kH (hA.later (e1 rfl) (by rw[K];exact a0a _)) Y (by decide) m;have ao:=kH (G.later (e1 rfl) (by rw[K];exact a0a _)) Y (by decide) m;have an:Below w.heap.size w x3:=aG (v:=u4) m I (by omega) (by rw[K];omega) T;have bd:=qk ⟨y,(k:Int),[(k:Int)],.slice (some ⟨wr.heap.size,0,none⟩) 1 1⟩ al;have ca:=ab.snoc (g:=⟨y,(k:Int),[(k:Int)],.slice (some ⟨wr.heap.size,0,none⟩) 1 1⟩) a6;clear al m HX hA I H G T e1 Y ab a6;go_wp2;go_roundw
    case rel=>exact⟨k+1,L++[⟨y,(k:Int),[(k:Int)],.slice (some ⟨wr.heap.size,0,none⟩) 1 1⟩],by omega,by go_num,by rw[ae ei,a0I,ae HL];rfl,bd,ca,ao,an⟩
    case measure=>simp[intOf];omega
   .
    have ei:=af (Dw hy);generalize l.getD k 0=y at *
    go_wp2;go_roundw
    case rel=>exact⟨k+1,L,by omega,by go_num,by rw[ae ei];exact ae HL,ht,hs,hp,J⟩
    case measure=>simp[intOf];omega
  .
   obtain rfl:k=n:=by omega
   have a3:Hid (L.map bare=az l l.length):=by show L.map bare=az l l.length;rw[ae HN];exact ae HL
   have hU:Hid (L.length=(az l l.length).length):=by show L.length=(az l l.length).length;rw[←ae a3,a0N]
   have j1:L.length<=300:=by
    have h2:=(j9 l 100000 (by omega) (fun i hi=>(ae HC i hi).2) l.length (a0a _)).2.2;have:=ae hU;have:=ae HM;have:=ae HN;omega
   have l1:=af (Dx l l.length (a0a _));obtain⟨va,vc,rfl⟩:=ht.form;clear h;by_cases d5:L.length=1
   .
    obtain⟨g,rfl⟩:=ht.somes (by omega);obtain⟨_,c1,_,_,_⟩:=ht.at rfl 0 (by omega);have n0:=ae l1 ((az l l.length).getD 0 g0) (fy _ 0 (by have:=ae hU;omega));have e4:(L.getD 0 g0).fst=((az l l.length).getD 0 g0).fst:=by rw[←ae a3,mu];rfl
    obtain⟨_,f0,f1,_,_⟩:=n0;rw[←e4,ae HN]at f1;rw[←e4]at f0;have ed:Hid (bQ l=(List.replicate l.length 0).set (L.getD 0 g0).fst.toNat 1):=by
     show bQ l=_;unfold bQ;rw[a0d (by rw[←ae hU];exact d5),e4]
    generalize (L.getD 0 g0).fst=f at *
    obtain⟨q,rfl⟩:=a0n f0;rw[a0p]at ed;have b7:(List.replicate l.length (0:Int)).length=k:=by simp[ae HN]
    obtain⟨d0,e0,_,_⟩:=hp.at (j:=q) b7 (by omega);have C:=hp.put (j:=q) b7 1;have d2:=ah J (b:=w.heap.size) (o:=q) (a0a _) (.int .i64 1);rw[←ae ed]at C;have HP:=af C;have HB:=af d2;have o5:wr.cell? ⟨g,1,none⟩=some (.int .i64 (q:Int)):=by simpa using c1
    clear C d2 b7 ed J hp hs ht c1 e4;rw[d5];generalize (List.replicate l.length (0:Int)).getD q 0=y at *
    go_wp2_with fail
    go_loopw [4,6,7,8,9,10,11] (fun v _ _ _ _ _ _ wq=>v = .slice (some ⟨g,0,none⟩) 1 vc/\wq=wr.setCell ⟨w.heap.size,q,none⟩ (.int .i64 1)) (fun _ _ _ _ _ _ _ _=>0)
    case atStart=>exact⟨rfl,rfl⟩
    case round=>
     obtain⟨rfl,hw⟩:=hrel;subst hw;go_wp2;go_ret;exact⟨rfl,ae HP,ae HB⟩
   .
    have n2:((L.length:Int) == 1)=false:=by rw[a1p];omega
    have kc:Hid (∀k,(az l l.length).length-k<=1->(k<(az l l.length).length∨k=0)->bQ l=(ay l k).2):=by
     intro k h1 h2;unfold bQ;have:=ae hU;rw[a0e (by omega)]
     congr 2;omega
    have i4:=af j1;clear j1;have k3:ak wr w.heap.size (.slice (some ⟨w.heap.size,0,none⟩) k k) (ay l 0).2:=hp;have jx:L.map bare=(ay l 0).1:=ae a3;generalize j2:(az l l.length).length=U at *
    have ey:=af j2;clear j2 l1 a3 HL hp;go_wp2_with fail
    go_loopw [4,6,7,8,9,10,11] (fun v _ _ _ _ _ _ wq=>∃(j:Nat) (M:List Grp),(j<U∨j=0)/\M.map bare=(ay l j).1/\cJ 250 wq (w.heap.size+1) v M/\dE wq (w.heap.size+1) M/\ak wq w.heap.size (.slice (some ⟨w.heap.size,0,none⟩) k k) (ay l j).2/\Below w.heap.size w wq) (fun v _ _ _ _ _ _ _=>sliceLen v)
    case atStart=>exact⟨0,L,.inr rfl,jx,ht,hs,k3,J⟩
    case round=>
     obtain⟨j,M,hj,hM,a5,cy,a9,cv⟩:=hrel;clear ht hs k3 J jx n2 d5;have fl:=bZ l j (by rw[ae ey];exact hj);rw[←hM,ae ey]at fl;obtain⟨iw,ic,is,il⟩:=fl;rw[a0N]at il;obtain⟨ma,mc,rfl⟩:=a5.form;have gk:=af hM;have HJ:=af hj;clear hM hj;by_cases s:1<M.length
     .
      have kl:(1:Int)<(M.length:Int):=by omega
      have m2:=ae i4;have c:M.length<=300:=by have:=ae hU;omega
      have o6:(M.length:Int)<=300:=by omega
      have ad:w.heap.size+1<=wr.heap.size:=a9.below.2;have N:=dV M (by omega);have iw':WFL k M:=by
       intro g hg;have h1:=iw (bare g) (a2s hg);rw[ae HN]at h1;exact h1
      have P:=iw' _ (bu M (by omega));have D:=dj M (by omega);have Q:=iw' _ (be M _ (bu (ar M) (by omega)));have O:=dV (ar M) (by omega);have r:fT M<=30000000:=by
       have h1:=(j9 l 100000 (by omega) (fun i hi=>(ae HC i hi).2) l.length (a0a _)).1;have h2:fT (M.map bare)=fT M:=by simp[fT,Function.comp_def,bare]
       rw[h2]at ic;have:=ae HN;have h3:(100000:Int)*(l.length:Int)<=100000*300:=Int.mul_le_mul_of_nonneg_left (by omega) (by omega);omega
      have d:=wR iw' s;have h0:=af (qy ma mc M.length (w.heap.size+1) M wr rfl a5 (by omega) c);obtain⟨g,rfl⟩:=a5.somes (by omega);have m7:Hid (aB M=M.getD (least M) g0):=rfl;have ob:Hid (ar M=M.eraseIdx (least M)):=rfl;have HQ:=af (a0b a5 (a0b cy (a0b a9 cv)));have em:=af (a0b P (a0b D (a0b Q (a0b O (a0b r d)))));have et:=af (a0b s (a0b c (a0b N (a0b ad il))));have o3:=af iw';clear a5 cy a9 cv ic is iw P D Q O r d s c N ad il iw' m2;go_wp2_with fail;refine(ae h0).mono ?_;rintro e x1 ⟨rfl,a7⟩;obtain⟨a5,cy,a9,cv⟩:=ae HQ;obtain⟨s,c,N,ad,il⟩:=ae et;obtain⟨P,D,Q,O,r,d⟩:=ae em;have I:=a5.later a7 (a0a _);have H:=cy.later a7 (a0a _);have G:=a9.later a7 (a0a _);have Z:=ap cv a7;have l4:=a7.size;obtain⟨c0,c1,c2,_,e5⟩:=I.at rfl (least M) N;rw[←ae m7]at c0 c1 c2;have bk:=H _ (bu M (by omega));obtain⟨aa,ac,e2⟩:=bk.form;obtain⟨ga,ke⟩:=(e2▸bk).somes P.2.2.2.2;rw[ke]at e2;rw[e2]at c2 bk;have e7:((least M:Nat):Int)<(M.length:Int):=by omega
      have c9:=af (sK (some ⟨g,0,none⟩) mc M.length (w.heap.size+1) (w.heap.size+1) (least M) M (x1.alloc (.cells #[.int .i64 (aB M).cnt,.int .i64 (aB M).fst,.slice (some ⟨ga,0,none⟩) (aB M).syms.length ac] 250)) rfl (I.later ((a0c x1.heap.size x1).alloc (a0a _) _) (a0a _)) (H.later ((a0c x1.heap.size x1).alloc (a0a _) _) (a0a _)) N c);have h9:=af (a0b I (a0b H (a0b G (a0b Z bk))));have o1:=af e5;have k6:w.heap.size+1<=x1.heap.size:=G.below.2;clear a5 cy a9 cv HQ h0 I H G Z bk e2 P D Q O r d s c N ad il ke e5 l4;generalize i8:aB M=A at *
      have f8:=af i8;clear i8;go_wp2_with fail;refine(ae c9).mono ?_;rintro e x2 ⟨⟨v1,rfl,Y⟩,cu⟩;obtain⟨I,H,G,Z,bk⟩:=ae h9;obtain⟨s,c,N,ad,il⟩:=ae et;obtain⟨P,D,Q,O,r,d⟩:=ae em;rw[←ae ob]at Y;have b5:Below x1.heap.size x1 (x1.alloc (.cells #[.int .i64 A.cnt,.int .i64 A.fst,.slice (some ⟨ga,0,none⟩) A.syms.length ac] 250)):=(a0c _ _).alloc (a0a _) _;have a8:=ap b5 cu;have dl:=(oU x1 (.int .i64 A.cnt) (.int .i64 A.fst) (.slice (some ⟨ga,0,none⟩) A.syms.length ac) 250).later cu;have eg:=H.later a8 (a0a _);have eb:=G.later a8 (a0a _);have bl:=bk.later a8 (a0a _);have dq:=ap Z a8;have ba:=Y.mono (show w.heap.size+1<=_ by have:=G.below.2;have:=b5.size;omega);obtain⟨ra,rc,hf⟩:=ba.form;subst hf;obtain⟨g2,m9⟩:=ba.somes (by omega);subst m9;have nq:(ar M).length=M.length-1:=D;have e8:=af (qy (some ⟨g2,0,none⟩) rc (ar M).length (w.heap.size+1) (ar M) x2 rfl ba (by omega) (by omega));have o9:((ar M).length:Int)<=300:=by omega
      have id:=af (a0b ba (a0b eg (a0b eb (a0b dq (a0b bl dl)))));clear I H G Z bk h9 c9 b5 a8 dl eg eb bl dq ba Y cu c0 c1 c2 e7 P D Q O r d s c N ad il nq;go_wp2_with fail;refine(ae e8).mono ?_;rintro e x3 ⟨rfl,an⟩;obtain⟨Y,eg,eb,dq,bl,dl⟩:=ae id;obtain⟨s,c,N,ad,il⟩:=ae et;obtain⟨P,D,Q,O,r,d⟩:=ae em;have bd:=Y.later an (a0a _);have ab:=eg.later an (a0a _);have ao:=eb.later an (a0a _);have bs:=bl.later an (a0a _);have a6:=dl.later an;have ds:=ap dq an;have fr:aB (ar M)=(ar M).getD (least (ar M)) g0:=rfl;obtain⟨c0,c1,c2,_,e5⟩:=bd.at rfl (least (ar M)) O;rw[←fr]at c0 c1 c2;have b3:=ab _ (be M _ (bu (ar M) (by omega)));obtain⟨bb,bc,e3⟩:=b3.form;obtain⟨gb,kk⟩:=(e3▸b3).somes Q.2.2.2.2;rw[kk]at e3;rw[e3]at c2 b3;have e7:((least (ar M):Nat):Int)<((ar M).length:Int):=by omega
      have c9:=af (sK (some ⟨g2,0,none⟩) rc (ar M).length (w.heap.size+1) (w.heap.size+1) (least (ar M)) (ar M) (x3.alloc (.cells #[.int .i64 (aB (ar M)).cnt,.int .i64 (aB (ar M)).fst,.slice (some ⟨gb,0,none⟩) (aB (ar M)).syms.length bc] 250)) rfl (bd.later ((a0c x3.heap.size x3).alloc (a0a _) _) (a0a _)) ((ab.sub (be M)).later ((a0c x3.heap.size x3).alloc (a0a _) _) (a0a _)) O (by omega));have ih:=af (a0b bd (a0b ab (a0b ao (a0b ds (a0b bs (a0b a6 b3))))));clear Y eg eb dq bl dl id e8 bd ab ao bs a6 ds b3 e3 an P D Q O r d s c N ad il kk e5 fr;generalize ji:aB (ar M)=Bg at *
      have gf:=af ji;clear ji;go_wp2_with fail;refine(ae c9).mono ?_;rintro e x4 ⟨⟨v2,rfl,c6⟩,g3⟩;obtain⟨bd,ab,ao,ds,bs,a6,b3⟩:=ae ih;obtain⟨s,c,N,ad,il⟩:=ae et;obtain⟨P,D,Q,O,r,d⟩:=ae em;have f3:(ar M).eraseIdx (least (ar M))=ar (ar M):=rfl;rw[f3]at c6;have b5:Below x3.heap.size x3 (x3.alloc (.cells #[.int .i64 Bg.cnt,.int .i64 Bg.fst,.slice (some ⟨gb,0,none⟩) Bg.syms.length bc] 250)):=(a0c _ _).alloc (a0a _) _;have R:=ap b5 g3;have fk:=(oU x3 (.int .i64 Bg.cnt) (.int .i64 Bg.fst) (.slice (some ⟨gb,0,none⟩) Bg.syms.length bc) 250).later g3;have i9:=a6.later R;have ca:=ab.later R (a0a _);have b9:=ao.later R (a0a _);have f5:=bs.later R (a0a _);have f6:=b3.later R (a0a _);have dv:=ap ds R;have hh:w.heap.size+1<=x4.heap.size:=b9.below.2;have k7:w.heap.size+1<=x3.heap.size:=ao.below.2;have ej:=c6.mono (show w.heap.size+1<=_ by have:=ao.below.2;have:=b5.size;omega);have co:=dj (ar M) (by omega);obtain⟨ra,l5,hf⟩:=ej.form;subst hf;have j4:Hid ((A.syms.map (Value.int .i64)).length=A.syms.length*1):=by show _=_;simp
      have j5:Hid ((Bg.syms.map (Value.int .i64)).length=Bg.syms.length*1):=by show _=_;simp
      have ks:A.syms.length+Bg.syms.length<=300:=by
       have h1:=d.2;have h2:(bf M).length=A.syms.length+Bg.syms.length:=by
        unfold bf;rw[a0m,ae f8,ae gf]
       have h3:=(bZ l j (by rw[ae ey];exact ae HJ)).2.2.1;have h4:jM (M.map bare)=jM M:=by simp[jM,Function.comp_def,bare]
       rw[←ae gk,h4]at h3;have h5:=(j9 l 100000 (by omega) (fun i hi=>(ae HC i hi).2) l.length (a0a _)).2.1;have:=ae HN;have:=ae HM;omega
      have i1:Hid (∀W,Below x4.heap.size x4 W->∀j u,(A.syms.map (Value.int .i64))[j]?=some u->W.cell? ((⟨ga,0,none⟩:Addr).add j)=some u):=fun W hW=>a1Y (f5.later hW (a0a _)) rfl;have i2:Hid (∀W,Below x4.heap.size x4 W->∀j u,(Bg.syms.map (Value.int .i64))[j]?=some u->W.cell? ((⟨gb,0,none⟩:Addr).add j)=some u):=fun W hW=>a1Y (f6.later hW (a0a _)) rfl;have c8:∀W,Below x4.heap.size x4 W->W.cell? ⟨x1.heap.size,2,none⟩=some (.slice (some ⟨ga,0,none⟩) A.syms.length ac)/\W.cell? ⟨x3.heap.size,2,none⟩=some (.slice (some ⟨gb,0,none⟩) Bg.syms.length bc):=fun W hW=>⟨(i9.later hW).2.2.1,(fk.later hW).2.2.1⟩;have gy:World.ownsRow (x4.alloc (.cells #[] 3)).drew x4.heap.size 3 1 (.slice (some ⟨x4.heap.size,0,none⟩) 0 0) 0 []:=a04 x4 #[] 0 (a0a _) (by unfold maxLen;omega) rfl;have cs:Below x4.heap.size x4 (x4.alloc (.cells #[] 3)).drew:=((a0c _ _).alloc (a0a _) _).drew;have a7:Hid (0+A.syms.length<=maxLen/\(0+A.syms.length)*8<=140737488355328):=by show _/\_;unfold maxLen;omega
      have cu:Hid (0+A.syms.length+Bg.syms.length<=maxLen/\(0+A.syms.length+Bg.syms.length)*8<=140737488355328):=by show _/\_;unfold maxLen;omega
      obtain⟨a0,a1,a2,_,_,_,abl⟩:=i9;obtain⟨b0,b1,b2,_,_,_,mi⟩:=fk;have h6:x1.heap.size≠w.heap.size:=by have:=k6;omega
      have h7:x3.heap.size≠w.heap.size:=by have:=k7;omega
      have fb:Below x4.heap.size x4 x4.drew:=(a0c _ _).drew;have f2:Hid ((dL A Bg).fst=if Bg.fst<A.fst then Bg.fst else A.fst):=rfl;have l6:=af ks;have dd:=af (a0b r (a0b d.1 (a0b P Q)));have it:=af (a0b co (a0b D (a0b s (a0b c il))));have md:=af (a0b ej (a0b ca (a0b b9 dv)));clear bd ab ao ds bs a6 b3 ih c9 b5 R ca b9 f5 f6 dv ej c6 g3 c0 c1 c2 e7 P D Q O r d s c N ad il co ks f3;have kd:∃F:Int,(dL A Bg).fst=F:=⟨_,rfl⟩;obtain⟨F,hF⟩:=kd;have HF:=af hF;clear hF;by_cases fz:Bg.fst<A.fst
      case' pos=>have jn:Hid (Bg.fst=F):=by have:=ae f2;rw[ae HF,a0d fz]at this;exact this.symm
      case' neg=>have jn:Hid (A.fst=F):=by have:=ae f2;rw[ae HF,a0e fz]at this;exact this.symm
      all_goals
       go_wp2_with fail
       go_region_held3 (fun W=>W.cell? ⟨x1.heap.size,2,none⟩=some (.slice (some ⟨ga,0,none⟩) A.syms.length ac)/\W.cell? ⟨x3.heap.size,2,none⟩=some (.slice (some ⟨gb,0,none⟩) Bg.syms.length bc)) (first|exact c8 _ fb|assumption|exact c8 _ cs) (first
        | (refine aQ rfl (.tmp 76) (.tmp 78) 56 rfl x4.heap.size 3 i0 (.int .i64 0) 1 8 a0D hi hr hu hz rfl (a1G 0) (.slice (some ⟨x4.heap.size,0,none⟩) 0 0) _ _ rfl gy ⟨ga,0,none⟩ A.syms.length ac (A.syms.map (Value.int .i64)) rfl (ae j4) (ae i1 _ cs) (a1n .i64 _) (ae a7).1 (ae a7).2 cs.size ?_;intro v5 x5 b8 cg g7;clear g7;have cr:Below x4.heap.size x4 x5:=cs.grown cg cs.size (fun j hj=>(a0C gy j hj).1);have mm:=c8 _ cr)
        | (refine aQ rfl (.tmp 79) (.tmp 81) 56 rfl x4.heap.size 3 i0 (.int .i64 0) 1 8 a0D hi hr hu hz rfl (a1G 0) v5 _ _ rfl b8 ⟨gb,0,none⟩ Bg.syms.length bc (Bg.syms.map (Value.int .i64)) rfl (ae j5) (ae i2 _ cr) (a1n .i64 _) (ae cu).1 (ae cu).2 cr.size ?_;intro v6 x6 d7 ch g8;clear g8;have b4:Below x4.heap.size x4 x6:=cr.grown ch cr.size (fun j hj=>(a0C b8 j hj).1);have mo:=c8 _ b4))
       obtain⟨c6,ca,b9,dv⟩:=ae md;have hh:w.heap.size+1<=x4.heap.size:=b9.below.2;have c5:ak x6 x4.heap.size v6 (A.syms++Bg.syms):=by
        show World.ownsRow _ _ _ _ _ (A.syms++Bg.syms).length ((A.syms++Bg.syms).map (Value.int .i64));rw[a0m,a0I];simpa using d7
       have g1:Hid ((A.syms++Bg.syms).length<=300/\0<(A.syms++Bg.syms).length):=by
        show _/\_;rw[a0m];have:=ae l6;have:=(ae dd).2.2.1.2.2.2.2;omega
       have m1:Hid (∀x∈A.syms++Bg.syms,0<=x/\x<(k:Int)):=by
        intro x hx;simp only[a0X]at hx;rcases hx with hx|hx
        . exact(ae dd).2.2.1.2.2.2.1 x hx
        . exact(ae dd).2.2.2.2.2.2.1 x hx
       have m0:Hid (bf M=A.syms++Bg.syms):=by
        show bf M=_;unfold bf;rw[ae f8,ae gf]
       have mp:Hid ((dL A Bg).syms=A.syms++Bg.syms):=rfl;generalize A.syms++Bg.syms=S at *
       obtain⟨sv,sc,el⟩:=c5.form;obtain⟨gs,kq⟩:=(el▸c5).somes (ae g1).2;rw[kq]at el;rw[el];rw[el]at c5;have lg:=c6.later b4 (a0a _);have k8:=ca.later b4 (a0a _);have k5:=b9.later b4 (a0a _);have fh:=ap dv b4;have fv:=c5.below;have a0':=(b4.cell (p:=⟨x1.heap.size,0,none⟩) abl).trans a0;have i5:=(b4.cell (p:=⟨x3.heap.size,0,none⟩) mi).trans b0;have n1:=af (se l (fun i hi=>(ae HC i hi).2) (by rw[ae HN];exact ae HM) j (by rw[ae ey];exact ae HJ));have nm:Hid ((j:Int)<=300):=by show(j:Int)<=300;have:=ae HJ;have:=ae hU;have:=ae i4;omega
       have f7:x1.heap.size≠w.heap.size/\x3.heap.size≠w.heap.size:=⟨h6,h7⟩;have gv:=af c5;have i3:=af lg;have ix:=af k8;have e9:=af f7;have gd:=af (a0b a0' i5);have o2:=af fv;have sI:(S.length:Int)<=300:=by have:=(ae g1).1;omega
       clear b8 d7 cg ch mm mo cr c6 ca b9 dv lg k8 c5 c8 i1 i2 gy cs fb el kq a0 a1 a2 b0 b1 b2 f7 a0' i5 fv j4 j5;go_wp2_with fail
       go_loopw [11] (fun i wq=>∃t:Nat,t<=S.length/\i = .int .i64 t/\ak wq w.heap.size (.slice (some ⟨w.heap.size,0,none⟩) k k) (bump (ay l j).2 (S.take t))/\Touch (some ⟨w.heap.size,0,none⟩) x6 wq/\Below w.heap.size w wq) (fun i _=>S.length-(intOf i).toNat)
       case atStart=>exact⟨0,a0g _,rfl,k5,Touch.refl _ _,fh⟩
       case round=>
        obtain⟨t,ht,rfl,X,E,b6⟩:=hrel;clear k5 fh;have g5:Hid ((bump (ay l j).2 (S.take t)).length=k):=by show(bump (ay l j).2 (S.take t)).length=k;rw[nT,dT,ae HN]
        have ol:Hid (t<=S.length):=ht;clear ht;by_cases d4:t<S.length
        .
         have f4:=(ae gv).touch E (by intro g e;simp only[a0i,a0A,a0V]at e;have:=hh;omega);obtain⟨c0,_,_,_⟩:=f4.at rfl d4;have hx:=ae m1 (S.getD t 0) (by simp[List.getD,d4]);have fn:=af (uv (ay l j).2 S t d4);have k1:=af (rM (ae n1) (S.take t));obtain⟨q,hq⟩:=a0n hx.1;rw[hq]at c0 fn;have he:q<k:=by omega
         obtain⟨d0,f0,_,_⟩:=X.at (ae g5) he;have ho:=ae k1 q (by rw[ae g5];exact he);have C:=X.put (j:=q) (ae g5) ((bump (ay l j).2 (S.take t)).getD q 0+1);have ei:Hid (bump (ay l j).2 (S.take (t+1))=(bump (ay l j).2 (S.take t)).set q ((bump (ay l j).2 (S.take t)).getD q 0+1)):=by
          show bump (ay l j).2 (S.take (t+1))=_;rw[ae fn];unfold fu;rw[a0p]
         have pc:(bump (ay l j).2 (S.take t)).getD q 0<=100000:=by
          have h1:=ho.2;have h2:(S.take t).length<=300:=by rw[a0H];have:=(ae g1).1;omega
          have:=ae nm;omega
         have hl:=ho.1;have cc:=ah b6 (b:=w.heap.size) (o:=q) (a0a _) (.int .i64 ((bump (ay l j).2 (S.take t)).getD q 0+1));have a4:=E.set (o:=q) rfl (.int .i64 ((bump (ay l j).2 (S.take t)).getD q 0+1));generalize (bump (ay l j).2 (S.take t)).getD q 0=y at *
         have h8:=af (a0b C (a0b cc a4));have e7:(q:Int)<(k:Int):=by omega
         have pb:(t:Int)<(S.length:Int):=by omega
         clear C cc a4 X f4 b6 E ho hx hq he;go_wp2_with fail
         go_region
         obtain⟨C,cc,a4⟩:=ae h8;rw[←ae ei]at C;go_wp2;go_roundw
         case rel=>exact⟨t+1,by have:=ae ol;omega,by go_num,C,a4,cc.drew⟩
         case measure=>simp[intOf];omega
        .
         have ls:S.take t=S:=a0F (by omega);rw[ls]at X;have c7:cJ 250 wr (w.heap.size+1) (.slice ra (ar (ar M)).length l5) (ar (ar M)):=mT (ae i3) E (jc _ _ (a0h _));have eh:dE wr (w.heap.size+1) (ar (ar M)):=fun g hg=>(ae ix g (be M _ (be _ _ hg))).touch E (jc _ _ (a0h _));have ek:ak wr (w.heap.size+1) (.slice (some ⟨gs,0,none⟩) S.length sc) S:=((ae gv).touch E (jc _ _ (by omega))).mono hh;have a0q:=(gP (p:=⟨x1.heap.size,0,none⟩) E (ae e9).1).trans (ae gd).1;have o4:=(gP (p:=⟨x3.heap.size,0,none⟩) E (ae e9).2).trans (ae gd).2;have g6:Hid ((ay l (j+1)).2=bump (ay l j).2 S):=by
          show(ay l (j+1)).2=_;simp only[ay];rw[←ae gk,Fy,ae m0]
         have e6:Hid ((ay l (j+1)).1=(ar (ar M)).map bare++[dL A Bg]):=by
          show(ay l (j+1)).1=_;simp only[ay];rw[←ae gk,Fs,ae f8,ae gf]
         rw[←ae g6]at X;obtain⟨co,D,s,c,il⟩:=ae it;have nk:Hid (j+1<U):=by show j+1<U;omega
         have kt:Hid ((ar (ar M)).length+1<M.length+0):=by show _<_;omega
         have V:Hid ((ar (ar M)).length+1<=maxLen/\((ar (ar M)).length+1)*40<=140737488355328):=by show _/\_;unfold maxLen;omega
         have d3:=ae dd;have o7:A.cnt+Bg.cnt<=30000000:=by have:=d3.1;have:=d3.2.1;omega
         have op:=d3.2.2.1.1;have os:=d3.2.2.2.1;have m4:w.heap.size+1<=wr.heap.size:=X.below.2;have gl:=af (a0b c7 (a0b eh (a0b ek (a0b X b6))));have o0:Hid ((dL A Bg).cnt=A.cnt+Bg.cnt):=rfl;clear co D s c il c7 eh ek X b6 E ls d3 dd it i3 ix gv gd;rw[ae jn];go_wp2_with (at_builtin;refine a0x _ rfl _ _ 248 rfl (w.heap.size+1) 250 j0 (.agg #[.int .i64 0,.int .i64 0,.slice none 0 0]) 3 40 a3B hj hl l2 l3 rfl (by decide) _ _ _ rfl (a0r (ae gl).1 _) ⟨wr.heap.size,0,none⟩ 1 1 [.int .i64 (A.cnt+Bg.cnt),.int .i64 F,.slice (some ⟨gs,0,none⟩) S.length sc] rfl rfl (qh _ _ _ _ _ _ rfl) (qi _ _ _ _ _) (ae V).1 (ae V).2 (ax m4 _) ?_;intro v7 x7 d8 z ha;clear ha);obtain⟨c7,eh,ek,X,b6⟩:=ae gl;have d1:Below wr.heap.size wr (wr.alloc (.cells #[.int .i64 (A.cnt+Bg.cnt),.int .i64 F,.slice (some ⟨gs,0,none⟩) S.length sc] 250)):=(a0c _ _).alloc (a0a _) _;have cp:=c7.later d1 (a0a _);have k9:=(eh.later d1 (a0a _)).grown cp (by decide) z;have l0:=kH (ek.later d1 (a0a _)) cp (by decide) z;have n3:=kH (X.later d1 (a0a _)) cp (by decide) z;have m3:Below w.heap.size w x7:=aG (v:=.slice ra (ar (ar M)).length l5) z c7 (by omega) (by omega) b6;have lo:=qk ⟨A.cnt+Bg.cnt,F,S,.slice (some ⟨gs,0,none⟩) S.length sc⟩ d8;have oi:=k9.snoc (g:=⟨A.cnt+Bg.cnt,F,S,.slice (some ⟨gs,0,none⟩) S.length sc⟩) l0;have m5:Hid ((ar (ar M)++[(⟨A.cnt+Bg.cnt,F,S,.slice (some ⟨gs,0,none⟩) S.length sc⟩:Grp)]).map bare=(ay l (j+1)).1):=by
          show _=(ay l (j+1)).1;rw[ae e6,a0I]
          congr 1
          have e:dL A Bg=⟨A.cnt+Bg.cnt,F,S,.slice none 0 0⟩:=by
           rw[←ae HF,←ae mp];rfl
          rw[e];rfl
         have lb:Hid (sliceLen v7<M.length):=by
          show sliceLen v7<M.length;obtain⟨fa,fc,hv⟩:=lo.form;rw[hv];have:=ae kt;simp only[sliceLen,a0m,a1g];omega
         clear d8 z d1 cp k9 l0 c7 eh ek X b6 gl;go_wp2;go_roundw
         case rel=>exact⟨j+1,_,.inl (ae nk),ae m5,lo,oi,n3,m3⟩
         case measure=>exact ae lb
     .
      have g4:=af (ae kc j (by omega) (ae HJ));have kl:¬ (1:Int)<(M.length:Int):=by omega
      have HP:=af a9;clear a5 cy a9 ic is;go_wp2;go_ret;exact⟨rfl,by rw[ae g4];exact ae HP,cv⟩
theorem Bo(a:Option Addr)(cap n:Nat)(o:List Int)(w:World)(s:o.length=n)(h:bp w a o)(q:n<=300) :
  Calls prog 181 #[.slice a n cap] w fun e w'=>e = .returned (.int .i64 (bP o n))/\w'=w:=by
 subst s;have r:(o.length:Int)<=300:=by omega
 clear q;go_enter func181,ntmps181;go_wp2_with fail
 go_loop [3,4] (fun m i=>∃k:Nat,k<=o.length/\i = .int .i64 k/\m = .int .i64 (bP o k)) (fun _ i=>o.length-(intOf i).toNat)
 case atStart=>exact⟨0,a0g _,rfl,rfl⟩
 case round=>
  obtain⟨k,l,rfl,rfl⟩:=hrel;have t:=af l;by_cases d:k<o.length
  .
   obtain⟨g,f,rfl,u,j⟩:=h (by omega);have c0:=j k d;have c:Hid (bP o (k+1)=if bP o k<o.getD k 0 then o.getD k 0 else bP o k):=rfl;clear j l h;generalize o.getD k 0=y at *
   generalize bP o k=m at *
   by_cases p:m<y
   .
    have b:Hid (bP o (k+1)=y):=by have:=ae c;rw[a0d p]at this;exact this
    go_wp2
    go_round
    case rel=>exact⟨k+1,by omega,by go_num,by rw[ae b]⟩
    case measure=>simp[intOf];omega
   .
    have b:Hid (bP o (k+1)=m):=by have:=ae c;rw[a0e p]at this;exact this
    go_wp2
    go_round
    case rel=>exact⟨k+1,by omega,by go_num,by rw[ae b]⟩
    case measure=>simp[intOf];omega
  .
   obtain rfl:k=o.length:=by omega
   clear h;go_wp2;go_ret;exact⟨rfl,rfl⟩
def Ci(w:World)(b n:Nat):Nat:=((List.range n).map (fun i=>(intOf ((w.cell? ⟨b,i,none⟩).getD (.int .i64 0))).toNat)).sum
theorem DC{base:Nat}(a:l.length=n)(h:ak w base (.slice (some ⟨b,0,none⟩) n c) l):Ci w b n=jg l:=by
 unfold Ci jg
 congr 1
 apply a2g
 . simp[a]
 .
  intro i d h2;have f:i<n:=by simpa using d
  have:=(h.at a f).1;simp only[List.getElem_map,List.getElem_range];rw[this];have e:l.getD i 0=l[i]:=by simp[List.getD,show i<l.length by omega]
  rw[e];rfl
theorem El(l:List Int)(j:Nat)(h:j<l.length):(bo (l.take j)++l.drop j).set j (g9 (l.getD j 0))=bo (l.take (j+1))++l.drop (j+1):=by
 have b:(bo (l.take j)).length=j:=by simp[bo];omega
 rw[List.set_append_right _ _ (by omega),b,a3F,ci l j h];have a:l.drop j=l[j] :: l.drop (j+1):=List.drop_eq_getElem_cons h;rw[a,List.set_cons_zero];simp[bo]
theorem GA(l:List Int)(j:Nat)(h:j<l.length):(bo (l.take j)++l.drop j).getD j 0=l.getD j 0:=by
 have a:(bo (l.take j)).length=j:=by simp[bo];omega
 simp only[List.getD];rw[List.getElem?_append_right (by omega),a,a3F,List.getElem?_drop];simp
def okC(l:List Int):Prop:=∀i,i<l.length->0<=l.getD i 0/\l.getD i 0<=100000
theorem tp(h:okC l):okC (bo l):=by
 intro i a;rw[dY]at a;rw[pu l i a];have:=h i a;unfold g9;omega
theorem wC(h:okC l):∀x∈l,0<=x:=by
 intro x b;obtain⟨i,a,rfl⟩:=a18 b;have:=(h i a).1;have e:l.getD i 0=l[i]:=by simp[List.getD,a]
 rw[e]at this;exact this
def dc(m:Int)(l:List Int):List Int:=oa m (jg l) l
theorem uO(a:Option Addr)(cap n mm:Nat)(l:List Int)(w:World)(hn:l.length=n)(h:bp w a l)(h1:1<=n)(hm:n<=300)(hc:okC l)(hU:(az l l.length).length<=p2 mm)(b6:mm<=14) :
  Calls prog 142 #[.slice a n cap,.int .i64 ((mm:Int)+1)] w fun e w'=>(∃v,e = .returned v/\ak w' w.heap.size v (dc ((mm:Int)+1) l))/\Below w.heap.size w w':=by
 obtain⟨i0,hi,ca,cc,cg⟩:=a0t Tryz.infoInt;obtain⟨g,o,rfl,hg,a3⟩:=h (by omega);have cp:(n:Int)<=300:=by omega
 have co:(mm:Int)<=14:=by omega
 have Z:=af hn;have HC:=af hc;have HU:=af hU;have HM:=af (a0b h1 hm);have G:Below w.heap.size w (w.alloc (.cells #[] 3)):=(a0c _ _).alloc (a0a _) _;have S:World.ownsRow (w.alloc (.cells #[] 3)) w.heap.size 3 1 (.slice (some ⟨w.heap.size,0,none⟩) 0 0) 0 []:=a04 w #[] 0 (a0a _) (by unfold maxLen;omega) rfl;have W:Hid (∀j u,(l.map (Value.int .i64))[j]?=some u->(w.alloc (.cells #[] 3)).cell? ((⟨g,o,none⟩:Addr).add j)=some u):=by
  intro j u hj;have a5:j<l.length:=by have:=(List.getElem?_eq_some_iff.1 hj).1;simpa using this
  have ad:(⟨g,o,none⟩:Addr).add j=⟨g,o+j,none⟩:=by unfold Addr.add;split<;>simp_all
  rw[ad,G.cell (p:=⟨g,o+j,none⟩) hg,a3 j a5,←hj];simp[List.getD,a5]
 have b4:Hid ((l.map (Value.int .i64)).length=n*1):=by show _=_;simp[hn]
 have al:Hid (0+n<=maxLen/\(0+n)*8<=140737488355328):=by show _/\_;unfold maxLen;omega
 clear hn hc hU h1 hm a3 b6 h;go_enter func142,ntmps142;go_wp2_with (at_builtin;refine a0x _ rfl _ _ 56 rfl w.heap.size 3 i0 (.int .i64 0) 1 8 a0D hi ca cc cg rfl (by decide) _ _ _ rfl S ⟨g,o,none⟩ n cap (l.map (Value.int .i64)) rfl (ae b4) (ae W) (a1n .i64 _) (ae al).1 (ae al).2 G.size ?_;intro v1 x1 Q K a9;clear a9);have A:ak x1 w.heap.size v1 l:=by
  show World.ownsRow _ _ _ _ _ l.length _;rw[ae Z];simpa using Q
 have ab:Below w.heap.size w x1:=G.grown K G.size (fun j hj=>(a0C S j hj).1);obtain⟨va,vc,X⟩:=A.formN (ae Z);rw[X];rw[X]at A;refine(sJ va vc n l x1 (ae Z) (A.rowN (ae Z)) (ae HM).2 (ae HC)).mono ?_;rintro e x2 ⟨rfl,ba,T⟩;have bc:=A.later T (a0a _);have ac:=ap ab T;have bd:w.heap.size<=x1.heap.size:=ab.size;obtain⟨lb,b2⟩:=A.somes (by rw[ae Z];exact(ae HM).1);subst b2;have P:=A.below;have HX:=af (a0b bd P);clear A T Q K X S G P;go_wp2_with fail
 go_loopw [6,7] (fun v _ wr=>∃(c:List Int) (f ob:Nat),c.length=n/\okC c/\(az c c.length).length<=p2 mm/\jg c<=f/\dc ((mm:Int)+1) l=oa ((mm:Int)+1) f c/\v = .slice (some ⟨ob,0,none⟩) n n/\lb<ob/\ak wr ob (.slice (some ⟨ob,0,none⟩) n n) (bQ c)/\ak wr w.heap.size (.slice (some ⟨lb,0,none⟩) n vc) c/\Below w.heap.size w wr) (fun _ _ wr=>Ci wr lb n)
 case atStart=>exact⟨l,jg l,x1.heap.size,ae Z,ae HC,ae HU,a0a _,rfl,rfl,(ae HX).2.2,ba,bc,ac⟩
 case round=>
  obtain⟨c,f,ob,m,d,E,M,s,rfl,a7,F,z,q⟩:=hrel;clear ba bc ac;have r:(bQ c).length=n:=(hH c).trans m;have aa:=af (Bo (some ⟨ob,0,none⟩) n n (bQ c) wr r (F.rowN r) (ae HM).2);have L:Hid (fits (bQ c) ((mm:Int)+1)=decide (bP (bQ c) n<=(mm:Int)+1)):=by show _=_;unfold fits;rw[r]
  have HQ:=af (a0b m (a0b d (a0b E (a0b M s))));have HO:=af (a0b F (a0b z q));have HS:=af (DC m z);have a8:=af a7;clear m d E M s r a7;generalize bP (bQ c) n=mo at *
  by_cases ch:(mm:Int)+1<mo
  .
   have N:fits (bQ c) ((mm:Int)+1)=false:=by rw[ae L];exact a0j (by omega)
   obtain⟨m,d,E,M,s⟩:=ae HQ;have hex:=tj E N;have R:=(tO c (wC d)).2 hex;have b1:∃f',f=f'+1:=⟨f-1,by omega⟩;obtain⟨f',a4⟩:=b1;have V:Hid (dc ((mm:Int)+1) l=oa ((mm:Int)+1) f' (bo c)):=by
    show _=_;rw[s,a4];simp only[oa];rw[N];rfl
   have a2:Hid (jg (bo c)<=f'):=by show _<=_;omega
   have bl:=af R;have I:=af (tp d);have a1:Hid ((az (bo c) (bo c).length).length<=p2 mm):=by show _<=_;rw[dY,pS c (fun i hi=>(d i hi).1) _ (a0a _)];exact E
   have B:Hid ((bo c).length=n):=(dY c).trans m;clear m d E M s hex R a4;go_wp2_with fail;refine(ae aa).mono ?_;rintro e x3 ⟨rfl,Y⟩;subst Y;obtain⟨F,z,q⟩:=ae HO;have ao:ak x3 w.heap.size (.slice (some ⟨lb,0,none⟩) n vc) (bo (c.take 0)++c.drop 0):=by simpa[bo]using z
   clear F z;go_wp2_with fail
   go_loopw [7] (fun i wq=>∃t:Nat,t<=n/\i = .int .i64 t/\ak wq w.heap.size (.slice (some ⟨lb,0,none⟩) n vc) (bo (c.take t)++c.drop t)/\Below w.heap.size w wq) (fun i _=>n-(intOf i).toNat)
   case atStart=>exact⟨0,a0g _,rfl,ao,q⟩
   case round=>
    obtain⟨t,ht,rfl,k,x⟩:=hrel;clear ao q;obtain⟨m,d,_,_,_⟩:=ae HQ;have a6:Hid ((bo (c.take t)++c.drop t).length=n):=by show _=n;rw[a0m,dY,a0H,a1l];omega
    by_cases b5:t<n
    .
     have D:=k.put (j:=t) (ae a6) (g9 (c.getD t 0));rw[El c t (by omega)]at D;obtain⟨d0,f0,an,_⟩:=k.at (ae a6) b5;rw[GA c t (by omega)]at d0;have hy:=d t (by omega);have H:=ah x (b:=lb) (o:=t) an (.int .i64 (g9 (c.getD t 0)));unfold g9 at D H;have O:=af (a0b D H);have b9:(t:Int)<(n:Int):=by omega
     have Ht:=af ht;generalize c.getD t 0=y at *
     obtain⟨y0,y1⟩:=hy;have e1:IntKind.i64.wrap ((y+1).tdiv 2)=(y+1)/2:=by rw[Int.tdiv_eq_ediv_of_nonneg (by omega)];simp[IntKind.wrap,IntKind.bits,IntKind.signed];omega
     clear D H k x m d ht an;go_wp2;go_roundw
     case rel=>exact⟨t+1,by have:=ae Ht;omega,by go_num,(ae O).1,(ae O).2⟩
     case measure=>simp[intOf];omega
    .
     have cr:t=n:=by omega
     have J:bo (c.take t)++c.drop t=bo c:=by rw[a0F (by omega),List.drop_of_length_le (by omega)];simp
     rw[J]at k;have b3:=af (sJ (some ⟨lb,0,none⟩) vc n (bo c) wr (ae B) (k.rowN (ae B)) (ae HM).2 (ae I));have C:=k.below;have bk:=af (a0b k (a0b x C));have b9:¬ (t:Int)<(n:Int):=by omega
     clear k x m d J C;go_wp2_with fail;refine(ae b3).mono ?_;rintro e x4 ⟨rfl,b8,U⟩;obtain⟨k,x,C⟩:=ae bk;have a0:=k.later U (a0a _);have bs:=ap x U;have b7:Hid (Ci x4 lb n<Ci x3 lb n):=by
      show Ci x4 lb n<Ci x3 lb n;rw[DC (ae B) a0,ae HS];exact ae bl
     clear k x U;go_wp2;go_roundw
     case rel=>exact⟨bo c,f',wr.heap.size,ae B,ae I,ae a1,ae a2,ae V,rfl,C.2,b8,a0,bs⟩
     case measure=>exact ae b7
  .
   have N:fits (bQ c) ((mm:Int)+1)=true:=by rw[ae L];exact a0v (by omega)
   have bb:Hid (dc ((mm:Int)+1) l=bQ c):=by
    show _=_;rw[(ae HQ).2.2.2.2];cases f with
    | zero=>rfl
    | succ f=>simp only[oa];rw[N];rfl
   go_wp2_with fail;refine(ae aa).mono ?_;rintro e x3 ⟨rfl,Y⟩;subst Y;obtain⟨F,z,q⟩:=ae HO;have b0:w.heap.size<=ob:=by have:=z.below.1;have:=ae a8;omega
   go_wp2;go_ret;exact⟨⟨_,rfl,by rw[ae bb];exact F.mono b0⟩,q⟩
def inC(l:List Int):Bool:=l.all (fun b=>inB b 0 100000)
def uS(l:List Int)(m:Int):Bool:=decide (l.length<=300)&&inB m 1 15&&inC l&&inB (us l:Nat) 1 ((p2 m.toNat/2:Nat):Int)
def jl(l:List Int)(m:Int):List Int:=if uS l m then dc m l else []
theorem GJ(l:List Int)(k:Nat)(h:k<l.length):inC (l.take (k+1))=(inC (l.take k)&&inB (l.getD k 0) 0 100000):=by
 rw[ci l k h];simp[inC]
theorem J4(h:k<l.length)(a:inB (l.getD k 0) 0 100000=false):inC l=false:=by
 rcases hb:inC l with _|_
 . rfl
 . have:=a1m.1 hb (l.getD k 0) (by simp[List.getD,h]);rw[a]at this;exact absurd this (by simp)
theorem LH(h:inC l=true):okC l:=by
 intro i a;have:=a1m.1 h (l.getD i 0) (by simp[List.getD,a]);exact aC.1 this
theorem KD(l:List Int)(k:Nat)(a:k<=l.length):(az l k).length=us (l.take k):=by
 induction k with
 | zero=>rfl
 | succ k ih=>
  rw[oW l k (by omega),←ih (by omega)];simp only[az]
  split
  . simp
  . rfl
theorem eE(l:List Int):(az l l.length).length=us l:=by
 rw[KD l _ (a0a _),a3H]
theorem wG(m:Nat):p2 (m+1)/2=p2 m:=by rw[jq];omega
theorem nl{x y:Grp}(h:aU x y=true):aU y x=false:=by
 simp only[aU,a1h,a0l,a0u]at h;simp only[aU,a27,a2F,a2G];omega
theorem ib{x y z:Grp}(h:aU x y=false)(h2:aU y z=false):aU x z=false:=by
 simp only[aU,a27,a2F,a2G]at h h2 ⊢;omega
theorem yM{x y z:Grp}(h:aU x y=false)(h2:aU z y=true):aU x z=false:=by
 simp only[aU,a1h,a0l,a0u]at h2;simp only[aU,a27,a2F,a2G]at h ⊢;omega
theorem fO(x:Grp):aU x x=false:=by
 simp only[aU,a27,a2F,a2G];omega
def cQ(L:List Grp)(i j:Nat):List Grp:=(L.set i (L.getD j g0)).set j (L.getD i g0)
theorem fR(L:List Grp)(i j:Nat):(cQ L i j).length=L.length:=by simp[cQ]
theorem vn{L:List Grp}(a:i<L.length):(cQ L i j).getD i g0=L.getD j g0:=by
 unfold cQ;rw[List.getD_eq_getElem?_getD,List.getElem?_set];by_cases h:j=i
 . subst h;simp[a]
 . rw[a0e h,List.getElem?_set_self a];rfl
theorem mG{L:List Grp}(a:j<L.length):(cQ L i j).getD j g0=L.getD i g0:=by
 unfold cQ;rw[List.getD_eq_getElem?_getD,List.getElem?_set_self (by simpa using a)];rfl
theorem cV{L:List Grp}(a:k≠i)(h2:k≠j):(cQ L i j).getD k g0=L.getD k g0:=by
 unfold cQ;rw[List.getD_eq_getElem?_getD,List.getElem?_set_ne (fun e=>h2 e.symm),List.getElem?_set_ne (fun e=>a e.symm),←List.getD_eq_getElem?_getD]
theorem set_perm(L:List Grp)(i:Nat)(x:Grp)(h:i<L.length):(L.getD i g0 :: L.set i x).Perm (x :: L):=by
 induction L generalizing i with
 | nil=>simp at h
 | cons g L ih=>
  cases i with
  | zero=>simp only[List.getD_cons_zero,List.set_cons_zero];exact a3D _ _ _
  | succ i=>
   simp only[a2p,List.set_cons_succ];have a:=ih i (by simpa using h);exact(a3D _ _ _).trans ((a.cons g).trans (a3D _ _ _))
theorem gK{L:List Grp}(b:i<L.length)(d:j<L.length):(cQ L i j).Perm L:=by
 have c:=set_perm L i (L.getD j g0) b;have h2:=set_perm (L.set i (L.getD j g0)) j (L.getD i g0) (by simpa using d);have e:(L.set i (L.getD j g0)).getD j g0=L.getD j g0:=by
  rw[List.getD_eq_getElem?_getD,List.getElem?_set];by_cases a:i=j
  . subst a;simp[b]
  . rw[a0e a,←List.getD_eq_getElem?_getD]
 rw[e]at h2;exact(h2.trans c).cons_inv
def HP(L:List Grp):Prop:=∀i,0<i->i<L.length->aU (L.getD i g0) (L.getD ((i-1)/2) g0)=false
def UpI(L:List Grp)(k:Nat):Prop:=
 (∀i,0<i->i<L.length->i≠k->aU (L.getD i g0) (L.getD ((i-1)/2) g0)=false) /\
 (∀i,0<i->i<L.length->(i-1)/2=k->0<k->aU (L.getD i g0) (L.getD ((k-1)/2) g0)=false)
def DnI(L:List Grp)(k:Nat):Prop:=
 (∀i,0<i->i<L.length->(i-1)/2≠k->aU (L.getD i g0) (L.getD ((i-1)/2) g0)=false) /\
 (∀i,0<i->i<L.length->(i-1)/2=k->0<k->aU (L.getD i g0) (L.getD ((k-1)/2) g0)=false)
theorem Jl{L:List Grp}(h:UpI L k)(a:k=0∨aU (L.getD k g0) (L.getD ((k-1)/2) g0)=false):HP L:=by
 intro i b c;by_cases e:i=k
 .
  subst e;rcases a with a|a
  . omega
  . exact a
 . exact h.1 i b c e
theorem KV{L:List Grp}(h:UpI L k)(l:0<k)(m:k<L.length)(g:aU (L.getD k g0) (L.getD ((k-1)/2) g0)=true):UpI (cQ L k ((k-1)/2)) ((k-1)/2):=by
 have hq:(k-1)/2<k:=by omega
 have b:(k-1)/2<L.length:=by omega
 have sk:=vn (L:=L) (j:=(k-1)/2) m;have sq:=mG (L:=L) (i:=k) b;refine⟨?_,?_⟩
 .
  intro i i0 a d;rw[fR]at a;by_cases e:i=k
  . subst e;rw[sk,sq];exact nl g
  .
   rw[cV e d];by_cases p:(i-1)/2=(k-1)/2
   . rw[p,sq];have:=h.1 i i0 a e;rw[p]at this;exact yM this g
   .
    by_cases p2:(i-1)/2=k
    . rw[p2,sk];exact h.2 i i0 a p2 l
    . rw[cV p2 p];exact h.1 i i0 a e
 .
  intro i i0 a n f;rw[fR]at a;have o:((k-1)/2-1)/2<(k-1)/2:=by omega
  rw[cV (k:=((k-1)/2-1)/2) (by omega) (by omega)];have c:=h.1 ((k-1)/2) f b (by omega);by_cases e:i=k
  . subst e;rw[sk];exact c
  . rw[cV e (by omega)];have:=h.1 i i0 a e;rw[n]at this;exact ib this c
theorem vN{L:List Grp}(h:DnI L k)(d:∀c,0<c->c<L.length->(c-1)/2=k->aU (L.getD c g0) (L.getD k g0)=false):HP L:=by
 intro i a b;by_cases e:(i-1)/2=k
 . rw[e];exact d i a b e
 . exact h.1 i a b e
theorem vO{L:List Grp}(h:DnI L k)(l:k<L.length)(g:c<L.length)(d:0<c)(f:(c-1)/2=k)(o:∀i,0<i->i<L.length->(i-1)/2=k->aU (L.getD i g0) (L.getD c g0)=false)(n:aU (L.getD c g0) (L.getD k g0)=true):DnI (cQ L c k) c:=by
 have m:k<c:=by omega
 have sc:=vn (L:=L) (j:=k) g;have sk:=mG (L:=L) (i:=c) l;refine⟨?_,?_⟩
 .
  intro i i0 b a;rw[fR]at b;by_cases e:i=c
  . subst e;rw[f,sc,sk];exact nl n
  .
   by_cases p:(i-1)/2=k
   . rw[p,sk,cV e (by omega)];exact o i i0 b p
   .
    rw[cV a p];by_cases e2:i=k
    . subst e2;rw[sk];exact h.2 c d g f i0
    . rw[cV e e2];exact h.1 i i0 b p
 . intro i i0 b a _;rw[fR]at b;rw[f,sk,cV (by omega) (by omega)];have:=h.1 i i0 b (by omega);rw[a]at this;exact this
theorem GH{L:List Grp}(h:HP L):∀i,i<L.length->aU (L.getD i g0) (L.getD 0 g0)=false:=by
 intro i;induction i using Nat.strongRecOn with
 | ind i ih=>
  intro a;by_cases e:i=0
  . subst e;exact fO _
  . exact ib (h i (by omega) a) (ih ((i-1)/2) (by omega) (by omega))
theorem JX{L:List Grp}(h:HP L)(g:Grp):UpI (L++[g]) L.length:=by
 refine⟨?_,?_⟩
 .
  intro i i0 b d;have a:i<L.length:=by simp at b;omega
  have e1:∀k,k<L.length->(L++[g]).getD k g0=L.getD k g0:=by
   intro k c;rw[List.getD_eq_getElem?_getD,List.getElem?_append_left c,←List.getD_eq_getElem?_getD]
  rw[e1 i a,e1 _ (by omega)];exact h i i0 a
 . intro i i0 b e _;simp at b;omega
theorem rY(L:List Grp)(m k:Nat)(h:k<m):(L.take m).getD k g0=L.getD k g0:=by
 rw[List.getD_eq_getElem?_getD,List.getElem?_take_of_lt h,←List.getD_eq_getElem?_getD]
theorem Lr{L:List Grp}(h:HP L):DnI ((cQ L 0 (L.length-1)).take (L.length-1)) 0:=by
 refine⟨?_,fun i _ _ _ b=>absurd b (Nat.lt_irrefl 0)⟩;intro i i0 c d;have a:i<L.length-1:=by rw[a0H,fR]at c;omega
 rw[rY _ _ _ a,rY _ _ _ (by omega),cV (by omega) (by omega),cV d (by omega)];exact h i i0 (by omega)
theorem Cl(L:List Grp)(n:Nat)(h:L.length=n+1):L=L.take n++[L.getD n g0]:=by
 have e:L.take (n+1)=L:=a0F (by omega);have h2:L.take (n+1)=L.take n++[L.getD n g0]:=by
  rw[a1e (by omega)]
  congr 2
  simp[List.getD,h]
 rw[e]at h2;exact h2
theorem Gd{L:List Grp}(h:0<L.length):(L.getD 0 g0 :: (cQ L 0 (L.length-1)).take (L.length-1)).Perm L:=by
 have b:=gK (L:=L) (i:=0) (j:=L.length-1) h (by omega);have h2:=Cl (cQ L 0 (L.length-1)) (L.length-1) (by rw[fR];omega);rw[mG (by omega)]at h2;have a:(L.getD 0 g0 :: (cQ L 0 (L.length-1)).take (L.length-1)).Perm ((cQ L 0 (L.length-1)).take (L.length-1)++[L.getD 0 g0]):=(List.perm_append_singleton _ _).symm;rw[←h2]at a;exact a.trans b
theorem yH(L:List Grp)(k j:Nat)(b:j<=k):aU (L.getD j g0) (L.getD (cj L k) g0)=false:=by
 induction k with
 | zero=>
  obtain rfl:j=0:=by omega
  exact fO _
 | succ k ih=>
  simp only[cj];cases a:aU (L.getD (k+1) g0) (L.getD (cj L k) g0)
  .
   simp only[a0Y,a0Z];by_cases e:j=k+1
   . subst e;exact a
   . exact ih (by omega)
  .
   simp only[a0T];by_cases e:j=k+1
   . subst e;exact fO _
   . exact yM (ih (by omega)) a
theorem AO(M:List Grp)(g:Grp)(a:g∈M):aU g (aB M)=false:=by
 obtain⟨i,b,rfl⟩:=a18 a;have:=yH M (M.length-1) i (by omega);have e:M.getD i g0=M[i]:=by simp[List.getD,b]
 rw[e]at this;exact this
def qt(M:List Grp):Prop:=∀g∈M,g.fst∈g.syms
theorem IP(l:List Int)(k:Nat):qt (az l k):=by
 induction k with
 | zero=>intro g a;simp[az]at a
 | succ k ih=>
  simp only[az]
  split
  .
   intro g a;simp only[a0X,a02]at a;rcases a with a|rfl
   . exact ih g a
   . simp
  . exact ih
theorem I3{M:List Grp}(h:qt M)(c:1<M.length):qt (stepG M):=by
 have d:=dj M (by omega);intro g a;simp only[stepG,a0X,a02]at a;rcases a with a|rfl
 . exact h g (be M _ (be _ _ a))
 .
  have b:=h _ (bu M (by omega));have hb:=h _ (be M _ (bu (ar M) (by omega)));simp only[dL,a0X]
  split
  . exact .inr hb
  . exact .inl b
theorem GI(l:List Int)(k:Nat)(b:k<(az l l.length).length∨k=0):qt (ay l k).1:=by
 induction k with
 | zero=>exact IP l _
 | succ k ih=>
  have a:1<(ay l k).1.length:=by have:=(bZ l k (by omega)).2.2.2;omega
  exact I3 (ih (by omega)) a
theorem IL{M:List Grp}(j:(bm M).Nodup)(i:qt M){x y:Grp}(b:x∈M)(a:y∈M)(e:x.fst=y.fst):x=y:=by
 induction M with
 | nil=>cases b
 | cons g M ih=>
  have k:bm (g :: M)=g.syms++bm M:=by simp[bm]
  rw[k,a3E]at j;obtain⟨_,n2,n3⟩:=j;have c:qt M:=fun z h=>i z (by simp[h]);have f:∀z∈M,z.fst∈bm M:=fun z h=>List.mem_flatMap.2 ⟨z,h,c z h⟩;have d:g.fst∈g.syms:=i g (by simp);simp only[a08]at b a;rcases b with rfl|b
  .
   rcases a with rfl|a
   . rfl
   . exact absurd e (n3 _ d _ (f y a))
  .
   rcases a with rfl|a
   . exact absurd e.symm (n3 _ d _ (f x b))
   . exact ih n2 c b a
theorem EF{x y:Grp}(h:aU x y=false)(h2:aU y x=false):x.fst=y.fst:=by
 simp only[aU,a27,a2F,a2G]at h h2;omega
theorem vy{L M:List Grp}{a:Grp}{L1:List Grp}(h:(L.map bare).Perm M)(k:L.Perm (a :: L1))(f:∀g∈L,aU g a=false)(m:0<L.length)(s:(bm M).Nodup)(r:qt M):bare a=aB M/\(L1.map bare).Perm (ar M):=by
 have l:0<M.length:=by rw[←h.length_eq,a0N];exact m
 have p:a∈L:=k.mem_iff.2 (by simp);have b:bare a∈M:=h.mem_iff.1 (a2s p);have d:=bu M l;obtain⟨c,q,i⟩:=a2C.1 (h.mem_iff.2 d);have n:aU (aB M) (bare a)=false:=by rw[←i,sV];exact f c q
 have h2:=AO M (bare a) b;have e:bare a=aB M:=IL s r b d (EF h2 n);refine⟨e,?_⟩;have o:(bare a :: L1.map bare).Perm M:=by
  have:=(k.map bare).symm.trans h;simpa using this
 have j:=o.trans (kO M l).symm;rw[e]at j;exact j.cons_inv
theorem Eg{M:List Grp}(b:0<M.length)(c:(bm M).Nodup):(bm (ar M)).Nodup:=by
 have a:=pq (kO M b);have h2:=a.nodup_iff.2 c;have e:bm (aB M :: ar M)=(aB M).syms++bm (ar M):=by simp[bm]
 rw[e,a3E]at h2;exact h2.2.1
theorem EZ{α:Type}(f:α->Nat){A B:List α}(h:A.Perm B):(A.map f).sum=(B.map f).sum:=by
 induction h with
 | nil=>rfl
 | cons x _ ih=>simp only[a0B,a0P];omega
 | swap x y l=>simp only[a0B,a0P];omega
 | trans _ _ h1 h2=>omega
def qn:Nat->List Grp->Int
 | 0,_=>0
 | n+1,M=>if 1<M.length then(aB M).cnt+(aB (ar M)).cnt+qn n (stepG M)else 0
theorem iO(h:0<l.getD k 0):az l (k+1)=az l k++[⟨l.getD k 0,(k:Int),[(k:Int)],.slice none 0 0⟩]:=by simp only[az];rw[a0d h]
theorem lX(h:¬ 0<l.getD k 0):az l (k+1)=az l k:=by simp only[az];rw[a0e h]
def krR(l:List Int)(len:Nat->Nat)(D:Nat):Nat->Nat
 | 0=>0
 | n+1=>krR l len D n+(if 0<l.getD n 0 then 2 ^ (D-len n)else 0)
theorem oL(l:List Int)(k:Nat):∀g∈az l k,0<=g.cnt/\∃i:Nat,g.fst=(i:Int)/\i<k/\0<l.getD i 0/\g.cnt=l.getD i 0/\g.syms=[(i:Int)]:=by
 induction k with
 | zero=>intro g a;simp[az]at a
 | succ k ih=>
  intro g a;by_cases d:0<l.getD k 0
  .
   rw[iO d]at a;simp only[a0X,a02]at a;rcases a with a|rfl
   . obtain⟨b,i,h2,e,c⟩:=ih g a;exact⟨b,i,h2,by omega,c⟩
   . exact⟨by simp only;omega,k,rfl,by omega,d,rfl,rfl⟩
  . rw[lX d]at a;obtain⟨b,i,h2,e,c⟩:=ih g a;exact⟨b,i,h2,by omega,c⟩
theorem ud(l:List Int)(len:Nat->Nat)(D k:Nat):((bm (az l k)).map fun s=>2 ^ (D-len s.toNat)).sum=krR l len D k:=by
 induction k with
 | zero=>rfl
 | succ k ih=>
  simp only[krR];by_cases h:0<l.getD k 0
  . rw[a0d h,←ih,iO h];simp[bm]
  . rw[a0e h,←ih,lX h];simp
theorem xT(l:List Int)(k:Nat)(x:Int):x∈bm (az l k)<->∃i:Nat,x=(i:Int)/\i<k/\0<l.getD i 0:=by
 constructor
 . intro h;obtain⟨g,d,a⟩:=List.mem_flatMap.1 h;obtain⟨_,i,j,h2,b,_,c⟩:=oL l k g d;rw[c]at a;simp only[a02]at a;exact⟨i,a,h2,b⟩
 .
  rintro⟨i,rfl,m,f⟩;induction k with
  | zero=>omega
  | succ k ih=>
   by_cases e:i=k
   . subst e;rw[iO f];simp[bm]
   .
    have:=ih (by omega);by_cases h:0<l.getD k 0
    . rw[iO h];simp only[bm,a2E,a0X];exact .inl this
    . rw[lX h];exact this
/-! What holds behind so many steps. -/
def jJ(l s:List Int):Int:=(s.map fun x=>l.getD x.toNat 0).sum
theorem mV(l a b:List Int):jJ l (a++b)=jJ l a+jJ l b:=by simp[jJ]
theorem C3(l:List Int)(k:Nat)(j:k<(az l l.length).length∨k=0):∀g∈(ay l k).1,g.cnt=jJ l g.syms:=by
 induction k with
 | zero=>
  intro g b;obtain⟨_,i,f,h2,h,d,e⟩:=oL l l.length g b;rw[d,e];simp[jJ]
 | succ k ih=>
  have c:1<(ay l k).1.length:=by have:=(bZ l k (by omega)).2.2.2;omega
  have m:=dj (ay l k).1 (by omega);have ih':=ih (by omega);intro g b;have a:g∈stepG (ay l k).1:=b;simp only[stepG,a0X,a02]at a;rcases a with a|rfl
  . exact ih' g (be _ _ (be _ _ a))
  . simp only[dL];rw[mV,ih' _ (bu _ (by omega)),ih' _ (be _ _ (bu (ar _) (by omega)))]
def nZ(l o:List Int):Nat->Int
 | 0=>0
 | n+1=>nZ l o n+l.getD n 0*o.getD n 0
theorem D7(l o:List Int)(s:Int)(a:0<=s)(n:Nat)(b:n<=o.length):nZ l (fu o s) n=nZ l o n+(if s<(n:Int)then l.getD s.toNat 0 else 0):=by
 induction n with
 | zero=>simp only[nZ];rw[a0e (by omega)];rfl
 | succ n ih=>
  simp only[nZ];rw[ih (by omega),uu o s n a (by omega)];by_cases e:s=(n:Int)
  . subst e;rw[a0e (by omega),a0d rfl,a0d (by omega),Int.mul_add,Int.mul_one,a0p];omega
  .
   rw[a0e e,Int.add_zero];by_cases h:s<(n:Int)
   . rw[a0d h,a0d (by omega)];omega
   . rw[a0e h,a0e (by omega)];omega
theorem Gj(l s:List Int)(n:Nat):∀(o:List Int),n<=o.length->(∀x∈s,0<=x/\x<(n:Int))->nZ l (bump o s) n=nZ l o n+jJ l s:=by
 induction s with
 | nil=>intro o _ _;simp[bump,jJ]
 | cons x s ih=>
  intro o b a;show nZ l (bump (fu o x) s) n=_;rw[ih (fu o x) (by rw[mh];exact b) (fun y c=>a y (by simp[c])),D7 l o x (a x (by simp)).1 n b,a0d (a x (by simp)).2];simp only[jJ,a0B,a0P];omega
theorem Gk(l:List Int)(m n:Nat):nZ l (List.replicate m 0) n=0:=by
 induction n with
 | zero=>rfl
 | succ n ih=>
  simp only[nZ];rw[ih];have:(List.replicate m (0:Int)).getD n 0=0:=by
   rw[List.getD_eq_getElem?_getD,List.getElem?_replicate]
   split<;>rfl
  rw[this];omega
theorem JY(l:List Int)(k:Nat)(i:k<(az l l.length).length∨k=0):nZ l (ay l k).2 l.length+qn ((az l l.length).length-1-k) (ay l k).1=qn ((az l l.length).length-1) (az l l.length):=by
 induction k with
 | zero=>
  show nZ l (List.replicate l.length 0) l.length+qn _ (az l l.length)=_;rw[Gk,Int.zero_add,a20]
 | succ k ih=>
  have ih':=ih (by omega);have a:1<(ay l k).1.length:=by have:=(bZ l k (by omega)).2.2.2;omega
  have j:=dj (ay l k).1 (by omega);obtain⟨m,hm⟩:∃m,(az l l.length).length-1-k=m+1:=⟨(az l l.length).length-1-k-1,by omega⟩;have b:(az l l.length).length-1-(k+1)=m:=by omega
  rw[hm]at ih';rw[b];simp only[qn]at ih';rw[a0d a]at ih';have c:∀x∈bf (ay l k).1,0<=x/\x<(l.length:Int):=by
   intro x h;have g:=(gx l k (by omega)).2;exact g x ((ja _ a).mem_iff.1 (by simp[h]))
  have d:=Gj l (bf (ay l k).1) l.length (ay l k).2 (by rw[dT];exact a0a _) c;have h2:=C3 l k (by omega) _ (bu (ay l k).1 (by omega));have e:=C3 l k (by omega) _ (be _ _ (bu (ar (ay l k).1) (by omega)));have f:jJ l (bf (ay l k).1)=(aB (ay l k).1).cnt+(aB (ar (ay l k).1)).cnt:=by
   unfold bf;rw[mV,←h2,←e]
  show nZ l (bump (ay l k).2 (bf (ay l k).1)) l.length+qn m (stepG (ay l k).1)=_;rw[d,f];omega
def nh(o s:List Int)(D:Nat):Nat:=(s.map fun x=>2 ^ (D-(o.getD x.toNat 0).toNat)).sum
theorem yr(o a b:List Int)(D:Nat):nh o (a++b) D=nh o a D+nh o b D:=by simp[nh]
theorem Ep{o o' s:List Int}{D:Nat}(h:∀x∈s,o'.getD x.toNat 0=o.getD x.toNat 0):nh o' s D=nh o s D:=by
 unfold nh
 congr 1
 apply List.map_congr_left;intro x a;rw[h x a]
theorem Eo{o o' s:List Int}{D:Nat}(h:∀x∈s,0<=o.getD x.toNat 0/\o.getD x.toNat 0<(D:Int)/\o'.getD x.toNat 0=o.getD x.toNat 0+1):2*nh o' s D=nh o s D:=by
 induction s with
 | nil=>rfl
 | cons x s ih=>
  have ih':=ih (fun y c=>h y (by simp[c]));obtain⟨e,h2,b⟩:=h x (by simp);simp only[nh,a0B,a0P]at ih' ⊢;rw[b];obtain⟨d,hd⟩:∃d,D-(o.getD x.toNat 0).toNat=d+1:=⟨D-(o.getD x.toNat 0).toNat-1,by omega⟩;have a:D-(o.getD x.toNat 0+1).toNat=d:=by omega
  rw[hd,a,a1t];omega
theorem JZ(l:List Int)(D:Nat)(A:(az l l.length).length<=D)(k:Nat)(B:k<(az l l.length).length∨k=0):∀g∈(ay l k).1,nh (ay l k).2 g.syms D=2 ^ D:=by
 induction k with
 | zero=>
  intro g m;obtain⟨_,i,q,h2,w,z,r⟩:=oL l l.length g m;rw[r];show nh (List.replicate l.length 0) [(i:Int)] D=2 ^ D;simp[nh,List.getD,h2]
 | succ k ih=>
  have c:1<(ay l k).1.length:=by have:=(bZ l k (by omega)).2.2.2;omega
  have C:=dj (ay l k).1 (by omega);have ih':=ih (by omega);have d:=gx l k (by omega);obtain⟨n,h⟩:=i7 c d.1;have f:=kE l k (by omega);have j:∀x∈bf (ay l k).1,0<=x/\x<(l.length:Int):=fun x e=>d.2 x ((ja _ c).mem_iff.1 (by simp[e]));have b:=fun(x:Int) (h0:0<=x) (q:x<(l.length:Int))=>ly (ay l k).2 (bf (ay l k).1) x.toNat n (fun y v=>(j y v).1) (by rw[dT];omega);intro g m;show nh (bump (ay l k).2 (bf (ay l k).1)) g.syms D=2 ^ D;have a:g∈stepG (ay l k).1:=m;simp only[stepG,a0X,a02]at a;rcases a with a|rfl
  .
   rw[Ep (o:=(ay l k).2)]
   . exact ih' g (be _ _ (be _ _ a))
   . intro x e;have p:x∈bm (ay l k).1:=List.mem_flatMap.2 ⟨g,be _ _ (be _ _ a),e⟩;obtain⟨x0,x1⟩:=d.2 x p;rw[b x x0 x1,a28 x0,a0e (h g a x e),Int.add_zero]
  .
   have u:(dL (aB (ay l k).1) (aB (ar (ay l k).1))).syms=bf (ay l k).1:=rfl;rw[u];have t:=Eo (o:=(ay l k).2) (o':=bump (ay l k).2 (bf (ay l k).1)) (s:=bf (ay l k).1) (D:=D) (by
    intro x e;obtain⟨x0,x1⟩:=j x e;have hd:=f x.toNat (by rw[dT];omega);refine⟨hd.1,by omega,?_⟩;rw[b x x0 x1,a28 x0,a0d e])
   have h2:nh (ay l k).2 (bf (ay l k).1) D=2 ^ D+2 ^ D:=by
    unfold bf;rw[yr,ih' _ (bu _ (by omega)),ih' _ (be _ _ (bu (ar _) (by omega)))]
   omega
open Corb
def cM(w:World)(b base:Nat)(v:Value)(L:List Grp):Prop:=w.heap[b]?=some (Obj.cells #[v] 240)/\cJ 222 w base v L
theorem cM.cell{base:Nat}{L:List Grp}(h:cM w b base v L):w.cell? ⟨b,0,none⟩=some v:=by simp[World.cell?,h.1]
theorem cM.frz{base:Nat}{L:List Grp}(h:cM w b base v L):w.frozen? ⟨b,0,none⟩=false:=by simp[World.frozen?,h.1]
theorem cM.lt{base:Nat}{L:List Grp}(h:cM w b base v L):b<w.heap.size:=(Array.getElem?_eq_some_iff.1 h.1).1
theorem iF(b base n cap:Nat)(a:Option Addr)(L:List Grp)(w:World)(h:cM w b base (.slice a n cap) L) :
  Calls prog 164 #[.pointer (some ⟨b,0,none⟩)] w fun e w'=>e = .returned (.int .i64 (n:Nat))/\w'=w:=by
 have c0:=h.cell;clear h;go_enter func164,ntmps164;go_wp2;go_ret;exact⟨rfl,rfl⟩
theorem iR(b base ob g n cap i j:Nat)(L:List Grp)(w:World)(d:dE w ob L)(f:L.length=n)(t:n<=300)(h:cM w b base (.slice (some ⟨g,0,none⟩) n cap) L)(l:i<n)(m:j<n) :
  CD 241 #[.pointer (some ⟨b,0,none⟩),.int .i64 (i:Nat),.int .i64 (j:Nat)] w (.bool (aU (L.getD i g0) (L.getD j g0))):=by
 have c0:=h.cell;obtain⟨a0,a1,a2,_,z⟩:=h.2.at f i l;obtain⟨o,p,k,_,_⟩:=h.2.at f j m;have q:b<w.heap.size:=World.block_lt_of_cell? w ⟨b,0,none⟩ c0;obtain⟨xa,xq,a⟩:=(d (L.getD i g0) (fy L i (by omega))).form;obtain⟨ya,yq,c⟩:=(d (L.getD j g0) (fy L j (by omega))).form;have r:(i:Int)<(n:Int):=by omega
 have s:(j:Int)<(n:Int):=by omega
 have u:(n:Int)<=300:=by omega
 rw[a]at a2;rw[c]at k;clear h f t l m a c d;generalize L.getD i g0=x at *
 generalize L.getD j g0=y at *
 obtain⟨xc,xf,xs,xv⟩:=x;obtain⟨yc,yf,ys,yv⟩:=y;simp only at a0 a1 a2 o p k;generalize xs.length=xn at *
 generalize ys.length=yn at *
 go_enter func241,ntmps241;go_wp2_with fail
 go_region
 all_goals
  by_cases e:xc=yc
  . subst e;go_wp2;go_ret;exact⟨congrArg (fun x=>Ending.returned (.bool x)) (by simp[aU]),(((a0c _ _).alloc (a0a _) _).alloc (by simp) _).drew⟩
  .
   have v:(xc == yc)=false:=by simpa using e
   go_wp2;go_ret;exact⟨congrArg (fun x=>Ending.returned (.bool x)) (by simp[aU,e]),(((a0c _ _).alloc (a0a _) _).alloc (by simp) _).drew⟩
theorem bj.ints{base:Nat}(h:bj 3 w w')(a:ak w base v l):ak w' base v l:=h.own a
theorem bj.syms{l:List Grp}(h:bj 3 w w')(b:dE w ob l):dE w' ob l:=fun g a=>h.ints (b g a)
theorem dE.perm{l m:List Grp}(h:dE w ob l)(b:m.Perm l):dE w ob m:=fun g a=>h g (b.mem_iff.1 a)
def bC(g:Nat)(w w':World):Prop:=bj 3 w w'/\w.heap.size<=w'.heap.size/\∀k,k<w.heap.size->k≠g->w'.heap[k]?=w.heap[k]?
theorem bC.refl(g:Nat)(w:World):bC g w w:=⟨bj.refl _ _,a0a _,fun _ _ _=>rfl⟩
theorem bC.trans{w1 w2:World}(h:bC g w w1)(k:bC g w1 w2):bC g w w2:=
 ⟨h.1.trans k.1,a0z h.2.1 k.2.1,fun j b a=>(k.2.2 j (a0k b h.2.1) a).trans (h.2.2 j b a)⟩
theorem bC.below(h:Below w.heap.size w w'):bC g w w':=⟨bj.below h,h.size,fun j a _=>h.block j a⟩
theorem bC.syms{l:List Grp}(h:bC g w w')(a:dE w ob l):dE w' ob l:=h.1.syms a
theorem bC.drew(h:bC g w w'):bC g w w'.drew:=h
theorem bC.touch{t':TypeId}{c:Array Value}{f:Nat×Nat}(d:w.heap[g]?=some (.cells c t' f))(a:3≠t')(b:Touch (some ⟨g,0,none⟩) w w'):bC g w w':=
 ⟨bj.touch d a b,Nat.le_of_eq b.1.symm,fun j _ h=>b.2 j (fun g' e=>by simp only[a0i,a0A,a0V]at e;omega)⟩
theorem Co(l:List Grp)(j:Nat)(x:Grp):(((aM l).set (j*3) (.int .i64 x.cnt)).set (j*3+1) (.int .i64 x.fst)).set (j*3+2) x.val=aM (l.set j x):=by
 induction l generalizing j with
 | nil=>simp[aM]
 | cons p l ih=>
  cases j with
  | zero=>simp[aM]
  | succ j=>
   rw[show(j+1)*3=j*3+1+1+1 by omega];simp only[aM,List.set_cons_succ];rw[ih j]
theorem cJ.put{base cap:Nat}{l:List Grp}(c:l.length=n)(h:cJ t w base (.slice (some ⟨g,0,none⟩) n cap) l)(j:Nat)(x:Grp) :
  cJ t (((w.setCell ⟨g,j*3,none⟩ (.int .i64 x.cnt)).setCell ⟨g,j*3+1,none⟩ (.int .i64 x.fst)).setCell ⟨g,j*3+2,none⟩ x.val) base (.slice (some ⟨g,0,none⟩) n cap) (l.set j x):=by
 subst c;have b:=(a10 h (j*3) (.int .i64 x.cnt)).1;have h2:=(a10 b (j*3+1) (.int .i64 x.fst)).1;have a:=(a10 h2 (j*3+2) x.val).1;rw[Co]at a;show World.ownsRow _ _ _ _ _ (l.set j x).length _;rw[a1E];exact a
theorem cJ.frozen{base cap:Nat}{l:List Grp}(a:l.length=n)(h:cJ t w base (.slice (some ⟨g,0,none⟩) n cap) l)(j:Nat):w.frozen? ⟨g,j,none⟩=false:=by
 subst a;exact a2A h j
theorem Touch.drew{a:Option Addr}(h:Touch a w w'):Touch a w w'.drew:=h
theorem cJ.drew{base:Nat}{l:List Grp}(h:cJ t w base v l):cJ t w.drew base v l:=h
theorem cM.drew{base:Nat}{L:List Grp}(h:cM w b base v L):cM w.drew b base v L:=⟨h.1,h.2.drew⟩
theorem l7(b base ob g n cap i j:Nat)(L:List Grp)(w:World)(u:dE w ob L)(a:L.length=n)(V:n<=300)(h:cM w b base (.slice (some ⟨g,0,none⟩) n cap) L)(O:b<base)(B:i<n)(C:j<n) :
  Calls prog 196 #[.pointer (some ⟨b,0,none⟩),.int .i64 (i:Nat),.int .i64 (j:Nat)] w fun e w'=>e = .returned (.tuple #[])/\cM w' b base (.slice (some ⟨g,0,none⟩) n cap) (cQ L i j)/\Below b w w'/\bC g w w':=by
 have c0:=h.cell;have R:=(a0C h.2 g rfl).1;have v:b≠g:=by omega
 obtain⟨gc,q⟩:=E6 (n:=n) (by have h2:=h.2;unfold cJ at h2;rw[a]at h2;exact h2) rfl;have s:=af q;clear q;obtain⟨a0,a1,a2,_,X⟩:=h.2.at a i B;obtain⟨K,M,A,_,_⟩:=h.2.at a j C;have f0:=h.2.frozen a (i*3);have f1:=h.2.frozen a (i*3+1);have f2:=h.2.frozen a (i*3+2);have k0:=h.2.frozen a (j*3);have Y:=h.2.frozen a (j*3+1);have Z:=h.2.frozen a (j*3+2);have P:b<w.heap.size:=World.block_lt_of_cell? w ⟨b,0,none⟩ c0;obtain⟨xa,xq,d⟩:=(u (L.getD i g0) (fy L i (by omega))).form;obtain⟨ya,yq,f⟩:=(u (L.getD j g0) (fy L j (by omega))).form;have S:(i:Int)<(n:Int):=by omega
 have T:(j:Int)<(n:Int):=by omega
 have W:(n:Int)<=300:=by omega
 rw[d]at a2;rw[f]at A;have H:=af h;have z:=af a;clear h a V B C u;have F:=af d;have G:=af f;have Q:g≠b:=fun e=>v e.symm;clear d f;generalize D:L.getD i g0=x at *
 generalize E:L.getD j g0=y at *
 obtain⟨xc,xf,xs,xv⟩:=x;obtain⟨yc,yf,ys,yv⟩:=y;simp only at a0 a1 a2 K M A;generalize xs.length=xn at *
 generalize ys.length=yn at *
 have I:=af D;have J:=af E;clear D E;go_enter func196,ntmps196;go_wp2_with fail;have ex:Hid (L.getD i g0=⟨xc,xf,xs,.slice xa xn xq⟩):=by
  have e:xv = .slice xa xn xq:=ae F;show L.getD i g0=_;rw[ae I,e]
 have ey:Hid (L.getD j g0=⟨yc,yf,ys,.slice ya yn yq⟩):=by
  have e:yv = .slice ya yn yq:=ae G;show L.getD j g0=_;rw[ae J,e]
 have N:=af (cJ.put (by rw[a1E];exact ae z) (cJ.put (ae z) (ae H).2 i ⟨yc,yf,ys,.slice ya yn yq⟩) j ⟨xc,xf,xs,.slice xa xn xq⟩);have p:=af (((((((Touch.refl (some ⟨g,0,none⟩) w).set (o:=i*3) rfl (.int .i64 yc)).set (o:=i*3+1) rfl (.int .i64 yf)).set (o:=i*3+2) rfl (.slice ya yn yq)).set (o:=j*3) rfl (.int .i64 xc)).set (o:=j*3+1) rfl (.int .i64 xf)).set (o:=j*3+2) rfl (.slice xa xn xq));have k:=af ((ah (ah (ah (ah (ah (ah (a0c b w) (b:=g) (o:=i*3) (by omega) (.int .i64 yc)) (b:=g) (o:=i*3+1) (by omega) (.int .i64 yf)) (b:=g) (o:=i*3+2) (by omega) (.slice ya yn yq)) (b:=g) (o:=j*3) (by omega) (.int .i64 xc)) (b:=g) (o:=j*3+1) (by omega) (.int .i64 xf)) (b:=g) (o:=j*3+2) (by omega) (.slice xa xn xq)));have l:=af (bC.touch (ae s) (by decide) (ae p));have t:=af (((ae p).2 b (fun g' e=>by simp only[a0i,a0A,a0V]at e;omega)).trans (ae H).1);have c:Hid (cM ((((((w.setCell ⟨g,i*3,none⟩ (.int .i64 yc)).setCell ⟨g,i*3+1,none⟩ (.int .i64 yf)).setCell ⟨g,i*3+2,none⟩ (.slice ya yn yq)).setCell ⟨g,j*3,none⟩ (.int .i64 xc)).setCell ⟨g,j*3+1,none⟩ (.int .i64 xf)).setCell ⟨g,j*3+2,none⟩ (.slice xa xn xq)) b base (.slice (some ⟨g,0,none⟩) n cap) ((L.set i ⟨yc,yf,ys,.slice ya yn yq⟩).set j ⟨xc,xf,xs,.slice xa xn xq⟩)):=⟨ae t,ae N⟩;clear H;have m:Hid (cQ L i j=(L.set i ⟨yc,yf,ys,.slice ya yn yq⟩).set j ⟨xc,xf,xs,.slice xa xn xq⟩):=by
  show cQ L i j=_;unfold cQ;rw[ae ex,ae ey]
 by_cases r:i=j
 .
  subst r;have exy:=(ae ex).symm.trans (ae ey);simp only[Grp.mk.injEq,a0K]at exy;obtain⟨rfl,rfl,rfl,rfl,rfl,rfl⟩:=exy
  go_region
  all_goals
   go_wp2
   go_end0
   refine⟨rfl,?_,(ae k).drew,(ae l).drew⟩;rw[ae m];exact(ae c).drew
 .
  have U:¬ j=i:=fun e=>r e.symm;have q1:¬ j*3=i*3+1:=by omega
  have q2:¬ j*3=i*3+2:=by omega
  have q3:¬ j*3+1=i*3:=by omega
  have q4:¬ j*3+1=i*3+2:=by omega
  have q5:¬ j*3+2=i*3:=by omega
  have q6:¬ j*3+2=i*3+1:=by omega
  have q7:¬ j*3=i*3:=by omega
  have q8:¬ j*3+1=i*3+1:=by omega
  have q9:¬ j*3+2=i*3+2:=by omega
  go_region
  all_goals
   go_wp2
   go_end0
   refine⟨rfl,?_,(ae k).drew,(ae l).drew⟩;rw[ae m];exact(ae c).drew
theorem Hv(a:Addr)(w:World):(method 387 219 (.pointer (some a)) "loop.example/corbel/impl.size").run prog w = .ok (164,.pointer (some a)) w:=by kernel_rfl
theorem te(a:Addr)(w:World):(method 387 219 (.pointer (some a)) "loop.example/corbel/impl.before").run prog w = .ok (241,.pointer (some a)) w:=by kernel_rfl
theorem y6(a:Addr)(w:World):(method 387 219 (.pointer (some a)) "loop.example/corbel/impl.swap").run prog w = .ok (196,.pointer (some a)) w:=by kernel_rfl
theorem cM.later{base:Nat}{L:List Grp}(h:cM w b base v L)(hb:Below w.heap.size w w'):cM w' b base v L:=
 ⟨(hb.block b h.lt).trans h.1,h.2.later hb (a0a _)⟩
theorem vZ(b g n cap p:Nat)(L:List Grp)(w:World)(D:dE w (b+1) L)(F:L.length=n)(E:n<=300)(h:cM w b (b+1) (.slice (some ⟨g,0,none⟩) n cap) L)(G:p<n)(l:UpI L p) :
  Calls prog 198 #[.iface 219 (.pointer (some ⟨b,0,none⟩)),.int .i64 (p:Nat)] w fun e w'=>e = .returned (.tuple #[])/\∃M:List Grp,M.Perm L/\HP M/\cM w' b (b+1) (.slice (some ⟨g,0,none⟩) n cap) M/\Below b w w'/\bC g w w':=by
 have m1:=te ⟨b,0,none⟩;have m2:=y6 ⟨b,0,none⟩;have N:(n:Int)<=300:=by omega
 have C:=af D;have x:=af (a0b F E);have u:=af (a0b h (a0b G l));clear D F E h G l;go_enter func198,ntmps198;go_wp2_with fail
 go_loopw [1] (fun p wr=>∃(k:Nat) (M:List Grp),p = .int .i64 k/\k<n/\M.Perm L/\UpI M k/\cM wr b (b+1) (.slice (some ⟨g,0,none⟩) n cap) M/\Below b w wr/\bC g w wr) (fun p _=>(intOf p).toNat)
 case atStart=>exact⟨p,L,rfl,(ae u).2.1,a2i _,(ae u).2.2,(ae u).1,a0c _ _,bC.refl _ _⟩
 case round=>
  obtain⟨k,M,rfl,m,i,l,j,a,c⟩:=hrel;have K:(k:Int)<(n:Int):=by omega
  have d:M.length=n:=i.length_eq.trans (ae x).1;have t:=af (a0b m (a0b i (a0b l (a0b j (a0b a (a0b c d))))));by_cases I:k=0
  .
   subst I;clear m i l j a c d;go_wp2
   go_end0
   obtain⟨m,i,l,j,a,c,d⟩:=ae t;exact⟨rfl,M,i,Jl l (.inl rfl),j,a,c⟩
  .
   have B:dE wr (b+1) M:=(c.syms (ae C)).perm i;obtain⟨q,hq⟩:∃q,q=(k-1)/2:=⟨_,rfl⟩;have P:((k:Int)-1)/2=(q:Int):=by omega
   have O:(q:Int)<(n:Int):=by omega
   have J:(1:Int)<=(k:Int):=by omega
   have s:=af (iR b (b+1) (b+1) g n cap k q M wr B d (ae x).2 j m (by omega));have o:=af hq;clear m i l j a c d hq;cases r:aU (M.getD k g0) (M.getD q g0)
   .
    rw[r]at s;have v:=af r;clear r;go_wp2_with fail;refine(ae s).mono ?_;rintro e x1 ⟨rfl,f⟩;go_wp2
    go_end0
    obtain⟨m,i,l,j,a,c,d⟩:=ae t;exact⟨rfl,M,i,Jl l (.inr (by rw[←ae o];exact ae v)),j.later f,a.trans (f.mono (a0s (j.lt))),c.trans (bC.below f)⟩
   .
    rw[r]at s;have v:=af r;clear r;go_wp2_with fail;refine(ae s).mono ?_;rintro e x1 ⟨rfl,f⟩;have H:Hid (Calls prog 196 #[.pointer (some ⟨b,0,none⟩),.int .i64 (k:Nat),.int .i64 (q:Nat)] x1 fun e w'=>e = .returned (.tuple #[])/\cM w' b (b+1) (.slice (some ⟨g,0,none⟩) n cap) (cQ M k q)/\Below b x1 w'/\bC g x1 w'):=by
     obtain⟨m,i,l,j,a,c,d⟩:=ae t;exact l7 b (b+1) (b+1) g n cap k q M x1 (((c.trans (bC.below f)).syms (ae C)).perm i) d (ae x).2 (j.later f) (a0h _) m (by omega)
    go_wp2_with fail;refine(ae H).mono ?_;rintro e x2 ⟨rfl,z,y,A⟩;go_wp2;go_roundw
    case rel=>
     obtain⟨m,i,l,j,a,c,d⟩:=ae t;have hq:=ae o;refine⟨q,cQ M k q,by first|rfl|go_num,by omega,(gK (by omega) (by omega)).trans i,?_,z,(a.trans (f.mono (a0s (j.lt)))).trans y,(c.trans (bC.below f)).trans A⟩;subst hq;exact KV l (by omega) (by omega) (ae v)
    case measure=>
     have hq:=ae o;simp[intOf];omega
theorem wS{L:List Grp}(b:(c=2*k+1/\(L.length<=2*k+2∨aU (L.getD (2*k+2) g0) (L.getD (2*k+1) g0)=false))∨(c=2*k+2/\aU (L.getD (2*k+2) g0) (L.getD (2*k+1) g0)=true)) :
  ∀i,0<i->i<L.length->(i-1)/2=k->aU (L.getD i g0) (L.getD c g0)=false:=by
 intro i i0 d e;have a:i=2*k+1∨i=2*k+2:=by omega
 rcases b with⟨rfl,h|h⟩|⟨rfl,h⟩
 .
  rcases a with rfl|rfl
  . exact fO _
  . omega
 .
  rcases a with rfl|rfl
  . exact fO _
  . exact h
 .
  rcases a with rfl|rfl
  . exact nl h
  . exact fO _
theorem wa(b g n cap p:Nat)(L:List Grp)(w:World)(X:dE w (b+1) L)(hn:L.length=n)(hm:n<=300)(h:cM w b (b+1) (.slice (some ⟨g,0,none⟩) n cap) L)(G:p<=n)(r:DnI L p) :
  Calls prog 197 #[.iface 219 (.pointer (some ⟨b,0,none⟩)),.int .i64 (p:Nat)] w fun e w'=>e = .returned (.tuple #[])/\∃M:List Grp,M.Perm L/\HP M/\cM w' b (b+1) (.slice (some ⟨g,0,none⟩) n cap) M/\Below b w w'/\bC g w w':=by
 have m1:=te ⟨b,0,none⟩;have m2:=y6 ⟨b,0,none⟩;have m3:=Hv ⟨b,0,none⟩;have ab:(n:Int)<=300:=by omega
 have J:=af X;have I:=af (a0b hn hm);have T:=af (a0b h (a0b G r));clear X hn hm h G r;go_enter func197,ntmps197;go_wp2_with fail
 go_loopw [1,4] (fun p _ wr=>∃(k:Nat) (M:List Grp),p = .int .i64 k/\k<=n/\M.Perm L/\DnI M k/\cM wr b (b+1) (.slice (some ⟨g,0,none⟩) n cap) M/\Below b w wr/\bC g w wr) (fun p _ _=>n-(intOf p).toNat)
 case atStart=>exact⟨p,L,rfl,(ae T).2.1,a2i _,(ae T).2.2,(ae T).1,a0c _ _,bC.refl _ _⟩
 case round=>
  obtain⟨k,M,rfl,v,o,r,t,a,j⟩:=hrel;have aa:(k:Int)<=(n:Int):=by omega
  have d:M.length=n:=o.length_eq.trans (ae I).1;have z:=af (a0b v (a0b o (a0b r (a0b t (a0b a (a0b j d))))));have K:=af (iF b (b+1) n cap _ M wr t);have H:dE wr (b+1) M:=(j.syms (ae J)).perm o;obtain⟨c1,D⟩:∃q,q=2*k+1:=⟨_,rfl⟩;have Y:2*(k:Int)+1=(c1:Int):=by omega
  have x:=af D;by_cases S:c1<n
  .
   have V:(c1:Int)<(n:Int):=by omega
   obtain⟨c2,hc2⟩:∃q,q=2*k+2:=⟨_,rfl⟩;have Z:(c1:Int)+1=(c2:Int):=by omega
   have B:=af hc2;by_cases h2:c2<n
   .
    have W:(c2:Int)<(n:Int):=by omega
    have R:=af (iR b (b+1) (b+1) g n cap c2 c1 M wr H d (ae I).2 t h2 S);clear v o r t a j d D hc2 S h2 H;cases O:aU (M.getD c2 g0) (M.getD c1 g0)
    .
     rw[O]at R;have U:=af O;clear O;go_wp2_with fail;refine(ae K).mono ?_;rintro e y1 ⟨rfl,m⟩;rw[m];clear m y1;go_wp2_with fail;refine(ae K).mono ?_;rintro e y1 ⟨rfl,m⟩;rw[m];clear m y1;go_wp2_with fail;refine(ae R).mono ?_;rintro e x1 ⟨rfl,A⟩;have y:Hid (cM x1 b (b+1) (.slice (some ⟨g,0,none⟩) n cap) M/\Below b w x1/\bC g w x1/\c1<n/\0<c1/\(c1-1)/2=k/\(∀i,0<i->i<M.length->(i-1)/2=k->aU (M.getD i g0) (M.getD c1 g0)=false)):=by
      obtain⟨v,o,r,t,a,j,d⟩:=ae z;refine⟨(t.later A),(a.trans (A.mono (a0s (t.lt)))),(j.trans (bC.below A)),by omega,?_,?_,wS (k:=k) (.inl ⟨ae x,.inr (by rw[←ae x,←ae B];exact ae U)⟩)⟩
      . have:=ae x;omega
      . have:=ae x;omega
     have s:Hid (Calls prog 241 #[.pointer (some ⟨b,0,none⟩),.int .i64 (c1:Nat),.int .i64 (k:Nat)] x1 fun e w'=>e = .returned (.bool (aU (M.getD c1 g0) (M.getD k g0)))/\Below (x1).heap.size x1 w'):=by
      obtain⟨v,o,r,t,a,j,d⟩:=ae z;obtain⟨xh,xb,xk,xc,xc0,xp,xm⟩:=ae y;exact iR b (b+1) (b+1) g n cap c1 k M x1 ((xk.syms (ae J)).perm o) d (ae I).2 xh xc (by omega)
     cases l:aU (M.getD c1 g0) (M.getD k g0)
     . rw[l]at s;have u:=af l;clear l;go_wp2_with fail;refine(ae s).mono ?_;rintro e x2 ⟨rfl,f⟩;go_wp2;refine a0y (a29 rfl _ _ _) rfl ?_;obtain⟨v,o,r,t,a,j,d⟩:=ae z;obtain⟨xh,xb,xk,xc,xc0,xp,xm⟩:=ae y;exact⟨rfl,M,o,vN r (fun c c0 N G=>ib (xm c c0 N G) (ae u)),xh.later f,xb.trans (f.mono (a0s (xh.lt))),xk.trans (bC.below f)⟩
     .
      rw[l]at s;have u:=af l;clear l;go_wp2_with fail;refine(ae s).mono ?_;rintro e x2 ⟨rfl,f⟩;have P:Hid (Calls prog 196 #[.pointer (some ⟨b,0,none⟩),.int .i64 (c1:Nat),.int .i64 (k:Nat)] x2 fun e w'=>e = .returned (.tuple #[])/\cM w' b (b+1) (.slice (some ⟨g,0,none⟩) n cap) (cQ M c1 k)/\Below b x2 w'/\bC g x2 w'):=by
       obtain⟨v,o,r,t,a,j,d⟩:=ae z;obtain⟨xh,xb,xk,xc,xc0,xp,xm⟩:=ae y;exact l7 b (b+1) (b+1) g n cap c1 k M x2 (((xk.trans (bC.below f)).syms (ae J)).perm o) d (ae I).2 (xh.later f) (a0h _) xc (by omega)
      go_wp2_with fail;refine(ae P).mono ?_;rintro e x3 ⟨rfl,E,C,F⟩;go_wp2;go_roundw
      case rel=>
       obtain⟨v,o,r,t,a,j,d⟩:=ae z;obtain⟨xh,xb,xk,xc,xc0,xp,xm⟩:=ae y;exact⟨c1,cQ M c1 k,rfl,by omega,(gK (by omega) (by omega)).trans o,vO r (by omega) (by omega) xc0 xp xm (ae u),E,(xb.trans (f.mono (a0s (xh.lt)))).trans C,(xk.trans (bC.below f)).trans F⟩
      case measure=>
       obtain⟨xh,xb,xk,xc,xc0,xp,xm⟩:=ae y;simp[intOf];omega
    .
     rw[O]at R;have U:=af O;clear O;go_wp2_with fail;refine(ae K).mono ?_;rintro e y1 ⟨rfl,m⟩;rw[m];clear m y1;go_wp2_with fail;refine(ae K).mono ?_;rintro e y1 ⟨rfl,m⟩;rw[m];clear m y1;go_wp2_with fail;refine(ae R).mono ?_;rintro e x1 ⟨rfl,A⟩;have y:Hid (cM x1 b (b+1) (.slice (some ⟨g,0,none⟩) n cap) M/\Below b w x1/\bC g w x1/\c2<n/\0<c2/\(c2-1)/2=k/\(∀i,0<i->i<M.length->(i-1)/2=k->aU (M.getD i g0) (M.getD c2 g0)=false)):=by
      obtain⟨v,o,r,t,a,j,d⟩:=ae z;refine⟨(t.later A),(a.trans (A.mono (a0s (t.lt)))),(j.trans (bC.below A)),by omega,?_,?_,wS (k:=k) (.inr ⟨ae B,by rw[←ae x,←ae B];exact ae U⟩)⟩
      . have:=ae B;omega
      . have:=ae B;omega
     have s:Hid (Calls prog 241 #[.pointer (some ⟨b,0,none⟩),.int .i64 (c2:Nat),.int .i64 (k:Nat)] x1 fun e w'=>e = .returned (.bool (aU (M.getD c2 g0) (M.getD k g0)))/\Below (x1).heap.size x1 w'):=by
      obtain⟨v,o,r,t,a,j,d⟩:=ae z;obtain⟨xh,xb,xk,xc,xc0,xp,xm⟩:=ae y;exact iR b (b+1) (b+1) g n cap c2 k M x1 ((xk.syms (ae J)).perm o) d (ae I).2 xh xc (by omega)
     cases l:aU (M.getD c2 g0) (M.getD k g0)
     . rw[l]at s;have u:=af l;clear l;go_wp2_with fail;refine(ae s).mono ?_;rintro e x2 ⟨rfl,f⟩;go_wp2;refine a0y (a29 rfl _ _ _) rfl ?_;obtain⟨v,o,r,t,a,j,d⟩:=ae z;obtain⟨xh,xb,xk,xc,xc0,xp,xm⟩:=ae y;exact⟨rfl,M,o,vN r (fun c c0 N G=>ib (xm c c0 N G) (ae u)),xh.later f,xb.trans (f.mono (a0s (xh.lt))),xk.trans (bC.below f)⟩
     .
      rw[l]at s;have u:=af l;clear l;go_wp2_with fail;refine(ae s).mono ?_;rintro e x2 ⟨rfl,f⟩;have P:Hid (Calls prog 196 #[.pointer (some ⟨b,0,none⟩),.int .i64 (c2:Nat),.int .i64 (k:Nat)] x2 fun e w'=>e = .returned (.tuple #[])/\cM w' b (b+1) (.slice (some ⟨g,0,none⟩) n cap) (cQ M c2 k)/\Below b x2 w'/\bC g x2 w'):=by
       obtain⟨v,o,r,t,a,j,d⟩:=ae z;obtain⟨xh,xb,xk,xc,xc0,xp,xm⟩:=ae y;exact l7 b (b+1) (b+1) g n cap c2 k M x2 (((xk.trans (bC.below f)).syms (ae J)).perm o) d (ae I).2 (xh.later f) (a0h _) xc (by omega)
      go_wp2_with fail;refine(ae P).mono ?_;rintro e x3 ⟨rfl,E,C,F⟩;go_wp2;go_roundw
      case rel=>
       obtain⟨v,o,r,t,a,j,d⟩:=ae z;obtain⟨xh,xb,xk,xc,xc0,xp,xm⟩:=ae y;exact⟨c2,cQ M c2 k,rfl,by omega,(gK (by omega) (by omega)).trans o,vO r (by omega) (by omega) xc0 xp xm (ae u),E,(xb.trans (f.mono (a0s (xh.lt)))).trans C,(xk.trans (bC.below f)).trans F⟩
      case measure=>
       obtain⟨xh,xb,xk,xc,xc0,xp,xm⟩:=ae y;simp[intOf];omega
   .
    have W:¬ (c2:Int)<(n:Int):=by omega
    have Q:Hid (n<=c2):=by show n<=c2;omega
    clear v o r t a j d D hc2 S h2 H;go_wp2_with fail;refine(ae K).mono ?_;rintro e y1 ⟨rfl,m⟩;rw[m];clear m y1;go_wp2_with fail;refine(ae K).mono ?_;rintro e y1 ⟨rfl,m⟩;rw[m];clear m y1;have y:Hid (cM wr b (b+1) (.slice (some ⟨g,0,none⟩) n cap) M/\Below b w wr/\bC g w wr/\c1<n/\0<c1/\(c1-1)/2=k/\(∀i,0<i->i<M.length->(i-1)/2=k->aU (M.getD i g0) (M.getD c1 g0)=false)):=by
     obtain⟨v,o,r,t,a,j,d⟩:=ae z;refine⟨t,a,j,by omega,?_,?_,wS (k:=k) (.inl ⟨ae x,.inl (by rw[d,←ae B];exact ae Q)⟩)⟩
     . have:=ae x;omega
     . have:=ae x;omega
    have s:Hid (Calls prog 241 #[.pointer (some ⟨b,0,none⟩),.int .i64 (c1:Nat),.int .i64 (k:Nat)] wr fun e w'=>e = .returned (.bool (aU (M.getD c1 g0) (M.getD k g0)))/\Below (wr).heap.size wr w'):=by
     obtain⟨v,o,r,t,a,j,d⟩:=ae z;obtain⟨xh,xb,xk,xc,xc0,xp,xm⟩:=ae y;exact iR b (b+1) (b+1) g n cap c1 k M wr ((xk.syms (ae J)).perm o) d (ae I).2 xh xc (by omega)
    cases l:aU (M.getD c1 g0) (M.getD k g0)
    . rw[l]at s;have u:=af l;clear l;go_wp2_with fail;refine(ae s).mono ?_;rintro e x2 ⟨rfl,f⟩;go_wp2;refine a0y (a29 rfl _ _ _) rfl ?_;obtain⟨v,o,r,t,a,j,d⟩:=ae z;obtain⟨xh,xb,xk,xc,xc0,xp,xm⟩:=ae y;exact⟨rfl,M,o,vN r (fun c c0 N G=>ib (xm c c0 N G) (ae u)),xh.later f,xb.trans (f.mono (a0s (xh.lt))),xk.trans (bC.below f)⟩
    .
     rw[l]at s;have u:=af l;clear l;go_wp2_with fail;refine(ae s).mono ?_;rintro e x2 ⟨rfl,f⟩;have P:Hid (Calls prog 196 #[.pointer (some ⟨b,0,none⟩),.int .i64 (c1:Nat),.int .i64 (k:Nat)] x2 fun e w'=>e = .returned (.tuple #[])/\cM w' b (b+1) (.slice (some ⟨g,0,none⟩) n cap) (cQ M c1 k)/\Below b x2 w'/\bC g x2 w'):=by
      obtain⟨v,o,r,t,a,j,d⟩:=ae z;obtain⟨xh,xb,xk,xc,xc0,xp,xm⟩:=ae y;exact l7 b (b+1) (b+1) g n cap c1 k M x2 (((xk.trans (bC.below f)).syms (ae J)).perm o) d (ae I).2 (xh.later f) (a0h _) xc (by omega)
     go_wp2_with fail;refine(ae P).mono ?_;rintro e x3 ⟨rfl,E,C,F⟩;go_wp2;go_roundw
     case rel=>
      obtain⟨v,o,r,t,a,j,d⟩:=ae z;obtain⟨xh,xb,xk,xc,xc0,xp,xm⟩:=ae y;exact⟨c1,cQ M c1 k,rfl,by omega,(gK (by omega) (by omega)).trans o,vO r (by omega) (by omega) xc0 xp xm (ae u),E,(xb.trans (f.mono (a0s (xh.lt)))).trans C,(xk.trans (bC.below f)).trans F⟩
     case measure=>
      obtain⟨xh,xb,xk,xc,xc0,xp,xm⟩:=ae y;simp[intOf];omega
  .
   have V:¬ (c1:Int)<(n:Int):=by omega
   have Q:Hid (n<=c1):=by show n<=c1;omega
   clear v o r t a j d D S H;go_wp2_with fail;refine(ae K).mono ?_;rintro e y1 ⟨rfl,m⟩;rw[m];clear m y1;go_wp2
   go_end0
   obtain⟨v,o,r,t,a,j,d⟩:=ae z;have D:=ae x;exact⟨rfl,M,o,vN r (fun c c0 N G=>by omega),t,a,j⟩
theorem CJ(h:w.heap[b]?=some (Obj.cells #[v] t))(u:Value):(w.setCell ⟨b,0,none⟩ u).heap[b]?=some (Obj.cells #[u] t):=by
 show(w.heap.modify b _)[b]?=_;rw[Array.getElem?_modify,a0d rfl,h];simp
theorem Ga(h:w.heap[b]?=some (Obj.cells #[v] t)):w.cell? ⟨b,0,none⟩=some v:=by simp[World.cell?,h]
theorem JB(h:w.heap[b]?=some (Obj.cells #[v] t)):w.frozen? ⟨b,0,none⟩=false:=by simp[World.frozen?,h]
theorem Tryz.infoGrp:(prog.info? 222).map (fun i=>(i.zero,i.size,i.bytes))=some (some (.agg #[.int .i64 0,.int .i64 0,.slice none 0 0]),3,40):=by kernel_rfl
theorem Bs{W x1:World}{v':Value}{L:List Grp}{x:Grp}{o:Obj}(z:L.length=n)(h:cM w b (b+1) v L)(m:Below w.heap.size w W)(y:bj 3 w W)(l:x1.ownsRow (b+1) 222 3 v' (n+1) (aM L++[.int .i64 x.cnt,.int .i64 x.fst,x.val]))(a:(W.alloc o).drew.grownBy x1 v.ownBlock) :
  (∃g c,v' = .slice (some ⟨g,0,none⟩) (n+1) c)/\(x1.heap[b]?=some (Obj.cells #[v] 240))/\cM (x1.setCell ⟨b,0,none⟩ v') b (b+1) v' (L++[x])/\Below b w (x1.setCell ⟨b,0,none⟩ v')/\bj 3 w (x1.setCell ⟨b,0,none⟩ v'):=by
 have p:(W.alloc o).grownBy x1 v.ownBlock:=⟨a.os,a.tape,a.output,a.size,a.block⟩;have u:=m.size;have s:=h.lt;have t:=h.later m;have h2:cJ 222 (W.alloc o) (b+1) v L:=a0r t.2 _;have j:∀k,v.ownBlock=some k->b<k:=fun k e=>(a0C h2 k e).1;have f:x1.heap[b]?=some (Obj.cells #[v] 240):=by
  rw[p.block b (by simp;omega) (fun e=>by have:=j b e.symm;omega),a1f W o b (by omega)];exact t.1
 have i:Below b w x1:=(((m.mono (a0s s)).alloc (by omega) o)).grown p (by simp;omega) (fun k e=>a0s (j k e));have r:bj 3 w x1:=(y.alloc o).grown h2 (by decide) p;subst z;have d:=qk x l;obtain⟨va,vc,e⟩:=d.formN (n:=L.length+1) (by simp);obtain⟨g,q⟩:=(show cJ 222 x1 (b+1) (.slice va (L.length+1) vc) (L++[x]) by rw[←e];exact d).somes (by simp);refine⟨⟨g,vc,by rw[e,q]⟩,f,⟨CJ f v',?_⟩,ah i (a0a _) _,r.set f (by decide) _⟩;exact a2Y d (a0h _) _
theorem yE(b n cap:Nat)(a:Option Addr)(L:List Grp)(x:Grp)(w:World)(Q:dE w (b+1) L)(G:ak w (b+1) x.val x.syms)(E:L.length=n)(R:n<300)(h:cM w b (b+1) (.slice a n cap) L)(S:HP L) :
  Calls prog 166 #[.pointer (some ⟨b,0,none⟩),.agg #[.int .i64 x.cnt,.int .i64 x.fst,x.val]] w fun e w'=>e = .returned (.tuple #[])/\∃(M:List Grp) (g cap':Nat),M.Perm (L++[x])/\HP M/\cM w' b (b+1) (.slice (some ⟨g,0,none⟩) (n+1) cap') M/\Below b w w'/\bj 3 w w':=by
 obtain⟨i0,Z,H,I,J⟩:=a0t Tryz.infoGrp;have ab:(n:Int)<300:=by omega
 have aa:=h.lt;have c0:=h.cell;obtain⟨xa,xq,o⟩:=G.form;have U:=af Q;have s:=af (a0b E R);have K:=af (a0b h S);have V:=af (a0b G o);obtain⟨xc,xf,xs,xv⟩:=x;simp only at o;subst o;generalize ac:xs.length=xn at *
 have f:Hid (n+1<=maxLen/\(n+1)*40<=140737488355328):=by show _/\_;unfold maxLen;omega
 have Y:Hid (World.ownsRow ((w.alloc (.cells #[.int .i64 xc,.int .i64 xf,.slice xa xn xq] 222)).alloc (.cells #[.int .i64 xc,.int .i64 xf,.slice xa xn xq] 222)).drew (b+1) 222 3 (.slice a n cap) n (aM L)):=by
  have h2:=h.2;unfold cJ at h2;rw[E]at h2;exact a0r (a0r h2 _) _
 have z:Hid (∀(j:Nat) (u:Value),[Value.int .i64 xc,.int .i64 xf,.slice xa xn xq][j]?=some u->World.cell? ((w.alloc (.cells #[.int .i64 xc,.int .i64 xf,.slice xa xn xq] 222)).alloc (.cells #[.int .i64 xc,.int .i64 xf,.slice xa xn xq] 222)).drew ((⟨w.heap.size+1,0,none⟩:Addr).add j)=some u):=qh _ _ _ _ _ _ (by simp);have A:Hid (b+1<=((w.alloc (.cells #[.int .i64 xc,.int .i64 xf,.slice xa xn xq] 222)).alloc (.cells #[.int .i64 xc,.int .i64 xf,.slice xa xn xq] 222)).drew.heap.size):=by show b+1<=((w.alloc (.cells #[.int .i64 xc,.int .i64 xf,.slice xa xn xq] 222)).alloc (.cells #[.int .i64 xc,.int .i64 xf,.slice xa xn xq] 222)).drew.heap.size;simp;omega
 clear Q E R h S G;go_enter func166,ntmps166;go_wp2_with fail
 go_region_law (refine aQ rfl (.tmp 8) (.tmp 10) 238 rfl (b+1) 222 i0 (.agg #[.int .i64 0,.int .i64 0,.slice none 0 0]) 3 40 underlying238 Z H I J rfl (by decide) _ _ _ rfl (ae Y) ⟨w.heap.size+1,0,none⟩ 1 1 [.int .i64 xc,.int .i64 xf,.slice xa xn xq] rfl rfl (ae z) (qi _ _ _ _ _) (ae f).1 (ae f).2 (ae A) ?_;intro v' w' k c q;clear q;have O:=af (Bs (x:=⟨xc,xf,xs,.slice xa xn xq⟩) (ae s).1 (ae K).1 ((a0c _ _).alloc (a0a _) _) ((bj.refl _ _).alloc _) k c);obtain⟨⟨g',v,F⟩,t,N⟩:=(ae O);subst F;clear k c O;have c1:=Ga t;have f1:=JB t;have p:=af N;clear N t)
 all_goals
  go_wp2_with fail;obtain⟨i,m,d⟩:=ae p;have l:=(d.syms (ae U)).snoc (g:=⟨xc,xf,xs,.slice xa xn xq⟩) (d.ints (ae V).1);have W:=af (iF b (b+1) (n+1) v (some ⟨g',0,none⟩) _ _ i);have T:=af (vZ b g' (n+1) v n _ _ l (by rw[a0m,(ae s).1];rfl) (by have:=(ae s).2;omega) i (a0h _) (by have P:=JX (ae K).2 ⟨xc,xf,xs,.slice xa xn xq⟩;rw[(ae s).1]at P;exact P));clear i m d l;refine(ae W).mono ?_;rintro e y1 ⟨rfl,r⟩;rw[r];clear r y1;go_wp2_with fail;refine(ae T).mono ?_;rintro e x3 ⟨rfl,M,X,y,C,B,D⟩;go_wp2
  go_end0
  obtain⟨i,m,d⟩:=ae p;exact⟨rfl,M,g',v,X,y,C,m.trans B,d.trans D.1⟩
theorem JV(g n cap k:Nat)(d:k<=cap)(c:0<cap)(W:World):(Instr.slice 238 (.slice (some ⟨g,0,none⟩) n cap) none (some (.int .i64 (k:Int))) none).run prog W = .ok (.slice (some ⟨g,0,none⟩) k cap) W:=by
 have b:(k:Int)<=(cap:Int):=by omega
 have h2:¬ ((k:Int)<0):=by omega
 have a:(cap == 0)=false:=by simp;omega
 go_simp
theorem Jg{base cap:Nat}{l:List Grp}(b:l.length=n+1)(h:cJ 222 w base (.slice (some ⟨g,0,none⟩) (n+1) cap) l):cJ 222 w base (.slice (some ⟨g,0,none⟩) n cap) (l.take n):=by
 have e:aM l=aM (l.take n)++aM (l.drop n):=by rw[←jK,a2D]
 have a:(l.take n).length=n:=by rw[a0H];omega
 unfold cJ at h ⊢;rw[b,e]at h;rw[a];exact ownsRow_pop (by rw[kT,a]) h
theorem pM{base size o m cap:Nat}{e:TypeId}{xs:List Value}(h:w.ownsRow base e size (.slice (some ⟨g,0,none⟩) n cap) m xs)(f:k≠g)(u:Value):(w.setCell ⟨k,o,none⟩ u).ownsRow base e size (.slice (some ⟨g,0,none⟩) n cap) m xs:=by
 refine⟨h.1,?_⟩;rcases h.2 with d|⟨g1,cap,a,e,b,c,rest⟩
 . exact .inl d
 . refine .inr ⟨g1,cap,a,e,b,?_,rest⟩;simp only[a0K,a0i,a0A,a0V]at e;rw[a0L w ⟨k,o,none⟩ u g1 (by show g1≠k;omega)];exact c
theorem cM.setOther{base o cap:Nat}{L:List Grp}(h:cM w b base (.slice (some ⟨g,0,none⟩) n cap) L)(hb:k≠b)(a:k≠g)(u:Value):cM (w.setCell ⟨k,o,none⟩ u) b base (.slice (some ⟨g,0,none⟩) n cap) L:=
 ⟨(a0L w ⟨k,o,none⟩ u b (fun e=>hb e.symm)).trans h.1,pM h.2 a u⟩
theorem qM{x y z:Value}(h:w.heap[b]?=some (Obj.cells #[x,y,z] t)):Three w b x y z:=
 ⟨by simp[World.cell?,h],by simp[World.cell?,h],by simp[World.cell?,h],by simp[World.frozen?,h],by simp[World.frozen?,h],by simp[World.frozen?,h],(Array.getElem?_eq_some_iff.1 h).1⟩
theorem pw(w:World)(o:Obj):(w.alloc o).heap[w.heap.size]?=some o:=Array.getElem?_push_size
theorem zM(b g N cap:Nat)(L:List Grp)(w:World)(T:dE w (b+1) L)(y:L.length=N+1)(hm:N<300)(h:cM w b (b+1) (.slice (some ⟨g,0,none⟩) (N+1) cap) L)(hp:HP L) :
  Calls prog 165 #[.pointer (some ⟨b,0,none⟩)] w fun e w'=>e = .returned (.agg #[.int .i64 (L.getD 0 g0).cnt,.int .i64 (L.getD 0 g0).fst,(L.getD 0 g0).val])/\∃M:List Grp,(L.getD 0 g0 :: M).Perm L/\HP M/\cM w' b (b+1) (.slice (some ⟨g,0,none⟩) N cap) M/\Below b w w'/\bj 3 w w':=by
 have a7:(N:Int)<300:=by omega
 have s:=h.lt;have l:=h.2.cap y;have HS:=af T;have B:=af (a0b y hm);have Q:=af (a0b h hp);have i:Below w.heap.size w (w.alloc (.cells #[.int .i64 0,.int .i64 0,.slice none 0 0] 222)):=(a0c _ _).alloc (a0a _) _;have HZ:=af (iF b (b+1) (N+1) cap (some ⟨g,0,none⟩) L _ (h.later i));have HW:=af (l7 b (b+1) (b+1) g (N+1) cap 0 N L _ ((bC.below (g:=g) i).syms T) y (by omega) (h.later i) (a0h _) (by omega) (by omega));have u:=af i;clear T y h hp i;go_enter func165,ntmps165;go_wp2_with fail;refine(ae HZ).mono ?_;rintro e y1 ⟨rfl,O⟩;rw[O];clear O y1;go_wp2_with fail;refine(ae HW).mono ?_;rintro e x1 ⟨rfl,c,j,d⟩;have a6:=(a0C (ae Q).1.2 g rfl).2;have a:(cQ L 0 N).length=N+1:=by rw[fR];exact(ae B).1
 obtain⟨c0,c1,c2,_,al⟩:=c.2.at a N (a0h _);rw[mG (by rw[(ae B).1];exact a0h _)]at c0 c1 c2;have hA:=ae HS (L.getD 0 g0) (fy L 0 (by rw[(ae B).1];exact Nat.succ_pos _));obtain⟨aa,ac,f⟩:=hA.form;rw[f]at c2;have a3:=c.cell;have a4:=c.frz;have ab:=c.lt;have a5:b≠g:=by have:=(a0C (ae Q).1.2 g rfl).1;omega
 have K:w.heap.size<x1.heap.size:=by have:=d.2.1;simp at this;omega
 have a2:=JV g (N+1) cap N (by omega) (by omega);have ad:(cap:Int)<=9223372036854775807:=by have:=l.2;unfold maxLen at this;omega
 have P:(N:Int)+1<=(cap:Int):=by have:=l.1;omega
 have m:x1.heap[w.heap.size]?=some (Obj.cells #[.int .i64 0,.int .i64 0,.slice none 0 0] 222):=by
  rw[d.2.2 w.heap.size (by simp) (by omega)];exact pw _ _
 have HX:=af (a0b c (a0b j (a0b d (a0b a (a0b f m)))));clear c j d a l al hA m hm HZ HW;generalize D:(L.getD 0 g0).cnt=Ac at *
 generalize E:(L.getD 0 g0).fst=Af at *
 generalize F:(L.getD 0 g0).syms.length=An at *
 have R:=af (a0b D (a0b E F));clear D E F f;go_wp2_with fail;have S:Hid (cM ((x1.setCell ⟨b,0,none⟩ (.slice (some ⟨g,0,none⟩) N cap)).alloc (.cells #[.int .i64 Ac,.int .i64 Af,.slice aa An ac] 222)) b (b+1) (.slice (some ⟨g,0,none⟩) N cap) ((cQ L 0 N).take N) /\
   Below b w ((x1.setCell ⟨b,0,none⟩ (.slice (some ⟨g,0,none⟩) N cap)).alloc (.cells #[.int .i64 Ac,.int .i64 Af,.slice aa An ac] 222)) /\
   bj 3 w ((x1.setCell ⟨b,0,none⟩ (.slice (some ⟨g,0,none⟩) N cap)).alloc (.cells #[.int .i64 Ac,.int .i64 Af,.slice aa An ac] 222)) /\
   ((x1.setCell ⟨b,0,none⟩ (.slice (some ⟨g,0,none⟩) N cap)).alloc (.cells #[.int .i64 Ac,.int .i64 Af,.slice aa An ac] 222)).heap[w.heap.size]?=some (Obj.cells #[.int .i64 0,.int .i64 0,.slice none 0 0] 222) /\
   ((x1.setCell ⟨b,0,none⟩ (.slice (some ⟨g,0,none⟩) N cap)).alloc (.cells #[.int .i64 Ac,.int .i64 Af,.slice aa An ac] 222)).heap[x1.heap.size]?=some (Obj.cells #[.int .i64 Ac,.int .i64 Af,.slice aa An ac] 222)):=by
  obtain⟨c,j,d,a,f,m⟩:=ae HX;have t:(x1.setCell ⟨b,0,none⟩ (.slice (some ⟨g,0,none⟩) N cap)).heap.size=x1.heap.size:=by simp
  refine⟨⟨?_,?_⟩,?_,?_,?_,?_⟩
  . rw[a1f _ _ b (by rw[t];exact ab)];exact CJ c.1 _
  . exact a0r (a2Y (Jg a c.2) (a0h _) _) _
  . exact(ah (((ae u).mono (a0s s)).trans j) (a0a _) _).alloc (by rw[t];omega) _
  . exact(((bj.below (ae u)).trans d.1).set c.1 (by decide) _).alloc _
  . rw[a1f _ _ w.heap.size (by rw[t];exact K),a0L _ _ _ _ (by show w.heap.size≠b;omega)];exact m
  . rw[←t];exact pw _ _
 generalize (x1.setCell ⟨b,0,none⟩ (.slice (some ⟨g,0,none⟩) N cap)).alloc (.cells #[.int .i64 Ac,.int .i64 Af,.slice aa An ac] 222)=Y at *
 have HK:Hid (Calls prog 197 #[.iface 219 (.pointer (some ⟨b,0,none⟩)),.int .i64 ((0:Nat):Int)] Y fun e w'=>e = .returned (.tuple #[])/\∃M:List Grp,M.Perm ((cQ L 0 N).take N)/\HP M/\cM w' b (b+1) (.slice (some ⟨g,0,none⟩) N cap) M/\Below b Y w'/\bC g Y w'):=by
  obtain⟨z,A,n,p,q⟩:=ae S;obtain⟨y,hm⟩:=ae B;have a1:dE Y (b+1) ((cQ L 0 N).take N):=fun x hx=>n.syms (ae HS) x ((gK (by omega) (by omega)).mem_iff.1 (a15 hx));exact wa b g N cap 0 _ Y a1 (by rw[a0H,fR];omega) (by omega) z (a0g _) (by have C:=Lr (ae Q).2;rw[y]at C;exact C)
 refine(ae HK).mono ?_;rintro e x5 ⟨rfl,M,hM,G,J,H,r⟩;have HF:Hid (cM x5 b (b+1) (.slice (some ⟨g,0,none⟩) N cap) M/\Below b w x5/\bj 3 w x5/\x5.heap[w.heap.size]?=some (Obj.cells #[.int .i64 0,.int .i64 0,.slice none 0 0] 222)/\M.Perm ((cQ L 0 N).take N)/\HP M):=by
  obtain⟨z,A,n,p,q⟩:=ae S;exact⟨J,A.trans H,n.trans r.1,(r.2.2 _ (dn p) (by omega)).trans p,hM,G⟩
 have U:Three x5 w.heap.size _ _ _:=qM (ae HF).2.2.2.1;have V:Three x5 x1.heap.size (.int .i64 Ac) (.int .i64 Af) (.slice aa An ac):=by
  obtain⟨z,A,n,p,q⟩:=ae S;exact qM ((r.2.2 _ (dn q) (by omega)).trans q)
 clear hM G J H r HK;obtain⟨p0,p1,p2,q0,q1,q2,a0⟩:=U;obtain⟨r0,r1,r2,s0,s1,s2,a8⟩:=V;go_wp2_with fail;obtain⟨c,j,d,a,f,m⟩:=ae HX;obtain⟨fh,fb,fk,fr,fM,fP⟩:=ae HF;obtain⟨eA,eF,eS⟩:=ae R;have X:=(((Three.set0 ⟨p0,p1,p2,q0,q1,q2,a0⟩ (.int .i64 Ac)).set1 (.int .i64 Af)).set2 (.slice aa An ac));have W:=((((Touch.refl (some ⟨w.heap.size,0,none⟩) x5).set (o:=0) rfl (.int .i64 Ac)).set (o:=1) rfl (.int .i64 Af)).set (o:=2) rfl (.slice aa An ac));have I:=ah (ah (ah fb (b:=w.heap.size) (o:=0) (a0s s) (.int .i64 Ac)) (b:=w.heap.size) (o:=1) (a0s s) (.int .i64 Af)) (b:=w.heap.size) (o:=2) (a0s s) (.slice aa An ac);have ao:=fk.trans (bj.touch fr (by decide) W);have an:=((fh.setOther (k:=w.heap.size) (o:=0) (by omega) (by omega) (.int .i64 Ac)).setOther (k:=w.heap.size) (o:=1) (by omega) (by omega) (.int .i64 Af)).setOther (k:=w.heap.size) (o:=2) (by omega) (by omega) (.slice aa An ac);generalize ((x5.setCell ⟨w.heap.size,0,none⟩ (.int .i64 Ac)).setCell ⟨w.heap.size,1,none⟩ (.int .i64 Af)).setCell ⟨w.heap.size,2,none⟩ (.slice aa An ac)=Z at *
 obtain⟨t0,t1,t2,_,_,_,_⟩:=X;refine a0y (v:=.agg #[.int .i64 Ac,.int .i64 Af,.slice aa An ac]) (by simp[results,results165,go_sem,t0,t1,t2]) rfl ⟨?_,M,?_,fP,an,I,ao⟩
 . rw[eA,eF,f]
 . have y:=(ae B).1;have C:=Gd (L:=L) (by omega);rw[y]at C;exact(fM.cons _).trans C
theorem nE(l:List Int)(k:Nat):(az l k).length<=k:=by
 induction k with
 | zero=>simp[az]
 | succ k ih=>
  simp only[az]
  split
  . simp;omega
  . omega
theorem uo(a:Option Addr)(cap n:Nat)(l:List Int)(w:World)(K:l.length=n)(h:bp w a l)(J:n<=300) :
  Calls prog 163 #[.slice a n cap] w fun e w'=>e = .returned (.pointer (some ⟨w.heap.size,0,none⟩))/\∃(L:List Grp) (va:Option Addr) (vc:Nat),cM w' w.heap.size (w.heap.size+1) (.slice va L.length vc) L/\HP L/\(L.map bare).Perm (az l n)/\dE w' (w.heap.size+1) L/\Below w.heap.size w w':=by
 have S:(n:Int)<=300:=by omega
 have A:=af (a0b K J);have s:Below w.heap.size w (w.alloc (.cells #[.slice none 0 0] 240)):=(a0c _ _).alloc (a0a _) _;have t:cM (w.alloc (.cells #[.slice none 0 0] 240)) w.heap.size (w.heap.size+1) (.slice none 0 0) []:=⟨pw _ _,a05 _ _ _ _⟩;clear K J;go_enter func163,ntmps163;go_wp2_with fail
 go_loopw [4,5,10] (fun _ _ i wr=>∃(k:Nat) (L:List Grp) (va:Option Addr) (vc:Nat),k<=n/\i = .int .i64 k/\cM wr w.heap.size (w.heap.size+1) (.slice va L.length vc) L/\HP L/\(L.map bare).Perm (az l k)/\dE wr (w.heap.size+1) L/\Below w.heap.size w wr) (fun _ _ i _=>n-(intOf i).toNat)
 case atStart=>exact⟨0,[],none,0,a0g _,rfl,t,fun i _ R=>by simp at R,a2i _,zL _ _,s⟩
 case round=>
  obtain⟨k,L,va,vc,v,rfl,d,p,j,m,b⟩:=hrel;clear s t;by_cases H:k<n
  .
   obtain⟨g,o,rfl,T,u⟩:=(h.later b) (by rw[(ae A).1];omega);have c0:=u k (by rw[(ae A).1];exact H);have c:L.length<300:=by
    have Q:=j.length_eq;rw[a0N]at Q;have h2:=nE l k;have:=(ae A).2;omega
   have I:=af (a0b v (a0b d (a0b p (a0b j (a0b m b)))));clear u;by_cases N:0<l.getD k 0
   .
    have q:=af (tJ N);generalize l.getD k 0=y at *
    have f:Below wr.heap.size wr (wr.alloc (.cells #[.int .i64 (k:Int)] 3)):=(a0c _ _).alloc (a0a _) _;have B:ak (wr.alloc (.cells #[.int .i64 (k:Int)] 3)) (w.heap.size+1) (.slice (some ⟨wr.heap.size,0,none⟩) 1 1) [(k:Int)]:=ak.one wr _ d.lt _;have z:=af (yE w.heap.size L.length vc va L ⟨y,(k:Int),[(k:Int)],.slice (some ⟨wr.heap.size,0,none⟩) 1 1⟩ _ ((bj.below f).syms m) B rfl c (d.later f) p);have r:=af f;have O:=af B;clear v d p j m b B f c;go_wp2_with fail;refine(ae z).mono ?_;rintro e x1 ⟨rfl,M,g',P,D,C,F,E,x⟩;go_wp2;go_roundw
    case rel=>
     obtain⟨v,d,p,j,m,b⟩:=ae I;have G:M.length=L.length+1:=by rw[D.length_eq];simp
     refine⟨k+1,M,some ⟨g',0,none⟩,P,by omega,by go_num,by rw[G];exact F,C,?_,?_,(b.trans ((ae r).mono (a0s d.lt))).trans E⟩
     . rw[ae q];refine(D.map bare).trans ?_;rw[a0I];exact j.append_right _
     . exact((x.syms ((bj.below (ae r)).syms m)).snoc (x.ints (ae O))).perm D
    case measure=>simp[intOf];omega
   .
    have q:=af (Dw N);generalize l.getD k 0=y at *
    clear v d p j m b c;go_wp2;go_roundw
    case rel=>
     obtain⟨v,d,p,j,m,b⟩:=ae I;exact⟨k+1,L,va,vc,by omega,by go_num,d,p,by rw[ae q];exact j,m,b⟩
    case measure=>simp[intOf];omega
  .
   obtain rfl:k=n:=by omega
   clear h;go_wp2;go_ret;exact⟨rfl,L,va,vc,d,p,j,m,b⟩
theorem GF{L M1 M2:List Grp}(E:∀i,i<l.length->0<=l.getD i 0/\l.getD i 0<=100000)(M:l.length<=300)(t:j<(az l l.length).length∨j=0)(A:(L.map bare).Perm (ay l j).1)(F:HP L)(h2:1<L.length)(y:(L.getD 0 g0 :: M1).Perm L)(u:HP M1)(q:(M1.getD 0 g0 :: M2).Perm M1) :
  bf (ay l j).1=(L.getD 0 g0).syms++(M1.getD 0 g0).syms /\
  (∀(M3:List Grp) (v:Value),M3.Perm (M2++[⟨(L.getD 0 g0).cnt+(M1.getD 0 g0).cnt,if (M1.getD 0 g0).fst<(L.getD 0 g0).fst then(M1.getD 0 g0).fst else(L.getD 0 g0).fst,(L.getD 0 g0).syms++(M1.getD 0 g0).syms,v⟩])->(M3.map bare).Perm (ay l (j+1)).1) /\
  0<=(L.getD 0 g0).cnt/\0<=(M1.getD 0 g0).cnt/\(L.getD 0 g0).cnt+(M1.getD 0 g0).cnt<=30000000 /\
  ((L.getD 0 g0).syms++(M1.getD 0 g0).syms).length<=300/\0<(L.getD 0 g0).syms.length/\0<(M1.getD 0 g0).syms.length/\(∀x∈(L.getD 0 g0).syms++(M1.getD 0 g0).syms,0<=x/\x<(l.length:Int)):=by
 have B:M1.length+1=L.length:=by have:=y.length_eq;simpa using this
 obtain⟨d,J,K,C⟩:=bZ l j t;have D:(ay l j).1.length=L.length:=by rw[←A.length_eq,a0N]
 have m:=(gx l j t).1;have h:=GI l j t;have o:∀g∈L,aU g (L.getD 0 g0)=false:=by
  intro g k;obtain⟨i,b,rfl⟩:=a18 k;have:=GH F i b;have e:L.getD i g0=L[i]:=by simp[List.getD,b]
  rw[e]at this;exact this
 have c:∀g∈M1,aU g (M1.getD 0 g0)=false:=by
  intro g k;obtain⟨i,b,rfl⟩:=a18 k;have:=GH u i b;have e:M1.getD i g0=M1[i]:=by simp[List.getD,b]
  rw[e]at this;exact this
 obtain⟨e1,I⟩:=vy A y.symm o (by omega) m h;have s:qt (ar (ay l j).1):=fun g k=>h g (be _ g k);obtain⟨e2,p2⟩:=vy I q.symm c (by omega) (Eg (by omega) m) s;have a:=wR d (by omega:1<(ay l j).1.length);have p:=d _ (bu (ay l j).1 (by omega));have G:=dj (ay l j).1 (by omega);have hb:=d _ (be _ _ (bu (ar (ay l j).1) (by omega)));have H:=j9 l 100000 (by omega) (fun i b=>(E i b).2) l.length (a0a _);have n:bf (ay l j).1=(L.getD 0 g0).syms++(M1.getD 0 g0).syms:=by
  unfold bf;rw[←e1,←e2];rfl
 rw[←e1]at p a;rw[←e2]at hb a;refine⟨n,?_,p.1,hb.1,?_,?_,p.2.2.2.2,hb.2.2.2.2,?_⟩
 . intro M3 v r;have z:=r.map bare;rw[a0I]at z;refine z.trans ?_;show List.Perm _ (stepG (ay l j).1);unfold stepG;rw[←e1,←e2];exact p2.append_right _
 . have w:=a.1;have:(bare (L.getD 0 g0)).cnt=(L.getD 0 g0).cnt:=rfl;have:(bare (M1.getD 0 g0)).cnt=(M1.getD 0 g0).cnt:=rfl;omega
 . have w:=a.2;rw[n]at w;omega
 .
  intro x f;simp only[a0X]at f;rcases f with f|f
  . exact p.2.2.2.1 x f
  . exact hb.2.2.2.1 x f
def iA(l:List Int):Int:=if decide (l.length<=300)&&inC l then(us l:Nat)else -1
theorem FF(h:300<l.length):iA l = -1:=by
 unfold iA;rw[a0j (by omega)];rfl
theorem FG(h:inC l=false):iA l = -1:=by
 unfold iA;rw[h];simp
theorem mH(h:l.length<=300)(h2:inC l=true):iA l=(us l:Nat):=by
 unfold iA;rw[a0v h,h2];rfl
theorem lz(a:Option Addr)(cap n:Nat)(l:List Int)(w:World)(E:l.length=n)(h:bp w a l)(C:n<=1048576) :
  Calls prog 120 #[.slice a n cap] w fun e w'=>e = .returned (.int .i64 (iA l))/\w'=w:=by
 subst E;have D:(l.length:Int)<=1048576:=by omega
 clear C;by_cases H:(l.length:Int)<=300
 .
  go_enter func120,ntmps120;go_wp2_with fail
  go_loop [3,5,11] (fun n _ i=>∃k:Nat,k<=l.length/\i = .int .i64 k/\n = .int .i64 (us (l.take k):Nat)/\inC (l.take k)=true) (fun _ _ i=>l.length-(intOf i).toNat)
  case atStart=>exact⟨0,a0g _,rfl,rfl,rfl⟩
  case round=>
   obtain⟨k,B,rfl,rfl,j⟩:=hrel;have x:=af j;clear j;by_cases d:k<l.length
   .
    obtain⟨g,o,rfl,I,z⟩:=h (by omega);have c0:=z k d;have p:=af (oW l k d);have hit:=af (GJ l k d);have s:=af (fun hb=>J4 (l:=l) (k:=k) d hb);have t:=qS (l.take k);have A:(us (l.take k):Int)<=300:=by
     have:(l.take k).length<=l.length:=by simp;omega
     omega
    clear z B h t;generalize l.getD k 0=y at *
    generalize us (l.take k)=u at *
    by_cases hb:0<=y/\y<=100000
    .
     obtain⟨q,r⟩:=hb;have b:Hid (inC (l.take (k+1))=true):=by
      show _=true;rw[ae hit,ae x,aC.2 ⟨q,r⟩];rfl
     by_cases v:0<y
     .
      have c:Hid (us (l.take (k+1))=u+1):=by have:=ae p;rw[a0d v]at this;exact this
      go_wp2
      go_round
      case rel=>exact⟨k+1,by omega,by go_num,by rw[ae c];go_num,ae b⟩
      case measure=>simp[intOf];omega
     .
      have c:Hid (us (l.take (k+1))=u):=by have:=ae p;rw[a0e v]at this;exact this
      go_wp2
      go_round
      case rel=>exact⟨k+1,by omega,by go_num,by rw[ae c],ae b⟩
      case measure=>simp[intOf];omega
    .
     have f:Hid (iA l = -1):=FG (ae s (by
      cases F:inB y 0 100000
      . rfl
      . exact absurd (aC.1 F) hb))
     by_cases v:y<0
     . go_wp2;go_ret;exact⟨aE (ae f).symm,rfl⟩
     .
      have G:¬ y<=100000:=by omega
      go_wp2;go_ret;exact⟨aE (ae f).symm,rfl⟩
   .
    have m:Hid (l.take k=l):=a0F (by omega);have b:Hid (inC l=true):=by show inC l=true;rw[←ae m];exact ae x
    clear h;go_wp2;go_ret;exact⟨aE (by rw[mH (by omega) (ae b),ae m]),rfl⟩
 . have f:=af (FF (l:=l) (by omega));go_enter func120,ntmps120;clear h;go_wp2;go_ret;exact⟨aE (ae f).symm,rfl⟩
def gE(x:Int):Int:=if x<=1 then x else 1
theorem yL(x:Int)(w:World)(a : -1000000<=x)(b:x<=1000000) :
  Calls prog 122 #[.int .i64 x] w fun e w'=>e = .returned (.int .i64 (gE x))/\w'=w:=by
 by_cases h:x<=1
 .
  have e:Hid (gE x=x):=by show gE x=x;simp[gE,h]
  go_enter func122,ntmps122;go_wp2;go_ret;exact⟨aE (ae e).symm,rfl⟩
 .
  have e:Hid (gE x=1):=by show gE x=1;simp[gE,h]
  go_enter func122,ntmps122;go_wp2;go_ret;exact⟨aE (ae e).symm,rfl⟩
theorem xL(a:Option Addr)(cap n:Nat)(l:List Int)(w:World)(H:l.length=n)(h:bp w a l)(G:n<=1048576)(E:okC l) :
  Calls prog 121 #[.slice a n cap,.func (.func 122) #[] #[]] w fun e w'=>∃v,e = .returned v/\ak w' w.heap.size v (l.map gE)/\Below w.heap.size w w':=by
 have M:(n:Int)<=1048576:=by omega
 have p:=af H;have K:=af G;have I:=af E;clear H G E;obtain⟨i0,L,B,C,D⟩:=a0t Tryz.infoInt;go_enter func121,ntmps121;go_wp2_with fail
 go_loopw [5,7,10] (fun o _ i wr=>∃k:Nat,k<=n/\i = .int .i64 k/\ak wr w.heap.size o ((l.take k).map gE)/\Below w.heap.size w wr) (fun _ _ i _=>n-(intOf i).toNat)
 case atStart=>exact⟨0,a0g _,rfl,a05 _ _ _ _,a0c _ _⟩
 case round=>
  obtain⟨k,F,rfl,hq,b⟩:=hrel;have q:=b.size;by_cases m:k<n
  .
   obtain⟨g,o,rfl,N,r⟩:=(h.later b) (by rw[ae p];omega);have c0:=r k (by rw[ae p];exact m);obtain⟨y0,y1⟩:=ae I k (by rw[ae p];exact m);have A:Hid ((l.take (k+1)).map gE=(l.take k).map gE++[gE (l.getD k 0)]):=by
    show _=_;rw[ci l k (by rw[ae p];exact m),a0I];rfl
   have z:Hid (((l.take k).map gE).length=k):=by show _=k;have:=ae p;simp;omega
   have J:=af F;clear r F h;generalize l.getD k 0=y at *
   have HP:=af (yL y wr (by omega) (by omega));generalize gE y=R at *
   go_wp2_with fail;refine(ae HP).mono ?_;rintro e x1 ⟨rfl,u⟩;rw[u];clear u x1;have d:Hid (((l.take k).map gE).length+1<=maxLen/\(((l.take k).map gE).length+1)*8<=140737488355328):=by
    show _/\_;rw[ae z];have:=ae K;unfold maxLen;omega
   clear HP;go_wp2_with (at_builtin;refine a0x _ rfl _ _ 56 rfl w.heap.size 3 i0 (.int .i64 0) 1 8 a0D L B C D rfl (by decide) _ _ _ rfl (a0r hq _) ⟨wr.heap.size,0,none⟩ 1 1 [.int .i64 R] rfl rfl (bD _ _ rfl _ _) (en _) (ae d).1 (ae d).2 (ax q _) ?_;intro v' x2 j c s;clear s);have x:=aG (v:=u5) c hq (a0a _) q b;have t:=mw j;rw[←ae A]at t;clear j c hq;go_wp2;go_roundw
   case rel=>exact⟨k+1,by have:=ae J;omega,by go_num,t,x⟩
   case measure=>simp[intOf];omega
  . have f:l.take k=l:=a0F (by rw[ae p];omega);rw[f]at hq;obtain⟨va,vc,rfl⟩:=hq.form;clear f h;go_wp2;go_ret;exact⟨_,rfl,hq,b⟩
end Go.Proofs.YtggknepmhjfohaaGreatDoor
