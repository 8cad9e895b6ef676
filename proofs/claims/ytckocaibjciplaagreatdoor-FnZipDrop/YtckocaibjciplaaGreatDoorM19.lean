/- Texts. -/
import Derived.Test.YtckocaibjciplaaGreatDoorM16
set_option linter.all false
set_option maxRecDepth 100000
set_option maxHeartbeats 6400000
namespace Go.Proofs.YtckocaibjciplaaGreatDoor
open Go.Proofs.Tryz
open Go.RowKit
variable {b c g i j k n ob:Nat}{l:List Int}{t:TypeId}{v:Value}{w w':World}
def sliceLen:Value->Nat
 | .slice _ n _=>n
 | _=>0
def wO(h:0<l.getD k 0):aB l (k+1)=aB l k++[⟨l.getD k 0,(k:Int),[(k:Int)],.slice none 0 0⟩]:=by simp only[aB];rw[a0d h]
def IJ(h:¬ 0<l.getD k 0):aB l (k+1)=aB l k:=by simp only[aB];rw[a0e h]
def sQ(w:World)(x y z:Value)(t:TypeId)(g:Nat)(b:w.heap.size=g):∀(j:Nat) (u:Value),[x,y,z][j]?=some u->(w.alloc (.cells #[x,y,z] t)).cell? ((⟨g,0,none⟩:Addr).add j)=some u:=by
 subst b;intro j u a
 match j,a with
 | 0,a=>simp at a;subst a;simp[Addr.add]
 | 1,a=>simp at a;subst a;simp[Addr.add]
 | 2,a=>simp at a;subst a;simp[Addr.add]
def sR(x y:Int)(a:Option Addr)(n c:Nat):∀u∈[Value.int .i64 x,Value.int .i64 y,Value.slice a n c],u.oneCell'=true:=by
 intro u b;simp at b;rcases b with rfl|rfl|rfl<;>rfl
def sU{x:World}{base:Nat}{l:List Grp}(g:Grp)(h:x.ownsRow base t 3 v (l.length+1) (aR l++[.int .i64 g.cnt,.int .i64 g.fst,g.val])):cW t x base v (l++[g]):=by
 show World.ownsRow _ _ _ _ _ (l++[g]).length _;rw[lp];simpa[aR]using h
def an.one(w:World)(base:Nat)(hb:base<=w.heap.size)(x:Int):an (w.alloc (.cells #[x] 3)) base (.slice w.heap.size 1 1) [x]:=
 a0S w #[x] 1 hb (by unfold maxLen;omega) rfl
def Ev(w:World)(ob:Nat):d9 w ob []:=fun g a=>by simp at a
def d9.snoc{l:List Grp}{g:Grp}(h:d9 w ob l)(b:an w ob g.val g.syms):d9 w ob (l++[g]):=by
 intro x a;simp only[a02,a09]at a;rcases a with a|rfl
 . exact h x a
 . exact b
def d9.grown{base:Nat}{l m:List Grp}(h:d9 w ob l)(c:cW t w base v m)(d:3≠t)(b:w.grownBy w' v.ownBlock):d9 w' ob l:=
 fun g a=>a1U (h g a) b (pV (h g a) c d)
def mj{base:Nat}{u:Value}{m:List Grp}(h:an w ob u l)(b:cW t w base v m)(c:3≠t)(a:w.grownBy w' v.ownBlock):an w' ob u l:=
 a1U h a (pV h b c)
def rm(w:World)(x y z:Value)(t:TypeId):Three (w.alloc (.cells #[x,y,z] t)) w.heap.size x y z:=⟨by simp,by simp,by simp,by simp,by simp,by simp,by simp⟩
def Three.later{v0 v1 v2:Value}(h:Three w b v0 v1 v2)(hb:Below w.heap.size w w'):Three w' b v0 v1 v2:=h.kept (hb.mono h.2.2.2.2.2.2)
def cW.mono{base base':Nat}{l:List Grp}(h:cW t w base v l)(hb:base'<=base):cW t w base' v l:=
 ⟨h.1,h.2.imp id fun⟨g,c,u,e,a,r⟩=>⟨g,c,u,e,a0E hb a,r⟩⟩
def d9.sub{l m:List Grp}(h:d9 w ob l)(b:∀g∈m,g∈l):d9 w ob m:=fun g a=>h g (b g a)
def pa{a:Option Addr}{base size:Nat}{e:TypeId}{xs:List Value}(h:w.ownsRow base e size v n xs)(j:Touch a w w')(f:∀g,a=some ⟨g,0,none⟩->g<base):w'.ownsRow base e size v n xs:=by
 refine⟨h.1,?_⟩;rcases h.2 with i|⟨g,cap,b,rfl,c,d,rest⟩
 . exact .inl i
 . refine .inr ⟨g,cap,b,rfl,c,?_,rest⟩;rw[j.2 g (fun g' e=>by have:=f g' e;omega)];exact d
def iX{p:Addr}(a:Touch (some ⟨b,0,none⟩) w w')(c:p.block≠b):w'.cell? p=w.cell? p:=
 World.cell?_of_block (a.2 p.block (fun g e=>by simp only[a0k,a0A,a0Q]at e;omega))
def kw(b B:Nat)(h:b<B):∀g,(some ⟨b,0,none⟩:Option Addr)=some ⟨g,0,none⟩->g<B:=by
 intro g e;simp only[a0k,a0A,a0Q]at e;omega
def vI(a:Option Addr)(cap n:Nat)(l:List Int)(w:World)(hn:l.length=n)(h:br w a l)(hm:n<=300)(hc:∀i,i<l.length->0<=l.getD i 0/\l.getD i 0<=100000) :
  Calls prog 226 #[.slice a n cap] w fun e w'=>e = .returned (.slice w.heap.size n n)/\an w' w.heap.size (.slice w.heap.size n n) (bZ l)/\Below w.heap.size w w':=by
 have op:(n:Int)<=300:=by omega
 obtain⟨i0,hi,he,hf,hh⟩:=a0s Tryz.infoInt;obtain⟨j0,hj,g8,lf,lg⟩:=a0s Tryz.infoTree;have HN:=af hn;have HC:=af hc;have HM:=af hm;clear hc;go_enter func226,ntmps226;go_wp2_with (at_make;refine a1F _ rfl _ _ 122 rfl w.heap.size 3 i0 (.int .i64 0) 1 a0F hi he hf .i64 .i64 _ _ n rfl rfl rfl rfl (by rw[hh];omega) (by unfold maxLen;omega) (a0a _) ?_;intro w1 al m);have kt:an (w1.alloc (.cells #[] 321)) w.heap.size (.slice w.heap.size n n) (List.replicate l.length 0):=by
  rw[hn];exact(dn al).later ((a0c w1.heap.size w1).alloc (a0a _) _) (a0a _)
 have kk:w.heap.size+1<=w1.heap.size:=(dn al).below.2;have ji:Below w.heap.size w (w1.alloc (.cells #[] 321)):=((a0c _ _).grown m (a0a _) (fun k h=>by cases h)).alloc (by omega) _;have k5:cW 321 (w1.alloc (.cells #[] 321)) (w.heap.size+1) (.slice w1.heap.size 0 0) []:=a0S w1 #[] 0 kk (by unfold maxLen;omega) rfl;clear al m hn hm
 go_loopw [4,5] (fun v i wr=>∃(k:Nat) (L:List Grp),k<=n/\i = .int .i64 k/\L.map bare=aB l k/\cW 321 wr (w.heap.size+1) v L/\d9 wr (w.heap.size+1) L/\an wr w.heap.size (.slice w.heap.size n n) (List.replicate l.length 0)/\Below w.heap.size w wr) (fun _ i _=>n-(intOf i).toNat)
 case atStart=>exact⟨0,[],a0g _,rfl,rfl,k5,Ev _ _,kt,ji⟩
 case round=>
  obtain⟨k,L,hk,rfl,hL,ht,hs,hp,J⟩:=hrel;clear kt ji k5;have HL:=af hL;have mo:w.heap.size+1<=wr.heap.size:=hp.below.2;clear hL;by_cases m5:k<n
  .
   obtain⟨g,o,rfl,hg,j1⟩:=(h.later J) (by rw[ae HN];omega);have c0:=j1 k (by rw[ae HN];exact m5);have HK:=af hk;have m3:L.length<=300:=by
    have h1:(L.map bare).length=(aB l k).length:=(by rw[ae HL]);have h2:=(lM l 100000 (by omega) (fun i hi=>(HC i hi).2) k (by rw[ae HN];omega)).2.2;rw[a0O]at h1;have:=ae HM;omega
   clear j1 hk;by_cases hy:0<l.getD k 0
   .
    have ef:=af (wO hy);generalize l.getD k 0=y at *;have hA:an (wr.alloc (.cells #[.int .i64 (k:Int)] 3)) (w.heap.size+1) (.slice wr.heap.size 1 1) [(k:Int)]:=an.one wr _ mo _;have Z:Below wr.heap.size wr (wr.alloc (.cells #[.int .i64 (k:Int)] 3)):=cC;have K:(wr.alloc (.cells #[.int .i64 (k:Int)] 3)).heap.size=wr.heap.size+1:=(by simp);have I:=ht.later Z (a0a _);have H:=hs.later Z (a0a _);have G:=hp.later Z (a0a _);have T:=aj J ((a0c wr.heap.size wr).alloc (a0a _) (.cells #[.int .i64 (k:Int)] 3));have HX:=af (a0b hA (a0b I (a0b H (a0b G (a0b T K)))));have V:Hid (L.length+1<=maxLen/\(L.length+1)*40<=140737488355328):=by show _/\_;unfold maxLen;omega
    clear hA Z I H G T ht hs hp J K;go_wp2_with (at_builtin;refine a0w _ rfl _ _ 319 rfl (w.heap.size+1) 321 j0 (.agg #[.int .i64 0,.int .i64 0,.slice none 0 0]) 3 40 a3Q hj g8 lf lg rfl (by decide) _ _ _ rfl (a0n HX.2.1 _) ⟨wr.heap.size+1,0,none⟩ 1 1 [.int .i64 y,.int .i64 (k:Int),.slice wr.heap.size 1 1] rfl rfl (sQ _ _ _ _ _ _ HX.2.2.2.2.2) (sR _ _ _ _ _) V.1 V.2 (au (by rw[HX.2.2.2.2.2];omega) _) ?_;intro v' x3 al m kq;clear kq);obtain⟨hA,I,H,G,T,K⟩:=ae HX;have em:∀{B:Nat} {o:Obj},B=wr.heap.size+1->Below B (wr.alloc (.cells #[.int .i64 (k:Int)] 3)) ((wr.alloc (.cells #[.int .i64 (k:Int)] 3)).alloc o):=fun{B} {o} e=>(a0c _ _).alloc (by rw[K];omega) _;have Y:cW 321 ((wr.alloc (.cells #[.int .i64 (k:Int)] 3)).alloc (.cells #[y,.int .i64 (k:Int),.slice wr.heap.size 1 1] 321)) (w.heap.size+1) u4 L:=a0n I _;have ab:=(H.later (em rfl) (by rw[K];exact a0a _)).grown Y (by decide) m;have a7:=mj (hA.later (em rfl) (by rw[K];exact a0a _)) Y (by decide) m;have a3:=mj (G.later (em rfl) (by rw[K];exact a0a _)) Y (by decide) m;have ao:Below w.heap.size w x3:=aJ (v:=u4) m I (by omega) (by rw[K];omega) T;have be:=sU ⟨y,(k:Int),[(k:Int)],.slice wr.heap.size 1 1⟩ al;have ca:=ab.snoc (g:=⟨y,(k:Int),[(k:Int)],.slice wr.heap.size 1 1⟩) a7;clear al m HX hA I H G T em Y ab a7;go_wp2;go_roundw
    case rel=>exact⟨k+1,L++[⟨y,(k:Int),[(k:Int)],.slice wr.heap.size 1 1⟩],by omega,by go_num,by rw[ae ef,a0J,ae HL];rfl,be,ca,a3,ao⟩
    case measure=>simp[intOf];omega
   .
    have ef:=af (IJ hy);generalize l.getD k 0=y at *;go_wp2;go_roundw
    case rel=>exact⟨k+1,L,by omega,by go_num,by rw[ae ef];exact HL,ht,hs,hp,J⟩
    case measure=>simp[intOf];omega
  .
   obtain rfl:k=n:=by omega
   have a4:Hid (L.map bare=aB l l.length):=by show L.map bare=aB l l.length;rw[ae HN];exact HL
   have hU:Hid (L.length=(aB l l.length).length):=by show L.length=(aB l l.length).length;rw[←ae a4,a0O]
   have i8:L.length<=300:=by
    have h2:=(lM l 100000 (by omega) (fun i hi=>(HC i hi).2) l.length (a0a _)).2.2;have:=ae hU;have:=ae HM;have:=ae HN;omega
   have lb:=af (IK l l.length (a0a _));obtain⟨va,vc,rfl⟩:=ht.form;clear h;by_cases d5:L.length=1
   .
    obtain⟨g,rfl⟩:=ht.somes (by omega);obtain⟨_,c1,_,_,_⟩:=ht.at rfl 0 (by omega);have m6:=ae lb ((aB l l.length).getD 0 g0) (gt _ 0 (by have:=ae hU;omega));have ev:(L.getD 0 g0).fst=((aB l l.length).getD 0 g0).fst:=by rw[←ae a4,ov];rfl
    obtain⟨_,f0,f1,_,_⟩:=m6;rw[←ev,ae HN]at f1;rw[←ev]at f0;have ea:Hid (bZ l=(List.replicate l.length 0).set (L.getD 0 g0).fst.toNat 1):=by
     show bZ l=_;unfold bZ;rw[a0d (by rw[←ae hU];exact d5),ev]
    generalize (L.getD 0 g0).fst=f at *;obtain⟨q,rfl⟩:=a0p f0;rw[a0o]at ea;have b7:(List.replicate l.length (0:Int)).length=k:=by simp[ae HN]
    obtain⟨d0,e0,_,_⟩:=hp.at (j:=q) b7 (by omega);have C:=hp.put (j:=q) b7 1;have d2:=ai J (b:=w.heap.size) (o:=q) (a0a _) (.int .i64 1);rw[←ae ea]at C;have HP:=af C;have HB:=af d2;have ob:wr.cell? ⟨g,1,none⟩=some (.int .i64 (q:Int)):=by simpa using c1
    clear C d2 b7 ea J hp hs ht c1 ev;rw[d5];generalize (List.replicate l.length (0:Int)).getD q 0=y at *;go_wp2_with fail
    go_loopw [4,6,7,8,9,10,11] (fun v _ _ _ _ _ _ wq=>v = .slice g 1 vc/\wq=wr.setCell ⟨w.heap.size,q,none⟩ (.int .i64 1)) (fun _ _ _ _ _ _ _ _=>0)
    case atStart=>exact⟨rfl,rfl⟩
    case round=>
     obtain⟨rfl,hw⟩:=hrel;subst hw;go_wp2;go_ret;exact⟨rfl,HP,HB⟩
   .
    have m9:((L.length:Int) == 1)=false:=by rw[a0Z];omega
    have j2:Hid (∀k,(aB l l.length).length-k<=1->(k<(aB l l.length).length∨k=0)->bZ l=(ay l k).2):=by
     intro k h1 h2;unfold bZ;have:=ae hU;rw[a0e (by omega)]
     congr 2;omega
    have it:=af i8;clear i8;have ks:an wr w.heap.size (.slice w.heap.size k k) (ay l 0).2:=hp;have i5:L.map bare=(ay l 0).1:=ae a4;generalize i9:(aB l l.length).length=U at *;have el:=af i9;clear i9 lb a4 HL hp;go_wp2_with fail
    go_loopw [4,6,7,8,9,10,11] (fun v _ _ _ _ _ _ wq=>∃(j:Nat) (M:List Grp),(j<U∨j=0)/\M.map bare=(ay l j).1/\cW 321 wq (w.heap.size+1) v M/\d9 wq (w.heap.size+1) M/\an wq w.heap.size (.slice w.heap.size k k) (ay l j).2/\Below w.heap.size w wq) (fun v _ _ _ _ _ _ _=>sliceLen v)
    case atStart=>exact⟨0,L,.inr rfl,i5,ht,hs,ks,J⟩
    case round=>
     obtain⟨j,M,hj,hM,a6,cy,ba,cv⟩:=hrel;clear ht hs ks J i5 m9 d5;have e8:=cn l j (by rw[ae el];exact hj);rw[←hM,ae el]at e8;obtain⟨iw,ic,is,il⟩:=e8;rw[a0O]at il;obtain⟨ma,mc,rfl⟩:=a6.form;have f6:=af hM;have HJ:=af hj;clear hM hj;by_cases s:1<M.length
     .
      have ka:(1:Int)<(M.length:Int):=(by omega);have l8:=ae it;have c:M.length<=300:=by have:=ae hU;omega
      have oi:(M.length:Int)<=300:=(by omega);have ad:w.heap.size+1<=wr.heap.size:=ba.below.2;have N:=eT M (by omega);have iw':WFL k M:=by
       intro g hg;have h1:=iw (bare g) (a2H hg);rw[ae HN]at h1;exact h1
      have P:=iw' _ (bD M (by omega));have D:=dy M (by omega);have Q:=iw' _ (bh M _ (bD (ar M) (by omega)));have O:=eT (ar M) (by omega);have r:gZ M<=30000000:=by
       have h1:=(lM l 100000 (by omega) (fun i hi=>(HC i hi).2) l.length (a0a _)).1;have h2:gZ (M.map bare)=gZ M:=by simp[gZ,Function.comp_def,bare]
       rw[h2]at ic;have:=ae HN;have h3:(100000:Int)*(l.length:Int)<=100000*300:=Int.mul_le_mul_of_nonneg_left (by omega) (by omega);omega
      have d:=AW iw' s;have hl:=af (tk ma mc M.length (w.heap.size+1) M wr rfl a6 (by omega) c);obtain⟨g,rfl⟩:=a6.somes (by omega);have mp:Hid (aE M=M.getD (least M) g0):=rfl;have nb:Hid (ar M=M.eraseIdx (least M)):=rfl;have HQ:=af (a0b a6 (a0b cy (a0b ba cv)));have ej:=af (a0b P (a0b D (a0b Q (a0b O (a0b r d)))));have ek:=af (a0b s (a0b c (a0b N (a0b ad il))));have n2:=af iw';clear a6 cy ba cv ic is iw P D Q O r d s c N ad il iw' l8;go_wp2_with fail;apply hl.mono;rintro e x1⟨rfl,a8⟩;obtain⟨a6,cy,ba,cv⟩:=ae HQ;obtain⟨s,c,N,ad,il⟩:=ae ek;obtain⟨P,D,Q,O,r,d⟩:=ae ej;have I:=a6.later a8 (a0a _);have H:=cy.later a8 (a0a _);have G:=ba.later a8 (a0a _);have Z:=aj cv a8;have lo:=a8.size;obtain⟨c0,c1,c2,_,ey⟩:=I.at rfl (least M) N;rw[←ae mp]at c0 c1 c2;have bk:=H _ (bD M (by omega));obtain⟨aa,ac,en⟩:=bk.form;obtain⟨ga,j4⟩:=(en▸bk).somes P.2.2.2.2;rw[j4]at en;rw[en]at c2 bk;have e2:((least M:Nat):Int)<(M.length:Int):=(by omega);have c9:=af (vJ (some ⟨g,0,none⟩) mc M.length (w.heap.size+1) (w.heap.size+1) (least M) M (x1.alloc (.cells #[.int .i64 (aE M).cnt,.int .i64 (aE M).fst,.slice ga (aE M).syms.length ac] 321)) rfl (I.later ((a0c x1.heap.size x1).alloc (a0a _) _) (a0a _)) (H.later ((a0c x1.heap.size x1).alloc (a0a _) _) (a0a _)) N c);have hz:=af (a0b I (a0b H (a0b G (a0b Z bk))));have n0:=af ey;have ky:w.heap.size+1<=x1.heap.size:=G.below.2;clear a6 cy ba cv HQ hl I H G Z bk en P D Q O r d s c N ad il j4 ey lo;generalize i1:aE M=A at *;have f3:=af i1;clear i1;go_wp2_with fail;apply c9.mono;rintro e x2⟨⟨v1,rfl,Y⟩,cu⟩;obtain⟨I,H,G,Z,bk⟩:=ae hz;obtain⟨s,c,N,ad,il⟩:=ae ek;obtain⟨P,D,Q,O,r,d⟩:=ae ej;rw[←ae nb]at Y;have b5:Below x1.heap.size x1 (x1.alloc (.cells #[A.cnt,A.fst,.slice ga A.syms.length ac] 321)):=cC;have a9:=aj b5 cu;have dl:=(rm x1 (.int .i64 A.cnt) (.int .i64 A.fst) (.slice ga A.syms.length ac) 321).later cu;have eb:=H.later a9 (a0a _);have d8:=G.later a9 (a0a _);have bl:=bk.later a9 (a0a _);have dq:=aj Z a9;have bd:=Y.mono (show w.heap.size+1<=_ by have:=G.below.2;have:=b5.size;omega);obtain⟨ra,rc,g6⟩:=bd.form;subst g6;obtain⟨g2,m0⟩:=bd.somes (by omega);subst m0;have m4:(ar M).length=M.length-1:=D;have e3:=af (tk (some ⟨g2,0,none⟩) rc (ar M).length (w.heap.size+1) (ar M) x2 rfl bd (by omega) (by omega));have os:((ar M).length:Int)<=300:=(by omega);have h0:=af (a0b bd (a0b eb (a0b d8 (a0b dq (a0b bl dl)))));clear I H G Z bk hz c9 b5 a9 dl eb d8 bl dq bd Y cu c0 c1 c2 e2 P D Q O r d s c N ad il m4;go_wp2_with fail;apply e3.mono;rintro e x3⟨rfl,ao⟩;obtain⟨Y,eb,d8,dq,bl,dl⟩:=ae h0;obtain⟨s,c,N,ad,il⟩:=ae ek;obtain⟨P,D,Q,O,r,d⟩:=ae ej;have be:=Y.later ao (a0a _);have ab:=eb.later ao (a0a _);have a3:=d8.later ao (a0a _);have bs:=bl.later ao (a0a _);have a7:=dl.later ao;have ds:=aj dq ao;have fb:aE (ar M)=(ar M).getD (least (ar M)) g0:=rfl;obtain⟨c0,c1,c2,_,ey⟩:=be.at rfl (least (ar M)) O;rw[←fb]at c0 c1 c2;have b3:=ab _ (bh M _ (bD (ar M) (by omega)));obtain⟨bb,bc,eu⟩:=b3.form;obtain⟨gb,j5⟩:=(eu▸b3).somes Q.2.2.2.2;rw[j5]at eu;rw[eu]at c2 b3;have e2:((least (ar M):Nat):Int)<((ar M).length:Int):=(by omega);have c9:=af (vJ (some ⟨g2,0,none⟩) rc (ar M).length (w.heap.size+1) (w.heap.size+1) (least (ar M)) (ar M) (x3.alloc (.cells #[.int .i64 (aE (ar M)).cnt,.int .i64 (aE (ar M)).fst,.slice gb (aE (ar M)).syms.length bc] 321)) rfl (be.later ((a0c x3.heap.size x3).alloc (a0a _) _) (a0a _)) ((ab.sub (bh M)).later ((a0c x3.heap.size x3).alloc (a0a _) _) (a0a _)) O (by omega));have h6:=af (a0b be (a0b ab (a0b a3 (a0b ds (a0b bs (a0b a7 b3))))));clear Y eb d8 dq bl dl h0 e3 be ab a3 bs a7 ds b3 eu ao P D Q O r d s c N ad il j5 ey fb;generalize i3:aE (ar M)=Bg at *;have f5:=af i3;clear i3;go_wp2_with fail;apply c9.mono;rintro e x4⟨⟨v2,rfl,c6⟩,gk⟩;obtain⟨be,ab,a3,ds,bs,a7,b3⟩:=ae h6;obtain⟨s,c,N,ad,il⟩:=ae ek;obtain⟨P,D,Q,O,r,d⟩:=ae ej;have fn:(ar M).eraseIdx (least (ar M))=ar (ar M):=rfl;rw[fn]at c6;have b5:Below x3.heap.size x3 (x3.alloc (.cells #[Bg.cnt,Bg.fst,.slice gb Bg.syms.length bc] 321)):=cC;have R:=aj b5 gk;have e7:=(rm x3 (.int .i64 Bg.cnt) (.int .i64 Bg.fst) (.slice gb Bg.syms.length bc) 321).later gk;have i2:=a7.later R;have ca:=ab.later R (a0a _);have b9:=a3.later R (a0a _);have fv:=bs.later R (a0a _);have fz:=b3.later R (a0a _);have dv:=aj ds R;have g7:w.heap.size+1<=x4.heap.size:=b9.below.2;have k1:w.heap.size+1<=x3.heap.size:=a3.below.2;have eg:=c6.mono (show w.heap.size+1<=_ by have:=a3.below.2;have:=b5.size;omega);have co:=dy (ar M) (by omega);obtain⟨ra,ls,g6⟩:=eg.form;subst g6;have jn:Hid ((A.syms.map (Value.int .i64)).length=A.syms.length*1):=by show _=_;simp
      have jx:Hid ((Bg.syms.map (Value.int .i64)).length=Bg.syms.length*1):=by show _=_;simp
      have kd:A.syms.length+Bg.syms.length<=300:=by
       have h1:=d.2;have h2:(bi M).length=A.syms.length+Bg.syms.length:=by
        unfold bi;rw[a0j,ae f3,ae f5]
       have h3:=(cn l j (by rw[ae el];exact HJ)).2.2.1;have h4:lq (M.map bare)=lq M:=by simp[lq,Function.comp_def,bare]
       rw[←ae f6,h4]at h3;have h5:=(lM l 100000 (by omega) (fun i hi=>(HC i hi).2) l.length (a0a _)).2.1;have:=ae HN;have:=ae HM;omega
      have h9:Hid (∀W,Below x4.heap.size x4 W->∀j u,(A.syms.map (Value.int .i64))[j]?=some u->W.cell? ((⟨ga,0,none⟩:Addr).add j)=some u):=fun W hW=>a1B (fv.later hW (a0a _)) rfl;have id:Hid (∀W,Below x4.heap.size x4 W->∀j u,(Bg.syms.map (Value.int .i64))[j]?=some u->W.cell? ((⟨gb,0,none⟩:Addr).add j)=some u):=fun W hW=>a1B (fz.later hW (a0a _)) rfl;have c8:∀W,Below x4.heap.size x4 W->W.cell? ⟨x1.heap.size,2,none⟩=some (.slice ga A.syms.length ac)/\W.cell? ⟨x3.heap.size,2,none⟩=some (.slice gb Bg.syms.length bc):=fun W hW=>⟨(i2.later hW).2.2.1,(e7.later hW).2.2.1⟩;have gd:World.ownsRow (x4.alloc (.cells #[] 3)).drew x4.heap.size 3 1 (.slice x4.heap.size 0 0) 0 []:=a0S x4 #[] 0 (a0a _) (by unfold maxLen;omega) rfl;have cs:Below x4.heap.size x4 (x4.alloc (.cells #[] 3)).drew:=cC.drew;have a8:Hid (0+A.syms.length<=maxLen/\(0+A.syms.length)*8<=140737488355328):=by show _/\_;unfold maxLen;omega
      have cu:Hid (0+A.syms.length+Bg.syms.length<=maxLen/\(0+A.syms.length+Bg.syms.length)*8<=140737488355328):=by show _/\_;unfold maxLen;omega
      obtain⟨a0,a1,a2,_,_,_,abl⟩:=i2;obtain⟨b0,b1,b2,_,_,_,l2⟩:=e7;have ho:x1.heap.size≠w.heap.size:=by have:=ky;omega
      have hr:x3.heap.size≠w.heap.size:=by have:=k1;omega
      have e5:Below x4.heap.size x4 x4.drew:=(a0c _ _).drew;have fl:Hid ((er A Bg).fst=if Bg.fst<A.fst then Bg.fst else A.fst):=rfl;have l0:=af kd;have dd:=af (a0b r (a0b d.1 (a0b P Q)));have h7:=af (a0b co (a0b D (a0b s (a0b c il))));have l1:=af (a0b eg (a0b ca (a0b b9 dv)));clear be ab a3 ds bs a7 b3 h6 c9 b5 R ca b9 fv fz dv eg c6 gk c0 c1 c2 e2 P D Q O r d s c N ad il co kd fn;have j3:∃F:Int,(er A Bg).fst=F:=⟨_,rfl⟩;obtain⟨F,hF⟩:=j3;have HF:=af hF;clear hF;by_cases fk:Bg.fst<A.fst
      case' pos=>have i4:Hid (Bg.fst=F):=by have:=ae fl;rw[ae HF,a0d fk]at this;exact this.symm
      case' neg=>have i4:Hid (A.fst=F):=by have:=ae fl;rw[ae HF,a0e fk]at this;exact this.symm
      all_goals
       go_wp2_with fail
       go_region_held3 (fun W=>W.cell? ⟨x1.heap.size,2,none⟩=some (.slice ga A.syms.length ac)/\W.cell? ⟨x3.heap.size,2,none⟩=some (.slice gb Bg.syms.length bc)) (first|exact c8 _ e5|assumption|exact c8 _ cs) (first
        | (refine aL rfl (.tmp 76) (.tmp 78) 122 rfl x4.heap.size 3 i0 (.int .i64 0) 1 8 a0F hi he hf hh rfl (a2v 0) (.slice x4.heap.size 0 0) _ _ rfl gd ⟨ga,0,none⟩ A.syms.length ac (A.syms.map (Value.int .i64)) rfl jn (h9 _ cs) (a1s .i64 _) a8.1 a8.2 cs.size ?_;intro v5 x5 b8 cg g1;clear g1;have cr:Below x4.heap.size x4 x5:=cs.grown cg cs.size (fun j hj=>(a0z gd j hj).1);have l3:=c8 _ cr)
        | (refine aL rfl (.tmp 79) (.tmp 81) 122 rfl x4.heap.size 3 i0 (.int .i64 0) 1 8 a0F hi he hf hh rfl (a2v 0) v5 _ _ rfl b8 ⟨gb,0,none⟩ Bg.syms.length bc (Bg.syms.map (Value.int .i64)) rfl jx (id _ cr) (a1s .i64 _) cu.1 cu.2 cr.size ?_;intro v6 x6 d6 ch g3;clear g3;have b4:Below x4.heap.size x4 x6:=cr.grown ch cr.size (fun j hj=>(a0z b8 j hj).1);have l4:=c8 _ b4))
       obtain⟨c6,ca,b9,dv⟩:=ae l1;have g7:w.heap.size+1<=x4.heap.size:=b9.below.2;have c5:an x6 x4.heap.size v6 (A.syms++Bg.syms):=by
        show World.ownsRow _ _ _ _ _ (A.syms++Bg.syms).length ((A.syms++Bg.syms).map (Value.int .i64));rw[a0j,a0J];simpa using d6
       have gf:Hid ((A.syms++Bg.syms).length<=300/\0<(A.syms++Bg.syms).length):=by
        show _/\_;rw[a0j];have:=ae l0;have:=dd.2.2.1.2.2.2.2;omega
       have l7:Hid (∀x∈A.syms++Bg.syms,0<=x/\x<(k:Int)):=by
        intro x hx;simp only[a02]at hx;rcases hx with hx|hx
        . exact(ae dd).2.2.1.2.2.2.1 x hx
        . exact(ae dd).2.2.2.2.2.2.1 x hx
       have l6:Hid (bi M=A.syms++Bg.syms):=by
        show bi M=_;unfold bi;rw[ae f3,ae f5]
       have l5:Hid ((er A Bg).syms=A.syms++Bg.syms):=rfl;generalize A.syms++Bg.syms=S at *;obtain⟨sv,sc,ei⟩:=c5.form;obtain⟨gs,kc⟩:=(ei▸c5).somes gf.2;rw[kc]at ei;rw[ei];rw[ei]at c5;have k6:=c6.later b4 (a0a _);have k2:=ca.later b4 (a0a _);have kx:=b9.later b4 (a0a _);have e6:=aj dv b4;have fh:=c5.below;have a0':=(b4.cell (p:=⟨x1.heap.size,0,none⟩) abl).trans a0;have ix:=(b4.cell (p:=⟨x3.heap.size,0,none⟩) l2).trans b0;have m7:=af (vo l (fun i hi=>(HC i hi).2) (by rw[ae HN];exact HM) j (by rw[ae el];exact HJ));have m2:Hid ((j:Int)<=300):=by show(j:Int)<=300;have:=ae HJ;have:=ae hU;have:=ae it;omega
       have f2:x1.heap.size≠w.heap.size/\x3.heap.size≠w.heap.size:=⟨ho,hr⟩;have f8:=af c5;have ih:=af k6;have h8:=af k2;have e4:=af f2;have f4:=af (a0b a0' ix);have n1:=af fh;have sI:(S.length:Int)<=300:=by have:=gf.1;omega
       clear b8 d6 cg ch l3 l4 cr c6 ca b9 dv k6 k2 c5 c8 h9 id gd cs e5 ei kc a0 a1 a2 b0 b1 b2 f2 a0' ix fh jn jx;go_wp2_with fail
       go_loopw [11] (fun i wq=>∃t:Nat,t<=S.length/\i = .int .i64 t/\an wq w.heap.size (.slice w.heap.size k k) (bump (ay l j).2 (S.take t))/\Touch (some ⟨w.heap.size,0,none⟩) x6 wq/\Below w.heap.size w wq) (fun i _=>S.length-(intOf i).toNat)
       case atStart=>exact⟨0,a0g _,rfl,kx,Touch.refl _ _,e6⟩
       case round=>
        obtain⟨t,ht,rfl,X,E,b6⟩:=hrel;clear kx e6;have gv:Hid ((bump (ay l j).2 (S.take t)).length=k):=by show(bump (ay l j).2 (S.take t)).length=k;rw[qi,eQ,ae HN]
        have nm:Hid (t<=S.length):=ht;clear ht;by_cases d4:t<S.length
        .
         have fr:=f8.touch E (by intro g e;simp only[a0k,a0A,a0Q]at e;have:=g7;omega);obtain⟨c0,_,_,_⟩:=fr.at rfl d4;have hx:=ae l7 (S.getD t 0) (by simp[List.getD,d4]);have e9:=af (xW (ay l j).2 S t d4);have kl:=af (uQ m7 (S.take t));obtain⟨q,hq⟩:=a0p hx.1;rw[hq]at c0 e9;have g5:q<k:=(by omega);obtain⟨d0,f0,_,_⟩:=X.at gv g5;have ha:=ae kl q (by rw[ae gv];exact g5);have C:=X.put (j:=q) gv ((bump (ay l j).2 (S.take t)).getD q 0+1);have ef:Hid (bump (ay l j).2 (S.take (t+1))=(bump (ay l j).2 (S.take t)).set q ((bump (ay l j).2 (S.take t)).getD q 0+1)):=by
          show bump (ay l j).2 (S.take (t+1))=_;rw[ae e9];unfold gp;rw[a0o]
         have o1:(bump (ay l j).2 (S.take t)).getD q 0<=100000:=by
          have h1:=ha.2;have h2:(S.take t).length<=300:=by rw[a0v];have:=gf.1;omega
          have:=ae m2;omega
         have g8:=ha.1;have cc:=ai b6 (b:=w.heap.size) (o:=q) (a0a _) (.int .i64 ((bump (ay l j).2 (S.take t)).getD q 0+1));have a5:=E.set (o:=q) rfl (.int .i64 ((bump (ay l j).2 (S.take t)).getD q 0+1));generalize (bump (ay l j).2 (S.take t)).getD q 0=y at *;have hu:=af (a0b C (a0b cc a5));have e2:(q:Int)<(k:Int):=(by omega);have o0:(t:Int)<(S.length:Int):=(by omega);clear C cc a5 X fr b6 E ha hx hq g5;go_wp2_with fail
         go_region
         obtain⟨C,cc,a5⟩:=ae hu;rw[←ae ef]at C;go_wp2;go_roundw
         case rel=>exact⟨t+1,by have:=ae nm;omega,by go_num,C,a5,cc.drew⟩
         case measure=>simp[intOf];omega
        .
         have k8:S.take t=S:=a0u (by omega);rw[k8]at X;have c7:cW 321 wr (w.heap.size+1) (.slice ra (ar (ar M)).length ls) (ar (ar M)):=pa ih E (kw _ _ (a0i _));have ed:d9 wr (w.heap.size+1) (ar (ar M)):=fun g hg=>(h8 g (bh M _ (bh _ _ hg))).touch E (kw _ _ (a0i _));have eh:an wr (w.heap.size+1) (.slice gs S.length sc) S:=(f8.touch E (kw _ _ (by omega))).mono g7;have a0q:=(iX (p:=⟨x1.heap.size,0,none⟩) E e4.1).trans f4.1;have n3:=(iX (p:=⟨x3.heap.size,0,none⟩) E e4.2).trans f4.2;have gy:Hid ((ay l (j+1)).2=bump (ay l j).2 S):=by
          show(ay l (j+1)).2=_;simp only[ay];rw[←ae f6,Li,ae l6]
         have e1:Hid ((ay l (j+1)).1=(ar (ar M)).map bare++[er A Bg]):=by
          show(ay l (j+1)).1=_;simp only[ay];rw[←ae f6,Lc,ae f3,ae f5]
         rw[←ae gy]at X;obtain⟨co,D,s,c,il⟩:=ae h7;have m1:Hid (j+1<U):=by show j+1<U;omega
         have ke:Hid ((ar (ar M)).length+1<M.length+0):=by show _<_;omega
         have V:Hid ((ar (ar M)).length+1<=maxLen/\((ar (ar M)).length+1)*40<=140737488355328):=by show _/\_;unfold maxLen;omega
         have d3:=ae dd;have ol:A.cnt+Bg.cnt<=30000000:=by have:=d3.1;have:=d3.2.1;omega
         have no:=d3.2.2.1.1;have nq:=d3.2.2.2.1;have mi:w.heap.size+1<=wr.heap.size:=X.below.2;have f7:=af (a0b c7 (a0b ed (a0b eh (a0b X b6))));have ns:Hid ((er A Bg).cnt=A.cnt+Bg.cnt):=rfl;clear co D s c il c7 ed eh X b6 E k8 d3 dd h7 ih h8 f8 f4;rw[ae i4];go_wp2_with (at_builtin;refine a0w _ rfl _ _ 319 rfl (w.heap.size+1) 321 j0 (.agg #[.int .i64 0,.int .i64 0,.slice none 0 0]) 3 40 a3Q hj g8 lf lg rfl (by decide) _ _ _ rfl (a0n f7.1 _) ⟨wr.heap.size,0,none⟩ 1 1 [.int .i64 (A.cnt+Bg.cnt),.int .i64 F,.slice gs S.length sc] rfl rfl (sQ _ _ _ _ _ _ rfl) (sR _ _ _ _ _) V.1 V.2 (au mi _) ?_;intro v7 x7 d7 z g4;clear g4);obtain⟨c7,ed,eh,X,b6⟩:=ae f7;have d1:Below wr.heap.size wr (wr.alloc (.cells #[.int .i64 (A.cnt+Bg.cnt),F,.slice gs S.length sc] 321)):=cC;have cp:=c7.later d1 (a0a _);have k3:=(ed.later d1 (a0a _)).grown cp (by decide) z;have k9:=mj (eh.later d1 (a0a _)) cp (by decide) z;have na:=mj (X.later d1 (a0a _)) cp (by decide) z;have md:Below w.heap.size w x7:=aJ (v:=.slice ra (ar (ar M)).length ls) z c7 (by omega) (by omega) b6;have k7:=sU ⟨A.cnt+Bg.cnt,F,S,.slice gs S.length sc⟩ d7;have nk:=k3.snoc (g:=⟨A.cnt+Bg.cnt,F,S,.slice gs S.length sc⟩) k9;have mm:Hid ((ar (ar M)++[(⟨A.cnt+Bg.cnt,F,S,.slice gs S.length sc⟩:Grp)]).map bare=(ay l (j+1)).1):=by
          show _=(ay l (j+1)).1;rw[ae e1,a0J]
          congr 1
          have e:er A Bg=⟨A.cnt+Bg.cnt,F,S,.slice none 0 0⟩:=by
           rw[←ae HF,←ae l5];rfl
          rw[e];rfl
         have k4:Hid (sliceLen v7<M.length):=by
          show sliceLen v7<M.length;obtain⟨fa,fc,hv⟩:=k7.form;rw[hv];have:=ae ke;simp only[sliceLen,a0j,a1j];omega
         clear d7 z d1 cp k3 k9 c7 ed eh X b6 f7;go_wp2;go_roundw
         case rel=>exact⟨j+1,_,.inl (ae m1),mm,k7,nk,na,md⟩
         case measure=>exact k4
     .
      have gl:=af (ae j2 j (by omega) (ae HJ));have ka:¬ (1:Int)<(M.length:Int):=(by omega);have HP:=af ba;clear a6 cy ba ic is;go_wp2;go_ret;exact⟨rfl,by rw[ae gl];exact HP,cv⟩
def Ga(a:Option Addr)(cap n:Nat)(o:List Int)(w:World)(s:o.length=n)(h:br w a o)(q:n<=300) :
  Calls prog 227 #[.slice a n cap] w fun e w'=>e = .returned (.int .i64 (bX o n))/\w'=w:=by
 subst s;have r:(o.length:Int)<=300:=by omega
 clear q;go_enter func227,ntmps227;go_wp2_with fail
 go_loop [3,4] (fun m i=>∃k:Nat,k<=o.length/\i = .int .i64 k/\m = .int .i64 (bX o k)) (fun _ i=>o.length-(intOf i).toNat)
 case atStart=>exact⟨0,a0g _,rfl,rfl⟩
 case round=>
  obtain⟨k,l,rfl,rfl⟩:=hrel;have t:=af l;by_cases d:k<o.length
  .
   obtain⟨g,f,rfl,u,j⟩:=h (by omega);have c0:=j k d;have c:Hid (bX o (k+1)=if bX o k<o.getD k 0 then o.getD k 0 else bX o k):=rfl;clear j l h;generalize o.getD k 0=y,bX o k=m at *;by_cases p:m<y
   .
    have b:Hid (bX o (k+1)=y):=by have:=ae c;rw[a0d p]at this;exact this
    go_wp2
    go_round
    case rel=>exact⟨k+1,by omega,by go_num,by rw[ae b]⟩
    case measure=>simp[intOf];omega
   .
    have b:Hid (bX o (k+1)=m):=by have:=ae c;rw[a0e p]at this;exact this
    go_wp2
    go_round
    case rel=>exact⟨k+1,by omega,by go_num,by rw[ae b]⟩
    case measure=>simp[intOf];omega
  .
   obtain rfl:k=o.length:=by omega
   clear h;go_wp2;go_ret;exact⟨rfl,rfl⟩
def GT(w:World)(b n:Nat):Nat:=((List.range n).map (fun i=>(intOf ((w.cell? ⟨b,i,none⟩).getD (.int .i64 0))).toNat)).sum
def IU{base:Nat}(a:l.length=n)(h:an w base (.slice b n c) l):GT w b n=kC l:=by
 unfold GT kC
 congr 1
 apply a2i
 . simp[a]
 .
  intro i d h2;have f:i<n:=by simpa using d
  have:=(h.at a f).1;simp only[List.getElem_map,List.getElem_range];rw[this];have e:l.getD i 0=l[i]:=by simp[List.getD,show i<l.length by omega]
  rw[e];rfl
def JO(l:List Int)(j:Nat)(h:j<l.length):(bv (l.take j)++l.drop j).set j (jg (l.getD j 0))=bv (l.take (j+1))++l.drop (j+1):=by
 have b:(bv (l.take j)).length=j:=by simp[bv];omega
 rw[List.set_append_right _ _ (by omega),b,a3U,cz l j h];have a:l.drop j=l[j] :: l.drop (j+1):=a23 h;rw[a,List.set_cons_zero];simp[bv]
def Nb(l:List Int)(j:Nat)(h:j<l.length):(bv (l.take j)++l.drop j).getD j 0=l.getD j 0:=by
 have a:(bv (l.take j)).length=j:=by simp[bv];omega
 simp only[List.getD];rw[List.getElem?_append_right (by omega),a,a3U,List.getElem?_drop];simp
def okC(l:List Int):Prop:=∀i,i<l.length->0<=l.getD i 0/\l.getD i 0<=100000
def wt(h:okC l):okC (bv l):=by
 intro i a;rw[eV]at a;rw[rS l i a];have:=h i a;unfold jg;omega
def Ax(h:okC l):∀x∈l,0<=x:=by
 intro x b;obtain⟨i,a,rfl⟩:=a1I b;have:=(h i a).1;have e:l.getD i 0=l[i]:=by simp[List.getD,a]
 rw[e]at this;exact this
def dt(m:Int)(l:List Int):List Int:=qt m (kC l) l
def yA(a:Option Addr)(cap n mm:Nat)(l:List Int)(w:World)(hn:l.length=n)(h:br w a l)(h1:1<=n)(hm:n<=300)(hc:okC l)(hU:(aB l l.length).length<=p2 mm)(b6:mm<=14) :
  Calls prog 192 #[.slice a n cap,.int .i64 ((mm:Int)+1)] w fun e w'=>(∃v,e = .returned v/\an w' w.heap.size v (dt ((mm:Int)+1) l))/\Below w.heap.size w w':=by
 obtain⟨i0,hi,ca,cc,cg⟩:=a0s Tryz.infoInt;obtain⟨g,o,rfl,hg,a4⟩:=h (by omega);have cp:(n:Int)<=300:=by omega
 have co:(mm:Int)<=14:=by omega
 have Z:=af hn;have HC:=af hc;have HU:=af hU;have HM:=af (a0b h1 hm);have G:Below w.heap.size w (w.alloc (.cells #[] 3)):=cC;have S:World.ownsRow (w.alloc (.cells #[] 3)) w.heap.size 3 1 (.slice w.heap.size 0 0) 0 []:=a0S w #[] 0 (a0a _) (by unfold maxLen;omega) rfl;have W:Hid (∀j u,(l.map (Value.int .i64))[j]?=some u->(w.alloc (.cells #[] 3)).cell? ((⟨g,o,none⟩:Addr).add j)=some u):=by
  intro j u hj;have a6:j<l.length:=by have:=(List.getElem?_eq_some_iff.1 hj).1;simpa using this
  have ad:(⟨g,o,none⟩:Addr).add j=⟨g,o+j,none⟩:=by unfold Addr.add;split<;>simp_all
  rw[ad,G.cell (p:=⟨g,o+j,none⟩) hg,a4 j a6,←hj];simp[List.getD,a6]
 have b4:Hid ((l.map (Value.int .i64)).length=n*1):=by show _=_;simp[hn]
 have al:Hid (0+n<=maxLen/\(0+n)*8<=140737488355328):=by show _/\_;unfold maxLen;omega
 clear hn hc hU h1 hm a4 b6 h;go_enter func192,ntmps192;go_wp2_with (at_builtin;refine a0w _ rfl _ _ 122 rfl w.heap.size 3 i0 (.int .i64 0) 1 8 a0F hi ca cc cg rfl (by decide) _ _ _ rfl S ⟨g,o,none⟩ n cap (l.map (Value.int .i64)) rfl b4 W (a1s .i64 _) al.1 al.2 G.size ?_;intro v1 x1 Q K ba;clear ba);have A:an x1 w.heap.size v1 l:=by
  show World.ownsRow _ _ _ _ _ l.length _;rw[ae Z];simpa using Q
 have ab:Below w.heap.size w x1:=G.grown K G.size (fun j hj=>(a0z S j hj).1);obtain⟨va,vc,X⟩:=A.formN Z;rw[X];rw[X]at A;apply(vI va vc n l x1 Z (A.rowN Z) HM.2 HC).mono;rintro e x2⟨rfl,bb,T⟩;have bd:=A.later T (a0a _);have ac:=aj ab T;have be:w.heap.size<=x1.heap.size:=ab.size;obtain⟨lb,b2⟩:=A.somes (by rw[ae Z];exact HM.1);subst b2;have P:=A.below;have HX:=af (a0b be P);clear A T Q K X S G P;go_wp2_with fail
 go_loopw [6,7] (fun v _ wr=>∃(c:List Int) (f ob:Nat),c.length=n/\okC c/\(aB c c.length).length<=p2 mm/\kC c<=f/\dt ((mm:Int)+1) l=qt ((mm:Int)+1) f c/\v = .slice ob n n/\lb<ob/\an wr ob (.slice ob n n) (bZ c)/\an wr w.heap.size (.slice lb n vc) c/\Below w.heap.size w wr) (fun _ _ wr=>GT wr lb n)
 case atStart=>exact⟨l,kC l,x1.heap.size,Z,HC,HU,a0a _,rfl,rfl,HX.2.2,bb,bd,ac⟩
 case round=>
  obtain⟨c,f,ob,m,d,E,M,s,rfl,a8,F,z,q⟩:=hrel;clear bb bd ac;have r:(bZ c).length=n:=(jh c).trans m;have aa:=af (Ga (some ⟨ob,0,none⟩) n n (bZ c) wr r (F.rowN r) HM.2);have L:Hid (fits (bZ c) ((mm:Int)+1)=decide (bX (bZ c) n<=(mm:Int)+1)):=by show _=_;unfold fits;rw[r]
  have HQ:=af (a0b m (a0b d (a0b E (a0b M s))));have HO:=af (a0b F (a0b z q));have HS:=af (IU m z);have a9:=af a8;clear m d E M s r a8;generalize bX (bZ c) n=mo at *;by_cases ch:(mm:Int)+1<mo
  .
   have N:fits (bZ c) ((mm:Int)+1)=false:=by rw[ae L];exact a0m (by omega)
   obtain⟨m,d,E,M,s⟩:=ae HQ;have hex:=wn E N;have R:=(wU c (Ax d)).2 hex;have b1:∃f',f=f'+1:=⟨f-1,by omega⟩;obtain⟨f',a5⟩:=b1;have V:Hid (dt ((mm:Int)+1) l=qt ((mm:Int)+1) f' (bv c)):=by
    show _=_;rw[s,a5];simp only[qt];rw[N];rfl
   have a3:Hid (kC (bv c)<=f'):=by show _<=_;omega
   have bl:=af R;have I:=af (wt d);have a2:Hid ((aB (bv c) (bv c).length).length<=p2 mm):=by show _<=_;rw[eV,sH c (fun i hi=>(d i hi).1) _ (a0a _)];exact E
   have B:Hid ((bv c).length=n):=(eV c).trans m;clear m d E M s hex R a5;go_wp2_with fail;apply aa.mono;rintro e x3⟨rfl,Y⟩;subst Y;obtain⟨F,z,q⟩:=ae HO;have a0:an x3 w.heap.size (.slice lb n vc) (bv (c.take 0)++c.drop 0):=by simpa[bv]using z
   clear F z;go_wp2_with fail
   go_loopw [7] (fun i wq=>∃t:Nat,t<=n/\i = .int .i64 t/\an wq w.heap.size (.slice lb n vc) (bv (c.take t)++c.drop t)/\Below w.heap.size w wq) (fun i _=>n-(intOf i).toNat)
   case atStart=>exact⟨0,a0g _,rfl,a0,q⟩
   case round=>
    obtain⟨t,ht,rfl,k,x⟩:=hrel;clear a0 q;obtain⟨m,d,_,_,_⟩:=ae HQ;have a7:Hid ((bv (c.take t)++c.drop t).length=n):=by show _=n;rw[a0j,eV,a0v,a04];omega
    by_cases b5:t<n
    .
     have D:=k.put (j:=t) a7 (jg (c.getD t 0));rw[JO c t (by omega)]at D;obtain⟨d0,f0,ao,_⟩:=k.at a7 b5;rw[Nb c t (by omega)]at d0;have hy:=d t (by omega);have H:=ai x (b:=lb) (o:=t) ao (.int .i64 (jg (c.getD t 0)));unfold jg at D H;have O:=af (a0b D H);have b9:(t:Int)<(n:Int):=(by omega);have Ht:=af ht;generalize c.getD t 0=y at *;obtain⟨y0,y1⟩:=hy;have e1:IntKind.i64.wrap ((y+1).tdiv 2)=(y+1)/2:=by rw[Int.tdiv_eq_ediv_of_nonneg (by omega)];simp[IntKind.wrap,IntKind.bits,IntKind.signed];omega
     clear D H k x m d ht ao;go_wp2;go_roundw
     case rel=>exact⟨t+1,by have:=ae Ht;omega,by go_num,O.1,O.2⟩
     case measure=>simp[intOf];omega
    .
     have cr:t=n:=(by omega);have J:bv (c.take t)++c.drop t=bv c:=by rw[a0u (by omega),a3f (by omega)];simp
     rw[J]at k;have b3:=af (vI (some ⟨lb,0,none⟩) vc n (bv c) wr B (k.rowN B) HM.2 I);have C:=k.below;have bk:=af (a0b k (a0b x C));have b9:¬ (t:Int)<(n:Int):=(by omega);clear k x m d J C;go_wp2_with fail;apply b3.mono;rintro e x4⟨rfl,b8,U⟩;obtain⟨k,x,C⟩:=ae bk;have a1:=k.later U (a0a _);have bs:=aj x U;have b7:Hid (GT x4 lb n<GT x3 lb n):=by
      show GT x4 lb n<GT x3 lb n;rw[IU B a1,ae HS];exact bl
     clear k x U;go_wp2;go_roundw
     case rel=>exact⟨bv c,f',wr.heap.size,B,I,a2,a3,V,rfl,C.2,b8,a1,bs⟩
     case measure=>exact b7
  .
   have N:fits (bZ c) ((mm:Int)+1)=true:=by rw[ae L];exact a0B (by omega)
   have bc:Hid (dt ((mm:Int)+1) l=bZ c):=by
    show _=_;rw[HQ.2.2.2.2];cases f with
    | zero=>rfl
    | succ f=>simp only[qt];rw[N];rfl
   go_wp2_with fail;apply aa.mono;rintro e x3⟨rfl,Y⟩;subst Y;obtain⟨F,z,q⟩:=ae HO;have b0:w.heap.size<=ob:=by have:=z.below.1;have:=ae a9;omega
   go_wp2;go_ret;exact⟨⟨_,rfl,by rw[ae bc];exact F.mono b0⟩,q⟩
def inC(l:List Int):Bool:=l.all (fun b=>inB b 0 100000)
def yG(l:List Int)(m:Int):Bool:=decide (l.length<=300)&&inB m 1 15&&inC l&&inB (us l:Nat) 1 ((p2 m.toNat/2:Nat):Int)
def kI(l:List Int)(m:Int):List Int:=if yG l m then dt m l else []
def Nn(l:List Int)(k:Nat)(h:k<l.length):inC (l.take (k+1))=(inC (l.take k)&&inB (l.getD k 0) 0 100000):=by
 rw[cz l k h];simp[inC]
def QE(h:k<l.length)(a:inB (l.getD k 0) 0 100000=false):inC l=false:=by
 rcases hb:inC l with _|_
 . rfl
 . have:=a08.1 hb (l.getD k 0) (by simp[List.getD,h]);rw[a]at this;exact absurd this (by simp)
def SJ(h:inC l=true):okC l:=by
 intro i a;have:=a08.1 h (l.getD i 0) (by simp[List.getD,a]);exact aI.1 this
def Re(l:List Int)(k:Nat)(a:k<=l.length):(aB l k).length=us (l.take k):=by
 induction k with
 | zero=>rfl
 | succ k ih=>
  rw[rp l k (by omega),←ih (by omega)];simp only[aB]
  split
  . simp
  . rfl
def fC(l:List Int):(aB l l.length).length=us l:=by
 rw[Re l _ (a0a _),a2x]
def AE(m:Nat):p2 (m+1)/2=p2 m:=by rw[kM];omega
def pB{x y:Grp}(h:aZ x y=true):aZ y x=false:=by
 simp only[aZ,a1k,a0l,a0t]at h;simp only[aZ,a2y,a2Q,a2R];omega
def jk{x y z:Grp}(h:aZ x y=false)(h2:aZ y z=false):aZ x z=false:=by
 simp only[aZ,a2y,a2Q,a2R]at h h2 ⊢;omega
def Dt{x y z:Grp}(h:aZ x y=false)(h2:aZ z y=true):aZ x z=false:=by
 simp only[aZ,a1k,a0l,a0t]at h2;simp only[aZ,a2y,a2Q,a2R]at h ⊢;omega
def gT(x:Grp):aZ x x=false:=by
 simp only[aZ,a2y,a2Q,a2R];omega
def dc(L:List Grp)(i j:Nat):List Grp:=(L.set i (L.getD j g0)).set j (L.getD i g0)
def gW(L:List Grp)(i j:Nat):(dc L i j).length=L.length:=by simp[dc]
def yX{L:List Grp}(a:i<L.length):(dc L i j).getD i g0=L.getD j g0:=by
 unfold dc;rw[List.getD_eq_getElem?_getD,List.getElem?_set];by_cases h:j=i
 . subst h;simp[a]
 . rw[a0e h,List.getElem?_set_self a];rfl
def oH{L:List Grp}(a:j<L.length):(dc L i j).getD j g0=L.getD i g0:=by
 unfold dc;rw[List.getD_eq_getElem?_getD,List.getElem?_set_self (by simpa using a)];rfl
def di{L:List Grp}(a:k≠i)(h2:k≠j):(dc L i j).getD k g0=L.getD k g0:=by
 unfold dc;rw[List.getD_eq_getElem?_getD,List.getElem?_set_ne (fun e=>h2 e.symm),List.getElem?_set_ne (fun e=>a e.symm),←List.getD_eq_getElem?_getD]
def set_perm(L:List Grp)(i:Nat)(x:Grp)(h:i<L.length):(L.getD i g0 :: L.set i x).Perm (x :: L):=by
 induction L generalizing i with
 | nil=>simp at h
 | cons g L ih=>
  cases i with
  | zero=>simp only[List.getD_cons_zero,List.set_cons_zero];exact a3S _ _ _
  | succ i=>
   simp only[a2F,List.set_cons_succ];have a:=ih i (by simpa using h);exact(a3S _ _ _).trans ((a.cons g).trans (a3S _ _ _))
def iU{L:List Grp}(b:i<L.length)(d:j<L.length):(dc L i j).Perm L:=by
 have c:=set_perm L i (L.getD j g0) b;have h2:=set_perm (L.set i (L.getD j g0)) j (L.getD i g0) (by simpa using d);have e:(L.set i (L.getD j g0)).getD j g0=L.getD j g0:=by
  rw[List.getD_eq_getElem?_getD,List.getElem?_set];by_cases a:i=j
  . subst a;simp[b]
  . rw[a0e a,←List.getD_eq_getElem?_getD]
 rw[e]at h2;exact(h2.trans c).cons_inv
def HP(L:List Grp):Prop:=∀i,0<i->i<L.length->aZ (L.getD i g0) (L.getD ((i-1)/2) g0)=false
def UpI(L:List Grp)(k:Nat):Prop:=
 (∀i,0<i->i<L.length->i≠k->aZ (L.getD i g0) (L.getD ((i-1)/2) g0)=false) /\
 (∀i,0<i->i<L.length->(i-1)/2=k->0<k->aZ (L.getD i g0) (L.getD ((k-1)/2) g0)=false)
def DnI(L:List Grp)(k:Nat):Prop:=
 (∀i,0<i->i<L.length->(i-1)/2≠k->aZ (L.getD i g0) (L.getD ((i-1)/2) g0)=false) /\
 (∀i,0<i->i<L.length->(i-1)/2=k->0<k->aZ (L.getD i g0) (L.getD ((k-1)/2) g0)=false)
def Pv{L:List Grp}(h:UpI L k)(a:k=0∨aZ (L.getD k g0) (L.getD ((k-1)/2) g0)=false):HP L:=by
 intro i b c;by_cases e:i=k
 .
  subst e;rcases a with a|a
  . omega
  . exact a
 . exact h.1 i b c e
def Rv{L:List Grp}(h:UpI L k)(l:0<k)(m:k<L.length)(g:aZ (L.getD k g0) (L.getD ((k-1)/2) g0)=true):UpI (dc L k ((k-1)/2)) ((k-1)/2):=by
 have hq:(k-1)/2<k:=by omega
 have b:(k-1)/2<L.length:=by omega
 have sk:=yX (L:=L) (j:=(k-1)/2) m;have sq:=oH (L:=L) (i:=k) b;refine⟨?_,?_⟩
 .
  intro i i0 a d;rw[gW]at a;by_cases e:i=k
  . subst e;rw[sk,sq];exact pB g
  .
   rw[di e d];by_cases p:(i-1)/2=(k-1)/2
   . rw[p,sq];have:=h.1 i i0 a e;rw[p]at this;exact Dt this g
   .
    by_cases p2:(i-1)/2=k
    . rw[p2,sk];exact h.2 i i0 a p2 l
    . rw[di p2 p];exact h.1 i i0 a e
 .
  intro i i0 a n f;rw[gW]at a;have o:((k-1)/2-1)/2<(k-1)/2:=by omega
  rw[di (k:=((k-1)/2-1)/2) (by omega) (by omega)];have c:=h.1 ((k-1)/2) f b (by omega);by_cases e:i=k
  . subst e;rw[sk];exact c
  . rw[di e (by omega)];have:=h.1 i i0 a e;rw[n]at this;exact jk this c
def zI{L:List Grp}(h:DnI L k)(d:∀c,0<c->c<L.length->(c-1)/2=k->aZ (L.getD c g0) (L.getD k g0)=false):HP L:=by
 intro i a b;by_cases e:(i-1)/2=k
 . rw[e];exact d i a b e
 . exact h.1 i a b e
def zJ{L:List Grp}(h:DnI L k)(l:k<L.length)(g:c<L.length)(d:0<c)(f:(c-1)/2=k)(o:∀i,0<i->i<L.length->(i-1)/2=k->aZ (L.getD i g0) (L.getD c g0)=false)(n:aZ (L.getD c g0) (L.getD k g0)=true):DnI (dc L c k) c:=by
 have m:k<c:=by omega
 have sc:=yX (L:=L) (j:=k) g;have sk:=oH (L:=L) (i:=c) l;refine⟨?_,?_⟩
 .
  intro i i0 b a;rw[gW]at b;by_cases e:i=c
  . subst e;rw[f,sc,sk];exact pB n
  .
   by_cases p:(i-1)/2=k
   . rw[p,sk,di e (by omega)];exact o i i0 b p
   .
    rw[di a p];by_cases e2:i=k
    . subst e2;rw[sk];exact h.2 c d g f i0
    . rw[di e e2];exact h.1 i i0 b p
 . intro i i0 b a _;rw[gW]at b;rw[f,sk,di (by omega) (by omega)];have:=h.1 i i0 b (by omega);rw[a]at this;exact this
def Nk{L:List Grp}(h:HP L):∀i,i<L.length->aZ (L.getD i g0) (L.getD 0 g0)=false:=by
 intro i;induction i using Nat.strongRecOn with
 | ind i ih=>
  intro a;by_cases e:i=0
  . subst e;exact gT _
  . exact jk (h i (by omega) a) (ih ((i-1)/2) (by omega) (by omega))
def Qx{L:List Grp}(h:HP L)(g:Grp):UpI (L++[g]) L.length:=by
 refine⟨?_,?_⟩
 .
  intro i i0 b d;have a:i<L.length:=by simp at b;omega
  have e1:∀k,k<L.length->(L++[g]).getD k g0=L.getD k g0:=by
   intro k c;rw[List.getD_eq_getElem?_getD,List.getElem?_append_left c,←List.getD_eq_getElem?_getD]
  rw[e1 i a,e1 _ (by omega)];exact h i i0 a
 . intro i i0 b e _;simp at b;omega
def vh(L:List Grp)(m k:Nat)(h:k<m):(L.take m).getD k g0=L.getD k g0:=by
 rw[List.getD_eq_getElem?_getD,List.getElem?_take_of_lt h,←List.getD_eq_getElem?_getD]
def Su{L:List Grp}(h:HP L):DnI ((dc L 0 (L.length-1)).take (L.length-1)) 0:=by
 refine⟨?_,fun i _ _ _ b=>absurd b (a2S 0)⟩;intro i i0 c d;have a:i<L.length-1:=by rw[a0v,gW]at c;omega
 rw[vh _ _ _ a,vh _ _ _ (by omega),di (by omega) (by omega),di d (by omega)];exact h i i0 (by omega)
def GW(L:List Grp)(n:Nat)(h:L.length=n+1):L=L.take n++[L.getD n g0]:=by
 have e:L.take (n+1)=L:=a0u (by omega);have h2:L.take (n+1)=L.take n++[L.getD n g0]:=by
  rw[a1f (by omega)]
  congr 2
  simp[List.getD,h]
 rw[e]at h2;exact h2
def Mx{L:List Grp}(h:0<L.length):(L.getD 0 g0 :: (dc L 0 (L.length-1)).take (L.length-1)).Perm L:=by
 have b:=iU (L:=L) (i:=0) (j:=L.length-1) h (by omega);have h2:=GW (dc L 0 (L.length-1)) (L.length-1) (by rw[gW];omega);rw[oH (by omega)]at h2;have a:(L.getD 0 g0 :: (dc L 0 (L.length-1)).take (L.length-1)).Perm ((dc L 0 (L.length-1)).take (L.length-1)++[L.getD 0 g0]):=(List.perm_append_singleton _ _).symm;rw[←h2]at a;exact a.trans b
def Dn(L:List Grp)(k j:Nat)(b:j<=k):aZ (L.getD j g0) (L.getD (cF L k) g0)=false:=by
 induction k with
 | zero=>
  obtain rfl:j=0:=by omega
  exact gT _
 | succ k ih=>
  simp only[cF];cases a:aZ (L.getD (k+1) g0) (L.getD (cF L k) g0)
  .
   simp only[a06,a07];by_cases e:j=k+1
   . subst e;exact a
   . exact ih (by omega)
  .
   simp only[a0V];by_cases e:j=k+1
   . subst e;exact gT _
   . exact Dt (ih (by omega)) a
def FM(M:List Grp)(g:Grp)(a:g∈M):aZ g (aE M)=false:=by
 obtain⟨i,b,rfl⟩:=a1I a;have:=Dn M (M.length-1) i (by omega);have e:M.getD i g0=M[i]:=by simp[List.getD,b]
 rw[e]at this;exact this
def tf(M:List Grp):Prop:=∀g∈M,g.fst∈g.syms
def OS(l:List Int)(k:Nat):tf (aB l k):=by
 induction k with
 | zero=>intro g a;simp[aB]at a
 | succ k ih=>
  simp only[aB]
  split
  .
   intro g a;simp only[a02,a09]at a;rcases a with a|rfl
   . exact ih g a
   . simp
  . exact ih
def Pb{M:List Grp}(h:tf M)(c:1<M.length):tf (stepG M):=by
 have d:=dy M (by omega);intro g a;simp only[stepG,a02,a09]at a;rcases a with a|rfl
 . exact h g (bh M _ (bh _ _ a))
 .
  have b:=h _ (bD M (by omega));have hb:=h _ (bh M _ (bD (ar M) (by omega)));simp only[er,a02]
  split
  . exact .inr hb
  . exact .inl b
def Nm(l:List Int)(k:Nat)(b:k<(aB l l.length).length∨k=0):tf (ay l k).1:=by
 induction k with
 | zero=>exact OS l _
 | succ k ih=>
  have a:1<(ay l k).1.length:=by have:=(cn l k (by omega)).2.2.2;omega
  exact Pb (ih (by omega)) a
def OQ{M:List Grp}(j:(bq M).Nodup)(i:tf M){x y:Grp}(b:x∈M)(a:y∈M)(e:x.fst=y.fst):x=y:=by
 induction M with
 | nil=>cases b
 | cons g M ih=>
  have k:bq (g :: M)=g.syms++bq M:=by simp[bq]
  rw[k,a3T]at j;obtain⟨_,n2,n3⟩:=j;have c:tf M:=fun z h=>i z (by simp[h]);have f:∀z∈M,z.fst∈bq M:=fun z h=>List.mem_flatMap.2 ⟨z,h,c z h⟩;have d:g.fst∈g.syms:=i g (by simp);simp only[a01]at b a;rcases b with rfl|b
  .
   rcases a with rfl|a
   . rfl
   . exact absurd e (n3 _ d _ (f y a))
  .
   rcases a with rfl|a
   . exact absurd e.symm (n3 _ d _ (f x b))
   . exact ih n2 c b a
def Kh{x y:Grp}(h:aZ x y=false)(h2:aZ y x=false):x.fst=y.fst:=by
 simp only[aZ,a2y,a2Q,a2R]at h h2;omega
def ze{L M:List Grp}{a:Grp}{L1:List Grp}(h:(L.map bare).Perm M)(k:L.Perm (a :: L1))(f:∀g∈L,aZ g a=false)(m:0<L.length)(s:(bq M).Nodup)(r:tf M):bare a=aE M/\(L1.map bare).Perm (ar M):=by
 have l:0<M.length:=by rw[←h.length_eq,a0O];exact m
 have p:a∈L:=k.mem_iff.2 (by simp);have b:bare a∈M:=h.mem_iff.1 (a2H p);have d:=bD M l;obtain⟨c,q,i⟩:=a2P.1 (h.mem_iff.2 d);have n:aZ (aE M) (bare a)=false:=by rw[←i,vV];exact f c q
 have h2:=FM M (bare a) b;have e:bare a=aE M:=OQ s r b d (Kh h2 n);refine⟨e,?_⟩;have o:(bare a :: L1.map bare).Perm M:=by
  have:=(k.map bare).symm.trans h;simpa using this
 have j:=o.trans (mt M l).symm;rw[e]at j;exact j.cons_inv
def JH{M:List Grp}(b:0<M.length)(c:(bq M).Nodup):(bq (ar M)).Nodup:=by
 have a:=rP (mt M b);have h2:=a.nodup_iff.2 c;have e:bq (aE M :: ar M)=(aE M).syms++bq (ar M):=by simp[bq]
 rw[e,a3T]at h2;exact h2.2.1
def KC{α:Type}(f:α->Nat){A B:List α}(h:A.Perm B):(A.map f).sum=(B.map f).sum:=by
 induction h with
 | nil=>rfl
 | cons x _ ih=>simp only[a0D,a0N];omega
 | swap x y l=>simp only[a0D,a0N];omega
 | trans _ _ h1 h2=>omega
def sZ:Nat->List Grp->Int
 | 0,_=>0
 | n+1,M=>if 1<M.length then(aE M).cnt+(aE (ar M)).cnt+sZ n (stepG M)else 0
def j6(h:0<l.getD k 0):aB l (k+1)=aB l k++[⟨l.getD k 0,(k:Int),[(k:Int)],.slice none 0 0⟩]:=by simp only[aB];rw[a0d h]
def nR(h:¬ 0<l.getD k 0):aB l (k+1)=aB l k:=by simp only[aB];rw[a0e h]
def krR(l:List Int)(len:Nat->Nat)(D:Nat):Nat->Nat
 | 0=>0
 | n+1=>krR l len D n+(if 0<l.getD n 0 then 2 ^ (D-len n)else 0)
def re(l:List Int)(k:Nat):∀g∈aB l k,0<=g.cnt/\∃i:Nat,g.fst=(i:Int)/\i<k/\0<l.getD i 0/\g.cnt=l.getD i 0/\g.syms=[(i:Int)]:=by
 induction k with
 | zero=>intro g a;simp[aB]at a
 | succ k ih=>
  intro g a;by_cases d:0<l.getD k 0
  .
   rw[j6 d]at a;simp only[a02,a09]at a;rcases a with a|rfl
   . obtain⟨b,i,h2,e,c⟩:=ih g a;exact⟨b,i,h2,by omega,c⟩
   . exact⟨by simp only;omega,k,rfl,by omega,d,rfl,rfl⟩
  . rw[nR d]at a;obtain⟨b,i,h2,e,c⟩:=ih g a;exact⟨b,i,h2,by omega,c⟩
def xw(l:List Int)(len:Nat->Nat)(D k:Nat):((bq (aB l k)).map fun s=>2 ^ (D-len s.toNat)).sum=krR l len D k:=by
 induction k with
 | zero=>rfl
 | succ k ih=>
  simp only[krR];by_cases h:0<l.getD k 0
  . rw[a0d h,←ih,j6 h];simp[bq]
  . rw[a0e h,←ih,nR h];simp
def Ch(l:List Int)(k:Nat)(x:Int):x∈bq (aB l k)<->∃i:Nat,x=(i:Int)/\i<k/\0<l.getD i 0:=by
 constructor
 . intro h;obtain⟨g,d,a⟩:=List.mem_flatMap.1 h;obtain⟨_,i,j,h2,b,_,c⟩:=re l k g d;rw[c]at a;simp only[a09]at a;exact⟨i,a,h2,b⟩
 .
  rintro⟨i,rfl,m,f⟩;induction k with
  | zero=>omega
  | succ k ih=>
   by_cases e:i=k
   . subst e;rw[j6 f];simp[bq]
   .
    have:=ih (by omega);by_cases h:0<l.getD k 0
    . rw[j6 h];simp only[bq,a1H,a02];exact .inl this
    . rw[nR h];exact this
/-! What holds behind so many steps. -/
def ln(l s:List Int):Int:=(s.map fun x=>l.getD x.toNat 0).sum
def pe(l a b:List Int):ln l (a++b)=ln l a+ln l b:=by simp[ln]
def Ip(l:List Int)(k:Nat)(j:k<(aB l l.length).length∨k=0):∀g∈(ay l k).1,g.cnt=ln l g.syms:=by
 induction k with
 | zero=>
  intro g b;obtain⟨_,i,f,h2,h,d,e⟩:=re l l.length g b;rw[d,e];simp[ln]
 | succ k ih=>
  have c:1<(ay l k).1.length:=by have:=(cn l k (by omega)).2.2.2;omega
  have m:=dy (ay l k).1 (by omega);have ih':=ih (by omega);intro g b;have a:g∈stepG (ay l k).1:=b;simp only[stepG,a02,a09]at a;rcases a with a|rfl
  . exact ih' g (bh _ _ (bh _ _ a))
  . simp only[er];rw[pe,ih' _ (bD _ (by omega)),ih' _ (bh _ _ (bD (ar _) (by omega)))]
def qo(l o:List Int):Nat->Int
 | 0=>0
 | n+1=>qo l o n+l.getD n 0*o.getD n 0
def Jq(l o:List Int)(s:Int)(a:0<=s)(n:Nat)(b:n<=o.length):qo l (gp o s) n=qo l o n+(if s<(n:Int)then l.getD s.toNat 0 else 0):=by
 induction n with
 | zero=>simp only[qo];rw[a0e (by omega)];rfl
 | succ n ih=>
  simp only[qo];rw[ih (by omega),xV o s n a (by omega)];by_cases e:s=(n:Int)
  . subst e;rw[a0e (by omega),a0d rfl,a0d (by omega),Int.mul_add,Int.mul_one,a0o];omega
  .
   rw[a0e e,Int.add_zero];by_cases h:s<(n:Int)
   . rw[a0d h,a0d (by omega)];omega
   . rw[a0e h,a0e (by omega)];omega
def MF(l s:List Int)(n:Nat):∀(o:List Int),n<=o.length->(∀x∈s,0<=x/\x<(n:Int))->qo l (bump o s) n=qo l o n+ln l s:=by
 induction s with
 | nil=>intro o _ _;simp[bump,ln]
 | cons x s ih=>
  intro o b a;show qo l (bump (gp o x) s) n=_;rw[ih (gp o x) (by rw[od];exact b) (fun y c=>a y (by simp[c])),Jq l o x (a x (by simp)).1 n b,a0d (a x (by simp)).2];simp only[ln,a0D,a0N];omega
def MG(l:List Int)(m n:Nat):qo l (List.replicate m 0) n=0:=by
 induction n with
 | zero=>rfl
 | succ n ih=>
  simp only[qo];rw[ih];have:(List.replicate m (0:Int)).getD n 0=0:=by
   rw[List.getD_eq_getElem?_getD,List.getElem?_replicate]
   split<;>rfl
  rw[this];omega
def QA(l:List Int)(k:Nat)(i:k<(aB l l.length).length∨k=0):qo l (ay l k).2 l.length+sZ ((aB l l.length).length-1-k) (ay l k).1=sZ ((aB l l.length).length-1) (aB l l.length):=by
 induction k with
 | zero=>
  show qo l (List.replicate l.length 0) l.length+sZ _ (aB l l.length)=_;rw[MG,Int.zero_add,a3c]
 | succ k ih=>
  have ih':=ih (by omega);have a:1<(ay l k).1.length:=by have:=(cn l k (by omega)).2.2.2;omega
  have j:=dy (ay l k).1 (by omega);obtain⟨m,hm⟩:∃m,(aB l l.length).length-1-k=m+1:=⟨(aB l l.length).length-1-k-1,by omega⟩;have b:(aB l l.length).length-1-(k+1)=m:=by omega
  rw[hm]at ih';rw[b];simp only[sZ]at ih';rw[a0d a]at ih';have c:∀x∈bi (ay l k).1,0<=x/\x<(l.length:Int):=by
   intro x h;have g:=(iJ l k (by omega)).2;exact g x ((kv _ a).mem_iff.1 (by simp[h]))
  have d:=MF l (bi (ay l k).1) l.length (ay l k).2 (by rw[eQ];exact a0a _) c;have h2:=Ip l k (by omega) _ (bD (ay l k).1 (by omega));have e:=Ip l k (by omega) _ (bh _ _ (bD (ar (ay l k).1) (by omega)));have f:ln l (bi (ay l k).1)=(aE (ay l k).1).cnt+(aE (ar (ay l k).1)).cnt:=by
   unfold bi;rw[pe,←h2,←e]
  show qo l (bump (ay l k).2 (bi (ay l k).1)) l.length+sZ m (stepG (ay l k).1)=_;rw[d,f];omega
def py(o s:List Int)(D:Nat):Nat:=(s.map fun x=>2 ^ (D-(o.getD x.toNat 0).toNat)).sum
def CQ(o a b:List Int)(D:Nat):py o (a++b) D=py o a D+py o b D:=by simp[py]
def JS{o o' s:List Int}{D:Nat}(h:∀x∈s,o'.getD x.toNat 0=o.getD x.toNat 0):py o' s D=py o s D:=by
 unfold py
 congr 1
 apply List.map_congr_left;intro x a;rw[h x a]
def JR{o o' s:List Int}{D:Nat}(h:∀x∈s,0<=o.getD x.toNat 0/\o.getD x.toNat 0<(D:Int)/\o'.getD x.toNat 0=o.getD x.toNat 0+1):2*py o' s D=py o s D:=by
 induction s with
 | nil=>rfl
 | cons x s ih=>
  have ih':=ih (fun y c=>h y (by simp[c]));obtain⟨e,h2,b⟩:=h x (by simp);simp only[py,a0D,a0N]at ih' ⊢;rw[b];obtain⟨d,hd⟩:∃d,D-(o.getD x.toNat 0).toNat=d+1:=⟨D-(o.getD x.toNat 0).toNat-1,by omega⟩;have a:D-(o.getD x.toNat 0+1).toNat=d:=by omega
  rw[hd,a,a1u];omega
def QC(l:List Int)(D:Nat)(A:(aB l l.length).length<=D)(k:Nat)(B:k<(aB l l.length).length∨k=0):∀g∈(ay l k).1,py (ay l k).2 g.syms D=2 ^ D:=by
 induction k with
 | zero=>
  intro g m;obtain⟨_,i,q,h2,w,z,r⟩:=re l l.length g m;rw[r];show py (List.replicate l.length 0) [(i:Int)] D=2 ^ D;simp[py,List.getD,h2]
 | succ k ih=>
  have c:1<(ay l k).1.length:=by have:=(cn l k (by omega)).2.2.2;omega
  have C:=dy (ay l k).1 (by omega);have ih':=ih (by omega);have d:=iJ l k (by omega);obtain⟨n,h⟩:=kp c d.1;have f:=mf l k (by omega);have j:∀x∈bi (ay l k).1,0<=x/\x<(l.length:Int):=fun x e=>d.2 x ((kv _ c).mem_iff.1 (by simp[e]));have b:=fun(x:Int) (h0:0<=x) (q:x<(l.length:Int))=>mZ (ay l k).2 (bi (ay l k).1) x.toNat n (fun y v=>(j y v).1) (by rw[eQ];omega);intro g m;show py (bump (ay l k).2 (bi (ay l k).1)) g.syms D=2 ^ D;have a:g∈stepG (ay l k).1:=m;simp only[stepG,a02,a09]at a;rcases a with a|rfl
  .
   rw[JS (o:=(ay l k).2)]
   . exact ih' g (bh _ _ (bh _ _ a))
   . intro x e;have p:x∈bq (ay l k).1:=List.mem_flatMap.2 ⟨g,bh _ _ (bh _ _ a),e⟩;obtain⟨x0,x1⟩:=d.2 x p;rw[b x x0 x1,a3j x0,a0e (h g a x e),Int.add_zero]
  .
   have u:(er (aE (ay l k).1) (aE (ar (ay l k).1))).syms=bi (ay l k).1:=rfl;rw[u];have t:=JR (o:=(ay l k).2) (o':=bump (ay l k).2 (bi (ay l k).1)) (s:=bi (ay l k).1) (D:=D) (by
    intro x e;obtain⟨x0,x1⟩:=j x e;have hd:=f x.toNat (by rw[eQ];omega);refine⟨hd.1,by omega,?_⟩;rw[b x x0 x1,a3j x0,a0d e])
   have h2:py (ay l k).2 (bi (ay l k).1) D=2 ^ D+2 ^ D:=by
    unfold bi;rw[CQ,ih' _ (bD _ (by omega)),ih' _ (bh _ _ (bD (ar _) (by omega)))]
   omega
open Corb
def cY(w:World)(b base:Nat)(v:Value)(L:List Grp):Prop:=w.heap[b]?=some (Obj.cells #[v] 311)/\cW 291 w base v L
def cY.cell{base:Nat}{L:List Grp}(h:cY w b base v L):w.cell? ⟨b,0,none⟩=some v:=by simp[World.cell?,h.1]
def cY.frz{base:Nat}{L:List Grp}(h:cY w b base v L):w.frozen? ⟨b,0,none⟩=false:=by simp[World.frozen?,h.1]
def cY.lt{base:Nat}{L:List Grp}(h:cY w b base v L):b<w.heap.size:=(Array.getElem?_eq_some_iff.1 h.1).1
def jN(b base n cap:Nat)(a:Option Addr)(L:List Grp)(w:World)(h:cY w b base (.slice a n cap) L) :
  Calls prog 205 #[.pointer b] w fun e w'=>e = .returned (.int .i64 (n:Nat))/\w'=w:=by
 have c0:=h.cell;clear h;go_enter func205,ntmps205;go_wp2;go_ret;exact⟨rfl,rfl⟩
def j8(b base ob g n cap i j:Nat)(L:List Grp)(w:World)(d:d9 w ob L)(f:L.length=n)(t:n<=300)(h:cY w b base (.slice g n cap) L)(l:i<n)(m:j<n) :
  Ds 319 #[.pointer b,i,j] w (.bool (aZ (L.getD i g0) (L.getD j g0))):=by
 have c0:=h.cell;obtain⟨a0,a1,a2,_,z⟩:=h.2.at f i l;obtain⟨o,p,k,_,_⟩:=h.2.at f j m;have q:b<w.heap.size:=World.block_lt_of_cell? w ⟨b,0,none⟩ c0;obtain⟨xa,xq,a⟩:=(d (L.getD i g0) (gt L i (by omega))).form;obtain⟨ya,yq,c⟩:=(d (L.getD j g0) (gt L j (by omega))).form;have r:(i:Int)<(n:Int):=by omega
 have s:(j:Int)<(n:Int):=by omega
 have u:(n:Int)<=300:=by omega
 rw[a]at a2;rw[c]at k;clear h f t l m a c d;generalize L.getD i g0=x,L.getD j g0=y at *;obtain⟨xc,xf,xs,xv⟩:=x;obtain⟨yc,yf,ys,yv⟩:=y;simp only at a0 a1 a2 o p k;generalize xs.length=xn,ys.length=yn at *;go_enter func319,ntmps319;go_wp2_with fail
 go_region
 all_goals
  by_cases e:xc=yc
  . subst e;go_wp2;go_ret;exact⟨congrArg (fun x=>Ending.returned (.bool x)) (by simp[aZ]),(cC.alloc (by simp) _).drew⟩
  .
   have v:(xc == yc)=false:=by simpa using e
   go_wp2;go_ret;exact⟨congrArg (fun x=>Ending.returned (.bool x)) (by simp[aZ,e]),(cC.alloc (by simp) _).drew⟩
def bG.ints{base:Nat}(h:bG 3 w w')(a:an w base v l):an w' base v l:=h.own a
def bG.syms{l:List Grp}(h:bG 3 w w')(b:d9 w ob l):d9 w' ob l:=fun g a=>h.ints (b g a)
def d9.perm{l m:List Grp}(h:d9 w ob l)(b:m.Perm l):d9 w ob m:=fun g a=>h g (b.mem_iff.1 a)
def bJ(g:Nat)(w w':World):Prop:=bG 3 w w'/\w.heap.size<=w'.heap.size/\∀k,k<w.heap.size->k≠g->w'.heap[k]?=w.heap[k]?
def bJ.refl(g:Nat)(w:World):bJ g w w:=⟨bG.refl _ _,a0a _,fun _ _ _=>rfl⟩
def bJ.trans{w1 w2:World}(h:bJ g w w1)(k:bJ g w1 w2):bJ g w w2:=
 ⟨h.1.trans k.1,a0E h.2.1 k.2.1,fun j b a=>(k.2.2 j (a0h b h.2.1) a).trans (h.2.2 j b a)⟩
def bJ.below(h:Below w.heap.size w w'):bJ g w w':=⟨bG.below h,h.size,fun j a _=>h.block j a⟩
def bJ.syms{l:List Grp}(h:bJ g w w')(a:d9 w ob l):d9 w' ob l:=h.1.syms a
def bJ.drew(h:bJ g w w'):bJ g w w'.drew:=h
def bJ.touch{t':TypeId}{c:Array Value}{f:Nat×Nat}(d:w.heap[g]?=some (.cells c t' f))(a:3≠t')(b:Touch (some ⟨g,0,none⟩) w w'):bJ g w w':=
 ⟨bG.touch d a b,Nat.le_of_eq b.1.symm,fun j _ h=>b.2 j (fun g' e=>by simp only[a0k,a0A,a0Q]at e;omega)⟩
def GZ(l:List Grp)(j:Nat)(x:Grp):(((aR l).set (j*3) (.int .i64 x.cnt)).set (j*3+1) (.int .i64 x.fst)).set (j*3+2) x.val=aR (l.set j x):=by
 induction l generalizing j with
 | nil=>simp[aR]
 | cons p l ih=>
  cases j with
  | zero=>simp[aR]
  | succ j=>
   rw[show(j+1)*3=j*3+1+1+1 by omega];simp only[aR,List.set_cons_succ];rw[ih j]
def cW.put{base cap:Nat}{l:List Grp}(c:l.length=n)(h:cW t w base (.slice g n cap) l)(j:Nat)(x:Grp) :
  cW t (((w.setCell ⟨g,j*3,none⟩ (.int .i64 x.cnt)).setCell ⟨g,j*3+1,none⟩ (.int .i64 x.fst)).setCell ⟨g,j*3+2,none⟩ x.val) base (.slice g n cap) (l.set j x):=by
 subst c;have b:=(a2N h (j*3) (.int .i64 x.cnt)).1;have h2:=(a2N b (j*3+1) (.int .i64 x.fst)).1;have a:=(a2N h2 (j*3+2) x.val).1;rw[GZ]at a;show World.ownsRow _ _ _ _ _ (l.set j x).length _;rw[a1T];exact a
def cW.frozen{base cap:Nat}{l:List Grp}(a:l.length=n)(h:cW t w base (.slice g n cap) l)(j:Nat):w.frozen? ⟨g,j,none⟩=false:=by
 subst a;exact a2O h j
def cW.drew{base:Nat}{l:List Grp}(h:cW t w base v l):cW t w.drew base v l:=h
def cY.drew{base:Nat}{L:List Grp}(h:cY w b base v L):cY w.drew b base v L:=⟨h.1,h.2.drew⟩
def nW(b base ob g n cap i j:Nat)(L:List Grp)(w:World)(u:d9 w ob L)(a:L.length=n)(V:n<=300)(h:cY w b base (.slice g n cap) L)(O:b<base)(B:i<n)(C:j<n) :
  Calls prog 237 #[.pointer b,i,j] w fun e w'=>e = .returned (.tuple #[])/\cY w' b base (.slice g n cap) (dc L i j)/\Below b w w'/\bJ g w w':=by
 have c0:=h.cell;have R:=(a0z h.2 g rfl).1;have v:b≠g:=by omega
 obtain⟨gc,q⟩:=KG (n:=n) (by have h2:=h.2;unfold cW at h2;rw[a]at h2;exact h2) rfl;have s:=af q;clear q;obtain⟨a0,a1,a2,_,X⟩:=h.2.at a i B;obtain⟨K,M,A,_,_⟩:=h.2.at a j C;have f0:=h.2.frozen a (i*3);have f1:=h.2.frozen a (i*3+1);have f2:=h.2.frozen a (i*3+2);have k0:=h.2.frozen a (j*3);have Y:=h.2.frozen a (j*3+1);have Z:=h.2.frozen a (j*3+2);have P:b<w.heap.size:=World.block_lt_of_cell? w ⟨b,0,none⟩ c0;obtain⟨xa,xq,d⟩:=(u (L.getD i g0) (gt L i (by omega))).form;obtain⟨ya,yq,f⟩:=(u (L.getD j g0) (gt L j (by omega))).form;have S:(i:Int)<(n:Int):=by omega
 have T:(j:Int)<(n:Int):=by omega
 have W:(n:Int)<=300:=by omega
 rw[d]at a2;rw[f]at A;have H:=af h;have z:=af a;clear h a V B C u;have F:=af d;have G:=af f;have Q:g≠b:=fun e=>v e.symm;clear d f;generalize D:L.getD i g0=x,E:L.getD j g0=y at *;obtain⟨xc,xf,xs,xv⟩:=x;obtain⟨yc,yf,ys,yv⟩:=y;simp only at a0 a1 a2 K M A;generalize xs.length=xn,ys.length=yn at *;have I:=af D;have J:=af E;clear D E;go_enter func237,ntmps237;go_wp2_with fail;have ex:Hid (L.getD i g0=⟨xc,xf,xs,.slice xa xn xq⟩):=by
  have e:xv = .slice xa xn xq:=ae F;show L.getD i g0=_;rw[ae I,e]
 have ey:Hid (L.getD j g0=⟨yc,yf,ys,.slice ya yn yq⟩):=by
  have e:yv = .slice ya yn yq:=ae G;show L.getD j g0=_;rw[ae J,e]
 have N:=af (cW.put (by rw[a1T];exact z) (cW.put z H.2 i ⟨yc,yf,ys,.slice ya yn yq⟩) j ⟨xc,xf,xs,.slice xa xn xq⟩);have p:=af (((((((Touch.refl (some ⟨g,0,none⟩) w).set (o:=i*3) rfl (.int .i64 yc)).set (o:=i*3+1) rfl (.int .i64 yf)).set (o:=i*3+2) rfl (.slice ya yn yq)).set (o:=j*3) rfl (.int .i64 xc)).set (o:=j*3+1) rfl (.int .i64 xf)).set (o:=j*3+2) rfl (.slice xa xn xq));have k:=af ((ai (ai (ai (ai (ai (ai (a0c b w) (b:=g) (o:=i*3) (by omega) (.int .i64 yc)) (b:=g) (o:=i*3+1) (by omega) (.int .i64 yf)) (b:=g) (o:=i*3+2) (by omega) (.slice ya yn yq)) (b:=g) (o:=j*3) (by omega) (.int .i64 xc)) (b:=g) (o:=j*3+1) (by omega) (.int .i64 xf)) (b:=g) (o:=j*3+2) (by omega) (.slice xa xn xq)));have l:=af (bJ.touch s (by decide) p);have t:=af ((p.2 b (fun g' e=>by simp only[a0k,a0A,a0Q]at e;omega)).trans H.1);have c:Hid (cY ((((((w.setCell ⟨g,i*3,none⟩ (.int .i64 yc)).setCell ⟨g,i*3+1,none⟩ (.int .i64 yf)).setCell ⟨g,i*3+2,none⟩ (.slice ya yn yq)).setCell ⟨g,j*3,none⟩ (.int .i64 xc)).setCell ⟨g,j*3+1,none⟩ (.int .i64 xf)).setCell ⟨g,j*3+2,none⟩ (.slice xa xn xq)) b base (.slice g n cap) ((L.set i ⟨yc,yf,ys,.slice ya yn yq⟩).set j ⟨xc,xf,xs,.slice xa xn xq⟩)):=⟨t,N⟩;clear H;have m:Hid (dc L i j=(L.set i ⟨yc,yf,ys,.slice ya yn yq⟩).set j ⟨xc,xf,xs,.slice xa xn xq⟩):=by
  show dc L i j=_;unfold dc;rw[ae ex,ae ey]
 by_cases r:i=j
 .
  subst r;have exy:=ex.symm.trans ey;simp only[Grp.mk.injEq,a0L]at exy;obtain⟨rfl,rfl,rfl,rfl,rfl,rfl⟩:=exy
  go_region
  all_goals
   go_wp2
   go_end0
   refine⟨rfl,?_,k.drew,l.drew⟩;rw[ae m];exact c.drew
 .
  have U:¬ j=i:=fun e=>r e.symm;have q1:¬ j*3=i*3+1:=by omega
  have q2:¬ j*3=i*3+2:=by omega
  have q3:¬ j*3+1=i*3:=by omega
  have q4:¬ j*3+1=i*3+2:=by omega
  have q5:¬ j*3+2=i*3:=by omega
  have q6:¬ j*3+2=i*3+1:=by omega
  have q7:¬ j*3=i*3:=by omega
  have q8:¬ j*3+1=i*3+1:=by omega
  have q9:¬ j*3+2=i*3+2:=by omega
  go_region
  all_goals
   go_wp2
   go_end0
   refine⟨rfl,?_,k.drew,l.drew⟩;rw[ae m];exact c.drew
def NW(a:Addr)(w:World):(method 480 288 (.pointer (some a)) "loop.example/corbel/impl.size").run prog w = .ok (205,.pointer (some a)) w:=by kernel_rfl
def wj(a:Addr)(w:World):(method 480 288 (.pointer (some a)) "loop.example/corbel/impl.before").run prog w = .ok (319,.pointer (some a)) w:=by kernel_rfl
def DN(a:Addr)(w:World):(method 480 288 (.pointer (some a)) "loop.example/corbel/impl.swap").run prog w = .ok (237,.pointer (some a)) w:=by kernel_rfl
def cY.later{base:Nat}{L:List Grp}(h:cY w b base v L)(hb:Below w.heap.size w w'):cY w' b base v L:=
 ⟨(hb.block b h.lt).trans h.1,h.2.later hb (a0a _)⟩
def Ad(b g n cap p:Nat)(L:List Grp)(w:World)(D:d9 w (b+1) L)(F:L.length=n)(E:n<=300)(h:cY w b (b+1) (.slice g n cap) L)(G:p<n)(l:UpI L p) :
  Calls prog 239 #[.iface 288 (.pointer b),p] w fun e w'=>e = .returned (.tuple #[])/\∃M:List Grp,M.Perm L/\HP M/\cY w' b (b+1) (.slice g n cap) M/\Below b w w'/\bJ g w w':=by
 have m1:=wj ⟨b,0,none⟩;have m2:=DN ⟨b,0,none⟩;have N:(n:Int)<=300:=by omega
 have C:=af D;have x:=af (a0b F E);have u:=af (a0b h (a0b G l));clear D F E h G l;go_enter func239,ntmps239;go_wp2_with fail
 go_loopw [1] (fun p wr=>∃(k:Nat) (M:List Grp),p = .int .i64 k/\k<n/\M.Perm L/\UpI M k/\cY wr b (b+1) (.slice g n cap) M/\Below b w wr/\bJ g w wr) (fun p _=>(intOf p).toNat)
 case atStart=>exact⟨p,L,rfl,u.2.1,a2w _,u.2.2,u.1,a0c _ _,bJ.refl _ _⟩
 case round=>
  obtain⟨k,M,rfl,m,i,l,j,a,c⟩:=hrel;have K:(k:Int)<(n:Int):=by omega
  have d:M.length=n:=i.length_eq.trans x.1;have t:=af (a0b m (a0b i (a0b l (a0b j (a0b a (a0b c d))))));by_cases I:k=0
  .
   subst I;clear m i l j a c d;go_wp2
   go_end0
   obtain⟨m,i,l,j,a,c,d⟩:=ae t;exact⟨rfl,M,i,Pv l (.inl rfl),j,a,c⟩
  .
   have B:d9 wr (b+1) M:=(c.syms C).perm i;obtain⟨q,hq⟩:∃q,q=(k-1)/2:=⟨_,rfl⟩;have P:((k:Int)-1)/2=(q:Int):=(by omega);have O:(q:Int)<(n:Int):=(by omega);have J:(1:Int)<=(k:Int):=(by omega);have s:=af (j8 b (b+1) (b+1) g n cap k q M wr B d x.2 j m (by omega));have o:=af hq;clear m i l j a c d hq;cases r:aZ (M.getD k g0) (M.getD q g0)
   .
    rw[r]at s;have v:=af r;clear r;go_wp2_with fail;apply s.mono;rintro e x1⟨rfl,f⟩;go_wp2
    go_end0
    obtain⟨m,i,l,j,a,c,d⟩:=ae t;exact⟨rfl,M,i,Pv l (.inr (by rw[←ae o];exact v)),j.later f,a.trans (f.mono (a0r (j.lt))),c.trans (bJ.below f)⟩
   .
    rw[r]at s;have v:=af r;clear r;go_wp2_with fail;apply s.mono;rintro e x1⟨rfl,f⟩;have H:Hid (Calls prog 237 #[.pointer b,k,q] x1 fun e w'=>e = .returned (.tuple #[])/\cY w' b (b+1) (.slice g n cap) (dc M k q)/\Below b x1 w'/\bJ g x1 w'):=by
     obtain⟨m,i,l,j,a,c,d⟩:=ae t;exact nW b (b+1) (b+1) g n cap k q M x1 (((c.trans (bJ.below f)).syms C).perm i) d x.2 (j.later f) (a0i _) m (by omega)
    go_wp2_with fail;apply H.mono;rintro e x2⟨rfl,z,y,A⟩;go_wp2;go_roundw
    case rel=>
     obtain⟨m,i,l,j,a,c,d⟩:=ae t;have hq:=ae o;refine⟨q,dc M k q,by first|rfl|go_num,by omega,(iU (by omega) (by omega)).trans i,?_,z,(a.trans (f.mono (a0r (j.lt)))).trans y,(c.trans (bJ.below f)).trans A⟩;subst hq;exact Rv l (by omega) (by omega) v
    case measure=>
     have hq:=ae o;simp[intOf];omega
def AX{L:List Grp}(b:(c=2*k+1/\(L.length<=2*k+2∨aZ (L.getD (2*k+2) g0) (L.getD (2*k+1) g0)=false))∨(c=2*k+2/\aZ (L.getD (2*k+2) g0) (L.getD (2*k+1) g0)=true)) :
  ∀i,0<i->i<L.length->(i-1)/2=k->aZ (L.getD i g0) (L.getD c g0)=false:=by
 intro i i0 d e;have a:i=2*k+1∨i=2*k+2:=by omega
 rcases b with⟨rfl,h|h⟩|⟨rfl,h⟩
 .
  rcases a with rfl|rfl
  . exact gT _
  . omega
 .
  rcases a with rfl|rfl
  . exact gT _
  . exact h
 .
  rcases a with rfl|rfl
  . exact pB h
  . exact gT _
def Ae(b g n cap p:Nat)(L:List Grp)(w:World)(X:d9 w (b+1) L)(hn:L.length=n)(hm:n<=300)(h:cY w b (b+1) (.slice g n cap) L)(G:p<=n)(r:DnI L p) :
  Calls prog 238 #[.iface 288 (.pointer b),p] w fun e w'=>e = .returned (.tuple #[])/\∃M:List Grp,M.Perm L/\HP M/\cY w' b (b+1) (.slice g n cap) M/\Below b w w'/\bJ g w w':=by
 have m1:=wj ⟨b,0,none⟩;have m2:=DN ⟨b,0,none⟩;have m3:=NW ⟨b,0,none⟩;have ab:(n:Int)<=300:=by omega
 have J:=af X;have I:=af (a0b hn hm);have T:=af (a0b h (a0b G r));clear X hn hm h G r;go_enter func238,ntmps238;go_wp2_with fail
 go_loopw [1,4] (fun p _ wr=>∃(k:Nat) (M:List Grp),p = .int .i64 k/\k<=n/\M.Perm L/\DnI M k/\cY wr b (b+1) (.slice g n cap) M/\Below b w wr/\bJ g w wr) (fun p _ _=>n-(intOf p).toNat)
 case atStart=>exact⟨p,L,rfl,T.2.1,a2w _,T.2.2,T.1,a0c _ _,bJ.refl _ _⟩
 case round=>
  obtain⟨k,M,rfl,v,o,r,t,a,j⟩:=hrel;have aa:(k:Int)<=(n:Int):=by omega
  have d:M.length=n:=o.length_eq.trans I.1;have z:=af (a0b v (a0b o (a0b r (a0b t (a0b a (a0b j d))))));have K:=af (jN b (b+1) n cap _ M wr t);have H:d9 wr (b+1) M:=(j.syms J).perm o;obtain⟨c1,D⟩:∃q,q=2*k+1:=⟨_,rfl⟩;have Y:2*(k:Int)+1=(c1:Int):=by omega
  have x:=af D;by_cases S:c1<n
  .
   have V:(c1:Int)<(n:Int):=(by omega);obtain⟨c2,hc2⟩:∃q,q=2*k+2:=⟨_,rfl⟩;have Z:(c1:Int)+1=(c2:Int):=(by omega);have B:=af hc2;by_cases h2:c2<n
   .
    have W:(c2:Int)<(n:Int):=(by omega);have R:=af (j8 b (b+1) (b+1) g n cap c2 c1 M wr H d I.2 t h2 S);clear v o r t a j d D hc2 S h2 H;cases O:aZ (M.getD c2 g0) (M.getD c1 g0)
    .
     rw[O]at R;have U:=af O;clear O;go_wp2_with fail;apply K.mono;rintro e y1⟨rfl,m⟩;rw[m];clear m y1;go_wp2_with fail;apply K.mono;rintro e y1⟨rfl,m⟩;rw[m];clear m y1;go_wp2_with fail;apply R.mono;rintro e x1⟨rfl,A⟩;have y:Hid (cY x1 b (b+1) (.slice g n cap) M/\Below b w x1/\bJ g w x1/\c1<n/\0<c1/\(c1-1)/2=k/\(∀i,0<i->i<M.length->(i-1)/2=k->aZ (M.getD i g0) (M.getD c1 g0)=false)):=by
      obtain⟨v,o,r,t,a,j,d⟩:=ae z;refine⟨(t.later A),(a.trans (A.mono (a0r (t.lt)))),(j.trans (bJ.below A)),by omega,?_,?_,AX (k:=k) (.inl ⟨x,.inr (by rw[←ae x,←ae B];exact U)⟩)⟩
      . have:=ae x;omega
      . have:=ae x;omega
     have s:Hid (Calls prog 319 #[.pointer b,c1,k] x1 fun e w'=>e = .returned (.bool (aZ (M.getD c1 g0) (M.getD k g0)))/\Below (x1).heap.size x1 w'):=by
      obtain⟨v,o,r,t,a,j,d⟩:=ae z;obtain⟨xh,xb,xk,xc,xc0,xp,xm⟩:=ae y;exact j8 b (b+1) (b+1) g n cap c1 k M x1 ((xk.syms J).perm o) d I.2 xh xc (by omega)
     cases l:aZ (M.getD c1 g0) (M.getD k g0)
     . rw[l]at s;have u:=af l;clear l;go_wp2_with fail;apply s.mono;rintro e x2⟨rfl,f⟩;go_wp2;refine a0x (a3k rfl _ _ _) rfl ?_;obtain⟨v,o,r,t,a,j,d⟩:=ae z;obtain⟨xh,xb,xk,xc,xc0,xp,xm⟩:=ae y;exact⟨rfl,M,o,zI r (fun c c0 N G=>jk (xm c c0 N G) u),xh.later f,xb.trans (f.mono (a0r (xh.lt))),xk.trans (bJ.below f)⟩
     .
      rw[l]at s;have u:=af l;clear l;go_wp2_with fail;apply s.mono;rintro e x2⟨rfl,f⟩;have P:Hid (Calls prog 237 #[.pointer b,c1,k] x2 fun e w'=>e = .returned (.tuple #[])/\cY w' b (b+1) (.slice g n cap) (dc M c1 k)/\Below b x2 w'/\bJ g x2 w'):=by
       obtain⟨v,o,r,t,a,j,d⟩:=ae z;obtain⟨xh,xb,xk,xc,xc0,xp,xm⟩:=ae y;exact nW b (b+1) (b+1) g n cap c1 k M x2 (((xk.trans (bJ.below f)).syms J).perm o) d I.2 (xh.later f) (a0i _) xc (by omega)
      go_wp2_with fail;apply P.mono;rintro e x3⟨rfl,E,C,F⟩;go_wp2;go_roundw
      case rel=>
       obtain⟨v,o,r,t,a,j,d⟩:=ae z;obtain⟨xh,xb,xk,xc,xc0,xp,xm⟩:=ae y;exact⟨c1,dc M c1 k,rfl,by omega,(iU (by omega) (by omega)).trans o,zJ r (by omega) (by omega) xc0 xp xm u,E,(xb.trans (f.mono (a0r (xh.lt)))).trans C,(xk.trans (bJ.below f)).trans F⟩
      case measure=>
       obtain⟨xh,xb,xk,xc,xc0,xp,xm⟩:=ae y;simp[intOf];omega
    .
     rw[O]at R;have U:=af O;clear O;go_wp2_with fail;apply K.mono;rintro e y1⟨rfl,m⟩;rw[m];clear m y1;go_wp2_with fail;apply K.mono;rintro e y1⟨rfl,m⟩;rw[m];clear m y1;go_wp2_with fail;apply R.mono;rintro e x1⟨rfl,A⟩;have y:Hid (cY x1 b (b+1) (.slice g n cap) M/\Below b w x1/\bJ g w x1/\c2<n/\0<c2/\(c2-1)/2=k/\(∀i,0<i->i<M.length->(i-1)/2=k->aZ (M.getD i g0) (M.getD c2 g0)=false)):=by
      obtain⟨v,o,r,t,a,j,d⟩:=ae z;refine⟨(t.later A),(a.trans (A.mono (a0r (t.lt)))),(j.trans (bJ.below A)),by omega,?_,?_,AX (k:=k) (.inr ⟨B,by rw[←ae x,←ae B];exact U⟩)⟩
      . have:=ae B;omega
      . have:=ae B;omega
     have s:Hid (Calls prog 319 #[.pointer b,c2,k] x1 fun e w'=>e = .returned (.bool (aZ (M.getD c2 g0) (M.getD k g0)))/\Below (x1).heap.size x1 w'):=by
      obtain⟨v,o,r,t,a,j,d⟩:=ae z;obtain⟨xh,xb,xk,xc,xc0,xp,xm⟩:=ae y;exact j8 b (b+1) (b+1) g n cap c2 k M x1 ((xk.syms J).perm o) d I.2 xh xc (by omega)
     cases l:aZ (M.getD c2 g0) (M.getD k g0)
     . rw[l]at s;have u:=af l;clear l;go_wp2_with fail;apply s.mono;rintro e x2⟨rfl,f⟩;go_wp2;refine a0x (a3k rfl _ _ _) rfl ?_;obtain⟨v,o,r,t,a,j,d⟩:=ae z;obtain⟨xh,xb,xk,xc,xc0,xp,xm⟩:=ae y;exact⟨rfl,M,o,zI r (fun c c0 N G=>jk (xm c c0 N G) u),xh.later f,xb.trans (f.mono (a0r (xh.lt))),xk.trans (bJ.below f)⟩
     .
      rw[l]at s;have u:=af l;clear l;go_wp2_with fail;apply s.mono;rintro e x2⟨rfl,f⟩;have P:Hid (Calls prog 237 #[.pointer b,c2,k] x2 fun e w'=>e = .returned (.tuple #[])/\cY w' b (b+1) (.slice g n cap) (dc M c2 k)/\Below b x2 w'/\bJ g x2 w'):=by
       obtain⟨v,o,r,t,a,j,d⟩:=ae z;obtain⟨xh,xb,xk,xc,xc0,xp,xm⟩:=ae y;exact nW b (b+1) (b+1) g n cap c2 k M x2 (((xk.trans (bJ.below f)).syms J).perm o) d I.2 (xh.later f) (a0i _) xc (by omega)
      go_wp2_with fail;apply P.mono;rintro e x3⟨rfl,E,C,F⟩;go_wp2;go_roundw
      case rel=>
       obtain⟨v,o,r,t,a,j,d⟩:=ae z;obtain⟨xh,xb,xk,xc,xc0,xp,xm⟩:=ae y;exact⟨c2,dc M c2 k,rfl,by omega,(iU (by omega) (by omega)).trans o,zJ r (by omega) (by omega) xc0 xp xm u,E,(xb.trans (f.mono (a0r (xh.lt)))).trans C,(xk.trans (bJ.below f)).trans F⟩
      case measure=>
       obtain⟨xh,xb,xk,xc,xc0,xp,xm⟩:=ae y;simp[intOf];omega
   .
    have W:¬ (c2:Int)<(n:Int):=(by omega);have Q:Hid (n<=c2):=by show n<=c2;omega
    clear v o r t a j d D hc2 S h2 H;go_wp2_with fail;apply K.mono;rintro e y1⟨rfl,m⟩;rw[m];clear m y1;go_wp2_with fail;apply K.mono;rintro e y1⟨rfl,m⟩;rw[m];clear m y1;have y:Hid (cY wr b (b+1) (.slice g n cap) M/\Below b w wr/\bJ g w wr/\c1<n/\0<c1/\(c1-1)/2=k/\(∀i,0<i->i<M.length->(i-1)/2=k->aZ (M.getD i g0) (M.getD c1 g0)=false)):=by
     obtain⟨v,o,r,t,a,j,d⟩:=ae z;refine⟨t,a,j,by omega,?_,?_,AX (k:=k) (.inl ⟨x,.inl (by rw[d,←ae B];exact Q)⟩)⟩
     . have:=ae x;omega
     . have:=ae x;omega
    have s:Hid (Calls prog 319 #[.pointer b,c1,k] wr fun e w'=>e = .returned (.bool (aZ (M.getD c1 g0) (M.getD k g0)))/\Below (wr).heap.size wr w'):=by
     obtain⟨v,o,r,t,a,j,d⟩:=ae z;obtain⟨xh,xb,xk,xc,xc0,xp,xm⟩:=ae y;exact j8 b (b+1) (b+1) g n cap c1 k M wr ((xk.syms J).perm o) d I.2 xh xc (by omega)
    cases l:aZ (M.getD c1 g0) (M.getD k g0)
    . rw[l]at s;have u:=af l;clear l;go_wp2_with fail;apply s.mono;rintro e x2⟨rfl,f⟩;go_wp2;refine a0x (a3k rfl _ _ _) rfl ?_;obtain⟨v,o,r,t,a,j,d⟩:=ae z;obtain⟨xh,xb,xk,xc,xc0,xp,xm⟩:=ae y;exact⟨rfl,M,o,zI r (fun c c0 N G=>jk (xm c c0 N G) u),xh.later f,xb.trans (f.mono (a0r (xh.lt))),xk.trans (bJ.below f)⟩
    .
     rw[l]at s;have u:=af l;clear l;go_wp2_with fail;apply s.mono;rintro e x2⟨rfl,f⟩;have P:Hid (Calls prog 237 #[.pointer b,c1,k] x2 fun e w'=>e = .returned (.tuple #[])/\cY w' b (b+1) (.slice g n cap) (dc M c1 k)/\Below b x2 w'/\bJ g x2 w'):=by
      obtain⟨v,o,r,t,a,j,d⟩:=ae z;obtain⟨xh,xb,xk,xc,xc0,xp,xm⟩:=ae y;exact nW b (b+1) (b+1) g n cap c1 k M x2 (((xk.trans (bJ.below f)).syms J).perm o) d I.2 (xh.later f) (a0i _) xc (by omega)
     go_wp2_with fail;apply P.mono;rintro e x3⟨rfl,E,C,F⟩;go_wp2;go_roundw
     case rel=>
      obtain⟨v,o,r,t,a,j,d⟩:=ae z;obtain⟨xh,xb,xk,xc,xc0,xp,xm⟩:=ae y;exact⟨c1,dc M c1 k,rfl,by omega,(iU (by omega) (by omega)).trans o,zJ r (by omega) (by omega) xc0 xp xm u,E,(xb.trans (f.mono (a0r (xh.lt)))).trans C,(xk.trans (bJ.below f)).trans F⟩
     case measure=>
      obtain⟨xh,xb,xk,xc,xc0,xp,xm⟩:=ae y;simp[intOf];omega
  .
   have V:¬ (c1:Int)<(n:Int):=(by omega);have Q:Hid (n<=c1):=by show n<=c1;omega
   clear v o r t a j d D S H;go_wp2_with fail;apply K.mono;rintro e y1⟨rfl,m⟩;rw[m];clear m y1;go_wp2
   go_end0
   obtain⟨v,o,r,t,a,j,d⟩:=ae z;have D:=ae x;exact⟨rfl,M,o,zI r (fun c c0 N G=>by omega),t,a,j⟩
def H9(h:w.heap[b]?=some (Obj.cells #[v] t))(u:Value):(w.setCell ⟨b,0,none⟩ u).heap[b]?=some (Obj.cells #[u] t):=by
 show(w.heap.modify b _)[b]?=_;rw[Array.getElem?_modify,a0d rfl,h];simp
def Mq(h:w.heap[b]?=some (Obj.cells #[v] t)):w.cell? ⟨b,0,none⟩=some v:=by simp[World.cell?,h]
def P6(h:w.heap[b]?=some (Obj.cells #[v] t)):w.frozen? ⟨b,0,none⟩=false:=by simp[World.frozen?,h]
def Tryz.infoGrp:(prog.info? 291).map (fun i=>(i.zero,i.size,i.bytes))=some (some (.agg #[.int .i64 0,.int .i64 0,.slice none 0 0]),3,40):=by kernel_rfl
def Gg{W x1:World}{v':Value}{L:List Grp}{x:Grp}{o:Obj}(z:L.length=n)(h:cY w b (b+1) v L)(m:Below w.heap.size w W)(y:bG 3 w W)(l:x1.ownsRow (b+1) 291 3 v' (n+1) (aR L++[.int .i64 x.cnt,.int .i64 x.fst,x.val]))(a:(W.alloc o).drew.grownBy x1 v.ownBlock) :
  (∃g c,v' = .slice (some ⟨g,0,none⟩) (n+1) c)/\(x1.heap[b]?=some (Obj.cells #[v] 311))/\cY (x1.setCell ⟨b,0,none⟩ v') b (b+1) v' (L++[x])/\Below b w (x1.setCell ⟨b,0,none⟩ v')/\bG 3 w (x1.setCell ⟨b,0,none⟩ v'):=by
 have p:(W.alloc o).grownBy x1 v.ownBlock:=⟨a.os,a.tape,a.output,a.size,a.block⟩;have u:=m.size;have s:=h.lt;have t:=h.later m;have h2:cW 291 (W.alloc o) (b+1) v L:=a0n t.2 _;have j:∀k,v.ownBlock=some k->b<k:=fun k e=>(a0z h2 k e).1;have f:x1.heap[b]?=some (Obj.cells #[v] 311):=by
  rw[p.block b (by simp;omega) (fun e=>by have:=j b e.symm;omega),a1i W o b (by omega)];exact t.1
 have i:Below b w x1:=(((m.mono (a0r s)).alloc (by omega) o)).grown p (by simp;omega) (fun k e=>a0r (j k e));have r:bG 3 w x1:=(y.alloc o).grown h2 (by decide) p;subst z;have d:=sU x l;obtain⟨va,vc,e⟩:=d.formN (n:=L.length+1) (by simp);obtain⟨g,q⟩:=(show cW 291 x1 (b+1) (.slice va (L.length+1) vc) (L++[x]) by rw[←e];exact d).somes (by simp);refine⟨⟨g,vc,by rw[e,q]⟩,f,⟨H9 f v',?_⟩,ai i (a0a _) _,r.set f (by decide) _⟩;exact a3P d (a0i _) _
theorem Dk(b n cap:Nat)(a:Option Addr)(L:List Grp)(x:Grp)(w:World)(Q:d9 w (b+1) L)(G:an w (b+1) x.val x.syms)(E:L.length=n)(R:n<300)(h:cY w b (b+1) (.slice a n cap) L)(S:HP L) :
  Calls prog 207 #[.pointer b,.agg #[x.cnt,x.fst,x.val]] w fun e w'=>e = .returned (.tuple #[])/\∃(M:List Grp) (g cap':Nat),M.Perm (L++[x])/\HP M/\cY w' b (b+1) (.slice g (n+1) cap') M/\Below b w w'/\bG 3 w w':=by
 obtain⟨i0,Z,H,I,J⟩:=a0s Tryz.infoGrp;have ab:(n:Int)<300:=by omega
 have aa:=h.lt;have c0:=h.cell;obtain⟨xa,xq,o⟩:=G.form;have U:=af Q;have s:=af (a0b E R);have K:=af (a0b h S);have V:=af (a0b G o);obtain⟨xc,xf,xs,xv⟩:=x;simp only at o;subst o;generalize ac:xs.length=xn at *
 have f:Hid (n+1<=maxLen/\(n+1)*40<=140737488355328):=by show _/\_;unfold maxLen;omega
 have Y:Hid (World.ownsRow ((w.alloc (.cells #[xc,xf,.slice xa xn xq] 291)).alloc (.cells #[xc,xf,.slice xa xn xq] 291)).drew (b+1) 291 3 (.slice a n cap) n (aR L)):=by
  have h2:=h.2;unfold cW at h2;rw[E]at h2;exact a0n (a0n h2 _) _
 have z:Hid (∀(j:Nat) (u:Value),[Value.int .i64 xc,.int .i64 xf,.slice xa xn xq][j]?=some u->World.cell? ((w.alloc (.cells #[xc,xf,.slice xa xn xq] 291)).alloc (.cells #[xc,xf,.slice xa xn xq] 291)).drew ((⟨w.heap.size+1,0,none⟩:Addr).add j)=some u):=sQ _ _ _ _ _ _ (by simp);have A:Hid (b+1<=((w.alloc (.cells #[xc,xf,.slice xa xn xq] 291)).alloc (.cells #[xc,xf,.slice xa xn xq] 291)).drew.heap.size):=by show b+1<=((w.alloc (.cells #[xc,xf,.slice xa xn xq] 291)).alloc (.cells #[xc,xf,.slice xa xn xq] 291)).drew.heap.size;simp;omega
 clear Q E R h S G;go_enter func207,ntmps207;go_wp2_with fail
 go_region_law (refine aL rfl (.tmp 8) (.tmp 10) 309 rfl (b+1) 291 i0 (.agg #[.int .i64 0,.int .i64 0,.slice none 0 0]) 3 40 underlying309 Z H I J rfl (by decide) _ _ _ rfl (ae Y) ⟨w.heap.size+1,0,none⟩ 1 1 [.int .i64 xc,.int .i64 xf,.slice xa xn xq] rfl rfl (ae z) (sR _ _ _ _ _) (ae f).1 (ae f).2 (ae A) ?_;intro v' w' k c q;clear q;have O:=af (Gg (x:=⟨xc,xf,xs,.slice xa xn xq⟩) (ae s).1 (ae K).1 cC ((bG.refl _ _).alloc _) k c);obtain⟨⟨g',v,F⟩,t,N⟩:=(ae O);subst F;clear k c O;have c1:=Mq t;have f1:=P6 t;have p:=af N;clear N t)
 all_goals
  go_wp2_with fail;obtain⟨i,m,d⟩:=ae p;have l:=(d.syms (ae U)).snoc (g:=⟨xc,xf,xs,.slice xa xn xq⟩) (d.ints (ae V).1);have W:=af (jN b (b+1) (n+1) v (some ⟨g',0,none⟩) _ _ i);have T:=af (Ad b g' (n+1) v n _ _ l (by rw[a0j,(ae s).1];rfl) (by have:=(ae s).2;omega) i (a0i _) (by have P:=Qx (ae K).2 ⟨xc,xf,xs,.slice xa xn xq⟩;rw[(ae s).1]at P;exact P));clear i m d l;refine(ae W).mono ?_;rintro e y1⟨rfl,r⟩;rw[r];clear r y1;go_wp2_with fail;refine(ae T).mono ?_;rintro e x3⟨rfl,M,X,y,C,B,D⟩;go_wp2
  go_end0
  obtain⟨i,m,d⟩:=ae p;exact⟨rfl,M,g',v,X,y,C,m.trans B,d.trans D.1⟩
def Qu(g n cap k:Nat)(d:k<=cap)(c:0<cap)(W:World):(Instr.slice 309 (.slice g n cap) none (some (.int .i64 (k:Int))) none).run prog W = .ok (.slice g k cap) W:=by
 have b:(k:Int)<=(cap:Int):=by omega
 have h2:¬ ((k:Int)<0):=by omega
 have a:(cap == 0)=false:=by simp;omega
 go_simp
def Po{base cap:Nat}{l:List Grp}(b:l.length=n+1)(h:cW 291 w base (.slice g (n+1) cap) l):cW 291 w base (.slice g n cap) (l.take n):=by
 have e:aR l=aR (l.take n)++aR (l.drop n):=by rw[←lp,a1P]
 have a:(l.take n).length=n:=by rw[a0v];omega
 unfold cW at h ⊢;rw[b,e]at h;rw[a];exact ownsRow_pop (by rw[mz,a]) h
def sC{base size o m cap:Nat}{e:TypeId}{xs:List Value}(h:w.ownsRow base e size (.slice g n cap) m xs)(f:k≠g)(u:Value):(w.setCell ⟨k,o,none⟩ u).ownsRow base e size (.slice g n cap) m xs:=by
 refine⟨h.1,?_⟩;rcases h.2 with d|⟨g1,cap,a,e,b,c,rest⟩
 . exact .inl d
 . refine .inr ⟨g1,cap,a,e,b,?_,rest⟩;simp only[a0L,a0k,a0A,a0Q]at e;rw[a0M w ⟨k,o,none⟩ u g1 (by show g1≠k;omega)];exact c
def cY.setOther{base o cap:Nat}{L:List Grp}(h:cY w b base (.slice g n cap) L)(hb:k≠b)(a:k≠g)(u:Value):cY (w.setCell ⟨k,o,none⟩ u) b base (.slice g n cap) L:=
 ⟨(a0M w ⟨k,o,none⟩ u b (fun e=>hb e.symm)).trans h.1,sC h.2 a u⟩
def tN{x y z:Value}(h:w.heap[b]?=some (Obj.cells #[x,y,z] t)):Three w b x y z:=
 ⟨by simp[World.cell?,h],by simp[World.cell?,h],by simp[World.cell?,h],by simp[World.frozen?,h],by simp[World.frozen?,h],by simp[World.frozen?,h],(Array.getElem?_eq_some_iff.1 h).1⟩
def rT(w:World)(o:Obj):(w.alloc o).heap[w.heap.size]?=some o:=Array.getElem?_push_size
def Ew(b g N cap:Nat)(L:List Grp)(w:World)(T:d9 w (b+1) L)(y:L.length=N+1)(hm:N<300)(h:cY w b (b+1) (.slice g (N+1) cap) L)(hp:HP L) :
  Calls prog 206 #[.pointer b] w fun e w'=>e = .returned (.agg #[.int .i64 (L.getD 0 g0).cnt,.int .i64 (L.getD 0 g0).fst,(L.getD 0 g0).val])/\∃M:List Grp,(L.getD 0 g0 :: M).Perm L/\HP M/\cY w' b (b+1) (.slice g N cap) M/\Below b w w'/\bG 3 w w':=by
 have a8:(N:Int)<300:=by omega
 have s:=h.lt;have l:=h.2.cap y;have HS:=af T;have B:=af (a0b y hm);have Q:=af (a0b h hp);have i:Below w.heap.size w (w.alloc (.cells #[.int .i64 0,.int .i64 0,.slice none 0 0] 291)):=cC;have HZ:=af (jN b (b+1) (N+1) cap (some ⟨g,0,none⟩) L _ (h.later i));have HW:=af (nW b (b+1) (b+1) g (N+1) cap 0 N L _ ((bJ.below (g:=g) i).syms T) y (by omega) (h.later i) (a0i _) (by omega) (by omega));have u:=af i;clear T y h hp i;go_enter func206,ntmps206;go_wp2_with fail;apply HZ.mono;rintro e y1⟨rfl,O⟩;rw[O];clear O y1;go_wp2_with fail;apply HW.mono;rintro e x1⟨rfl,c,j,d⟩;have a7:=(a0z Q.1.2 g rfl).2;have a:(dc L 0 N).length=N+1:=by rw[gW];exact B.1
 obtain⟨c0,c1,c2,_,al⟩:=c.2.at a N (a0i _);rw[oH (by rw[B.1];exact a0i _)]at c0 c1 c2;have hA:=ae HS (L.getD 0 g0) (gt L 0 (by rw[B.1];exact Nat.succ_pos _));obtain⟨aa,ac,f⟩:=hA.form;rw[f]at c2;have a4:=c.cell;have a5:=c.frz;have ab:=c.lt;have a6:b≠g:=by have:=(a0z Q.1.2 g rfl).1;omega
 have K:w.heap.size<x1.heap.size:=by have:=d.2.1;simp at this;omega
 have a3:=Qu g (N+1) cap N (by omega) (by omega);have ad:(cap:Int)<=9223372036854775807:=by have:=l.2;unfold maxLen at this;omega
 have P:(N:Int)+1<=(cap:Int):=by have:=l.1;omega
 have m:x1.heap[w.heap.size]?=some (Obj.cells #[.int .i64 0,.int .i64 0,.slice none 0 0] 291):=by
  rw[d.2.2 w.heap.size (by simp) (by omega)];exact rT _ _
 have HX:=af (a0b c (a0b j (a0b d (a0b a (a0b f m)))));clear c j d a l al hA m hm HZ HW;generalize D:(L.getD 0 g0).cnt=Ac,E:(L.getD 0 g0).fst=Af,F:(L.getD 0 g0).syms.length=An at *;have R:=af (a0b D (a0b E F));clear D E F f;go_wp2_with fail;have S:Hid (cY ((x1.setCell ⟨b,0,none⟩ (.slice g N cap)).alloc (.cells #[Ac,Af,.slice aa An ac] 291)) b (b+1) (.slice g N cap) ((dc L 0 N).take N) /\
   Below b w ((x1.setCell ⟨b,0,none⟩ (.slice g N cap)).alloc (.cells #[Ac,Af,.slice aa An ac] 291)) /\
   bG 3 w ((x1.setCell ⟨b,0,none⟩ (.slice g N cap)).alloc (.cells #[Ac,Af,.slice aa An ac] 291)) /\
   ((x1.setCell ⟨b,0,none⟩ (.slice g N cap)).alloc (.cells #[Ac,Af,.slice aa An ac] 291)).heap[w.heap.size]?=some (Obj.cells #[.int .i64 0,.int .i64 0,.slice none 0 0] 291) /\
   ((x1.setCell ⟨b,0,none⟩ (.slice g N cap)).alloc (.cells #[Ac,Af,.slice aa An ac] 291)).heap[x1.heap.size]?=some (Obj.cells #[Ac,Af,.slice aa An ac] 291)):=by
  obtain⟨c,j,d,a,f,m⟩:=ae HX;have t:(x1.setCell ⟨b,0,none⟩ (.slice g N cap)).heap.size=x1.heap.size:=by simp
  refine⟨⟨?_,?_⟩,?_,?_,?_,?_⟩
  . rw[a1i _ _ b (by rw[t];exact ab)];exact H9 c.1 _
  . exact a0n (a3P (Po a c.2) (a0i _) _) _
  . exact(ai ((u.mono (a0r s)).trans j) (a0a _) _).alloc (by rw[t];omega) _
  . exact(((bG.below u).trans d.1).set c.1 (by decide) _).alloc _
  . rw[a1i _ _ w.heap.size (by rw[t];exact K),a0M _ _ _ _ (by show w.heap.size≠b;omega)];exact m
  . rw[←t];exact rT _ _
 generalize (x1.setCell ⟨b,0,none⟩ (.slice g N cap)).alloc (.cells #[Ac,Af,.slice aa An ac] 291)=Y at *;have HK:Hid (Calls prog 238 #[.iface 288 (.pointer b),.int .i64 ((0:Nat):Int)] Y fun e w'=>e = .returned (.tuple #[])/\∃M:List Grp,M.Perm ((dc L 0 N).take N)/\HP M/\cY w' b (b+1) (.slice g N cap) M/\Below b Y w'/\bJ g Y w'):=by
  obtain⟨z,A,n,p,q⟩:=ae S;obtain⟨y,hm⟩:=ae B;have a2:d9 Y (b+1) ((dc L 0 N).take N):=fun x hx=>n.syms HS x ((iU (by omega) (by omega)).mem_iff.1 (a2j hx));exact Ae b g N cap 0 _ Y a2 (by rw[a0v,gW];omega) (by omega) z (a0g _) (by have C:=Su Q.2;rw[y]at C;exact C)
 apply HK.mono;rintro e x5⟨rfl,M,hM,G,J,H,r⟩;have HF:Hid (cY x5 b (b+1) (.slice g N cap) M/\Below b w x5/\bG 3 w x5/\x5.heap[w.heap.size]?=some (Obj.cells #[.int .i64 0,.int .i64 0,.slice none 0 0] 291)/\M.Perm ((dc L 0 N).take N)/\HP M):=by
  obtain⟨z,A,n,p,q⟩:=ae S;exact⟨J,A.trans H,n.trans r.1,(r.2.2 _ (dB p) (by omega)).trans p,hM,G⟩
 have U:Three x5 w.heap.size _ _ _:=tN HF.2.2.2.1;have V:Three x5 x1.heap.size (.int .i64 Ac) (.int .i64 Af) (.slice aa An ac):=by
  obtain⟨z,A,n,p,q⟩:=ae S;exact tN ((r.2.2 _ (dB q) (by omega)).trans q)
 clear hM G J H r HK;obtain⟨p0,p1,p2,q0,q1,q2,a1⟩:=U;obtain⟨r0,r1,r2,s0,s1,s2,a9⟩:=V;go_wp2_with fail;obtain⟨c,j,d,a,f,m⟩:=ae HX;obtain⟨fh,fb,fk,fr,fM,fP⟩:=ae HF;obtain⟨eA,eF,eS⟩:=ae R;have X:=(((Three.set0 ⟨p0,p1,p2,q0,q1,q2,a1⟩ (.int .i64 Ac)).set1 (.int .i64 Af)).set2 (.slice aa An ac));have W:=((((Touch.refl (some ⟨w.heap.size,0,none⟩) x5).set (o:=0) rfl (.int .i64 Ac)).set (o:=1) rfl (.int .i64 Af)).set (o:=2) rfl (.slice aa An ac));have I:=ai (ai (ai fb (b:=w.heap.size) (o:=0) (a0r s) (.int .i64 Ac)) (b:=w.heap.size) (o:=1) (a0r s) (.int .i64 Af)) (b:=w.heap.size) (o:=2) (a0r s) (.slice aa An ac);have a0:=fk.trans (bG.touch fr (by decide) W);have ao:=((fh.setOther (k:=w.heap.size) (o:=0) (by omega) (by omega) (.int .i64 Ac)).setOther (k:=w.heap.size) (o:=1) (by omega) (by omega) (.int .i64 Af)).setOther (k:=w.heap.size) (o:=2) (by omega) (by omega) (.slice aa An ac);generalize ((x5.setCell ⟨w.heap.size,0,none⟩ (.int .i64 Ac)).setCell ⟨w.heap.size,1,none⟩ (.int .i64 Af)).setCell ⟨w.heap.size,2,none⟩ (.slice aa An ac)=Z at *;obtain⟨t0,t1,t2,_,_,_,_⟩:=X;refine a0x (v:=.agg #[Ac,Af,.slice aa An ac]) (by simp[results,results206,go_sem,t0,t1,t2]) rfl ⟨?_,M,?_,fP,ao,I,a0⟩
 . rw[eA,eF,f]
 . have y:=B.1;have C:=Mx (L:=L) (by omega);rw[y]at C;exact(fM.cons _).trans C
def pN(l:List Int)(k:Nat):(aB l k).length<=k:=by
 induction k with
 | zero=>simp[aB]
 | succ k ih=>
  simp only[aB]
  split
  . simp;omega
  . omega
theorem xQ(a:Option Addr)(cap n:Nat)(l:List Int)(w:World)(K:l.length=n)(h:br w a l)(J:n<=300) :
  Calls prog 204 #[.slice a n cap] w fun e w'=>e = .returned (.pointer w.heap.size)/\∃(L:List Grp) (va:Option Addr) (vc:Nat),cY w' w.heap.size (w.heap.size+1) (.slice va L.length vc) L/\HP L/\(L.map bare).Perm (aB l n)/\d9 w' (w.heap.size+1) L/\Below w.heap.size w w':=by
 have S:(n:Int)<=300:=by omega
 have A:=af (a0b K J);have s:Below w.heap.size w (w.alloc (.cells #[.slice none 0 0] 311)):=cC;have t:cY (w.alloc (.cells #[.slice none 0 0] 311)) w.heap.size (w.heap.size+1) (.slice none 0 0) []:=⟨rT _ _,a1c _ _ _ _⟩;clear K J;go_enter func204,ntmps204;go_wp2_with fail
 go_loopw [4,5,10] (fun _ _ i wr=>∃(k:Nat) (L:List Grp) (va:Option Addr) (vc:Nat),k<=n/\i = .int .i64 k/\cY wr w.heap.size (w.heap.size+1) (.slice va L.length vc) L/\HP L/\(L.map bare).Perm (aB l k)/\d9 wr (w.heap.size+1) L/\Below w.heap.size w wr) (fun _ _ i _=>n-(intOf i).toNat)
 case atStart=>exact⟨0,[],none,0,a0g _,rfl,t,fun i _ R=>by simp at R,a2w _,Ev _ _,s⟩
 case round=>
  obtain⟨k,L,va,vc,v,rfl,d,p,j,m,b⟩:=hrel;clear s t;by_cases H:k<n
  .
   obtain⟨g,o,rfl,T,u⟩:=(h.later b) (by rw[(ae A).1];omega);have c0:=u k (by rw[(ae A).1];exact H);have c:L.length<300:=by
    have Q:=j.length_eq;rw[a0O]at Q;have h2:=pN l k;have:=(ae A).2;omega
   have I:=af (a0b v (a0b d (a0b p (a0b j (a0b m b)))));clear u;by_cases N:0<l.getD k 0
   .
    have q:=af (wO N);generalize l.getD k 0=y at *
    have f:Below wr.heap.size wr (wr.alloc (.cells #[.int .i64 (k:Int)] 3)):=cC;have B:an (wr.alloc (.cells #[.int .i64 (k:Int)] 3)) (w.heap.size+1) (.slice wr.heap.size 1 1) [(k:Int)]:=an.one wr _ d.lt _;have z:=af (Dk w.heap.size L.length vc va L ⟨y,(k:Int),[(k:Int)],.slice wr.heap.size 1 1⟩ _ ((bG.below f).syms m) B rfl c (d.later f) p);have r:=af f;have O:=af B;clear v d p j m b B f c;go_wp2_with fail;refine(ae z).mono ?_;rintro e x1⟨rfl,M,g',P,D,C,F,E,x⟩;go_wp2;go_roundw
    case rel=>
     obtain⟨v,d,p,j,m,b⟩:=ae I;have G:M.length=L.length+1:=by rw[D.length_eq];simp
     refine⟨k+1,M,some ⟨g',0,none⟩,P,by omega,by go_num,by rw[G];exact F,C,?_,?_,(b.trans ((ae r).mono (a0r d.lt))).trans E⟩
     . rw[ae q];refine(D.map bare).trans ?_;rw[a0J];exact j.append_right _
     . exact((x.syms ((bG.below (ae r)).syms m)).snoc (x.ints (ae O))).perm D
    case measure=>simp[intOf];omega
   .
    have q:=af (IJ N);generalize l.getD k 0=y at *
    clear v d p j m b c;go_wp2;go_roundw
    case rel=>
     obtain⟨v,d,p,j,m,b⟩:=ae I;exact⟨k+1,L,va,vc,by omega,by go_num,d,p,by rw[ae q];exact j,m,b⟩
    case measure=>simp[intOf];omega
  .
   obtain rfl:k=n:=by omega
   clear h;go_wp2;go_ret;exact⟨rfl,L,va,vc,d,p,j,m,b⟩
def Ni{L M1 M2:List Grp}(E:∀i,i<l.length->0<=l.getD i 0/\l.getD i 0<=100000)(M:l.length<=300)(t:j<(aB l l.length).length∨j=0)(A:(L.map bare).Perm (ay l j).1)(F:HP L)(h2:1<L.length)(y:(L.getD 0 g0 :: M1).Perm L)(u:HP M1)(q:(M1.getD 0 g0 :: M2).Perm M1) :
  bi (ay l j).1=(L.getD 0 g0).syms++(M1.getD 0 g0).syms /\
  (∀(M3:List Grp) (v:Value),M3.Perm (M2++[⟨(L.getD 0 g0).cnt+(M1.getD 0 g0).cnt,if (M1.getD 0 g0).fst<(L.getD 0 g0).fst then(M1.getD 0 g0).fst else(L.getD 0 g0).fst,(L.getD 0 g0).syms++(M1.getD 0 g0).syms,v⟩])->(M3.map bare).Perm (ay l (j+1)).1) /\
  0<=(L.getD 0 g0).cnt/\0<=(M1.getD 0 g0).cnt/\(L.getD 0 g0).cnt+(M1.getD 0 g0).cnt<=30000000 /\
  ((L.getD 0 g0).syms++(M1.getD 0 g0).syms).length<=300/\0<(L.getD 0 g0).syms.length/\0<(M1.getD 0 g0).syms.length/\(∀x∈(L.getD 0 g0).syms++(M1.getD 0 g0).syms,0<=x/\x<(l.length:Int)):=by
 have B:M1.length+1=L.length:=by have:=y.length_eq;simpa using this
 obtain⟨d,J,K,C⟩:=cn l j t;have D:(ay l j).1.length=L.length:=by rw[←A.length_eq,a0O]
 have m:=(iJ l j t).1;have h:=Nm l j t;have o:∀g∈L,aZ g (L.getD 0 g0)=false:=by
  intro g k;obtain⟨i,b,rfl⟩:=a1I k;have:=Nk F i b;have e:L.getD i g0=L[i]:=by simp[List.getD,b]
  rw[e]at this;exact this
 have c:∀g∈M1,aZ g (M1.getD 0 g0)=false:=by
  intro g k;obtain⟨i,b,rfl⟩:=a1I k;have:=Nk u i b;have e:M1.getD i g0=M1[i]:=by simp[List.getD,b]
  rw[e]at this;exact this
 obtain⟨e1,I⟩:=ze A y.symm o (by omega) m h;have s:tf (ar (ay l j).1):=fun g k=>h g (bh _ g k);obtain⟨e2,p2⟩:=ze I q.symm c (by omega) (JH (by omega) m) s;have a:=AW d (by omega:1<(ay l j).1.length);have p:=d _ (bD (ay l j).1 (by omega));have G:=dy (ay l j).1 (by omega);have hb:=d _ (bh _ _ (bD (ar (ay l j).1) (by omega)));have H:=lM l 100000 (by omega) (fun i b=>(E i b).2) l.length (a0a _);have n:bi (ay l j).1=(L.getD 0 g0).syms++(M1.getD 0 g0).syms:=by
  unfold bi;rw[←e1,←e2];rfl
 rw[←e1]at p a;rw[←e2]at hb a;refine⟨n,?_,p.1,hb.1,?_,?_,p.2.2.2.2,hb.2.2.2.2,?_⟩
 . intro M3 v r;have z:=r.map bare;rw[a0J]at z;refine z.trans ?_;show List.Perm _ (stepG (ay l j).1);unfold stepG;rw[←e1,←e2];exact p2.append_right _
 . have w:=a.1;have:(bare (L.getD 0 g0)).cnt=(L.getD 0 g0).cnt:=rfl;have:(bare (M1.getD 0 g0)).cnt=(M1.getD 0 g0).cnt:=rfl;omega
 . have w:=a.2;rw[n]at w;omega
 .
  intro x f;simp only[a02]at f;rcases f with f|f
  . exact p.2.2.2.1 x f
  . exact hb.2.2.2.1 x f
def jG(l:List Int):Int:=if decide (l.length<=300)&&inC l then(us l:Nat)else -1
def Lt(h:300<l.length):jG l = -1:=by
 unfold jG;rw[a0m (by omega)];rfl
def Lu(h:inC l=false):jG l = -1:=by
 unfold jG;rw[h];simp
def oJ(h:l.length<=300)(h2:inC l=true):jG l=(us l:Nat):=by
 unfold jG;rw[a0B h,h2];rfl
def m8(a:Option Addr)(cap n:Nat)(l:List Int)(w:World)(E:l.length=n)(h:br w a l)(C:n<=1048576) :
  Calls prog 168 #[.slice a n cap] w fun e w'=>e = .returned (.int .i64 (jG l))/\w'=w:=by
 subst E;have D:(l.length:Int)<=1048576:=by omega
 clear C;by_cases H:(l.length:Int)<=300
 .
  go_enter func168,ntmps168;go_wp2_with fail
  go_loop [3,5,11] (fun n _ i=>∃k:Nat,k<=l.length/\i = .int .i64 k/\n = .int .i64 (us (l.take k):Nat)/\inC (l.take k)=true) (fun _ _ i=>l.length-(intOf i).toNat)
  case atStart=>exact⟨0,a0g _,rfl,rfl,rfl⟩
  case round=>
   obtain⟨k,B,rfl,rfl,j⟩:=hrel;have x:=af j;clear j;by_cases d:k<l.length
   .
    obtain⟨g,o,rfl,I,z⟩:=h (by omega);have c0:=z k d;have p:=af (rp l k d);have hit:=af (Nn l k d);have s:=af (fun hb=>QE (l:=l) (k:=k) d hb);have t:=tU (l.take k);have A:(us (l.take k):Int)<=300:=by
     have:(l.take k).length<=l.length:=by simp;omega
     omega
    clear z B h t;generalize l.getD k 0=y,us (l.take k)=u at *;by_cases hb:0<=y/\y<=100000
    .
     obtain⟨q,r⟩:=hb;have b:Hid (inC (l.take (k+1))=true):=by
      show _=true;rw[ae hit,ae x,aI.2 ⟨q,r⟩];rfl
     by_cases v:0<y
     .
      have c:Hid (us (l.take (k+1))=u+1):=by have:=ae p;rw[a0d v]at this;exact this
      go_wp2
      go_round
      case rel=>exact⟨k+1,by omega,by go_num,by rw[ae c];go_num,b⟩
      case measure=>simp[intOf];omega
     .
      have c:Hid (us (l.take (k+1))=u):=by have:=ae p;rw[a0e v]at this;exact this
      go_wp2
      go_round
      case rel=>exact⟨k+1,by omega,by go_num,by rw[ae c],b⟩
      case measure=>simp[intOf];omega
    .
     have f:Hid (jG l = -1):=Lu (s (by
      cases F:inB y 0 100000
      . rfl
      . exact absurd (aI.1 F) hb))
     by_cases v:y<0
     . go_wp2;go_ret;exact⟨aK f.symm,rfl⟩
     .
      have G:¬ y<=100000:=(by omega);go_wp2;go_ret;exact⟨aK f.symm,rfl⟩
   .
    have m:Hid (l.take k=l):=a0u (by omega);have b:Hid (inC l=true):=by show inC l=true;rw[←ae m];exact x
    clear h;go_wp2;go_ret;exact⟨aK (by rw[oJ (by omega) b,ae m]),rfl⟩
 . have f:=af (Lt (l:=l) (by omega));go_enter func168,ntmps168;clear h;go_wp2;go_ret;exact⟨aK f.symm,rfl⟩
def iO(x:Int):Int:=if x<=1 then x else 1
def Dr(x:Int)(w:World)(a : -1000000<=x)(b:x<=1000000) :
  Calls prog 170 #[x] w fun e w'=>e = .returned (.int .i64 (iO x))/\w'=w:=by
 by_cases h:x<=1
 .
  have e:Hid (iO x=x):=by show iO x=x;simp[iO,h]
  go_enter func170,ntmps170;go_wp2;go_ret;exact⟨aK e.symm,rfl⟩
 .
  have e:Hid (iO x=1):=by show iO x=1;simp[iO,h]
  go_enter func170,ntmps170;go_wp2;go_ret;exact⟨aK e.symm,rfl⟩
def BU(a:Option Addr)(cap n:Nat)(l:List Int)(w:World)(H:l.length=n)(h:br w a l)(G:n<=1048576)(E:okC l) :
  Calls prog 169 #[.slice a n cap,.func (.func 170) #[] #[]] w fun e w'=>∃v,e = .returned v/\an w' w.heap.size v (l.map iO)/\Below w.heap.size w w':=by
 have M:(n:Int)<=1048576:=by omega
 have p:=af H;have K:=af G;have I:=af E;clear H G E;obtain⟨i0,L,B,C,D⟩:=a0s Tryz.infoInt;go_enter func169,ntmps169;go_wp2_with fail
 go_loopw [5,7,10] (fun o _ i wr=>∃k:Nat,k<=n/\i = .int .i64 k/\an wr w.heap.size o ((l.take k).map iO)/\Below w.heap.size w wr) (fun _ _ i _=>n-(intOf i).toNat)
 case atStart=>exact⟨0,a0g _,rfl,a1c _ _ _ _,a0c _ _⟩
 case round=>
  obtain⟨k,F,rfl,hq,b⟩:=hrel;have q:=b.size;by_cases m:k<n
  .
   obtain⟨g,o,rfl,N,r⟩:=(h.later b) (by rw[ae p];omega);have c0:=r k (by rw[ae p];exact m);obtain⟨y0,y1⟩:=ae I k (by rw[ae p];exact m);have A:Hid ((l.take (k+1)).map iO=(l.take k).map iO++[iO (l.getD k 0)]):=by
    show _=_;rw[cz l k (by rw[ae p];exact m),a0J];rfl
   have z:Hid (((l.take k).map iO).length=k):=by show _=k;have:=ae p;simp;omega
   have J:=af F;clear r F h;generalize l.getD k 0=y at *;have HP:=af (Dr y wr (by omega) (by omega));generalize iO y=R at *;go_wp2_with fail;apply HP.mono;rintro e x1⟨rfl,u⟩;rw[u];clear u x1;have d:Hid (((l.take k).map iO).length+1<=maxLen/\(((l.take k).map iO).length+1)*8<=140737488355328):=by
    show _/\_;rw[ae z];have:=ae K;unfold maxLen;omega
   clear HP;go_wp2_with (at_builtin;refine a0w _ rfl _ _ 122 rfl w.heap.size 3 i0 (.int .i64 0) 1 8 a0F L B C D rfl (by decide) _ _ _ rfl (a0n hq _) ⟨wr.heap.size,0,none⟩ 1 1 [.int .i64 R] rfl rfl (cw _ _ rfl _ _) (fj _) d.1 d.2 (au q _) ?_;intro v' x2 j c s;clear s);have x:=aJ (v:=u5) c hq (a0a _) q b;have t:=ox j;rw[←ae A]at t;clear j c hq;go_wp2;go_roundw
   case rel=>exact⟨k+1,by have:=ae J;omega,by go_num,t,x⟩
   case measure=>simp[intOf];omega
  . have f:l.take k=l:=a0u (by rw[ae p];omega);rw[f]at hq;obtain⟨va,vc,rfl⟩:=hq.form;clear f h;go_wp2;go_ret;exact⟨_,rfl,hq,b⟩
