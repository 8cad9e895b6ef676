/- Texts. -/
import Derived.Test.YtfannoajibacnaaGreatDoorM16
set_option linter.all false
set_option maxRecDepth 100000
set_option maxHeartbeats 6400000
namespace Go.Proofs.YtfannoajibacnaaGreatDoor
open Go.Proofs.Tryz
open Go.RowKit
variable {b c g i j k n ob:Nat}{l:List Int}{t:TypeId}{v:Value}{w w':World}
def sliceLen:Value->Nat
 | .slice _ n _=>n
 | _=>0
def xQ(h:0<l.getD k 0):aC l (k+1)=aC l k++[⟨l.getD k 0,(k:Int),[(k:Int)],.slice none 0 0⟩]:=by simp only[aC];rw[a0d h]
def Jz(h:¬ 0<l.getD k 0):aC l (k+1)=aC l k:=by simp only[aC];rw[a0e h]
def tJ(w:World)(x y z:Value)(t:TypeId)(g:Nat)(b:w.heap.size=g):∀(j:Nat) (u:Value),[x,y,z][j]?=some u->(w.alloc (.cells #[x,y,z] t)).cell? ((⟨g,0,none⟩:Addr).add j)=some u:=by
 subst b;intro j u a
 match j,a with
 | 0,a=>simp at a;subst a;simp[Addr.add]
 | 1,a=>simp at a;subst a;simp[Addr.add]
 | 2,a=>simp at a;subst a;simp[Addr.add]
def tK(x y:Int)(a:Option Addr)(n c:Nat):∀u∈[Value.int .i64 x,Value.int .i64 y,Value.slice a n c],u.oneCell'=true:=by
 intro u b;simp at b;rcases b with rfl|rfl|rfl<;>rfl
def tN{x:World}{base:Nat}{l:List Grp}(g:Grp)(h:x.ownsRow base t 3 v (l.length+1) (aS l++[.int .i64 g.cnt,.int .i64 g.fst,g.val])):dr t x base v (l++[g]):=by
 show World.ownsRow _ _ _ _ _ (l++[g]).length _;rw[lS];simpa[aS]using h
def an.one(w:World)(base:Nat)(hb:base<=w.heap.size)(x:Int):an (w.alloc (.cells #[x] 3)) base (.slice w.heap.size 1 1) [x]:=
 a0S w #[x] 1 hb (by unfold maxLen;omega) rfl
def Fv(w:World)(ob:Nat):eH w ob []:=fun g a=>by simp at a
def eH.snoc{l:List Grp}{g:Grp}(h:eH w ob l)(b:an w ob g.val g.syms):eH w ob (l++[g]):=by
 intro x a;simp only[a03,a09]at a;rcases a with a|rfl
 . exact h x a
 . exact b
def eH.grown{base:Nat}{l m:List Grp}(h:eH w ob l)(c:dr t w base v m)(d:3≠t)(b:w.grownBy w' v.ownBlock):eH w' ob l:=
 fun g a=>a1V (h g a) b (qD (h g a) c d)
def mR{base:Nat}{u:Value}{m:List Grp}(h:an w ob u l)(b:dr t w base v m)(c:3≠t)(a:w.grownBy w' v.ownBlock):an w' ob u l:=
 a1V h a (qD h b c)
def rX(w:World)(x y z:Value)(t:TypeId):Three (w.alloc (.cells #[x,y,z] t)) w.heap.size x y z:=⟨by simp,by simp,by simp,by simp,by simp,by simp,by simp⟩
def Three.later{v0 v1 v2:Value}(h:Three w b v0 v1 v2)(hb:Below w.heap.size w w'):Three w' b v0 v1 v2:=h.kept (hb.mono h.2.2.2.2.2.2)
def dr.mono{base base':Nat}{l:List Grp}(h:dr t w base v l)(hb:base'<=base):dr t w base' v l:=
 ⟨h.1,h.2.imp id fun⟨g,c,u,e,a,r⟩=>⟨g,c,u,e,a0E hb a,r⟩⟩
def eH.sub{l m:List Grp}(h:eH w ob l)(b:∀g∈m,g∈l):eH w ob m:=fun g a=>h g (b g a)
def pL{a:Option Addr}{base size:Nat}{e:TypeId}{xs:List Value}(h:w.ownsRow base e size v n xs)(j:Touch a w w')(f:∀g,a=some ⟨g,0,none⟩->g<base):w'.ownsRow base e size v n xs:=by
 refine⟨h.1,?_⟩;rcases h.2 with i|⟨g,cap,b,rfl,c,d,rest⟩
 . exact .inl i
 . refine .inr ⟨g,cap,b,rfl,c,?_,rest⟩;rw[j.2 g (fun g' e=>by have:=f g' e;omega)];exact d
def jq{p:Addr}(a:Touch (some ⟨b,0,none⟩) w w')(c:p.block≠b):w'.cell? p=w.cell? p:=
 World.cell?_of_block (a.2 p.block (fun g e=>by simp only[a0l,a0A,a0Q]at e;omega))
def kU(b B:Nat)(h:b<B):∀g,(some ⟨b,0,none⟩:Option Addr)=some ⟨g,0,none⟩->g<B:=by
 intro g e;simp only[a0l,a0A,a0Q]at e;omega
def wF(a:Option Addr)(cap n:Nat)(l:List Int)(w:World)(hn:l.length=n)(h:bE w a l)(hm:n<=300)(hc:∀i,i<l.length->0<=l.getD i 0/\l.getD i 0<=100000) :
  Calls prog 240 #[.slice a n cap] w fun e w'=>e = .returned (.slice w.heap.size n n)/\an w' w.heap.size (.slice w.heap.size n n) (cj l)/\Below w.heap.size w w':=by
 have os:(n:Int)<=300:=by omega
 obtain⟨i0,hi,hf,hh,hl⟩:=a0p Tryz.infoInt;obtain⟨j0,hj,ha,lb,lf⟩:=a0p Tryz.infoTree;have HN:=af hn;have HC:=af hc;have HM:=af hm;clear hc;go_enter func240,ntmps240;go_wp2_with (at_make;refine a1J _ rfl _ _ 129 rfl w.heap.size 3 i0 (.int .i64 0) 1 a0F hi hf hh .i64 .i64 _ _ n rfl rfl rfl rfl (by rw[hl];omega) (by unfold maxLen;omega) (a0a _) ?_;intro w1 al m);have ks:an (w1.alloc (.cells #[] 328)) w.heap.size (.slice w.heap.size n n) (List.replicate l.length 0):=by
  rw[hn];exact(dJ al).later ((a0c w1.heap.size w1).alloc (a0a _) _) (a0a _)
 have ke:w.heap.size+1<=w1.heap.size:=(dJ al).below.2;have jn:Below w.heap.size w (w1.alloc (.cells #[] 328)):=((a0c _ _).grown m (a0a _) (fun k h=>by cases h)).alloc (by omega) _;have k4:dr 328 (w1.alloc (.cells #[] 328)) (w.heap.size+1) (.slice w1.heap.size 0 0) []:=a0S w1 #[] 0 ke (by unfold maxLen;omega) rfl;clear al m hn hm
 go_loopw [4,5] (fun v i wr=>∃(k:Nat) (L:List Grp),k<=n/\i = .int .i64 k/\L.map bare=aC l k/\dr 328 wr (w.heap.size+1) v L/\eH wr (w.heap.size+1) L/\an wr w.heap.size (.slice w.heap.size n n) (List.replicate l.length 0)/\Below w.heap.size w wr) (fun _ i _=>n-(intOf i).toNat)
 case atStart=>exact⟨0,[],a0g _,rfl,rfl,k4,Fv _ _,ks,jn⟩
 case round=>
  obtain⟨k,L,hk,rfl,hL,ht,hs,hp,J⟩:=hrel;clear ks jn k4;have HL:=af hL;have mm:w.heap.size+1<=wr.heap.size:=hp.below.2;clear hL;by_cases m4:k<n
  .
   obtain⟨g,o,rfl,hg,j2⟩:=(h.later J) (by rw[ae HN];omega);have c0:=j2 k (by rw[ae HN];exact m4);have HK:=af hk;have m2:L.length<=300:=by
    have h1:(L.map bare).length=(aC l k).length:=(by rw[ae HL]);have h2:=(ms l 100000 (by omega) (fun i hi=>(HC i hi).2) k (by rw[ae HN];omega)).2.2;rw[a0O]at h1;have:=ae HM;omega
   clear j2 hk;by_cases hy:0<l.getD k 0
   .
    have eg:=af (xQ hy);generalize l.getD k 0=y at *;have hA:an (wr.alloc (.cells #[.int .i64 (k:Int)] 3)) (w.heap.size+1) (.slice wr.heap.size 1 1) [(k:Int)]:=an.one wr _ mm _;have Z:Below wr.heap.size wr (wr.alloc (.cells #[.int .i64 (k:Int)] 3)):=cC;have K:(wr.alloc (.cells #[.int .i64 (k:Int)] 3)).heap.size=wr.heap.size+1:=(by simp);have I:=ht.later Z (a0a _);have H:=hs.later Z (a0a _);have G:=hp.later Z (a0a _);have T:=aj J ((a0c wr.heap.size wr).alloc (a0a _) (.cells #[.int .i64 (k:Int)] 3));have HX:=af (a0b hA (a0b I (a0b H (a0b G (a0b T K)))));have V:Hid (L.length+1<=maxLen/\(L.length+1)*40<=140737488355328):=by show _/\_;unfold maxLen;omega
    clear hA Z I H G T ht hs hp J K;go_wp2_with (at_builtin;refine a0w _ rfl _ _ 326 rfl (w.heap.size+1) 328 j0 (.agg #[.int .i64 0,.int .i64 0,.slice none 0 0]) 3 40 a3W hj ha lb lf rfl (by decide) _ _ _ rfl (a0o HX.2.1 _) ⟨wr.heap.size+1,0,none⟩ 1 1 [.int .i64 y,.int .i64 (k:Int),.slice wr.heap.size 1 1] rfl rfl (tJ _ _ _ _ _ _ HX.2.2.2.2.2) (tK _ _ _ _ _) V.1 V.2 (ar (by rw[HX.2.2.2.2.2];omega) _) ?_;intro v' x3 al m kl;clear kl);obtain⟨hA,I,H,G,T,K⟩:=ae HX;have en:∀{B:Nat} {o:Obj},B=wr.heap.size+1->Below B (wr.alloc (.cells #[.int .i64 (k:Int)] 3)) ((wr.alloc (.cells #[.int .i64 (k:Int)] 3)).alloc o):=fun{B} {o} e=>(a0c _ _).alloc (by rw[K];omega) _;have Y:dr 328 ((wr.alloc (.cells #[.int .i64 (k:Int)] 3)).alloc (.cells #[y,.int .i64 (k:Int),.slice wr.heap.size 1 1] 328)) (w.heap.size+1) u4 L:=a0o I _;have ab:=(H.later (en rfl) (by rw[K];exact a0a _)).grown Y (by decide) m;have a7:=mR (hA.later (en rfl) (by rw[K];exact a0a _)) Y (by decide) m;have a3:=mR (G.later (en rfl) (by rw[K];exact a0a _)) Y (by decide) m;have ao:Below w.heap.size w x3:=aH (v:=u4) m I (by omega) (by rw[K];omega) T;have be:=tN ⟨y,(k:Int),[(k:Int)],.slice wr.heap.size 1 1⟩ al;have b9:=ab.snoc (g:=⟨y,(k:Int),[(k:Int)],.slice wr.heap.size 1 1⟩) a7;clear al m HX hA I H G T en Y ab a7;go_wp2;go_roundw
    case rel=>exact⟨k+1,L++[⟨y,(k:Int),[(k:Int)],.slice wr.heap.size 1 1⟩],by omega,by go_num,by rw[ae eg,a0K,ae HL];rfl,be,b9,a3,ao⟩
    case measure=>simp[intOf];omega
   .
    have eg:=af (Jz hy);generalize l.getD k 0=y at *;go_wp2;go_roundw
    case rel=>exact⟨k+1,L,by omega,by go_num,by rw[ae eg];exact HL,ht,hs,hp,J⟩
    case measure=>simp[intOf];omega
  .
   obtain rfl:k=n:=by omega
   have a4:Hid (L.map bare=aC l l.length):=by show L.map bare=aC l l.length;rw[ae HN];exact HL
   have hU:Hid (L.length=(aC l l.length).length):=by show L.length=(aC l l.length).length;rw[←ae a4,a0O]
   have i9:L.length<=300:=by
    have h2:=(ms l 100000 (by omega) (fun i hi=>(HC i hi).2) l.length (a0a _)).2.2;have:=ae hU;have:=ae HM;have:=ae HN;omega
   have k9:=af (JB l l.length (a0a _));obtain⟨va,vc,rfl⟩:=ht.form;clear h;by_cases d4:L.length=1
   .
    obtain⟨g,rfl⟩:=ht.somes (by omega);obtain⟨_,c1,_,_,_⟩:=ht.at rfl 0 (by omega);have m5:=ae k9 ((aC l l.length).getD 0 g0) (gT _ 0 (by have:=ae hU;omega));have ey:(L.getD 0 g0).fst=((aC l l.length).getD 0 g0).fst:=by rw[←ae a4,oV];rfl
    obtain⟨_,f0,f1,_,_⟩:=m5;rw[←ey,ae HN]at f1;rw[←ey]at f0;have d8:Hid (cj l=(List.replicate l.length 0).set (L.getD 0 g0).fst.toNat 1):=by
     show cj l=_;unfold cj;rw[a0d (by rw[←ae hU];exact d4),ey]
    generalize (L.getD 0 g0).fst=f at *;obtain⟨q,rfl⟩:=a0r f0;rw[a0n]at d8;have b6:(List.replicate l.length (0:Int)).length=k:=by simp[ae HN]
    obtain⟨d0,e0,_,_⟩:=hp.at (j:=q) b6 (by omega);have C:=hp.put (j:=q) b6 1;have d1:=ai J (b:=w.heap.size) (o:=q) (a0a _) (.int .i64 1);rw[←ae d8]at C;have HP:=af C;have HB:=af d1;have oi:wr.cell? ⟨g,1,none⟩=some (.int .i64 (q:Int)):=by simpa using c1
    clear C d1 b6 d8 J hp hs ht c1 ey;rw[d4];generalize (List.replicate l.length (0:Int)).getD q 0=y at *;go_wp2_with fail
    go_loopw [4,6,7,8,9,10,11] (fun v _ _ _ _ _ _ wq=>v = .slice g 1 vc/\wq=wr.setCell ⟨w.heap.size,q,none⟩ (.int .i64 1)) (fun _ _ _ _ _ _ _ _=>0)
    case atStart=>exact⟨rfl,rfl⟩
    case round=>
     obtain⟨rfl,hw⟩:=hrel;subst hw;go_wp2;go_ret;exact⟨rfl,HP,HB⟩
   .
    have m7:((L.length:Int) == 1)=false:=by rw[a0X];omega
    have j3:Hid (∀k,(aC l l.length).length-k<=1->(k<(aC l l.length).length∨k=0)->cj l=(az l k).2):=by
     intro k h1 h2;unfold cj;have:=ae hU;rw[a0e (by omega)]
     congr 2;omega
    have ix:=af i9;clear i9;have kq:an wr w.heap.size (.slice w.heap.size k k) (az l 0).2:=hp;have i8:L.map bare=(az l 0).1:=ae a4;generalize ji:(aC l l.length).length=U at *;have em:=af ji;clear ji k9 a4 HL hp;go_wp2_with fail
    go_loopw [4,6,7,8,9,10,11] (fun v _ _ _ _ _ _ wq=>∃(j:Nat) (M:List Grp),(j<U∨j=0)/\M.map bare=(az l j).1/\dr 328 wq (w.heap.size+1) v M/\eH wq (w.heap.size+1) M/\an wq w.heap.size (.slice w.heap.size k k) (az l j).2/\Below w.heap.size w wq) (fun v _ _ _ _ _ _ _=>sliceLen v)
    case atStart=>exact⟨0,L,.inr rfl,i8,ht,hs,kq,J⟩
    case round=>
     obtain⟨j,M,hj,hM,a6,cv,ba,cu⟩:=hrel;clear ht hs kq J i8 m7 d4;have e9:=cF l j (by rw[ae em];exact hj);rw[←hM,ae em]at e9;obtain⟨iw,ic,is,il⟩:=e9;rw[a0O]at il;obtain⟨ma,mc,rfl⟩:=a6.form;have f7:=af hM;have HJ:=af hj;clear hM hj;by_cases s:1<M.length
     .
      have j7:(1:Int)<(M.length:Int):=(by omega);have l7:=ae ix;have c:M.length<=300:=by have:=ae hU;omega
      have ol:(M.length:Int)<=300:=(by omega);have ad:w.heap.size+1<=wr.heap.size:=ba.below.2;have N:=fo M (by omega);have iw':WFL k M:=by
       intro g hg;have h1:=iw (bare g) (a2I hg);rw[ae HN]at h1;exact h1
      have P:=iw' _ (bP M (by omega));have D:=dP M (by omega);have Q:=iw' _ (bo M _ (bP (au M) (by omega)));have O:=fo (au M) (by omega);have r:iB M<=30000000:=by
       have h1:=(ms l 100000 (by omega) (fun i hi=>(HC i hi).2) l.length (a0a _)).1;have h2:iB (M.map bare)=iB M:=by simp[iB,Function.comp_def,bare]
       rw[h2]at ic;have:=ae HN;have h3:(100000:Int)*(l.length:Int)<=100000*300:=Int.mul_le_mul_of_nonneg_left (by omega) (by omega);omega
      have d:=Cb iw' s;have ho:=af (uc ma mc M.length (w.heap.size+1) M wr rfl a6 (by omega) c);obtain⟨g,rfl⟩:=a6.somes (by omega);have mo:Hid (aF M=M.getD (least M) g0):=rfl;have nk:Hid (au M=M.eraseIdx (least M)):=rfl;have HQ:=af (a0b a6 (a0b cv (a0b ba cu)));have ek:=af (a0b P (a0b D (a0b Q (a0b O (a0b r d)))));have el:=af (a0b s (a0b c (a0b N (a0b ad il))));have n3:=af iw';clear a6 cv ba cu ic is iw P D Q O r d s c N ad il iw' l7;go_wp2_with fail;apply ho.mono;rintro e x1⟨rfl,a8⟩;obtain⟨a6,cv,ba,cu⟩:=ae HQ;obtain⟨s,c,N,ad,il⟩:=ae el;obtain⟨P,D,Q,O,r,d⟩:=ae ek;have I:=a6.later a8 (a0a _);have H:=cv.later a8 (a0a _);have G:=ba.later a8 (a0a _);have Z:=aj cu a8;have lg:=a8.size;obtain⟨c0,c1,c2,_,e1⟩:=I.at rfl (least M) N;rw[←ae mo]at c0 c1 c2;have bk:=H _ (bP M (by omega));obtain⟨aa,ac,eu⟩:=bk.form;obtain⟨ga,j5⟩:=(eu▸bk).somes P.2.2.2.2;rw[j5]at eu;rw[eu]at c2 bk;have e3:((least M:Nat):Int)<(M.length:Int):=(by omega);have c8:=af (wG (some ⟨g,0,none⟩) mc M.length (w.heap.size+1) (w.heap.size+1) (least M) M (x1.alloc (.cells #[.int .i64 (aF M).cnt,.int .i64 (aF M).fst,.slice ga (aF M).syms.length ac] 328)) rfl (I.later ((a0c x1.heap.size x1).alloc (a0a _) _) (a0a _)) (H.later ((a0c x1.heap.size x1).alloc (a0a _) _) (a0a _)) N c);have h0:=af (a0b I (a0b H (a0b G (a0b Z bk))));have n1:=af e1;have kx:w.heap.size+1<=x1.heap.size:=G.below.2;clear a6 cv ba cu HQ ho I H G Z bk eu P D Q O r d s c N ad il j5 e1 lg;generalize i2:aF M=A at *;have f4:=af i2;clear i2;go_wp2_with fail;apply c8.mono;rintro e x2⟨⟨v1,rfl,Y⟩,cs⟩;obtain⟨I,H,G,Z,bk⟩:=ae h0;obtain⟨s,c,N,ad,il⟩:=ae el;obtain⟨P,D,Q,O,r,d⟩:=ae ek;rw[←ae nk]at Y;have b4:Below x1.heap.size x1 (x1.alloc (.cells #[A.cnt,A.fst,.slice ga A.syms.length ac] 328)):=cC;have a9:=aj b4 cs;have dd:=(rX x1 (.int .i64 A.cnt) (.int .i64 A.fst) (.slice ga A.syms.length ac) 328).later cs;have eb:=H.later a9 (a0a _);have d7:=G.later a9 (a0a _);have bl:=bk.later a9 (a0a _);have dl:=aj Z a9;have bd:=Y.mono (show w.heap.size+1<=_ by have:=G.below.2;have:=b4.size;omega);obtain⟨ra,rc,g7⟩:=bd.form;subst g7;obtain⟨g2,mp⟩:=bd.somes (by omega);subst mp;have m3:(au M).length=M.length-1:=D;have e4:=af (uc (some ⟨g2,0,none⟩) rc (au M).length (w.heap.size+1) (au M) x2 rfl bd (by omega) (by omega));have o0:((au M).length:Int)<=300:=(by omega);have h6:=af (a0b bd (a0b eb (a0b d7 (a0b dl (a0b bl dd)))));clear I H G Z bk h0 c8 b4 a9 dd eb d7 bl dl bd Y cs c0 c1 c2 e3 P D Q O r d s c N ad il m3;go_wp2_with fail;apply e4.mono;rintro e x3⟨rfl,ao⟩;obtain⟨Y,eb,d7,dl,bl,dd⟩:=ae h6;obtain⟨s,c,N,ad,il⟩:=ae el;obtain⟨P,D,Q,O,r,d⟩:=ae ek;have be:=Y.later ao (a0a _);have ab:=eb.later ao (a0a _);have a3:=d7.later ao (a0a _);have bn:=bl.later ao (a0a _);have a7:=dd.later ao;have dq:=aj dl ao;have fh:aF (au M)=(au M).getD (least (au M)) g0:=rfl;obtain⟨c0,c1,c2,_,e1⟩:=be.at rfl (least (au M)) O;rw[←fh]at c0 c1 c2;have bs:=ab _ (bo M _ (bP (au M) (by omega)));obtain⟨bb,bc,ev⟩:=bs.form;obtain⟨gb,j6⟩:=(ev▸bs).somes Q.2.2.2.2;rw[j6]at ev;rw[ev]at c2 bs;have e3:((least (au M):Nat):Int)<((au M).length:Int):=(by omega);have c8:=af (wG (some ⟨g2,0,none⟩) rc (au M).length (w.heap.size+1) (w.heap.size+1) (least (au M)) (au M) (x3.alloc (.cells #[.int .i64 (aF (au M)).cnt,.int .i64 (aF (au M)).fst,.slice gb (aF (au M)).syms.length bc] 328)) rfl (be.later ((a0c x3.heap.size x3).alloc (a0a _) _) (a0a _)) ((ab.sub (bo M)).later ((a0c x3.heap.size x3).alloc (a0a _) _) (a0a _)) O (by omega));have h7:=af (a0b be (a0b ab (a0b a3 (a0b dq (a0b bn (a0b a7 bs))))));clear Y eb d7 dl bl dd h6 e4 be ab a3 bn a7 dq bs ev ao P D Q O r d s c N ad il j6 e1 fh;generalize i4:aF (au M)=Bg at *;have f6:=af i4;clear i4;go_wp2_with fail;apply c8.mono;rintro e x4⟨⟨v2,rfl,c5⟩,gl⟩;obtain⟨be,ab,a3,dq,bn,a7,bs⟩:=ae h7;obtain⟨s,c,N,ad,il⟩:=ae el;obtain⟨P,D,Q,O,r,d⟩:=ae ek;have fr:(au M).eraseIdx (least (au M))=au (au M):=rfl;rw[fr]at c5;have b4:Below x3.heap.size x3 (x3.alloc (.cells #[Bg.cnt,Bg.fst,.slice gb Bg.syms.length bc] 328)):=cC;have R:=aj b4 gl;have e8:=(rX x3 (.int .i64 Bg.cnt) (.int .i64 Bg.fst) (.slice gb Bg.syms.length bc) 328).later gl;have i3:=a7.later R;have b9:=ab.later R (a0a _);have b8:=a3.later R (a0a _);have fz:=bn.later R (a0a _);have f2:=bs.later R (a0a _);have ds:=aj dq R;have g8:w.heap.size+1<=x4.heap.size:=b8.below.2;have ky:w.heap.size+1<=x3.heap.size:=a3.below.2;have eh:=c5.mono (show w.heap.size+1<=_ by have:=a3.below.2;have:=b4.size;omega);have ch:=dP (au M) (by omega);obtain⟨ra,lo,g7⟩:=eh.form;subst g7;have jx:Hid ((A.syms.map (Value.int .i64)).length=A.syms.length*1):=by show _=_;simp
      have j1:Hid ((Bg.syms.map (Value.int .i64)).length=Bg.syms.length*1):=by show _=_;simp
      have kc:A.syms.length+Bg.syms.length<=300:=by
       have h1:=d.2;have h2:(bp M).length=A.syms.length+Bg.syms.length:=by
        unfold bp;rw[a0i,ae f4,ae f6]
       have h3:=(cF l j (by rw[ae em];exact HJ)).2.2.1;have h4:lT (M.map bare)=lT M:=by simp[lT,Function.comp_def,bare]
       rw[←ae f7,h4]at h3;have h5:=(ms l 100000 (by omega) (fun i hi=>(HC i hi).2) l.length (a0a _)).2.1;have:=ae HN;have:=ae HM;omega
      have id:Hid (∀W,Below x4.heap.size x4 W->∀j u,(A.syms.map (Value.int .i64))[j]?=some u->W.cell? ((⟨ga,0,none⟩:Addr).add j)=some u):=fun W hW=>a1F (fz.later hW (a0a _)) rfl;have ih:Hid (∀W,Below x4.heap.size x4 W->∀j u,(Bg.syms.map (Value.int .i64))[j]?=some u->W.cell? ((⟨gb,0,none⟩:Addr).add j)=some u):=fun W hW=>a1F (f2.later hW (a0a _)) rfl;have c7:∀W,Below x4.heap.size x4 W->W.cell? ⟨x1.heap.size,2,none⟩=some (.slice ga A.syms.length ac)/\W.cell? ⟨x3.heap.size,2,none⟩=some (.slice gb Bg.syms.length bc):=fun W hW=>⟨(i3.later hW).2.2.1,(e8.later hW).2.2.1⟩;have gf:World.ownsRow (x4.alloc (.cells #[] 3)).drew x4.heap.size 3 1 (.slice x4.heap.size 0 0) 0 []:=a0S x4 #[] 0 (a0a _) (by unfold maxLen;omega) rfl;have cr:Below x4.heap.size x4 (x4.alloc (.cells #[] 3)).drew:=cC.drew;have a8:Hid (0+A.syms.length<=maxLen/\(0+A.syms.length)*8<=140737488355328):=by show _/\_;unfold maxLen;omega
      have cs:Hid (0+A.syms.length+Bg.syms.length<=maxLen/\(0+A.syms.length+Bg.syms.length)*8<=140737488355328):=by show _/\_;unfold maxLen;omega
      obtain⟨a0,a1,a2,_,_,_,abl⟩:=i3;obtain⟨b0,b1,b2,_,_,_,l1⟩:=e8;have hr:x1.heap.size≠w.heap.size:=by have:=kx;omega
      have hu:x3.heap.size≠w.heap.size:=by have:=ky;omega
      have e6:Below x4.heap.size x4 x4.drew:=(a0c _ _).drew;have fn:Hid ((eT A Bg).fst=if Bg.fst<A.fst then Bg.fst else A.fst):=rfl;have ls:=af kc;have c9:=af (a0b r (a0b d.1 (a0b P Q)));have h8:=af (a0b ch (a0b D (a0b s (a0b c il))));have l0:=af (a0b eh (a0b b9 (a0b b8 ds)));clear be ab a3 dq bn a7 bs h7 c8 b4 R b9 b8 fz f2 ds eh c5 gl c0 c1 c2 e3 P D Q O r d s c N ad il ch kc fr;have j4:∃F:Int,(eT A Bg).fst=F:=⟨_,rfl⟩;obtain⟨F,hF⟩:=j4;have HF:=af hF;clear hF;by_cases fl:Bg.fst<A.fst
      case' pos=>have i5:Hid (Bg.fst=F):=by have:=ae fn;rw[ae HF,a0d fl]at this;exact this.symm
      case' neg=>have i5:Hid (A.fst=F):=by have:=ae fn;rw[ae HF,a0e fl]at this;exact this.symm
      all_goals
       go_wp2_with fail
       go_region_held3 (fun W=>W.cell? ⟨x1.heap.size,2,none⟩=some (.slice ga A.syms.length ac)/\W.cell? ⟨x3.heap.size,2,none⟩=some (.slice gb Bg.syms.length bc)) (first|exact c7 _ e6|assumption|exact c7 _ cr) (first
        | (refine aL rfl (.tmp 76) (.tmp 78) 129 rfl x4.heap.size 3 i0 (.int .i64 0) 1 8 a0F hi hf hh hl rfl (a2w 0) (.slice x4.heap.size 0 0) _ _ rfl gf ⟨ga,0,none⟩ A.syms.length ac (A.syms.map (Value.int .i64)) rfl jx (id _ cr) (a1u .i64 _) a8.1 a8.2 cr.size ?_;intro v5 x5 b7 cc g3;clear g3;have cp:Below x4.heap.size x4 x5:=cr.grown cc cr.size (fun j hj=>(a0z gf j hj).1);have l2:=c7 _ cp)
        | (refine aL rfl (.tmp 79) (.tmp 81) 129 rfl x4.heap.size 3 i0 (.int .i64 0) 1 8 a0F hi hf hh hl rfl (a2w 0) v5 _ _ rfl b7 ⟨gb,0,none⟩ Bg.syms.length bc (Bg.syms.map (Value.int .i64)) rfl j1 (ih _ cp) (a1u .i64 _) cs.1 cs.2 cp.size ?_;intro v6 x6 d5 cg g4;clear g4;have b3:Below x4.heap.size x4 x6:=cp.grown cg cp.size (fun j hj=>(a0z b7 j hj).1);have l3:=c7 _ b3))
       obtain⟨c5,b9,b8,ds⟩:=ae l0;have g8:w.heap.size+1<=x4.heap.size:=b8.below.2;have cy:an x6 x4.heap.size v6 (A.syms++Bg.syms):=by
        show World.ownsRow _ _ _ _ _ (A.syms++Bg.syms).length ((A.syms++Bg.syms).map (Value.int .i64));rw[a0i,a0K];simpa using d5
       have gk:Hid ((A.syms++Bg.syms).length<=300/\0<(A.syms++Bg.syms).length):=by
        show _/\_;rw[a0i];have:=ae ls;have:=c9.2.2.1.2.2.2.2;omega
       have l6:Hid (∀x∈A.syms++Bg.syms,0<=x/\x<(k:Int)):=by
        intro x hx;simp only[a03]at hx;rcases hx with hx|hx
        . exact(ae c9).2.2.1.2.2.2.1 x hx
        . exact(ae c9).2.2.2.2.2.2.1 x hx
       have l5:Hid (bp M=A.syms++Bg.syms):=by
        show bp M=_;unfold bp;rw[ae f4,ae f6]
       have l4:Hid ((eT A Bg).syms=A.syms++Bg.syms):=rfl;generalize A.syms++Bg.syms=S at *;obtain⟨sv,sc,ej⟩:=cy.form;obtain⟨gs,ka⟩:=(ej▸cy).somes gk.2;rw[ka]at ej;rw[ej];rw[ej]at cy;have k5:=c5.later b3 (a0a _);have k1:=b9.later b3 (a0a _);have kt:=b8.later b3 (a0a _);have e7:=aj ds b3;have fk:=cy.below;have a0':=(b3.cell (p:=⟨x1.heap.size,0,none⟩) abl).trans a0;have i1:=(b3.cell (p:=⟨x3.heap.size,0,none⟩) l1).trans b0;have m6:=af (wh l (fun i hi=>(HC i hi).2) (by rw[ae HN];exact HM) j (by rw[ae em];exact HJ));have m1:Hid ((j:Int)<=300):=by show(j:Int)<=300;have:=ae HJ;have:=ae hU;have:=ae ix;omega
       have f3:x1.heap.size≠w.heap.size/\x3.heap.size≠w.heap.size:=⟨hr,hu⟩;have gd:=af cy;have it:=af k5;have h9:=af k1;have e5:=af f3;have f5:=af (a0b a0' i1);have n2:=af fk;have sI:(S.length:Int)<=300:=by have:=gk.1;omega
       clear b7 d5 cc cg l2 l3 cp c5 b9 b8 ds k5 k1 cy c7 id ih gf cr e6 ej ka a0 a1 a2 b0 b1 b2 f3 a0' i1 fk jx j1;go_wp2_with fail
       go_loopw [11] (fun i wq=>∃t:Nat,t<=S.length/\i = .int .i64 t/\an wq w.heap.size (.slice w.heap.size k k) (bump (az l j).2 (S.take t))/\Touch (some ⟨w.heap.size,0,none⟩) x6 wq/\Below w.heap.size w wq) (fun i _=>S.length-(intOf i).toNat)
       case atStart=>exact⟨0,a0g _,rfl,kt,Touch.refl _ _,e7⟩
       case round=>
        obtain⟨t,ht,rfl,X,E,b5⟩:=hrel;clear kt e7;have gy:Hid ((bump (az l j).2 (S.take t)).length=k):=by show(bump (az l j).2 (S.take t)).length=k;rw[qR,fj,ae HN]
        have no:Hid (t<=S.length):=ht;clear ht;by_cases d3:t<S.length
        .
         have fv:=gd.touch E (by intro g e;simp only[a0l,a0A,a0Q]at e;have:=g8;omega);obtain⟨c0,_,_,_⟩:=fv.at rfl d3;have hx:=ae l6 (S.getD t 0) (by simp[List.getD,d3]);have fb:=af (yU (az l j).2 S t d3);have kk:=af (vJ m6 (S.take t));obtain⟨q,hq⟩:=a0r hx.1;rw[hq]at c0 fb;have g6:q<k:=(by omega);obtain⟨d0,f0,_,_⟩:=X.at gy g6;have he:=ae kk q (by rw[ae gy];exact g6);have C:=X.put (j:=q) gy ((bump (az l j).2 (S.take t)).getD q 0+1);have eg:Hid (bump (az l j).2 (S.take (t+1))=(bump (az l j).2 (S.take t)).set q ((bump (az l j).2 (S.take t)).getD q 0+1)):=by
          show bump (az l j).2 (S.take (t+1))=_;rw[ae fb];unfold gN;rw[a0n]
         have o2:(bump (az l j).2 (S.take t)).getD q 0<=100000:=by
          have h1:=he.2;have h2:(S.take t).length<=300:=by rw[a0u];have:=gk.1;omega
          have:=ae m1;omega
         have ha:=he.1;have ca:=ai b5 (b:=w.heap.size) (o:=q) (a0a _) (.int .i64 ((bump (az l j).2 (S.take t)).getD q 0+1));have a5:=E.set (o:=q) rfl (.int .i64 ((bump (az l j).2 (S.take t)).getD q 0+1));generalize (bump (az l j).2 (S.take t)).getD q 0=y at *;have hz:=af (a0b C (a0b ca a5));have e3:(q:Int)<(k:Int):=(by omega);have o1:(t:Int)<(S.length:Int):=(by omega);clear C ca a5 X fv b5 E he hx hq g6;go_wp2_with fail
         go_region
         obtain⟨C,ca,a5⟩:=ae hz;rw[←ae eg]at C;go_wp2;go_roundw
         case rel=>exact⟨t+1,by have:=ae no;omega,by go_num,C,a5,ca.drew⟩
         case measure=>simp[intOf];omega
        .
         have k7:S.take t=S:=a0t (by omega);rw[k7]at X;have c6:dr 328 wr (w.heap.size+1) (.slice ra (au (au M)).length lo) (au (au M)):=pL it E (kU _ _ (a0j _));have ed:eH wr (w.heap.size+1) (au (au M)):=fun g hg=>(h9 g (bo M _ (bo _ _ hg))).touch E (kU _ _ (a0j _));have ei:an wr (w.heap.size+1) (.slice gs S.length sc) S:=(gd.touch E (kU _ _ (by omega))).mono g8;have a0q:=(jq (p:=⟨x1.heap.size,0,none⟩) E e5.1).trans f5.1;have ob:=(jq (p:=⟨x3.heap.size,0,none⟩) E e5.2).trans f5.2;have g1:Hid ((az l (j+1)).2=bump (az l j).2 S):=by
          show(az l (j+1)).2=_;simp only[az];rw[←ae f7,Mm,ae l5]
         have e2:Hid ((az l (j+1)).1=(au (au M)).map bare++[eT A Bg]):=by
          show(az l (j+1)).1=_;simp only[az];rw[←ae f7,Mf,ae f4,ae f6]
         rw[←ae g1]at X;obtain⟨ch,D,s,c,il⟩:=ae h8;have m0:Hid (j+1<U):=by show j+1<U;omega
         have kd:Hid ((au (au M)).length+1<M.length+0):=by show _<_;omega
         have V:Hid ((au (au M)).length+1<=maxLen/\((au (au M)).length+1)*40<=140737488355328):=by show _/\_;unfold maxLen;omega
         have d2:=ae c9;have op:A.cnt+Bg.cnt<=30000000:=by have:=d2.1;have:=d2.2.1;omega
         have nq:=d2.2.2.1.1;have ns:=d2.2.2.2.1;have md:w.heap.size+1<=wr.heap.size:=X.below.2;have f8:=af (a0b c6 (a0b ed (a0b ei (a0b X b5))));have n0:Hid ((eT A Bg).cnt=A.cnt+Bg.cnt):=rfl;clear ch D s c il c6 ed ei X b5 E k7 d2 c9 h8 it h9 gd f5;rw[ae i5];go_wp2_with (at_builtin;refine a0w _ rfl _ _ 326 rfl (w.heap.size+1) 328 j0 (.agg #[.int .i64 0,.int .i64 0,.slice none 0 0]) 3 40 a3W hj ha lb lf rfl (by decide) _ _ _ rfl (a0o f8.1 _) ⟨wr.heap.size,0,none⟩ 1 1 [.int .i64 (A.cnt+Bg.cnt),.int .i64 F,.slice gs S.length sc] rfl rfl (tJ _ _ _ _ _ _ rfl) (tK _ _ _ _ _) V.1 V.2 (ar md _) ?_;intro v7 x7 d6 z g5;clear g5);obtain⟨c6,ed,ei,X,b5⟩:=ae f8;have dv:Below wr.heap.size wr (wr.alloc (.cells #[.int .i64 (A.cnt+Bg.cnt),F,.slice gs S.length sc] 328)):=cC;have co:=c6.later dv (a0a _);have k2:=(ed.later dv (a0a _)).grown co (by decide) z;have k8:=mR (ei.later dv (a0a _)) co (by decide) z;have m9:=mR (X.later dv (a0a _)) co (by decide) z;have l8:Below w.heap.size w x7:=aH (v:=.slice ra (au (au M)).length lo) z c6 (by omega) (by omega) b5;have k6:=tN ⟨A.cnt+Bg.cnt,F,S,.slice gs S.length sc⟩ d6;have nm:=k2.snoc (g:=⟨A.cnt+Bg.cnt,F,S,.slice gs S.length sc⟩) k8;have mi:Hid ((au (au M)++[(⟨A.cnt+Bg.cnt,F,S,.slice gs S.length sc⟩:Grp)]).map bare=(az l (j+1)).1):=by
          show _=(az l (j+1)).1;rw[ae e2,a0K]
          congr 1
          have e:eT A Bg=⟨A.cnt+Bg.cnt,F,S,.slice none 0 0⟩:=by
           rw[←ae HF,←ae l4];rfl
          rw[e];rfl
         have k3:Hid (sliceLen v7<M.length):=by
          show sliceLen v7<M.length;obtain⟨fa,fc,hv⟩:=k6.form;rw[hv];have:=ae kd;simp only[sliceLen,a0i,a1l];omega
         clear d6 z dv co k2 k8 c6 ed ei X b5 f8;go_wp2;go_roundw
         case rel=>exact⟨j+1,_,.inl (ae m0),mi,k6,nm,m9,l8⟩
         case measure=>exact k3
     .
      have gv:=af (ae j3 j (by omega) (ae HJ));have j7:¬ (1:Int)<(M.length:Int):=(by omega);have HP:=af ba;clear a6 cv ba ic is;go_wp2;go_ret;exact⟨rfl,by rw[ae gv];exact HP,cu⟩
def GX(a:Option Addr)(cap n:Nat)(o:List Int)(w:World)(s:o.length=n)(h:bE w a o)(q:n<=300) :
  Calls prog 241 #[.slice a n cap] w fun e w'=>e = .returned (.int .i64 (ci o n))/\w'=w:=by
 subst s;have r:(o.length:Int)<=300:=by omega
 clear q;go_enter func241,ntmps241;go_wp2_with fail
 go_loop [3,4] (fun m i=>∃k:Nat,k<=o.length/\i = .int .i64 k/\m = .int .i64 (ci o k)) (fun _ i=>o.length-(intOf i).toNat)
 case atStart=>exact⟨0,a0g _,rfl,rfl⟩
 case round=>
  obtain⟨k,l,rfl,rfl⟩:=hrel;have t:=af l;by_cases d:k<o.length
  .
   obtain⟨g,f,rfl,u,j⟩:=h (by omega);have c0:=j k d;have c:Hid (ci o (k+1)=if ci o k<o.getD k 0 then o.getD k 0 else ci o k):=rfl;clear j l h;generalize o.getD k 0=y,ci o k=m at *;by_cases p:m<y
   .
    have b:Hid (ci o (k+1)=y):=by have:=ae c;rw[a0d p]at this;exact this
    go_wp2
    go_round
    case rel=>exact⟨k+1,by omega,by go_num,by rw[ae b]⟩
    case measure=>simp[intOf];omega
   .
    have b:Hid (ci o (k+1)=m):=by have:=ae c;rw[a0e p]at this;exact this
    go_wp2
    go_round
    case rel=>exact⟨k+1,by omega,by go_num,by rw[ae b]⟩
    case measure=>simp[intOf];omega
  .
   obtain rfl:k=o.length:=by omega
   clear h;go_wp2;go_ret;exact⟨rfl,rfl⟩
def IB(w:World)(b n:Nat):Nat:=((List.range n).map (fun i=>(intOf ((w.cell? ⟨b,i,none⟩).getD (.int .i64 0))).toNat)).sum
def JH{base:Nat}(a:l.length=n)(h:an w base (.slice b n c) l):IB w b n=lc l:=by
 unfold IB lc
 congr 1
 apply a2k
 . simp[a]
 .
  intro i d h2;have f:i<n:=by simpa using d
  have:=(h.at a f).1;simp only[List.getElem_map,List.getElem_range];rw[this];have e:l.getD i 0=l[i]:=by simp[List.getD,show i<l.length by omega]
  rw[e];rfl
def KN(l:List Int)(j:Nat)(h:j<l.length):(bG (l.take j)++l.drop j).set j (jB (l.getD j 0))=bG (l.take (j+1))++l.drop (j+1):=by
 have b:(bG (l.take j)).length=j:=by simp[bG];omega
 rw[List.set_append_right _ _ (by omega),b,a3i,cN l j h];have a:l.drop j=l[j] :: l.drop (j+1):=a28 h;rw[a,List.set_cons_zero];simp[bG]
def Oj(l:List Int)(j:Nat)(h:j<l.length):(bG (l.take j)++l.drop j).getD j 0=l.getD j 0:=by
 have a:(bG (l.take j)).length=j:=by simp[bG];omega
 simp only[List.getD];rw[List.getElem?_append_right (by omega),a,a3i,List.getElem?_drop];simp
def okC(l:List Int):Prop:=∀i,i<l.length->0<=l.getD i 0/\l.getD i 0<=100000
def xw(h:okC l):okC (bG l):=by
 intro i a;rw[fq]at a;rw[sN l i a];have:=h i a;unfold jB;omega
def BF(h:okC l):∀x∈l,0<=x:=by
 intro x b;obtain⟨i,a,rfl⟩:=a1M b;have:=(h i a).1;have e:l.getD i 0=l[i]:=by simp[List.getD,a]
 rw[e]at this;exact this
def dL(m:Int)(l:List Int):List Int:=re m (lc l) l
def zq(a:Option Addr)(cap n mm:Nat)(l:List Int)(w:World)(hn:l.length=n)(h:bE w a l)(h1:1<=n)(hm:n<=300)(hc:okC l)(hU:(aC l l.length).length<=p2 mm)(b5:mm<=14) :
  Calls prog 205 #[.slice a n cap,.int .i64 ((mm:Int)+1)] w fun e w'=>(∃v,e = .returned v/\an w' w.heap.size v (dL ((mm:Int)+1) l))/\Below w.heap.size w w':=by
 obtain⟨i0,hi,b9,ca,cc⟩:=a0p Tryz.infoInt;obtain⟨g,o,rfl,hg,a4⟩:=h (by omega);have co:(n:Int)<=300:=by omega
 have ch:(mm:Int)<=14:=by omega
 have Z:=af hn;have HC:=af hc;have HU:=af hU;have HM:=af (a0b h1 hm);have G:Below w.heap.size w (w.alloc (.cells #[] 3)):=cC;have S:World.ownsRow (w.alloc (.cells #[] 3)) w.heap.size 3 1 (.slice w.heap.size 0 0) 0 []:=a0S w #[] 0 (a0a _) (by unfold maxLen;omega) rfl;have W:Hid (∀j u,(l.map (Value.int .i64))[j]?=some u->(w.alloc (.cells #[] 3)).cell? ((⟨g,o,none⟩:Addr).add j)=some u):=by
  intro j u hj;have a6:j<l.length:=by have:=(List.getElem?_eq_some_iff.1 hj).1;simpa using this
  have ad:(⟨g,o,none⟩:Addr).add j=⟨g,o+j,none⟩:=by unfold Addr.add;split<;>simp_all
  rw[ad,G.cell (p:=⟨g,o+j,none⟩) hg,a4 j a6,←hj];simp[List.getD,a6]
 have b3:Hid ((l.map (Value.int .i64)).length=n*1):=by show _=_;simp[hn]
 have al:Hid (0+n<=maxLen/\(0+n)*8<=140737488355328):=by show _/\_;unfold maxLen;omega
 clear hn hc hU h1 hm a4 b5 h;go_enter func205,ntmps205;go_wp2_with (at_builtin;refine a0w _ rfl _ _ 129 rfl w.heap.size 3 i0 (.int .i64 0) 1 8 a0F hi b9 ca cc rfl (by decide) _ _ _ rfl S ⟨g,o,none⟩ n cap (l.map (Value.int .i64)) rfl b3 W (a1u .i64 _) al.1 al.2 G.size ?_;intro v1 x1 Q K ba;clear ba);have A:an x1 w.heap.size v1 l:=by
  show World.ownsRow _ _ _ _ _ l.length _;rw[ae Z];simpa using Q
 have ab:Below w.heap.size w x1:=G.grown K G.size (fun j hj=>(a0z S j hj).1);obtain⟨va,vc,X⟩:=A.formN Z;rw[X];rw[X]at A;apply(wF va vc n l x1 Z (A.rowN Z) HM.2 HC).mono;rintro e x2⟨rfl,bb,T⟩;have bd:=A.later T (a0a _);have ac:=aj ab T;have be:w.heap.size<=x1.heap.size:=ab.size;obtain⟨lb,b1⟩:=A.somes (by rw[ae Z];exact HM.1);subst b1;have P:=A.below;have HX:=af (a0b be P);clear A T Q K X S G P;go_wp2_with fail
 go_loopw [6,7] (fun v _ wr=>∃(c:List Int) (f ob:Nat),c.length=n/\okC c/\(aC c c.length).length<=p2 mm/\lc c<=f/\dL ((mm:Int)+1) l=re ((mm:Int)+1) f c/\v = .slice ob n n/\lb<ob/\an wr ob (.slice ob n n) (cj c)/\an wr w.heap.size (.slice lb n vc) c/\Below w.heap.size w wr) (fun _ _ wr=>IB wr lb n)
 case atStart=>exact⟨l,lc l,x1.heap.size,Z,HC,HU,a0a _,rfl,rfl,HX.2.2,bb,bd,ac⟩
 case round=>
  obtain⟨c,f,ob,m,d,E,M,s,rfl,a8,F,z,q⟩:=hrel;clear bb bd ac;have r:(cj c).length=n:=(jC c).trans m;have aa:=af (GX (some ⟨ob,0,none⟩) n n (cj c) wr r (F.rowN r) HM.2);have L:Hid (fits (cj c) ((mm:Int)+1)=decide (ci (cj c) n<=(mm:Int)+1)):=by show _=_;unfold fits;rw[r]
  have HQ:=af (a0b m (a0b d (a0b E (a0b M s))));have HO:=af (a0b F (a0b z q));have HS:=af (JH m z);have a9:=af a8;clear m d E M s r a8;generalize ci (cj c) n=mo at *;by_cases cg:(mm:Int)+1<mo
  .
   have N:fits (cj c) ((mm:Int)+1)=false:=by rw[ae L];exact a0m (by omega)
   obtain⟨m,d,E,M,s⟩:=ae HQ;have hex:=xt E N;have R:=(xV c (BF d)).2 hex;have b0:∃f',f=f'+1:=⟨f-1,by omega⟩;obtain⟨f',a5⟩:=b0;have V:Hid (dL ((mm:Int)+1) l=re ((mm:Int)+1) f' (bG c)):=by
    show _=_;rw[s,a5];simp only[re];rw[N];rfl
   have a3:Hid (lc (bG c)<=f'):=by show _<=_;omega
   have bl:=af R;have I:=af (xw d);have a2:Hid ((aC (bG c) (bG c).length).length<=p2 mm):=by show _<=_;rw[fq,tu c (fun i hi=>(d i hi).1) _ (a0a _)];exact E
   have B:Hid ((bG c).length=n):=(fq c).trans m;clear m d E M s hex R a5;go_wp2_with fail;apply aa.mono;rintro e x3⟨rfl,Y⟩;subst Y;obtain⟨F,z,q⟩:=ae HO;have a0:an x3 w.heap.size (.slice lb n vc) (bG (c.take 0)++c.drop 0):=by simpa[bG]using z
   clear F z;go_wp2_with fail
   go_loopw [7] (fun i wq=>∃t:Nat,t<=n/\i = .int .i64 t/\an wq w.heap.size (.slice lb n vc) (bG (c.take t)++c.drop t)/\Below w.heap.size w wq) (fun i _=>n-(intOf i).toNat)
   case atStart=>exact⟨0,a0g _,rfl,a0,q⟩
   case round=>
    obtain⟨t,ht,rfl,k,x⟩:=hrel;clear a0 q;obtain⟨m,d,_,_,_⟩:=ae HQ;have a7:Hid ((bG (c.take t)++c.drop t).length=n):=by show _=n;rw[a0i,fq,a0u,a04];omega
    by_cases b4:t<n
    .
     have D:=k.put (j:=t) a7 (jB (c.getD t 0));rw[KN c t (by omega)]at D;obtain⟨d0,f0,ao,_⟩:=k.at a7 b4;rw[Oj c t (by omega)]at d0;have hy:=d t (by omega);have H:=ai x (b:=lb) (o:=t) ao (.int .i64 (jB (c.getD t 0)));unfold jB at D H;have O:=af (a0b D H);have b8:(t:Int)<(n:Int):=(by omega);have Ht:=af ht;generalize c.getD t 0=y at *;obtain⟨y0,y1⟩:=hy;have e1:IntKind.i64.wrap ((y+1).tdiv 2)=(y+1)/2:=by rw[Int.tdiv_eq_ediv_of_nonneg (by omega)];simp[IntKind.wrap,IntKind.bits,IntKind.signed];omega
     clear D H k x m d ht ao;go_wp2;go_roundw
     case rel=>exact⟨t+1,by have:=ae Ht;omega,by go_num,O.1,O.2⟩
     case measure=>simp[intOf];omega
    .
     have cp:t=n:=(by omega);have J:bG (c.take t)++c.drop t=bG c:=by rw[a0t (by omega),a2R (by omega)];simp
     rw[J]at k;have b2:=af (wF (some ⟨lb,0,none⟩) vc n (bG c) wr B (k.rowN B) HM.2 I);have C:=k.below;have bk:=af (a0b k (a0b x C));have b8:¬ (t:Int)<(n:Int):=(by omega);clear k x m d J C;go_wp2_with fail;apply b2.mono;rintro e x4⟨rfl,b7,U⟩;obtain⟨k,x,C⟩:=ae bk;have a1:=k.later U (a0a _);have bn:=aj x U;have b6:Hid (IB x4 lb n<IB x3 lb n):=by
      show IB x4 lb n<IB x3 lb n;rw[JH B a1,ae HS];exact bl
     clear k x U;go_wp2;go_roundw
     case rel=>exact⟨bG c,f',wr.heap.size,B,I,a2,a3,V,rfl,C.2,b7,a1,bn⟩
     case measure=>exact b6
  .
   have N:fits (cj c) ((mm:Int)+1)=true:=by rw[ae L];exact a0B (by omega)
   have bc:Hid (dL ((mm:Int)+1) l=cj c):=by
    show _=_;rw[HQ.2.2.2.2];cases f with
    | zero=>rfl
    | succ f=>simp only[re];rw[N];rfl
   go_wp2_with fail;apply aa.mono;rintro e x3⟨rfl,Y⟩;subst Y;obtain⟨F,z,q⟩:=ae HO;have bs:w.heap.size<=ob:=by have:=z.below.1;have:=ae a9;omega
   go_wp2;go_ret;exact⟨⟨_,rfl,by rw[ae bc];exact F.mono bs⟩,q⟩
def inC(l:List Int):Bool:=l.all (fun b=>inB b 0 100000)
def zy(l:List Int)(m:Int):Bool:=decide (l.length<=300)&&inB m 1 15&&inC l&&inB (us l:Nat) 1 ((p2 m.toNat/2:Nat):Int)
def lm(l:List Int)(m:Int):List Int:=if zy l m then dL m l else []
def Ox(l:List Int)(k:Nat)(h:k<l.length):inC (l.take (k+1))=(inC (l.take k)&&inB (l.getD k 0) 0 100000):=by
 rw[cN l k h];simp[inC]
def Sb(h:k<l.length)(a:inB (l.getD k 0) 0 100000=false):inC l=false:=by
 rcases hb:inC l with _|_
 . rfl
 . have:=a1c.1 hb (l.getD k 0) (by simp[List.getD,h]);rw[a]at this;exact absurd this (by simp)
def Um(h:inC l=true):okC l:=by
 intro i a;have:=a1c.1 h (l.getD i 0) (by simp[List.getD,a]);exact aI.1 this
def SJ(l:List Int)(k:Nat)(a:k<=l.length):(aC l k).length=us (l.take k):=by
 induction k with
 | zero=>rfl
 | succ k ih=>
  rw[rZ l k (by omega),←ih (by omega)];simp only[aC]
  split
  . simp
  . rfl
def fT(l:List Int):(aC l l.length).length=us l:=by
 rw[SJ l _ (a0a _),a2y]
def BJ(m:Nat):p2 (m+1)/2=p2 m:=by rw[lq];omega
def qg{x y:Grp}(h:bg x y=true):bg y x=false:=by
 simp only[bg,a1m,a0k,a0v]at h;simp only[bg,a2z,a2U,a2V];omega
def jF{x y z:Grp}(h:bg x y=false)(h2:bg y z=false):bg x z=false:=by
 simp only[bg,a2z,a2U,a2V]at h h2 ⊢;omega
def Ej{x y z:Grp}(h:bg x y=false)(h2:bg z y=true):bg x z=false:=by
 simp only[bg,a1m,a0k,a0v]at h2;simp only[bg,a2z,a2U,a2V]at h ⊢;omega
def ip(x:Grp):bg x x=false:=by
 simp only[bg,a2z,a2U,a2V];omega
def dA(L:List Grp)(i j:Nat):List Grp:=(L.set i (L.getD j g0)).set j (L.getD i g0)
def iu(L:List Grp)(i j:Nat):(dA L i j).length=L.length:=by simp[dA]
def zQ{L:List Grp}(a:i<L.length):(dA L i j).getD i g0=L.getD j g0:=by
 unfold dA;rw[List.getD_eq_getElem?_getD,List.getElem?_set];by_cases h:j=i
 . subst h;simp[a]
 . rw[a0e h,List.getElem?_set_self a];rfl
def pp{L:List Grp}(a:j<L.length):(dA L i j).getD j g0=L.getD i g0:=by
 unfold dA;rw[List.getD_eq_getElem?_getD,List.getElem?_set_self (by simpa using a)];rfl
def dF{L:List Grp}(a:k≠i)(h2:k≠j):(dA L i j).getD k g0=L.getD k g0:=by
 unfold dA;rw[List.getD_eq_getElem?_getD,List.getElem?_set_ne (fun e=>h2 e.symm),List.getElem?_set_ne (fun e=>a e.symm),←List.getD_eq_getElem?_getD]
def set_perm(L:List Grp)(i:Nat)(x:Grp)(h:i<L.length):(L.getD i g0 :: L.set i x).Perm (x :: L):=by
 induction L generalizing i with
 | nil=>simp at h
 | cons g L ih=>
  cases i with
  | zero=>simp only[List.getD_cons_zero,List.set_cons_zero];exact a3X _ _ _
  | succ i=>
   simp only[a2G,List.set_cons_succ];have a:=ih i (by simpa using h);exact(a3X _ _ _).trans ((a.cons g).trans (a3X _ _ _))
def jm{L:List Grp}(b:i<L.length)(d:j<L.length):(dA L i j).Perm L:=by
 have c:=set_perm L i (L.getD j g0) b;have h2:=set_perm (L.set i (L.getD j g0)) j (L.getD i g0) (by simpa using d);have e:(L.set i (L.getD j g0)).getD j g0=L.getD j g0:=by
  rw[List.getD_eq_getElem?_getD,List.getElem?_set];by_cases a:i=j
  . subst a;simp[b]
  . rw[a0e a,←List.getD_eq_getElem?_getD]
 rw[e]at h2;exact(h2.trans c).cons_inv
def HP(L:List Grp):Prop:=∀i,0<i->i<L.length->bg (L.getD i g0) (L.getD ((i-1)/2) g0)=false
def UpI(L:List Grp)(k:Nat):Prop:=
 (∀i,0<i->i<L.length->i≠k->bg (L.getD i g0) (L.getD ((i-1)/2) g0)=false) /\
 (∀i,0<i->i<L.length->(i-1)/2=k->0<k->bg (L.getD i g0) (L.getD ((k-1)/2) g0)=false)
def DnI(L:List Grp)(k:Nat):Prop:=
 (∀i,0<i->i<L.length->(i-1)/2≠k->bg (L.getD i g0) (L.getD ((i-1)/2) g0)=false) /\
 (∀i,0<i->i<L.length->(i-1)/2=k->0<k->bg (L.getD i g0) (L.getD ((k-1)/2) g0)=false)
def QI{L:List Grp}(h:UpI L k)(a:k=0∨bg (L.getD k g0) (L.getD ((k-1)/2) g0)=false):HP L:=by
 intro i b c;by_cases e:i=k
 .
  subst e;rcases a with a|a
  . omega
  . exact a
 . exact h.1 i b c e
def Ta{L:List Grp}(h:UpI L k)(l:0<k)(m:k<L.length)(g:bg (L.getD k g0) (L.getD ((k-1)/2) g0)=true):UpI (dA L k ((k-1)/2)) ((k-1)/2):=by
 have hq:(k-1)/2<k:=by omega
 have b:(k-1)/2<L.length:=by omega
 have sk:=zQ (L:=L) (j:=(k-1)/2) m;have sq:=pp (L:=L) (i:=k) b;refine⟨?_,?_⟩
 .
  intro i i0 a d;rw[iu]at a;by_cases e:i=k
  . subst e;rw[sk,sq];exact qg g
  .
   rw[dF e d];by_cases p:(i-1)/2=(k-1)/2
   . rw[p,sq];have:=h.1 i i0 a e;rw[p]at this;exact Ej this g
   .
    by_cases p2:(i-1)/2=k
    . rw[p2,sk];exact h.2 i i0 a p2 l
    . rw[dF p2 p];exact h.1 i i0 a e
 .
  intro i i0 a n f;rw[iu]at a;have o:((k-1)/2-1)/2<(k-1)/2:=by omega
  rw[dF (k:=((k-1)/2-1)/2) (by omega) (by omega)];have c:=h.1 ((k-1)/2) f b (by omega);by_cases e:i=k
  . subst e;rw[sk];exact c
  . rw[dF e (by omega)];have:=h.1 i i0 a e;rw[n]at this;exact jF this c
def AD{L:List Grp}(h:DnI L k)(d:∀c,0<c->c<L.length->(c-1)/2=k->bg (L.getD c g0) (L.getD k g0)=false):HP L:=by
 intro i a b;by_cases e:(i-1)/2=k
 . rw[e];exact d i a b e
 . exact h.1 i a b e
def AE{L:List Grp}(h:DnI L k)(l:k<L.length)(g:c<L.length)(d:0<c)(f:(c-1)/2=k)(o:∀i,0<i->i<L.length->(i-1)/2=k->bg (L.getD i g0) (L.getD c g0)=false)(n:bg (L.getD c g0) (L.getD k g0)=true):DnI (dA L c k) c:=by
 have m:k<c:=by omega
 have sc:=zQ (L:=L) (j:=k) g;have sk:=pp (L:=L) (i:=c) l;refine⟨?_,?_⟩
 .
  intro i i0 b a;rw[iu]at b;by_cases e:i=c
  . subst e;rw[f,sc,sk];exact qg n
  .
   by_cases p:(i-1)/2=k
   . rw[p,sk,dF e (by omega)];exact o i i0 b p
   .
    rw[dF a p];by_cases e2:i=k
    . subst e2;rw[sk];exact h.2 c d g f i0
    . rw[dF e e2];exact h.1 i i0 b p
 . intro i i0 b a _;rw[iu]at b;rw[f,sk,dF (by omega) (by omega)];have:=h.1 i i0 b (by omega);rw[a]at this;exact this
def Ou{L:List Grp}(h:HP L):∀i,i<L.length->bg (L.getD i g0) (L.getD 0 g0)=false:=by
 intro i;induction i using Nat.strongRecOn with
 | ind i ih=>
  intro a;by_cases e:i=0
  . subst e;exact ip _
  . exact jF (h i (by omega) a) (ih ((i-1)/2) (by omega) (by omega))
def RQ{L:List Grp}(h:HP L)(g:Grp):UpI (L++[g]) L.length:=by
 refine⟨?_,?_⟩
 .
  intro i i0 b d;have a:i<L.length:=by simp at b;omega
  have e1:∀k,k<L.length->(L++[g]).getD k g0=L.getD k g0:=by
   intro k c;rw[List.getD_eq_getElem?_getD,List.getElem?_append_left c,←List.getD_eq_getElem?_getD]
  rw[e1 i a,e1 _ (by omega)];exact h i i0 a
 . intro i i0 b e _;simp at b;omega
def vY(L:List Grp)(m k:Nat)(h:k<m):(L.take m).getD k g0=L.getD k g0:=by
 rw[List.getD_eq_getElem?_getD,List.getElem?_take_of_lt h,←List.getD_eq_getElem?_getD]
def TU{L:List Grp}(h:HP L):DnI ((dA L 0 (L.length-1)).take (L.length-1)) 0:=by
 refine⟨?_,fun i _ _ _ b=>absurd b (a2W 0)⟩;intro i i0 c d;have a:i<L.length-1:=by rw[a0u,iu]at c;omega
 rw[vY _ _ _ a,vY _ _ _ (by omega),dF (by omega) (by omega),dF d (by omega)];exact h i i0 (by omega)
def IF(L:List Grp)(n:Nat)(h:L.length=n+1):L=L.take n++[L.getD n g0]:=by
 have e:L.take (n+1)=L:=a0t (by omega);have h2:L.take (n+1)=L.take n++[L.getD n g0]:=by
  rw[a1e (by omega)]
  congr 2
  simp[List.getD,h]
 rw[e]at h2;exact h2
def Ny{L:List Grp}(h:0<L.length):(L.getD 0 g0 :: (dA L 0 (L.length-1)).take (L.length-1)).Perm L:=by
 have b:=jm (L:=L) (i:=0) (j:=L.length-1) h (by omega);have h2:=IF (dA L 0 (L.length-1)) (L.length-1) (by rw[iu];omega);rw[pp (by omega)]at h2;have a:(L.getD 0 g0 :: (dA L 0 (L.length-1)).take (L.length-1)).Perm ((dA L 0 (L.length-1)).take (L.length-1)++[L.getD 0 g0]):=(List.perm_append_singleton _ _).symm;rw[←h2]at a;exact a.trans b
def Ee(L:List Grp)(k j:Nat)(b:j<=k):bg (L.getD j g0) (L.getD (cU L k) g0)=false:=by
 induction k with
 | zero=>
  obtain rfl:j=0:=by omega
  exact ip _
 | succ k ih=>
  simp only[cU];cases a:bg (L.getD (k+1) g0) (L.getD (cU L k) g0)
  .
   simp only[a07,a08];by_cases e:j=k+1
   . subst e;exact a
   . exact ih (by omega)
  .
   simp only[a0Y];by_cases e:j=k+1
   . subst e;exact ip _
   . exact Ej (ih (by omega)) a
def GC(M:List Grp)(g:Grp)(a:g∈M):bg g (aF M)=false:=by
 obtain⟨i,b,rfl⟩:=a1M a;have:=Ee M (M.length-1) i (by omega);have e:M.getD i g0=M[i]:=by simp[List.getD,b]
 rw[e]at this;exact this
def tX(M:List Grp):Prop:=∀g∈M,g.fst∈g.syms
def Qe(l:List Int)(k:Nat):tX (aC l k):=by
 induction k with
 | zero=>intro g a;simp[aC]at a
 | succ k ih=>
  simp only[aC]
  split
  .
   intro g a;simp only[a03,a09]at a;rcases a with a|rfl
   . exact ih g a
   . simp
  . exact ih
def Qn{M:List Grp}(h:tX M)(c:1<M.length):tX (stepG M):=by
 have d:=dP M (by omega);intro g a;simp only[stepG,a03,a09]at a;rcases a with a|rfl
 . exact h g (bo M _ (bo _ _ a))
 .
  have b:=h _ (bP M (by omega));have hb:=h _ (bo M _ (bP (au M) (by omega)));simp only[eT,a03]
  split
  . exact .inr hb
  . exact .inl b
def Ow(l:List Int)(k:Nat)(b:k<(aC l l.length).length∨k=0):tX (az l k).1:=by
 induction k with
 | zero=>exact Qe l _
 | succ k ih=>
  have a:1<(az l k).1.length:=by have:=(cF l k (by omega)).2.2.2;omega
  exact Qn (ih (by omega)) a
def Qc{M:List Grp}(j:(bD M).Nodup)(i:tX M){x y:Grp}(b:x∈M)(a:y∈M)(e:x.fst=y.fst):x=y:=by
 induction M with
 | nil=>cases b
 | cons g M ih=>
  have k:bD (g :: M)=g.syms++bD M:=by simp[bD]
  rw[k,a3Y]at j;obtain⟨_,n2,n3⟩:=j;have c:tX M:=fun z h=>i z (by simp[h]);have f:∀z∈M,z.fst∈bD M:=fun z h=>List.mem_flatMap.2 ⟨z,h,c z h⟩;have d:g.fst∈g.syms:=i g (by simp);simp only[a02]at b a;rcases b with rfl|b
  .
   rcases a with rfl|a
   . rfl
   . exact absurd e (n3 _ d _ (f y a))
  .
   rcases a with rfl|a
   . exact absurd e.symm (n3 _ d _ (f x b))
   . exact ih n2 c b a
def Lk{x y:Grp}(h:bg x y=false)(h2:bg y x=false):x.fst=y.fst:=by
 simp only[bg,a2z,a2U,a2V]at h h2;omega
def zZ{L M:List Grp}{a:Grp}{L1:List Grp}(h:(L.map bare).Perm M)(k:L.Perm (a :: L1))(f:∀g∈L,bg g a=false)(m:0<L.length)(s:(bD M).Nodup)(r:tX M):bare a=aF M/\(L1.map bare).Perm (au M):=by
 have l:0<M.length:=by rw[←h.length_eq,a0O];exact m
 have p:a∈L:=k.mem_iff.2 (by simp);have b:bare a∈M:=h.mem_iff.1 (a2I p);have d:=bP M l;obtain⟨c,q,i⟩:=a2S.1 (h.mem_iff.2 d);have n:bg (aF M) (bare a)=false:=by rw[←i,wT];exact f c q
 have h2:=GC M (bare a) b;have e:bare a=aF M:=Qc s r b d (Lk h2 n);refine⟨e,?_⟩;have o:(bare a :: L1.map bare).Perm M:=by
  have:=(k.map bare).symm.trans h;simpa using this
 have j:=o.trans (mY M l).symm;rw[e]at j;exact j.cons_inv
def KG{M:List Grp}(b:0<M.length)(c:(bD M).Nodup):(bD (au M)).Nodup:=by
 have a:=sK (mY M b);have h2:=a.nodup_iff.2 c;have e:bD (aF M :: au M)=(aF M).syms++bD (au M):=by simp[bD]
 rw[e,a3Y]at h2;exact h2.2.1
def LF{α:Type}(f:α->Nat){A B:List α}(h:A.Perm B):(A.map f).sum=(B.map f).sum:=by
 induction h with
 | nil=>rfl
 | cons x _ ih=>simp only[a0D,a0N];omega
 | swap x y l=>simp only[a0D,a0N];omega
 | trans _ _ h1 h2=>omega
def tS:Nat->List Grp->Int
 | 0,_=>0
 | n+1,M=>if 1<M.length then(aF M).cnt+(aF (au M)).cnt+tS n (stepG M)else 0
def kF(h:0<l.getD k 0):aC l (k+1)=aC l k++[⟨l.getD k 0,(k:Int),[(k:Int)],.slice none 0 0⟩]:=by simp only[aC];rw[a0d h]
def oA(h:¬ 0<l.getD k 0):aC l (k+1)=aC l k:=by simp only[aC];rw[a0e h]
def krR(l:List Int)(len:Nat->Nat)(D:Nat):Nat->Nat
 | 0=>0
 | n+1=>krR l len D n+(if 0<l.getD n 0 then 2 ^ (D-len n)else 0)
def rQ(l:List Int)(k:Nat):∀g∈aC l k,0<=g.cnt/\∃i:Nat,g.fst=(i:Int)/\i<k/\0<l.getD i 0/\g.cnt=l.getD i 0/\g.syms=[(i:Int)]:=by
 induction k with
 | zero=>intro g a;simp[aC]at a
 | succ k ih=>
  intro g a;by_cases d:0<l.getD k 0
  .
   rw[kF d]at a;simp only[a03,a09]at a;rcases a with a|rfl
   . obtain⟨b,i,h2,e,c⟩:=ih g a;exact⟨b,i,h2,by omega,c⟩
   . exact⟨by simp only;omega,k,rfl,by omega,d,rfl,rfl⟩
  . rw[oA d]at a;obtain⟨b,i,h2,e,c⟩:=ih g a;exact⟨b,i,h2,by omega,c⟩
def yr(l:List Int)(len:Nat->Nat)(D k:Nat):((bD (aC l k)).map fun s=>2 ^ (D-len s.toNat)).sum=krR l len D k:=by
 induction k with
 | zero=>rfl
 | succ k ih=>
  simp only[krR];by_cases h:0<l.getD k 0
  . rw[a0d h,←ih,kF h];simp[bD]
  . rw[a0e h,←ih,oA h];simp
def Dy(l:List Int)(k:Nat)(x:Int):x∈bD (aC l k)<->∃i:Nat,x=(i:Int)/\i<k/\0<l.getD i 0:=by
 constructor
 . intro h;obtain⟨g,d,a⟩:=List.mem_flatMap.1 h;obtain⟨_,i,j,h2,b,_,c⟩:=rQ l k g d;rw[c]at a;simp only[a09]at a;exact⟨i,a,h2,b⟩
 .
  rintro⟨i,rfl,m,f⟩;induction k with
  | zero=>omega
  | succ k ih=>
   by_cases e:i=k
   . subst e;rw[kF f];simp[bD]
   .
    have:=ih (by omega);by_cases h:0<l.getD k 0
    . rw[kF h];simp only[bD,a1B,a03];exact .inl this
    . rw[oA h];exact this
/-! What holds behind so many steps. -/
def lR(l s:List Int):Int:=(s.map fun x=>l.getD x.toNat 0).sum
def pN(l a b:List Int):lR l (a++b)=lR l a+lR l b:=by simp[lR]
def Jd(l:List Int)(k:Nat)(j:k<(aC l l.length).length∨k=0):∀g∈(az l k).1,g.cnt=lR l g.syms:=by
 induction k with
 | zero=>
  intro g b;obtain⟨_,i,f,h2,h,d,e⟩:=rQ l l.length g b;rw[d,e];simp[lR]
 | succ k ih=>
  have c:1<(az l k).1.length:=by have:=(cF l k (by omega)).2.2.2;omega
  have m:=dP (az l k).1 (by omega);have ih':=ih (by omega);intro g b;have a:g∈stepG (az l k).1:=b;simp only[stepG,a03,a09]at a;rcases a with a|rfl
  . exact ih' g (bo _ _ (bo _ _ a))
  . simp only[eT];rw[pN,ih' _ (bP _ (by omega)),ih' _ (bo _ _ (bP (au _) (by omega)))]
def qX(l o:List Int):Nat->Int
 | 0=>0
 | n+1=>qX l o n+l.getD n 0*o.getD n 0
def Kp(l o:List Int)(s:Int)(a:0<=s)(n:Nat)(b:n<=o.length):qX l (gN o s) n=qX l o n+(if s<(n:Int)then l.getD s.toNat 0 else 0):=by
 induction n with
 | zero=>simp only[qX];rw[a0e (by omega)];rfl
 | succ n ih=>
  simp only[qX];rw[ih (by omega),yT o s n a (by omega)];by_cases e:s=(n:Int)
  . subst e;rw[a0e (by omega),a0d rfl,a0d (by omega),Int.mul_add,Int.mul_one,a0n];omega
  .
   rw[a0e e,Int.add_zero];by_cases h:s<(n:Int)
   . rw[a0d h,a0d (by omega)];omega
   . rw[a0e h,a0e (by omega)];omega
def NH(l s:List Int)(n:Nat):∀(o:List Int),n<=o.length->(∀x∈s,0<=x/\x<(n:Int))->qX l (bump o s) n=qX l o n+lR l s:=by
 induction s with
 | nil=>intro o _ _;simp[bump,lR]
 | cons x s ih=>
  intro o b a;show qX l (bump (gN o x) s) n=_;rw[ih (gN o x) (by rw[oK];exact b) (fun y c=>a y (by simp[c])),Kp l o x (a x (by simp)).1 n b,a0d (a x (by simp)).2];simp only[lR,a0D,a0N];omega
def NI(l:List Int)(m n:Nat):qX l (List.replicate m 0) n=0:=by
 induction n with
 | zero=>rfl
 | succ n ih=>
  simp only[qX];rw[ih];have:(List.replicate m (0:Int)).getD n 0=0:=by
   rw[List.getD_eq_getElem?_getD,List.getElem?_replicate]
   split<;>rfl
  rw[this];omega
def RV(l:List Int)(k:Nat)(i:k<(aC l l.length).length∨k=0):qX l (az l k).2 l.length+tS ((aC l l.length).length-1-k) (az l k).1=tS ((aC l l.length).length-1) (aC l l.length):=by
 induction k with
 | zero=>
  show qX l (List.replicate l.length 0) l.length+tS _ (aC l l.length)=_;rw[NI,Int.zero_add,a3g]
 | succ k ih=>
  have ih':=ih (by omega);have a:1<(az l k).1.length:=by have:=(cF l k (by omega)).2.2.2;omega
  have j:=dP (az l k).1 (by omega);obtain⟨m,hm⟩:∃m,(aC l l.length).length-1-k=m+1:=⟨(aC l l.length).length-1-k-1,by omega⟩;have b:(aC l l.length).length-1-(k+1)=m:=by omega
  rw[hm]at ih';rw[b];simp only[tS]at ih';rw[a0d a]at ih';have c:∀x∈bp (az l k).1,0<=x/\x<(l.length:Int):=by
   intro x h;have g:=(i6 l k (by omega)).2;exact g x ((kT _ a).mem_iff.1 (by simp[h]))
  have d:=NH l (bp (az l k).1) l.length (az l k).2 (by rw[fj];exact a0a _) c;have h2:=Jd l k (by omega) _ (bP (az l k).1 (by omega));have e:=Jd l k (by omega) _ (bo _ _ (bP (au (az l k).1) (by omega)));have f:lR l (bp (az l k).1)=(aF (az l k).1).cnt+(aF (au (az l k).1)).cnt:=by
   unfold bp;rw[pN,←h2,←e]
  show qX l (bump (az l k).2 (bp (az l k).1)) l.length+tS m (stepG (az l k).1)=_;rw[d,f];omega
def qe(o s:List Int)(D:Nat):Nat:=(s.map fun x=>2 ^ (D-(o.getD x.toNat 0).toNat)).sum
def D3(o a b:List Int)(D:Nat):qe o (a++b) D=qe o a D+qe o b D:=by simp[qe]
def KR{o o' s:List Int}{D:Nat}(h:∀x∈s,o'.getD x.toNat 0=o.getD x.toNat 0):qe o' s D=qe o s D:=by
 unfold qe
 congr 1
 apply List.map_congr_left;intro x a;rw[h x a]
def KQ{o o' s:List Int}{D:Nat}(h:∀x∈s,0<=o.getD x.toNat 0/\o.getD x.toNat 0<(D:Int)/\o'.getD x.toNat 0=o.getD x.toNat 0+1):2*qe o' s D=qe o s D:=by
 induction s with
 | nil=>rfl
 | cons x s ih=>
  have ih':=ih (fun y c=>h y (by simp[c]));obtain⟨e,h2,b⟩:=h x (by simp);simp only[qe,a0D,a0N]at ih' ⊢;rw[b];obtain⟨d,hd⟩:∃d,D-(o.getD x.toNat 0).toNat=d+1:=⟨D-(o.getD x.toNat 0).toNat-1,by omega⟩;have a:D-(o.getD x.toNat 0+1).toNat=d:=by omega
  rw[hd,a,a1x];omega
def RY(l:List Int)(D:Nat)(A:(aC l l.length).length<=D)(k:Nat)(B:k<(aC l l.length).length∨k=0):∀g∈(az l k).1,qe (az l k).2 g.syms D=2 ^ D:=by
 induction k with
 | zero=>
  intro g m;obtain⟨_,i,q,h2,w,z,r⟩:=rQ l l.length g m;rw[r];show qe (List.replicate l.length 0) [(i:Int)] D=2 ^ D;simp[qe,List.getD,h2]
 | succ k ih=>
  have c:1<(az l k).1.length:=by have:=(cF l k (by omega)).2.2.2;omega
  have C:=dP (az l k).1 (by omega);have ih':=ih (by omega);have d:=i6 l k (by omega);obtain⟨n,h⟩:=kS c d.1;have f:=mO l k (by omega);have j:∀x∈bp (az l k).1,0<=x/\x<(l.length:Int):=fun x e=>d.2 x ((kT _ c).mem_iff.1 (by simp[e]));have b:=fun(x:Int) (h0:0<=x) (q:x<(l.length:Int))=>nG (az l k).2 (bp (az l k).1) x.toNat n (fun y v=>(j y v).1) (by rw[fj];omega);intro g m;show qe (bump (az l k).2 (bp (az l k).1)) g.syms D=2 ^ D;have a:g∈stepG (az l k).1:=m;simp only[stepG,a03,a09]at a;rcases a with a|rfl
  .
   rw[KR (o:=(az l k).2)]
   . exact ih' g (bo _ _ (bo _ _ a))
   . intro x e;have p:x∈bD (az l k).1:=List.mem_flatMap.2 ⟨g,bo _ _ (bo _ _ a),e⟩;obtain⟨x0,x1⟩:=d.2 x p;rw[b x x0 x1,a3m x0,a0e (h g a x e),Int.add_zero]
  .
   have u:(eT (aF (az l k).1) (aF (au (az l k).1))).syms=bp (az l k).1:=rfl;rw[u];have t:=KQ (o:=(az l k).2) (o':=bump (az l k).2 (bp (az l k).1)) (s:=bp (az l k).1) (D:=D) (by
    intro x e;obtain⟨x0,x1⟩:=j x e;have hd:=f x.toNat (by rw[fj];omega);refine⟨hd.1,by omega,?_⟩;rw[b x x0 x1,a3m x0,a0d e])
   have h2:qe (az l k).2 (bp (az l k).1) D=2 ^ D+2 ^ D:=by
    unfold bp;rw[D3,ih' _ (bP _ (by omega)),ih' _ (bo _ _ (bP (au _) (by omega)))]
   omega
open Corb
def dw(w:World)(b base:Nat)(v:Value)(L:List Grp):Prop:=w.heap[b]?=some (Obj.cells #[v] 320)/\dr 300 w base v L
def dw.cell{base:Nat}{L:List Grp}(h:dw w b base v L):w.cell? ⟨b,0,none⟩=some v:=by simp[World.cell?,h.1]
def dw.frz{base:Nat}{L:List Grp}(h:dw w b base v L):w.frozen? ⟨b,0,none⟩=false:=by simp[World.frozen?,h.1]
def dw.lt{base:Nat}{L:List Grp}(h:dw w b base v L):b<w.heap.size:=(Array.getElem?_eq_some_iff.1 h.1).1
def km(b base n cap:Nat)(a:Option Addr)(L:List Grp)(w:World)(h:dw w b base (.slice a n cap) L) :
  Calls prog 218 #[.pointer b] w fun e w'=>e = .returned (.int .i64 (n:Nat))/\w'=w:=by
 have c0:=h.cell;clear h;go_enter func218,ntmps218;go_wp2;go_ret;exact⟨rfl,rfl⟩
def kH(b base ob g n cap i j:Nat)(L:List Grp)(w:World)(d:eH w ob L)(f:L.length=n)(t:n<=300)(h:dw w b base (.slice g n cap) L)(l:i<n)(m:j<n) :
  Ds 328 #[.pointer b,i,j] w (.bool (bg (L.getD i g0) (L.getD j g0))):=by
 have c0:=h.cell;obtain⟨a0,a1,a2,_,z⟩:=h.2.at f i l;obtain⟨o,p,k,_,_⟩:=h.2.at f j m;have q:b<w.heap.size:=World.block_lt_of_cell? w ⟨b,0,none⟩ c0;obtain⟨xa,xq,a⟩:=(d (L.getD i g0) (gT L i (by omega))).form;obtain⟨ya,yq,c⟩:=(d (L.getD j g0) (gT L j (by omega))).form;have r:(i:Int)<(n:Int):=by omega
 have s:(j:Int)<(n:Int):=by omega
 have u:(n:Int)<=300:=by omega
 rw[a]at a2;rw[c]at k;clear h f t l m a c d;generalize L.getD i g0=x,L.getD j g0=y at *;obtain⟨xc,xf,xs,xv⟩:=x;obtain⟨yc,yf,ys,yv⟩:=y;simp only at a0 a1 a2 o p k;generalize xs.length=xn,ys.length=yn at *;go_enter func328,ntmps328;go_wp2_with fail
 go_region
 all_goals
  by_cases e:xc=yc
  . subst e;go_wp2;go_ret;exact⟨congrArg (fun x=>Ending.returned (.bool x)) (by simp[bg]),(cC.alloc (by simp) _).drew⟩
  .
   have v:(xc == yc)=false:=by simpa using e
   go_wp2;go_ret;exact⟨congrArg (fun x=>Ending.returned (.bool x)) (by simp[bg,e]),(cC.alloc (by simp) _).drew⟩
def bR.ints{base:Nat}(h:bR 3 w w')(a:an w base v l):an w' base v l:=h.own a
def bR.syms{l:List Grp}(h:bR 3 w w')(b:eH w ob l):eH w' ob l:=fun g a=>h.ints (b g a)
def eH.perm{l m:List Grp}(h:eH w ob l)(b:m.Perm l):eH w ob m:=fun g a=>h g (b.mem_iff.1 a)
def bU(g:Nat)(w w':World):Prop:=bR 3 w w'/\w.heap.size<=w'.heap.size/\∀k,k<w.heap.size->k≠g->w'.heap[k]?=w.heap[k]?
def bU.refl(g:Nat)(w:World):bU g w w:=⟨bR.refl _ _,a0a _,fun _ _ _=>rfl⟩
def bU.trans{w1 w2:World}(h:bU g w w1)(k:bU g w1 w2):bU g w w2:=
 ⟨h.1.trans k.1,a0E h.2.1 k.2.1,fun j b a=>(k.2.2 j (a0h b h.2.1) a).trans (h.2.2 j b a)⟩
def bU.below(h:Below w.heap.size w w'):bU g w w':=⟨bR.below h,h.size,fun j a _=>h.block j a⟩
def bU.syms{l:List Grp}(h:bU g w w')(a:eH w ob l):eH w' ob l:=h.1.syms a
def bU.drew(h:bU g w w'):bU g w w'.drew:=h
def bU.touch{t':TypeId}{c:Array Value}{f:Nat×Nat}(d:w.heap[g]?=some (.cells c t' f))(a:3≠t')(b:Touch (some ⟨g,0,none⟩) w w'):bU g w w':=
 ⟨bR.touch d a b,Nat.le_of_eq b.1.symm,fun j _ h=>b.2 j (fun g' e=>by simp only[a0l,a0A,a0Q]at e;omega)⟩
def II(l:List Grp)(j:Nat)(x:Grp):(((aS l).set (j*3) (.int .i64 x.cnt)).set (j*3+1) (.int .i64 x.fst)).set (j*3+2) x.val=aS (l.set j x):=by
 induction l generalizing j with
 | nil=>simp[aS]
 | cons p l ih=>
  cases j with
  | zero=>simp[aS]
  | succ j=>
   rw[show(j+1)*3=j*3+1+1+1 by omega];simp only[aS,List.set_cons_succ];rw[ih j]
def dr.put{base cap:Nat}{l:List Grp}(c:l.length=n)(h:dr t w base (.slice g n cap) l)(j:Nat)(x:Grp) :
  dr t (((w.setCell ⟨g,j*3,none⟩ (.int .i64 x.cnt)).setCell ⟨g,j*3+1,none⟩ (.int .i64 x.fst)).setCell ⟨g,j*3+2,none⟩ x.val) base (.slice g n cap) (l.set j x):=by
 subst c;have b:=(a2u h (j*3) (.int .i64 x.cnt)).1;have h2:=(a2u b (j*3+1) (.int .i64 x.fst)).1;have a:=(a2u h2 (j*3+2) x.val).1;rw[II]at a;show World.ownsRow _ _ _ _ _ (l.set j x).length _;rw[a00];exact a
def dr.frozen{base cap:Nat}{l:List Grp}(a:l.length=n)(h:dr t w base (.slice g n cap) l)(j:Nat):w.frozen? ⟨g,j,none⟩=false:=by
 subst a;exact a2O h j
def dr.drew{base:Nat}{l:List Grp}(h:dr t w base v l):dr t w.drew base v l:=h
def dw.drew{base:Nat}{L:List Grp}(h:dw w b base v L):dw w.drew b base v L:=⟨h.1,h.2.drew⟩
def oF(b base ob g n cap i j:Nat)(L:List Grp)(w:World)(u:eH w ob L)(a:L.length=n)(V:n<=300)(h:dw w b base (.slice g n cap) L)(O:b<base)(B:i<n)(C:j<n) :
  Calls prog 251 #[.pointer b,i,j] w fun e w'=>e = .returned (.tuple #[])/\dw w' b base (.slice g n cap) (dA L i j)/\Below b w w'/\bU g w w':=by
 have c0:=h.cell;have R:=(a0z h.2 g rfl).1;have v:b≠g:=by omega
 obtain⟨gc,q⟩:=LL (n:=n) (by have h2:=h.2;unfold dr at h2;rw[a]at h2;exact h2) rfl;have s:=af q;clear q;obtain⟨a0,a1,a2,_,X⟩:=h.2.at a i B;obtain⟨K,M,A,_,_⟩:=h.2.at a j C;have f0:=h.2.frozen a (i*3);have f1:=h.2.frozen a (i*3+1);have f2:=h.2.frozen a (i*3+2);have k0:=h.2.frozen a (j*3);have Y:=h.2.frozen a (j*3+1);have Z:=h.2.frozen a (j*3+2);have P:b<w.heap.size:=World.block_lt_of_cell? w ⟨b,0,none⟩ c0;obtain⟨xa,xq,d⟩:=(u (L.getD i g0) (gT L i (by omega))).form;obtain⟨ya,yq,f⟩:=(u (L.getD j g0) (gT L j (by omega))).form;have S:(i:Int)<(n:Int):=by omega
 have T:(j:Int)<(n:Int):=by omega
 have W:(n:Int)<=300:=by omega
 rw[d]at a2;rw[f]at A;have H:=af h;have z:=af a;clear h a V B C u;have F:=af d;have G:=af f;have Q:g≠b:=fun e=>v e.symm;clear d f;generalize D:L.getD i g0=x,E:L.getD j g0=y at *;obtain⟨xc,xf,xs,xv⟩:=x;obtain⟨yc,yf,ys,yv⟩:=y;simp only at a0 a1 a2 K M A;generalize xs.length=xn,ys.length=yn at *;have I:=af D;have J:=af E;clear D E;go_enter func251,ntmps251;go_wp2_with fail;have ex:Hid (L.getD i g0=⟨xc,xf,xs,.slice xa xn xq⟩):=by
  have e:xv = .slice xa xn xq:=ae F;show L.getD i g0=_;rw[ae I,e]
 have ey:Hid (L.getD j g0=⟨yc,yf,ys,.slice ya yn yq⟩):=by
  have e:yv = .slice ya yn yq:=ae G;show L.getD j g0=_;rw[ae J,e]
 have N:=af (dr.put (by rw[a00];exact z) (dr.put z H.2 i ⟨yc,yf,ys,.slice ya yn yq⟩) j ⟨xc,xf,xs,.slice xa xn xq⟩);have p:=af (((((((Touch.refl (some ⟨g,0,none⟩) w).set (o:=i*3) rfl (.int .i64 yc)).set (o:=i*3+1) rfl (.int .i64 yf)).set (o:=i*3+2) rfl (.slice ya yn yq)).set (o:=j*3) rfl (.int .i64 xc)).set (o:=j*3+1) rfl (.int .i64 xf)).set (o:=j*3+2) rfl (.slice xa xn xq));have k:=af ((ai (ai (ai (ai (ai (ai (a0c b w) (b:=g) (o:=i*3) (by omega) (.int .i64 yc)) (b:=g) (o:=i*3+1) (by omega) (.int .i64 yf)) (b:=g) (o:=i*3+2) (by omega) (.slice ya yn yq)) (b:=g) (o:=j*3) (by omega) (.int .i64 xc)) (b:=g) (o:=j*3+1) (by omega) (.int .i64 xf)) (b:=g) (o:=j*3+2) (by omega) (.slice xa xn xq)));have l:=af (bU.touch s (by decide) p);have t:=af ((p.2 b (fun g' e=>by simp only[a0l,a0A,a0Q]at e;omega)).trans H.1);have c:Hid (dw ((((((w.setCell ⟨g,i*3,none⟩ (.int .i64 yc)).setCell ⟨g,i*3+1,none⟩ (.int .i64 yf)).setCell ⟨g,i*3+2,none⟩ (.slice ya yn yq)).setCell ⟨g,j*3,none⟩ (.int .i64 xc)).setCell ⟨g,j*3+1,none⟩ (.int .i64 xf)).setCell ⟨g,j*3+2,none⟩ (.slice xa xn xq)) b base (.slice g n cap) ((L.set i ⟨yc,yf,ys,.slice ya yn yq⟩).set j ⟨xc,xf,xs,.slice xa xn xq⟩)):=⟨t,N⟩;clear H;have m:Hid (dA L i j=(L.set i ⟨yc,yf,ys,.slice ya yn yq⟩).set j ⟨xc,xf,xs,.slice xa xn xq⟩):=by
  show dA L i j=_;unfold dA;rw[ae ex,ae ey]
 by_cases r:i=j
 .
  subst r;have exy:=ex.symm.trans ey;simp only[Grp.mk.injEq,a0L]at exy;obtain⟨rfl,rfl,rfl,rfl,rfl,rfl⟩:=exy
  go_region
  all_goals
   go_wp2
   go_end0
   refine⟨rfl,?_,k.drew,l.drew⟩;rw[ae m];exact c.drew
 .
  have U:¬ j=i:=fun e=>r e.symm;have q1:¬ j*3=i*3+1:=by omega
  have q2:¬ j*3=i*3+2:=by omega
  have q3:¬ j*3+1=i*3:=by omega
  have q4:¬ j*3+1=i*3+2:=by omega
  have q5:¬ j*3+2=i*3:=by omega
  have q6:¬ j*3+2=i*3+1:=by omega
  have q7:¬ j*3=i*3:=by omega
  have q8:¬ j*3+1=i*3+1:=by omega
  have q9:¬ j*3+2=i*3+2:=by omega
  go_region
  all_goals
   go_wp2
   go_end0
   refine⟨rfl,?_,k.drew,l.drew⟩;rw[ae m];exact c.drew
def Pg(a:Addr)(w:World):(method 487 297 (.pointer (some a)) "loop.example/corbel/impl.size").run prog w = .ok (218,.pointer (some a)) w:=by kernel_rfl
def xj(a:Addr)(w:World):(method 487 297 (.pointer (some a)) "loop.example/corbel/impl.before").run prog w = .ok (328,.pointer (some a)) w:=by kernel_rfl
def EA(a:Addr)(w:World):(method 487 297 (.pointer (some a)) "loop.example/corbel/impl.swap").run prog w = .ok (251,.pointer (some a)) w:=by kernel_rfl
def dw.later{base:Nat}{L:List Grp}(h:dw w b base v L)(hb:Below w.heap.size w w'):dw w' b base v L:=
 ⟨(hb.block b h.lt).trans h.1,h.2.later hb (a0a _)⟩
def Bc(b g n cap p:Nat)(L:List Grp)(w:World)(D:eH w (b+1) L)(F:L.length=n)(E:n<=300)(h:dw w b (b+1) (.slice g n cap) L)(G:p<n)(l:UpI L p) :
  Calls prog 253 #[.iface 297 (.pointer b),p] w fun e w'=>e = .returned (.tuple #[])/\∃M:List Grp,M.Perm L/\HP M/\dw w' b (b+1) (.slice g n cap) M/\Below b w w'/\bU g w w':=by
 have m1:=xj ⟨b,0,none⟩;have m2:=EA ⟨b,0,none⟩;have N:(n:Int)<=300:=by omega
 have C:=af D;have x:=af (a0b F E);have u:=af (a0b h (a0b G l));clear D F E h G l;go_enter func253,ntmps253;go_wp2_with fail
 go_loopw [1] (fun p wr=>∃(k:Nat) (M:List Grp),p = .int .i64 k/\k<n/\M.Perm L/\UpI M k/\dw wr b (b+1) (.slice g n cap) M/\Below b w wr/\bU g w wr) (fun p _=>(intOf p).toNat)
 case atStart=>exact⟨p,L,rfl,u.2.1,a2x _,u.2.2,u.1,a0c _ _,bU.refl _ _⟩
 case round=>
  obtain⟨k,M,rfl,m,i,l,j,a,c⟩:=hrel;have K:(k:Int)<(n:Int):=by omega
  have d:M.length=n:=i.length_eq.trans x.1;have t:=af (a0b m (a0b i (a0b l (a0b j (a0b a (a0b c d))))));by_cases I:k=0
  .
   subst I;clear m i l j a c d;go_wp2
   go_end0
   obtain⟨m,i,l,j,a,c,d⟩:=ae t;exact⟨rfl,M,i,QI l (.inl rfl),j,a,c⟩
  .
   have B:eH wr (b+1) M:=(c.syms C).perm i;obtain⟨q,hq⟩:∃q,q=(k-1)/2:=⟨_,rfl⟩;have P:((k:Int)-1)/2=(q:Int):=(by omega);have O:(q:Int)<(n:Int):=(by omega);have J:(1:Int)<=(k:Int):=(by omega);have s:=af (kH b (b+1) (b+1) g n cap k q M wr B d x.2 j m (by omega));have o:=af hq;clear m i l j a c d hq;cases r:bg (M.getD k g0) (M.getD q g0)
   .
    rw[r]at s;have v:=af r;clear r;go_wp2_with fail;apply s.mono;rintro e x1⟨rfl,f⟩;go_wp2
    go_end0
    obtain⟨m,i,l,j,a,c,d⟩:=ae t;exact⟨rfl,M,i,QI l (.inr (by rw[←ae o];exact v)),j.later f,a.trans (f.mono (a0s (j.lt))),c.trans (bU.below f)⟩
   .
    rw[r]at s;have v:=af r;clear r;go_wp2_with fail;apply s.mono;rintro e x1⟨rfl,f⟩;have H:Hid (Calls prog 251 #[.pointer b,k,q] x1 fun e w'=>e = .returned (.tuple #[])/\dw w' b (b+1) (.slice g n cap) (dA M k q)/\Below b x1 w'/\bU g x1 w'):=by
     obtain⟨m,i,l,j,a,c,d⟩:=ae t;exact oF b (b+1) (b+1) g n cap k q M x1 (((c.trans (bU.below f)).syms C).perm i) d x.2 (j.later f) (a0j _) m (by omega)
    go_wp2_with fail;apply H.mono;rintro e x2⟨rfl,z,y,A⟩;go_wp2;go_roundw
    case rel=>
     obtain⟨m,i,l,j,a,c,d⟩:=ae t;have hq:=ae o;refine⟨q,dA M k q,by first|rfl|go_num,by omega,(jm (by omega) (by omega)).trans i,?_,z,(a.trans (f.mono (a0s (j.lt)))).trans y,(c.trans (bU.below f)).trans A⟩;subst hq;exact Ta l (by omega) (by omega) v
    case measure=>
     have hq:=ae o;simp[intOf];omega
def Cc{L:List Grp}(b:(c=2*k+1/\(L.length<=2*k+2∨bg (L.getD (2*k+2) g0) (L.getD (2*k+1) g0)=false))∨(c=2*k+2/\bg (L.getD (2*k+2) g0) (L.getD (2*k+1) g0)=true)) :
  ∀i,0<i->i<L.length->(i-1)/2=k->bg (L.getD i g0) (L.getD c g0)=false:=by
 intro i i0 d e;have a:i=2*k+1∨i=2*k+2:=by omega
 rcases b with⟨rfl,h|h⟩|⟨rfl,h⟩
 .
  rcases a with rfl|rfl
  . exact ip _
  . omega
 .
  rcases a with rfl|rfl
  . exact ip _
  . exact h
 .
  rcases a with rfl|rfl
  . exact qg h
  . exact ip _
def Be(b g n cap p:Nat)(L:List Grp)(w:World)(X:eH w (b+1) L)(hn:L.length=n)(hm:n<=300)(h:dw w b (b+1) (.slice g n cap) L)(G:p<=n)(r:DnI L p) :
  Calls prog 252 #[.iface 297 (.pointer b),p] w fun e w'=>e = .returned (.tuple #[])/\∃M:List Grp,M.Perm L/\HP M/\dw w' b (b+1) (.slice g n cap) M/\Below b w w'/\bU g w w':=by
 have m1:=xj ⟨b,0,none⟩;have m2:=EA ⟨b,0,none⟩;have m3:=Pg ⟨b,0,none⟩;have ab:(n:Int)<=300:=by omega
 have J:=af X;have I:=af (a0b hn hm);have T:=af (a0b h (a0b G r));clear X hn hm h G r;go_enter func252,ntmps252;go_wp2_with fail
 go_loopw [1,4] (fun p _ wr=>∃(k:Nat) (M:List Grp),p = .int .i64 k/\k<=n/\M.Perm L/\DnI M k/\dw wr b (b+1) (.slice g n cap) M/\Below b w wr/\bU g w wr) (fun p _ _=>n-(intOf p).toNat)
 case atStart=>exact⟨p,L,rfl,T.2.1,a2x _,T.2.2,T.1,a0c _ _,bU.refl _ _⟩
 case round=>
  obtain⟨k,M,rfl,v,o,r,t,a,j⟩:=hrel;have aa:(k:Int)<=(n:Int):=by omega
  have d:M.length=n:=o.length_eq.trans I.1;have z:=af (a0b v (a0b o (a0b r (a0b t (a0b a (a0b j d))))));have K:=af (km b (b+1) n cap _ M wr t);have H:eH wr (b+1) M:=(j.syms J).perm o;obtain⟨c1,D⟩:∃q,q=2*k+1:=⟨_,rfl⟩;have Y:2*(k:Int)+1=(c1:Int):=by omega
  have x:=af D;by_cases S:c1<n
  .
   have V:(c1:Int)<(n:Int):=(by omega);obtain⟨c2,hc2⟩:∃q,q=2*k+2:=⟨_,rfl⟩;have Z:(c1:Int)+1=(c2:Int):=(by omega);have B:=af hc2;by_cases h2:c2<n
   .
    have W:(c2:Int)<(n:Int):=(by omega);have R:=af (kH b (b+1) (b+1) g n cap c2 c1 M wr H d I.2 t h2 S);clear v o r t a j d D hc2 S h2 H;cases O:bg (M.getD c2 g0) (M.getD c1 g0)
    .
     rw[O]at R;have U:=af O;clear O;go_wp2_with fail;apply K.mono;rintro e y1⟨rfl,m⟩;rw[m];clear m y1;go_wp2_with fail;apply K.mono;rintro e y1⟨rfl,m⟩;rw[m];clear m y1;go_wp2_with fail;apply R.mono;rintro e x1⟨rfl,A⟩;have y:Hid (dw x1 b (b+1) (.slice g n cap) M/\Below b w x1/\bU g w x1/\c1<n/\0<c1/\(c1-1)/2=k/\(∀i,0<i->i<M.length->(i-1)/2=k->bg (M.getD i g0) (M.getD c1 g0)=false)):=by
      obtain⟨v,o,r,t,a,j,d⟩:=ae z;refine⟨(t.later A),(a.trans (A.mono (a0s (t.lt)))),(j.trans (bU.below A)),by omega,?_,?_,Cc (k:=k) (.inl ⟨x,.inr (by rw[←ae x,←ae B];exact U)⟩)⟩
      . have:=ae x;omega
      . have:=ae x;omega
     have s:Hid (Calls prog 328 #[.pointer b,c1,k] x1 fun e w'=>e = .returned (.bool (bg (M.getD c1 g0) (M.getD k g0)))/\Below (x1).heap.size x1 w'):=by
      obtain⟨v,o,r,t,a,j,d⟩:=ae z;obtain⟨xh,xb,xk,xc,xc0,xp,xm⟩:=ae y;exact kH b (b+1) (b+1) g n cap c1 k M x1 ((xk.syms J).perm o) d I.2 xh xc (by omega)
     cases l:bg (M.getD c1 g0) (M.getD k g0)
     . rw[l]at s;have u:=af l;clear l;go_wp2_with fail;apply s.mono;rintro e x2⟨rfl,f⟩;go_wp2;refine a0x (a3n rfl _ _ _) rfl ?_;obtain⟨v,o,r,t,a,j,d⟩:=ae z;obtain⟨xh,xb,xk,xc,xc0,xp,xm⟩:=ae y;exact⟨rfl,M,o,AD r (fun c c0 N G=>jF (xm c c0 N G) u),xh.later f,xb.trans (f.mono (a0s (xh.lt))),xk.trans (bU.below f)⟩
     .
      rw[l]at s;have u:=af l;clear l;go_wp2_with fail;apply s.mono;rintro e x2⟨rfl,f⟩;have P:Hid (Calls prog 251 #[.pointer b,c1,k] x2 fun e w'=>e = .returned (.tuple #[])/\dw w' b (b+1) (.slice g n cap) (dA M c1 k)/\Below b x2 w'/\bU g x2 w'):=by
       obtain⟨v,o,r,t,a,j,d⟩:=ae z;obtain⟨xh,xb,xk,xc,xc0,xp,xm⟩:=ae y;exact oF b (b+1) (b+1) g n cap c1 k M x2 (((xk.trans (bU.below f)).syms J).perm o) d I.2 (xh.later f) (a0j _) xc (by omega)
      go_wp2_with fail;apply P.mono;rintro e x3⟨rfl,E,C,F⟩;go_wp2;go_roundw
      case rel=>
       obtain⟨v,o,r,t,a,j,d⟩:=ae z;obtain⟨xh,xb,xk,xc,xc0,xp,xm⟩:=ae y;exact⟨c1,dA M c1 k,rfl,by omega,(jm (by omega) (by omega)).trans o,AE r (by omega) (by omega) xc0 xp xm u,E,(xb.trans (f.mono (a0s (xh.lt)))).trans C,(xk.trans (bU.below f)).trans F⟩
      case measure=>
       obtain⟨xh,xb,xk,xc,xc0,xp,xm⟩:=ae y;simp[intOf];omega
    .
     rw[O]at R;have U:=af O;clear O;go_wp2_with fail;apply K.mono;rintro e y1⟨rfl,m⟩;rw[m];clear m y1;go_wp2_with fail;apply K.mono;rintro e y1⟨rfl,m⟩;rw[m];clear m y1;go_wp2_with fail;apply R.mono;rintro e x1⟨rfl,A⟩;have y:Hid (dw x1 b (b+1) (.slice g n cap) M/\Below b w x1/\bU g w x1/\c2<n/\0<c2/\(c2-1)/2=k/\(∀i,0<i->i<M.length->(i-1)/2=k->bg (M.getD i g0) (M.getD c2 g0)=false)):=by
      obtain⟨v,o,r,t,a,j,d⟩:=ae z;refine⟨(t.later A),(a.trans (A.mono (a0s (t.lt)))),(j.trans (bU.below A)),by omega,?_,?_,Cc (k:=k) (.inr ⟨B,by rw[←ae x,←ae B];exact U⟩)⟩
      . have:=ae B;omega
      . have:=ae B;omega
     have s:Hid (Calls prog 328 #[.pointer b,c2,k] x1 fun e w'=>e = .returned (.bool (bg (M.getD c2 g0) (M.getD k g0)))/\Below (x1).heap.size x1 w'):=by
      obtain⟨v,o,r,t,a,j,d⟩:=ae z;obtain⟨xh,xb,xk,xc,xc0,xp,xm⟩:=ae y;exact kH b (b+1) (b+1) g n cap c2 k M x1 ((xk.syms J).perm o) d I.2 xh xc (by omega)
     cases l:bg (M.getD c2 g0) (M.getD k g0)
     . rw[l]at s;have u:=af l;clear l;go_wp2_with fail;apply s.mono;rintro e x2⟨rfl,f⟩;go_wp2;refine a0x (a3n rfl _ _ _) rfl ?_;obtain⟨v,o,r,t,a,j,d⟩:=ae z;obtain⟨xh,xb,xk,xc,xc0,xp,xm⟩:=ae y;exact⟨rfl,M,o,AD r (fun c c0 N G=>jF (xm c c0 N G) u),xh.later f,xb.trans (f.mono (a0s (xh.lt))),xk.trans (bU.below f)⟩
     .
      rw[l]at s;have u:=af l;clear l;go_wp2_with fail;apply s.mono;rintro e x2⟨rfl,f⟩;have P:Hid (Calls prog 251 #[.pointer b,c2,k] x2 fun e w'=>e = .returned (.tuple #[])/\dw w' b (b+1) (.slice g n cap) (dA M c2 k)/\Below b x2 w'/\bU g x2 w'):=by
       obtain⟨v,o,r,t,a,j,d⟩:=ae z;obtain⟨xh,xb,xk,xc,xc0,xp,xm⟩:=ae y;exact oF b (b+1) (b+1) g n cap c2 k M x2 (((xk.trans (bU.below f)).syms J).perm o) d I.2 (xh.later f) (a0j _) xc (by omega)
      go_wp2_with fail;apply P.mono;rintro e x3⟨rfl,E,C,F⟩;go_wp2;go_roundw
      case rel=>
       obtain⟨v,o,r,t,a,j,d⟩:=ae z;obtain⟨xh,xb,xk,xc,xc0,xp,xm⟩:=ae y;exact⟨c2,dA M c2 k,rfl,by omega,(jm (by omega) (by omega)).trans o,AE r (by omega) (by omega) xc0 xp xm u,E,(xb.trans (f.mono (a0s (xh.lt)))).trans C,(xk.trans (bU.below f)).trans F⟩
      case measure=>
       obtain⟨xh,xb,xk,xc,xc0,xp,xm⟩:=ae y;simp[intOf];omega
   .
    have W:¬ (c2:Int)<(n:Int):=(by omega);have Q:Hid (n<=c2):=by show n<=c2;omega
    clear v o r t a j d D hc2 S h2 H;go_wp2_with fail;apply K.mono;rintro e y1⟨rfl,m⟩;rw[m];clear m y1;go_wp2_with fail;apply K.mono;rintro e y1⟨rfl,m⟩;rw[m];clear m y1;have y:Hid (dw wr b (b+1) (.slice g n cap) M/\Below b w wr/\bU g w wr/\c1<n/\0<c1/\(c1-1)/2=k/\(∀i,0<i->i<M.length->(i-1)/2=k->bg (M.getD i g0) (M.getD c1 g0)=false)):=by
     obtain⟨v,o,r,t,a,j,d⟩:=ae z;refine⟨t,a,j,by omega,?_,?_,Cc (k:=k) (.inl ⟨x,.inl (by rw[d,←ae B];exact Q)⟩)⟩
     . have:=ae x;omega
     . have:=ae x;omega
    have s:Hid (Calls prog 328 #[.pointer b,c1,k] wr fun e w'=>e = .returned (.bool (bg (M.getD c1 g0) (M.getD k g0)))/\Below (wr).heap.size wr w'):=by
     obtain⟨v,o,r,t,a,j,d⟩:=ae z;obtain⟨xh,xb,xk,xc,xc0,xp,xm⟩:=ae y;exact kH b (b+1) (b+1) g n cap c1 k M wr ((xk.syms J).perm o) d I.2 xh xc (by omega)
    cases l:bg (M.getD c1 g0) (M.getD k g0)
    . rw[l]at s;have u:=af l;clear l;go_wp2_with fail;apply s.mono;rintro e x2⟨rfl,f⟩;go_wp2;refine a0x (a3n rfl _ _ _) rfl ?_;obtain⟨v,o,r,t,a,j,d⟩:=ae z;obtain⟨xh,xb,xk,xc,xc0,xp,xm⟩:=ae y;exact⟨rfl,M,o,AD r (fun c c0 N G=>jF (xm c c0 N G) u),xh.later f,xb.trans (f.mono (a0s (xh.lt))),xk.trans (bU.below f)⟩
    .
     rw[l]at s;have u:=af l;clear l;go_wp2_with fail;apply s.mono;rintro e x2⟨rfl,f⟩;have P:Hid (Calls prog 251 #[.pointer b,c1,k] x2 fun e w'=>e = .returned (.tuple #[])/\dw w' b (b+1) (.slice g n cap) (dA M c1 k)/\Below b x2 w'/\bU g x2 w'):=by
      obtain⟨v,o,r,t,a,j,d⟩:=ae z;obtain⟨xh,xb,xk,xc,xc0,xp,xm⟩:=ae y;exact oF b (b+1) (b+1) g n cap c1 k M x2 (((xk.trans (bU.below f)).syms J).perm o) d I.2 (xh.later f) (a0j _) xc (by omega)
     go_wp2_with fail;apply P.mono;rintro e x3⟨rfl,E,C,F⟩;go_wp2;go_roundw
     case rel=>
      obtain⟨v,o,r,t,a,j,d⟩:=ae z;obtain⟨xh,xb,xk,xc,xc0,xp,xm⟩:=ae y;exact⟨c1,dA M c1 k,rfl,by omega,(jm (by omega) (by omega)).trans o,AE r (by omega) (by omega) xc0 xp xm u,E,(xb.trans (f.mono (a0s (xh.lt)))).trans C,(xk.trans (bU.below f)).trans F⟩
     case measure=>
      obtain⟨xh,xb,xk,xc,xc0,xp,xm⟩:=ae y;simp[intOf];omega
  .
   have V:¬ (c1:Int)<(n:Int):=(by omega);have Q:Hid (n<=c1):=by show n<=c1;omega
   clear v o r t a j d D S H;go_wp2_with fail;apply K.mono;rintro e y1⟨rfl,m⟩;rw[m];clear m y1;go_wp2
   go_end0
   obtain⟨v,o,r,t,a,j,d⟩:=ae z;have D:=ae x;exact⟨rfl,M,o,AD r (fun c c0 N G=>by omega),t,a,j⟩
def I2(h:w.heap[b]?=some (Obj.cells #[v] t))(u:Value):(w.setCell ⟨b,0,none⟩ u).heap[b]?=some (Obj.cells #[u] t):=by
 show(w.heap.modify b _)[b]?=_;rw[Array.getElem?_modify,a0d rfl,h];simp
def Nr(h:w.heap[b]?=some (Obj.cells #[v] t)):w.cell? ⟨b,0,none⟩=some v:=by simp[World.cell?,h]
def Rf(h:w.heap[b]?=some (Obj.cells #[v] t)):w.frozen? ⟨b,0,none⟩=false:=by simp[World.frozen?,h]
def Tryz.infoGrp:(prog.info? 300).map (fun i=>(i.zero,i.size,i.bytes))=some (some (.agg #[.int .i64 0,.int .i64 0,.slice none 0 0]),3,40):=by kernel_rfl
def G8{W x1:World}{v':Value}{L:List Grp}{x:Grp}{o:Obj}(z:L.length=n)(h:dw w b (b+1) v L)(m:Below w.heap.size w W)(y:bR 3 w W)(l:x1.ownsRow (b+1) 300 3 v' (n+1) (aS L++[.int .i64 x.cnt,.int .i64 x.fst,x.val]))(a:(W.alloc o).drew.grownBy x1 v.ownBlock) :
  (∃g c,v' = .slice (some ⟨g,0,none⟩) (n+1) c)/\(x1.heap[b]?=some (Obj.cells #[v] 320))/\dw (x1.setCell ⟨b,0,none⟩ v') b (b+1) v' (L++[x])/\Below b w (x1.setCell ⟨b,0,none⟩ v')/\bR 3 w (x1.setCell ⟨b,0,none⟩ v'):=by
 have p:(W.alloc o).grownBy x1 v.ownBlock:=⟨a.os,a.tape,a.output,a.size,a.block⟩;have u:=m.size;have s:=h.lt;have t:=h.later m;have h2:dr 300 (W.alloc o) (b+1) v L:=a0o t.2 _;have j:∀k,v.ownBlock=some k->b<k:=fun k e=>(a0z h2 k e).1;have f:x1.heap[b]?=some (Obj.cells #[v] 320):=by
  rw[p.block b (by simp;omega) (fun e=>by have:=j b e.symm;omega),a1k W o b (by omega)];exact t.1
 have i:Below b w x1:=(((m.mono (a0s s)).alloc (by omega) o)).grown p (by simp;omega) (fun k e=>a0s (j k e));have r:bR 3 w x1:=(y.alloc o).grown h2 (by decide) p;subst z;have d:=tN x l;obtain⟨va,vc,e⟩:=d.formN (n:=L.length+1) (by simp);obtain⟨g,q⟩:=(show dr 300 x1 (b+1) (.slice va (L.length+1) vc) (L++[x]) by rw[←e];exact d).somes (by simp);refine⟨⟨g,vc,by rw[e,q]⟩,f,⟨I2 f v',?_⟩,ai i (a0a _) _,r.set f (by decide) _⟩;exact a3V d (a0j _) _
theorem Eb(b n cap:Nat)(a:Option Addr)(L:List Grp)(x:Grp)(w:World)(Q:eH w (b+1) L)(G:an w (b+1) x.val x.syms)(E:L.length=n)(R:n<300)(h:dw w b (b+1) (.slice a n cap) L)(S:HP L) :
  Calls prog 220 #[.pointer b,.agg #[x.cnt,x.fst,x.val]] w fun e w'=>e = .returned (.tuple #[])/\∃(M:List Grp) (g cap':Nat),M.Perm (L++[x])/\HP M/\dw w' b (b+1) (.slice g (n+1) cap') M/\Below b w w'/\bR 3 w w':=by
 obtain⟨i0,Z,H,I,J⟩:=a0p Tryz.infoGrp;have ab:(n:Int)<300:=by omega
 have aa:=h.lt;have c0:=h.cell;obtain⟨xa,xq,o⟩:=G.form;have U:=af Q;have s:=af (a0b E R);have K:=af (a0b h S);have V:=af (a0b G o);obtain⟨xc,xf,xs,xv⟩:=x;simp only at o;subst o;generalize ac:xs.length=xn at *
 have f:Hid (n+1<=maxLen/\(n+1)*40<=140737488355328):=by show _/\_;unfold maxLen;omega
 have Y:Hid (World.ownsRow ((w.alloc (.cells #[xc,xf,.slice xa xn xq] 300)).alloc (.cells #[xc,xf,.slice xa xn xq] 300)).drew (b+1) 300 3 (.slice a n cap) n (aS L)):=by
  have h2:=h.2;unfold dr at h2;rw[E]at h2;exact a0o (a0o h2 _) _
 have z:Hid (∀(j:Nat) (u:Value),[Value.int .i64 xc,.int .i64 xf,.slice xa xn xq][j]?=some u->World.cell? ((w.alloc (.cells #[xc,xf,.slice xa xn xq] 300)).alloc (.cells #[xc,xf,.slice xa xn xq] 300)).drew ((⟨w.heap.size+1,0,none⟩:Addr).add j)=some u):=tJ _ _ _ _ _ _ (by simp);have A:Hid (b+1<=((w.alloc (.cells #[xc,xf,.slice xa xn xq] 300)).alloc (.cells #[xc,xf,.slice xa xn xq] 300)).drew.heap.size):=by show b+1<=((w.alloc (.cells #[xc,xf,.slice xa xn xq] 300)).alloc (.cells #[xc,xf,.slice xa xn xq] 300)).drew.heap.size;simp;omega
 clear Q E R h S G;go_enter func220,ntmps220;go_wp2_with fail
 go_region_law (refine aL rfl (.tmp 8) (.tmp 10) 318 rfl (b+1) 300 i0 (.agg #[.int .i64 0,.int .i64 0,.slice none 0 0]) 3 40 underlying318 Z H I J rfl (by decide) _ _ _ rfl (ae Y) ⟨w.heap.size+1,0,none⟩ 1 1 [.int .i64 xc,.int .i64 xf,.slice xa xn xq] rfl rfl (ae z) (tK _ _ _ _ _) (ae f).1 (ae f).2 (ae A) ?_;intro v' w' k c q;clear q;have O:=af (G8 (x:=⟨xc,xf,xs,.slice xa xn xq⟩) (ae s).1 (ae K).1 cC ((bR.refl _ _).alloc _) k c);obtain⟨⟨g',v,F⟩,t,N⟩:=(ae O);subst F;clear k c O;have c1:=Nr t;have f1:=Rf t;have p:=af N;clear N t)
 all_goals
  go_wp2_with fail;obtain⟨i,m,d⟩:=ae p;have l:=(d.syms (ae U)).snoc (g:=⟨xc,xf,xs,.slice xa xn xq⟩) (d.ints (ae V).1);have W:=af (km b (b+1) (n+1) v (some ⟨g',0,none⟩) _ _ i);have T:=af (Bc b g' (n+1) v n _ _ l (by rw[a0i,(ae s).1];rfl) (by have:=(ae s).2;omega) i (a0j _) (by have P:=RQ (ae K).2 ⟨xc,xf,xs,.slice xa xn xq⟩;rw[(ae s).1]at P;exact P));clear i m d l;refine(ae W).mono ?_;rintro e y1⟨rfl,r⟩;rw[r];clear r y1;go_wp2_with fail;refine(ae T).mono ?_;rintro e x3⟨rfl,M,X,y,C,B,D⟩;go_wp2
  go_end0
  obtain⟨i,m,d⟩:=ae p;exact⟨rfl,M,g',v,X,y,C,m.trans B,d.trans D.1⟩
def RN(g n cap k:Nat)(d:k<=cap)(c:0<cap)(W:World):(Instr.slice 318 (.slice g n cap) none (some (.int .i64 (k:Int))) none).run prog W = .ok (.slice g k cap) W:=by
 have b:(k:Int)<=(cap:Int):=by omega
 have h2:¬ ((k:Int)<0):=by omega
 have a:(cap == 0)=false:=by simp;omega
 go_simp
def Qz{base cap:Nat}{l:List Grp}(b:l.length=n+1)(h:dr 300 w base (.slice g (n+1) cap) l):dr 300 w base (.slice g n cap) (l.take n):=by
 have e:aS l=aS (l.take n)++aS (l.drop n):=by rw[←lS,a1z]
 have a:(l.take n).length=n:=by rw[a0u];omega
 unfold dr at h ⊢;rw[b,e]at h;rw[a];exact ownsRow_pop (by rw[nb,a]) h
def tk{base size o m cap:Nat}{e:TypeId}{xs:List Value}(h:w.ownsRow base e size (.slice g n cap) m xs)(f:k≠g)(u:Value):(w.setCell ⟨k,o,none⟩ u).ownsRow base e size (.slice g n cap) m xs:=by
 refine⟨h.1,?_⟩;rcases h.2 with d|⟨g1,cap,a,e,b,c,rest⟩
 . exact .inl d
 . refine .inr ⟨g1,cap,a,e,b,?_,rest⟩;simp only[a0L,a0l,a0A,a0Q]at e;rw[a0M w ⟨k,o,none⟩ u g1 (by show g1≠k;omega)];exact c
def dw.setOther{base o cap:Nat}{L:List Grp}(h:dw w b base (.slice g n cap) L)(hb:k≠b)(a:k≠g)(u:Value):dw (w.setCell ⟨k,o,none⟩ u) b base (.slice g n cap) L:=
 ⟨(a0M w ⟨k,o,none⟩ u b (fun e=>hb e.symm)).trans h.1,tk h.2 a u⟩
def ux{x y z:Value}(h:w.heap[b]?=some (Obj.cells #[x,y,z] t)):Three w b x y z:=
 ⟨by simp[World.cell?,h],by simp[World.cell?,h],by simp[World.cell?,h],by simp[World.frozen?,h],by simp[World.frozen?,h],by simp[World.frozen?,h],(Array.getElem?_eq_some_iff.1 h).1⟩
def sO(w:World)(o:Obj):(w.alloc o).heap[w.heap.size]?=some o:=Array.getElem?_push_size
def Fw(b g N cap:Nat)(L:List Grp)(w:World)(T:eH w (b+1) L)(y:L.length=N+1)(hm:N<300)(h:dw w b (b+1) (.slice g (N+1) cap) L)(hp:HP L) :
  Calls prog 219 #[.pointer b] w fun e w'=>e = .returned (.agg #[.int .i64 (L.getD 0 g0).cnt,.int .i64 (L.getD 0 g0).fst,(L.getD 0 g0).val])/\∃M:List Grp,(L.getD 0 g0 :: M).Perm L/\HP M/\dw w' b (b+1) (.slice g N cap) M/\Below b w w'/\bR 3 w w':=by
 have a8:(N:Int)<300:=by omega
 have s:=h.lt;have l:=h.2.cap y;have HS:=af T;have B:=af (a0b y hm);have Q:=af (a0b h hp);have i:Below w.heap.size w (w.alloc (.cells #[.int .i64 0,.int .i64 0,.slice none 0 0] 300)):=cC;have HZ:=af (km b (b+1) (N+1) cap (some ⟨g,0,none⟩) L _ (h.later i));have HW:=af (oF b (b+1) (b+1) g (N+1) cap 0 N L _ ((bU.below (g:=g) i).syms T) y (by omega) (h.later i) (a0j _) (by omega) (by omega));have u:=af i;clear T y h hp i;go_enter func219,ntmps219;go_wp2_with fail;apply HZ.mono;rintro e y1⟨rfl,O⟩;rw[O];clear O y1;go_wp2_with fail;apply HW.mono;rintro e x1⟨rfl,c,j,d⟩;have a7:=(a0z Q.1.2 g rfl).2;have a:(dA L 0 N).length=N+1:=by rw[iu];exact B.1
 obtain⟨c0,c1,c2,_,al⟩:=c.2.at a N (a0j _);rw[pp (by rw[B.1];exact a0j _)]at c0 c1 c2;have hA:=ae HS (L.getD 0 g0) (gT L 0 (by rw[B.1];exact Nat.succ_pos _));obtain⟨aa,ac,f⟩:=hA.form;rw[f]at c2;have a4:=c.cell;have a5:=c.frz;have ab:=c.lt;have a6:b≠g:=by have:=(a0z Q.1.2 g rfl).1;omega
 have K:w.heap.size<x1.heap.size:=by have:=d.2.1;simp at this;omega
 have a3:=RN g (N+1) cap N (by omega) (by omega);have ad:(cap:Int)<=9223372036854775807:=by have:=l.2;unfold maxLen at this;omega
 have P:(N:Int)+1<=(cap:Int):=by have:=l.1;omega
 have m:x1.heap[w.heap.size]?=some (Obj.cells #[.int .i64 0,.int .i64 0,.slice none 0 0] 300):=by
  rw[d.2.2 w.heap.size (by simp) (by omega)];exact sO _ _
 have HX:=af (a0b c (a0b j (a0b d (a0b a (a0b f m)))));clear c j d a l al hA m hm HZ HW;generalize D:(L.getD 0 g0).cnt=Ac,E:(L.getD 0 g0).fst=Af,F:(L.getD 0 g0).syms.length=An at *;have R:=af (a0b D (a0b E F));clear D E F f;go_wp2_with fail;have S:Hid (dw ((x1.setCell ⟨b,0,none⟩ (.slice g N cap)).alloc (.cells #[Ac,Af,.slice aa An ac] 300)) b (b+1) (.slice g N cap) ((dA L 0 N).take N) /\
   Below b w ((x1.setCell ⟨b,0,none⟩ (.slice g N cap)).alloc (.cells #[Ac,Af,.slice aa An ac] 300)) /\
   bR 3 w ((x1.setCell ⟨b,0,none⟩ (.slice g N cap)).alloc (.cells #[Ac,Af,.slice aa An ac] 300)) /\
   ((x1.setCell ⟨b,0,none⟩ (.slice g N cap)).alloc (.cells #[Ac,Af,.slice aa An ac] 300)).heap[w.heap.size]?=some (Obj.cells #[.int .i64 0,.int .i64 0,.slice none 0 0] 300) /\
   ((x1.setCell ⟨b,0,none⟩ (.slice g N cap)).alloc (.cells #[Ac,Af,.slice aa An ac] 300)).heap[x1.heap.size]?=some (Obj.cells #[Ac,Af,.slice aa An ac] 300)):=by
  obtain⟨c,j,d,a,f,m⟩:=ae HX;have t:(x1.setCell ⟨b,0,none⟩ (.slice g N cap)).heap.size=x1.heap.size:=by simp
  refine⟨⟨?_,?_⟩,?_,?_,?_,?_⟩
  . rw[a1k _ _ b (by rw[t];exact ab)];exact I2 c.1 _
  . exact a0o (a3V (Qz a c.2) (a0j _) _) _
  . exact(ai ((u.mono (a0s s)).trans j) (a0a _) _).alloc (by rw[t];omega) _
  . exact(((bR.below u).trans d.1).set c.1 (by decide) _).alloc _
  . rw[a1k _ _ w.heap.size (by rw[t];exact K),a0M _ _ _ _ (by show w.heap.size≠b;omega)];exact m
  . rw[←t];exact sO _ _
 generalize (x1.setCell ⟨b,0,none⟩ (.slice g N cap)).alloc (.cells #[Ac,Af,.slice aa An ac] 300)=Y at *;have HK:Hid (Calls prog 252 #[.iface 297 (.pointer b),.int .i64 ((0:Nat):Int)] Y fun e w'=>e = .returned (.tuple #[])/\∃M:List Grp,M.Perm ((dA L 0 N).take N)/\HP M/\dw w' b (b+1) (.slice g N cap) M/\Below b Y w'/\bU g Y w'):=by
  obtain⟨z,A,n,p,q⟩:=ae S;obtain⟨y,hm⟩:=ae B;have a2:eH Y (b+1) ((dA L 0 N).take N):=fun x hx=>n.syms HS x ((jm (by omega) (by omega)).mem_iff.1 (a2l hx));exact Be b g N cap 0 _ Y a2 (by rw[a0u,iu];omega) (by omega) z (a0g _) (by have C:=TU Q.2;rw[y]at C;exact C)
 apply HK.mono;rintro e x5⟨rfl,M,hM,G,J,H,r⟩;have HF:Hid (dw x5 b (b+1) (.slice g N cap) M/\Below b w x5/\bR 3 w x5/\x5.heap[w.heap.size]?=some (Obj.cells #[.int .i64 0,.int .i64 0,.slice none 0 0] 300)/\M.Perm ((dA L 0 N).take N)/\HP M):=by
  obtain⟨z,A,n,p,q⟩:=ae S;exact⟨J,A.trans H,n.trans r.1,(r.2.2 _ (dS p) (by omega)).trans p,hM,G⟩
 have U:Three x5 w.heap.size _ _ _:=ux HF.2.2.2.1;have V:Three x5 x1.heap.size (.int .i64 Ac) (.int .i64 Af) (.slice aa An ac):=by
  obtain⟨z,A,n,p,q⟩:=ae S;exact ux ((r.2.2 _ (dS q) (by omega)).trans q)
 clear hM G J H r HK;obtain⟨p0,p1,p2,q0,q1,q2,a1⟩:=U;obtain⟨r0,r1,r2,s0,s1,s2,a9⟩:=V;go_wp2_with fail;obtain⟨c,j,d,a,f,m⟩:=ae HX;obtain⟨fh,fb,fk,fr,fM,fP⟩:=ae HF;obtain⟨eA,eF,eS⟩:=ae R;have X:=(((Three.set0 ⟨p0,p1,p2,q0,q1,q2,a1⟩ (.int .i64 Ac)).set1 (.int .i64 Af)).set2 (.slice aa An ac));have W:=((((Touch.refl (some ⟨w.heap.size,0,none⟩) x5).set (o:=0) rfl (.int .i64 Ac)).set (o:=1) rfl (.int .i64 Af)).set (o:=2) rfl (.slice aa An ac));have I:=ai (ai (ai fb (b:=w.heap.size) (o:=0) (a0s s) (.int .i64 Ac)) (b:=w.heap.size) (o:=1) (a0s s) (.int .i64 Af)) (b:=w.heap.size) (o:=2) (a0s s) (.slice aa An ac);have a0:=fk.trans (bR.touch fr (by decide) W);have ao:=((fh.setOther (k:=w.heap.size) (o:=0) (by omega) (by omega) (.int .i64 Ac)).setOther (k:=w.heap.size) (o:=1) (by omega) (by omega) (.int .i64 Af)).setOther (k:=w.heap.size) (o:=2) (by omega) (by omega) (.slice aa An ac);generalize ((x5.setCell ⟨w.heap.size,0,none⟩ (.int .i64 Ac)).setCell ⟨w.heap.size,1,none⟩ (.int .i64 Af)).setCell ⟨w.heap.size,2,none⟩ (.slice aa An ac)=Z at *;obtain⟨t0,t1,t2,_,_,_,_⟩:=X;refine a0x (v:=.agg #[Ac,Af,.slice aa An ac]) (by simp[results,results219,go_sem,t0,t1,t2]) rfl ⟨?_,M,?_,fP,ao,I,a0⟩
 . rw[eA,eF,f]
 . have y:=B.1;have C:=Ny (L:=L) (by omega);rw[y]at C;exact(fM.cons _).trans C
def qu(l:List Int)(k:Nat):(aC l k).length<=k:=by
 induction k with
 | zero=>simp[aC]
 | succ k ih=>
  simp only[aC]
  split
  . simp;omega
  . omega
theorem yO(a:Option Addr)(cap n:Nat)(l:List Int)(w:World)(K:l.length=n)(h:bE w a l)(J:n<=300) :
  Calls prog 217 #[.slice a n cap] w fun e w'=>e = .returned (.pointer w.heap.size)/\∃(L:List Grp) (va:Option Addr) (vc:Nat),dw w' w.heap.size (w.heap.size+1) (.slice va L.length vc) L/\HP L/\(L.map bare).Perm (aC l n)/\eH w' (w.heap.size+1) L/\Below w.heap.size w w':=by
 have S:(n:Int)<=300:=by omega
 have A:=af (a0b K J);have s:Below w.heap.size w (w.alloc (.cells #[.slice none 0 0] 320)):=cC;have t:dw (w.alloc (.cells #[.slice none 0 0] 320)) w.heap.size (w.heap.size+1) (.slice none 0 0) []:=⟨sO _ _,a1b _ _ _ _⟩;clear K J;go_enter func217,ntmps217;go_wp2_with fail
 go_loopw [4,5,10] (fun _ _ i wr=>∃(k:Nat) (L:List Grp) (va:Option Addr) (vc:Nat),k<=n/\i = .int .i64 k/\dw wr w.heap.size (w.heap.size+1) (.slice va L.length vc) L/\HP L/\(L.map bare).Perm (aC l k)/\eH wr (w.heap.size+1) L/\Below w.heap.size w wr) (fun _ _ i _=>n-(intOf i).toNat)
 case atStart=>exact⟨0,[],none,0,a0g _,rfl,t,fun i _ R=>by simp at R,a2x _,Fv _ _,s⟩
 case round=>
  obtain⟨k,L,va,vc,v,rfl,d,p,j,m,b⟩:=hrel;clear s t;by_cases H:k<n
  .
   obtain⟨g,o,rfl,T,u⟩:=(h.later b) (by rw[(ae A).1];omega);have c0:=u k (by rw[(ae A).1];exact H);have c:L.length<300:=by
    have Q:=j.length_eq;rw[a0O]at Q;have h2:=qu l k;have:=(ae A).2;omega
   have I:=af (a0b v (a0b d (a0b p (a0b j (a0b m b)))));clear u;by_cases N:0<l.getD k 0
   .
    have q:=af (xQ N);generalize l.getD k 0=y at *
    have f:Below wr.heap.size wr (wr.alloc (.cells #[.int .i64 (k:Int)] 3)):=cC;have B:an (wr.alloc (.cells #[.int .i64 (k:Int)] 3)) (w.heap.size+1) (.slice wr.heap.size 1 1) [(k:Int)]:=an.one wr _ d.lt _;have z:=af (Eb w.heap.size L.length vc va L ⟨y,(k:Int),[(k:Int)],.slice wr.heap.size 1 1⟩ _ ((bR.below f).syms m) B rfl c (d.later f) p);have r:=af f;have O:=af B;clear v d p j m b B f c;go_wp2_with fail;refine(ae z).mono ?_;rintro e x1⟨rfl,M,g',P,D,C,F,E,x⟩;go_wp2;go_roundw
    case rel=>
     obtain⟨v,d,p,j,m,b⟩:=ae I;have G:M.length=L.length+1:=by rw[D.length_eq];simp
     refine⟨k+1,M,some ⟨g',0,none⟩,P,by omega,by go_num,by rw[G];exact F,C,?_,?_,(b.trans ((ae r).mono (a0s d.lt))).trans E⟩
     . rw[ae q];refine(D.map bare).trans ?_;rw[a0K];exact j.append_right _
     . exact((x.syms ((bR.below (ae r)).syms m)).snoc (x.ints (ae O))).perm D
    case measure=>simp[intOf];omega
   .
    have q:=af (Jz N);generalize l.getD k 0=y at *
    clear v d p j m b c;go_wp2;go_roundw
    case rel=>
     obtain⟨v,d,p,j,m,b⟩:=ae I;exact⟨k+1,L,va,vc,by omega,by go_num,d,p,by rw[ae q];exact j,m,b⟩
    case measure=>simp[intOf];omega
  .
   obtain rfl:k=n:=by omega
   clear h;go_wp2;go_ret;exact⟨rfl,L,va,vc,d,p,j,m,b⟩
def Oq{L M1 M2:List Grp}(E:∀i,i<l.length->0<=l.getD i 0/\l.getD i 0<=100000)(M:l.length<=300)(t:j<(aC l l.length).length∨j=0)(A:(L.map bare).Perm (az l j).1)(F:HP L)(h2:1<L.length)(y:(L.getD 0 g0 :: M1).Perm L)(u:HP M1)(q:(M1.getD 0 g0 :: M2).Perm M1) :
  bp (az l j).1=(L.getD 0 g0).syms++(M1.getD 0 g0).syms /\
  (∀(M3:List Grp) (v:Value),M3.Perm (M2++[⟨(L.getD 0 g0).cnt+(M1.getD 0 g0).cnt,if (M1.getD 0 g0).fst<(L.getD 0 g0).fst then(M1.getD 0 g0).fst else(L.getD 0 g0).fst,(L.getD 0 g0).syms++(M1.getD 0 g0).syms,v⟩])->(M3.map bare).Perm (az l (j+1)).1) /\
  0<=(L.getD 0 g0).cnt/\0<=(M1.getD 0 g0).cnt/\(L.getD 0 g0).cnt+(M1.getD 0 g0).cnt<=30000000 /\
  ((L.getD 0 g0).syms++(M1.getD 0 g0).syms).length<=300/\0<(L.getD 0 g0).syms.length/\0<(M1.getD 0 g0).syms.length/\(∀x∈(L.getD 0 g0).syms++(M1.getD 0 g0).syms,0<=x/\x<(l.length:Int)):=by
 have B:M1.length+1=L.length:=by have:=y.length_eq;simpa using this
 obtain⟨d,J,K,C⟩:=cF l j t;have D:(az l j).1.length=L.length:=by rw[←A.length_eq,a0O]
 have m:=(i6 l j t).1;have h:=Ow l j t;have o:∀g∈L,bg g (L.getD 0 g0)=false:=by
  intro g k;obtain⟨i,b,rfl⟩:=a1M k;have:=Ou F i b;have e:L.getD i g0=L[i]:=by simp[List.getD,b]
  rw[e]at this;exact this
 have c:∀g∈M1,bg g (M1.getD 0 g0)=false:=by
  intro g k;obtain⟨i,b,rfl⟩:=a1M k;have:=Ou u i b;have e:M1.getD i g0=M1[i]:=by simp[List.getD,b]
  rw[e]at this;exact this
 obtain⟨e1,I⟩:=zZ A y.symm o (by omega) m h;have s:tX (au (az l j).1):=fun g k=>h g (bo _ g k);obtain⟨e2,p2⟩:=zZ I q.symm c (by omega) (KG (by omega) m) s;have a:=Cb d (by omega:1<(az l j).1.length);have p:=d _ (bP (az l j).1 (by omega));have G:=dP (az l j).1 (by omega);have hb:=d _ (bo _ _ (bP (au (az l j).1) (by omega)));have H:=ms l 100000 (by omega) (fun i b=>(E i b).2) l.length (a0a _);have n:bp (az l j).1=(L.getD 0 g0).syms++(M1.getD 0 g0).syms:=by
  unfold bp;rw[←e1,←e2];rfl
 rw[←e1]at p a;rw[←e2]at hb a;refine⟨n,?_,p.1,hb.1,?_,?_,p.2.2.2.2,hb.2.2.2.2,?_⟩
 . intro M3 v r;have z:=r.map bare;rw[a0K]at z;refine z.trans ?_;show List.Perm _ (stepG (az l j).1);unfold stepG;rw[←e1,←e2];exact p2.append_right _
 . have w:=a.1;have:(bare (L.getD 0 g0)).cnt=(L.getD 0 g0).cnt:=rfl;have:(bare (M1.getD 0 g0)).cnt=(M1.getD 0 g0).cnt:=rfl;omega
 . have w:=a.2;rw[n]at w;omega
 .
  intro x f;simp only[a03]at f;rcases f with f|f
  . exact p.2.2.2.1 x f
  . exact hb.2.2.2.1 x f
def jZ(l:List Int):Int:=if decide (l.length<=300)&&inC l then(us l:Nat)else -1
def Mw(h:300<l.length):jZ l = -1:=by
 unfold jZ;rw[a0m (by omega)];rfl
def Mx(h:inC l=false):jZ l = -1:=by
 unfold jZ;rw[h];simp
def pr(h:l.length<=300)(h2:inC l=true):jZ l=(us l:Nat):=by
 unfold jZ;rw[a0B h,h2];rfl
def nH(a:Option Addr)(cap n:Nat)(l:List Int)(w:World)(E:l.length=n)(h:bE w a l)(C:n<=1048576) :
  Calls prog 180 #[.slice a n cap] w fun e w'=>e = .returned (.int .i64 (jZ l))/\w'=w:=by
 subst E;have D:(l.length:Int)<=1048576:=by omega
 clear C;by_cases H:(l.length:Int)<=300
 .
  go_enter func180,ntmps180;go_wp2_with fail
  go_loop [3,5,11] (fun n _ i=>∃k:Nat,k<=l.length/\i = .int .i64 k/\n = .int .i64 (us (l.take k):Nat)/\inC (l.take k)=true) (fun _ _ i=>l.length-(intOf i).toNat)
  case atStart=>exact⟨0,a0g _,rfl,rfl,rfl⟩
  case round=>
   obtain⟨k,B,rfl,rfl,j⟩:=hrel;have x:=af j;clear j;by_cases d:k<l.length
   .
    obtain⟨g,o,rfl,I,z⟩:=h (by omega);have c0:=z k d;have p:=af (rZ l k d);have hit:=af (Ox l k d);have s:=af (fun hb=>Sb (l:=l) (k:=k) d hb);have t:=uD (l.take k);have A:(us (l.take k):Int)<=300:=by
     have:(l.take k).length<=l.length:=by simp;omega
     omega
    clear z B h t;generalize l.getD k 0=y,us (l.take k)=u at *;by_cases hb:0<=y/\y<=100000
    .
     obtain⟨q,r⟩:=hb;have b:Hid (inC (l.take (k+1))=true):=by
      show _=true;rw[ae hit,ae x,aI.2 ⟨q,r⟩];rfl
     by_cases v:0<y
     .
      have c:Hid (us (l.take (k+1))=u+1):=by have:=ae p;rw[a0d v]at this;exact this
      go_wp2
      go_round
      case rel=>exact⟨k+1,by omega,by go_num,by rw[ae c];go_num,b⟩
      case measure=>simp[intOf];omega
     .
      have c:Hid (us (l.take (k+1))=u):=by have:=ae p;rw[a0e v]at this;exact this
      go_wp2
      go_round
      case rel=>exact⟨k+1,by omega,by go_num,by rw[ae c],b⟩
      case measure=>simp[intOf];omega
    .
     have f:Hid (jZ l = -1):=Mx (s (by
      cases F:inB y 0 100000
      . rfl
      . exact absurd (aI.1 F) hb))
     by_cases v:y<0
     . go_wp2;go_ret;exact⟨aJ f.symm,rfl⟩
     .
      have G:¬ y<=100000:=(by omega);go_wp2;go_ret;exact⟨aJ f.symm,rfl⟩
   .
    have m:Hid (l.take k=l):=a0t (by omega);have b:Hid (inC l=true):=by show inC l=true;rw[←ae m];exact x
    clear h;go_wp2;go_ret;exact⟨aJ (by rw[pr (by omega) b,ae m]),rfl⟩
 . have f:=af (Mw (l:=l) (by omega));go_enter func180,ntmps180;clear h;go_wp2;go_ret;exact⟨aJ f.symm,rfl⟩
def je(x:Int):Int:=if x<=1 then x else 1
def Ei(x:Int)(w:World)(a : -1000000<=x)(b:x<=1000000) :
  Calls prog 182 #[x] w fun e w'=>e = .returned (.int .i64 (je x))/\w'=w:=by
 by_cases h:x<=1
 .
  have e:Hid (je x=x):=by show je x=x;simp[je,h]
  go_enter func182,ntmps182;go_wp2;go_ret;exact⟨aJ e.symm,rfl⟩
 .
  have e:Hid (je x=1):=by show je x=1;simp[je,h]
  go_enter func182,ntmps182;go_wp2;go_ret;exact⟨aJ e.symm,rfl⟩
def Dn(a:Option Addr)(cap n:Nat)(l:List Int)(w:World)(H:l.length=n)(h:bE w a l)(G:n<=1048576)(E:okC l) :
  Calls prog 181 #[.slice a n cap,.func (.func 182) #[] #[]] w fun e w'=>∃v,e = .returned v/\an w' w.heap.size v (l.map je)/\Below w.heap.size w w':=by
 have M:(n:Int)<=1048576:=by omega
 have p:=af H;have K:=af G;have I:=af E;clear H G E;obtain⟨i0,L,B,C,D⟩:=a0p Tryz.infoInt;go_enter func181,ntmps181;go_wp2_with fail
 go_loopw [5,7,10] (fun o _ i wr=>∃k:Nat,k<=n/\i = .int .i64 k/\an wr w.heap.size o ((l.take k).map je)/\Below w.heap.size w wr) (fun _ _ i _=>n-(intOf i).toNat)
 case atStart=>exact⟨0,a0g _,rfl,a1b _ _ _ _,a0c _ _⟩
 case round=>
  obtain⟨k,F,rfl,hq,b⟩:=hrel;have q:=b.size;by_cases m:k<n
  .
   obtain⟨g,o,rfl,N,r⟩:=(h.later b) (by rw[ae p];omega);have c0:=r k (by rw[ae p];exact m);obtain⟨y0,y1⟩:=ae I k (by rw[ae p];exact m);have A:Hid ((l.take (k+1)).map je=(l.take k).map je++[je (l.getD k 0)]):=by
    show _=_;rw[cN l k (by rw[ae p];exact m),a0K];rfl
   have z:Hid (((l.take k).map je).length=k):=by show _=k;have:=ae p;simp;omega
   have J:=af F;clear r F h;generalize l.getD k 0=y at *;have HP:=af (Ei y wr (by omega) (by omega));generalize je y=R at *;go_wp2_with fail;apply HP.mono;rintro e x1⟨rfl,u⟩;rw[u];clear u x1;have d:Hid (((l.take k).map je).length+1<=maxLen/\(((l.take k).map je).length+1)*8<=140737488355328):=by
    show _/\_;rw[ae z];have:=ae K;unfold maxLen;omega
   clear HP;go_wp2_with (at_builtin;refine a0w _ rfl _ _ 129 rfl w.heap.size 3 i0 (.int .i64 0) 1 8 a0F L B C D rfl (by decide) _ _ _ rfl (a0o hq _) ⟨wr.heap.size,0,none⟩ 1 1 [.int .i64 R] rfl rfl (cK _ _ rfl _ _) (fD _) d.1 d.2 (ar q _) ?_;intro v' x2 j c s;clear s);have x:=aH (v:=u5) c hq (a0a _) q b;have t:=oY j;rw[←ae A]at t;clear j c hq;go_wp2;go_roundw
   case rel=>exact⟨k+1,by have:=ae J;omega,by go_num,t,x⟩
   case measure=>simp[intOf];omega
  . have f:l.take k=l:=a0t (by rw[ae p];omega);rw[f]at hq;obtain⟨va,vc,rfl⟩:=hq.form;clear f h;go_wp2;go_ret;exact⟨_,rfl,hq,b⟩
