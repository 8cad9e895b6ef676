/- Of what the proof is made: 16 texts, one behind the other. -/
import Derived.Test.YtgmfehnnebkaoaaGreatDoorM16
import Derived.Test.YtgmfehnnebkaoaaGreatDoorRb1
import Derived.Test.YtgmfehnnebkaoaaGreatDoorM9
import Derived.BigRegion
import Derived.Test.YtgmfehnnebkaoaaGreatDoorM2
set_option maxRecDepth 100000
set_option linter.unusedSimpArgs false
set_option linter.unusedVariables false
set_option maxHeartbeats 6400000
namespace Go.Proofs.YtgmfehnnebkaoaaGreatDoor
open Go.Proofs.Tryz
open Go.RowKit
variable {b c g i j k n ob:Nat}{l:List Int}{t:TypeId}{v:Value}{w w':World}
def sliceLen:Value->Nat
 | .slice _ n _=>n
 | _=>0
theorem uQ(h:0<l.getD k 0):ax l (k+1)=ax l k++[⟨l.getD k 0,(k:Int),[(k:Int)],.slice none 0 0⟩]:=by simp only[ax];rw[a0d h]
theorem Fp(h:¬ 0<l.getD k 0):ax l (k+1)=ax l k:=by simp only[ax];rw[a0e h]
theorem qN(w:World)(x y z:Value)(t:TypeId)(g:Nat)(b:w.heap.size=g):∀(j:Nat) (u:Value),[x,y,z][j]?=some u->(w.alloc (.cells #[x,y,z] t)).cell? ((⟨g,0,none⟩:Addr).add j)=some u:=by
 subst b;intro j u a
 match j,a with
 | 0,a=>simp at a;subst a;simp[Addr.add]
 | 1,a=>simp at a;subst a;simp[Addr.add]
 | 2,a=>simp at a;subst a;simp[Addr.add]
theorem qO(x y:Int)(a:Option Addr)(n c:Nat):∀u∈[Value.int .i64 x,Value.int .i64 y,Value.slice a n c],u.oneCell'=true:=by
 intro u b;simp at b;rcases b with rfl|rfl|rfl<;>rfl
theorem qP{x:World}{base:Nat}{l:List Grp}(g:Grp)(h:x.ownsRow base t 3 v (l.length+1) (aO l++[.int .i64 g.cnt,.int .i64 g.fst,g.val])):cF t x base v (l++[g]):=by
 show World.ownsRow _ _ _ _ _ (l++[g]).length _;rw[jY];simpa[aO]using h
theorem al.one(w:World)(base:Nat)(hb:base<=w.heap.size)(x:Int):al (w.alloc (.cells #[.int .i64 x] 3)) base (.slice (some ⟨w.heap.size,0,none⟩) 1 1) [x]:=
 a0Y w #[.int .i64 x] 1 hb (by unfold maxLen;omega) rfl
theorem BA(w:World)(ob:Nat):dJ w ob []:=fun g a=>by simp at a
theorem dJ.snoc{l:List Grp}{g:Grp}(h:dJ w ob l)(b:al w ob g.val g.syms):dJ w ob (l++[g]):=by
 intro x a;simp only[a0V,a01]at a;rcases a with a|rfl
 . exact h x a
 . exact b
theorem dJ.grown{base:Nat}{l m:List Grp}(h:dJ w ob l)(c:cF t w base v m)(d:3≠t)(b:w.grownBy w' v.ownBlock):dJ w' ob l:=
 fun g a=>a1J (h g a) b (oD (h g a) c d)
theorem lk{base:Nat}{u:Value}{m:List Grp}(h:al w ob u l)(b:cF t w base v m)(c:3≠t)(a:w.grownBy w' v.ownBlock):al w' ob u l:=
 a1J h a (oD h b c)
theorem pK(w:World)(x y z:Value)(t:TypeId):Three (w.alloc (.cells #[x,y,z] t)) w.heap.size x y z:=⟨by simp,by simp,by simp,by simp,by simp,by simp,by simp⟩
theorem Three.later{v0 v1 v2:Value}(h:Three w b v0 v1 v2)(hb:Below w.heap.size w w'):Three w' b v0 v1 v2:=h.kept (hb.mono h.2.2.2.2.2.2)
theorem cF.mono{base base':Nat}{l:List Grp}(h:cF t w base v l)(hb:base'<=base):cF t w base' v l:=
 ⟨h.1,h.2.imp id fun⟨g,c,u,e,a,r⟩=>⟨g,c,u,e,a0L hb a,r⟩⟩
theorem dJ.sub{l m:List Grp}(h:dJ w ob l)(b:∀g∈m,g∈l):dJ w ob m:=fun g a=>h g (b g a)
theorem nO{a:Option Addr}{base size:Nat}{e:TypeId}{xs:List Value}(h:w.ownsRow base e size v n xs)(j:Touch a w w')(f:∀g,a=some ⟨g,0,none⟩->g<base):w'.ownsRow base e size v n xs:=by
 refine⟨h.1,?_⟩;rcases h.2 with i|⟨g,cap,b,rfl,c,d,rest⟩
 . exact .inl i
 . refine .inr ⟨g,cap,b,rfl,c,?_,rest⟩;rw[j.2 g (fun g' e=>by have:=f g' e;omega)];exact d
theorem gZ{p:Addr}(a:Touch (some ⟨b,0,none⟩) w w')(c:p.block≠b):w'.cell? p=w.cell? p:=
 World.cell?_of_block (a.2 p.block (fun g e=>by simp only[a0k,a0D,a0P]at e;omega))
theorem jl(b B:Nat)(h:b<B):∀g,(some ⟨b,0,none⟩:Option Addr)=some ⟨g,0,none⟩->g<B:=by
 intro g e;simp only[a0k,a0D,a0P]at e;omega
theorem tV(a:Option Addr)(cap n:Nat)(l:List Int)(w:World)(hn:l.length=n)(h:bo w a l)(hm:n<=300)(hc:∀i,i<l.length->0<=l.getD i 0/\l.getD i 0<=100000) :
  Calls prog 233 #[.slice a n cap] w fun e w'=>e = .returned (.slice (some ⟨w.heap.size,0,none⟩) n n)/\al w' w.heap.size (.slice (some ⟨w.heap.size,0,none⟩) n n) (bI l)/\Below w.heap.size w w':=by
 have o9:(n:Int)<=300:=by omega
 obtain⟨i0,hi,ho,hr,hu⟩:=a0r Tryz.infoInt;obtain⟨j0,hj,hh,l3,l4⟩:=a0r Tryz.infoTree;have HN:=af hn;have HC:=af hc;have HM:=af hm;clear hc;go_enter func233,ntmps233;go_wp2_with (at_make;refine a1K _ rfl _ _ 97 rfl w.heap.size 3 i0 (.int .i64 0) 1 a0G hi ho hr .i64 .i64 _ _ n rfl rfl rfl rfl (by rw[hu];omega) (by unfold maxLen;omega) (a0a _) ?_;intro w1 an m);have k4:al (w1.alloc (.cells #[] 317)) w.heap.size (.slice (some ⟨w.heap.size,0,none⟩) n n) (List.replicate l.length 0):=by
  rw[hn];exact(dy an).later ((a0c w1.heap.size w1).alloc (a0a _) _) (a0a _)
 have ky:w.heap.size+1<=w1.heap.size:=(dy an).below.2;have j2:Below w.heap.size w (w1.alloc (.cells #[] 317)):=((a0c _ _).grown m (a0a _) (fun k h=>by cases h)).alloc (by omega) _;have lg:cF 317 (w1.alloc (.cells #[] 317)) (w.heap.size+1) (.slice (some ⟨w1.heap.size,0,none⟩) 0 0) []:=a0Y w1 #[] 0 ky (by unfold maxLen;omega) rfl;clear an m hn hm
 go_loopw [4,5] (fun v i wr=>∃(k:Nat) (L:List Grp),k<=n/\i = .int .i64 k/\L.map bare=ax l k/\cF 317 wr (w.heap.size+1) v L/\dJ wr (w.heap.size+1) L/\al wr w.heap.size (.slice (some ⟨w.heap.size,0,none⟩) n n) (List.replicate l.length 0)/\Below w.heap.size w wr) (fun _ i _=>n-(intOf i).toNat)
 case atStart=>exact⟨0,[],a0g _,rfl,rfl,lg,BA _ _,k4,j2⟩
 case round=>
  obtain⟨k,L,hk,rfl,hL,ht,hs,hp,J⟩:=hrel;clear k4 j2 lg;have HL:=af hL;have m7:w.heap.size+1<=wr.heap.size:=hp.below.2;clear hL;by_cases n0:k<n
  .
   obtain⟨g,o,rfl,hg,j5⟩:=(h.later J) (by rw[ae HN];omega);have c0:=j5 k (by rw[ae HN];exact n0);have HK:=af hk;have nq:L.length<=300:=by
    have h1:(L.map bare).length=(ax l k).length:=by rw[ae HL]
    have h2:=(kI l 100000 (by omega) (fun i hi=>(ae HC i hi).2) k (by rw[ae HN];omega)).2.2;rw[a0N]at h1;have:=ae HM;omega
   clear j5 hk;by_cases hy:0<l.getD k 0
   .
    have eh:=af (uQ hy);generalize l.getD k 0=y at *
    have hA:al (wr.alloc (.cells #[.int .i64 (k:Int)] 3)) (w.heap.size+1) (.slice (some ⟨wr.heap.size,0,none⟩) 1 1) [(k:Int)]:=al.one wr _ m7 _;have Z:Below wr.heap.size wr (wr.alloc (.cells #[.int .i64 (k:Int)] 3)):=(a0c _ _).alloc (a0a _) _;have K:(wr.alloc (.cells #[.int .i64 (k:Int)] 3)).heap.size=wr.heap.size+1:=by simp
    have I:=ht.later Z (a0a _);have H:=hs.later Z (a0a _);have G:=hp.later Z (a0a _);have T:=ah J ((a0c wr.heap.size wr).alloc (a0a _) (.cells #[.int .i64 (k:Int)] 3));have HX:=af (a0b hA (a0b I (a0b H (a0b G (a0b T K)))));have V:Hid (L.length+1<=maxLen/\(L.length+1)*40<=140737488355328):=by show _/\_;unfold maxLen;omega
    clear hA Z I H G T ht hs hp J K;go_wp2_with (at_builtin;refine a0B _ rfl _ _ 315 rfl (w.heap.size+1) 317 j0 (.agg #[.int .i64 0,.int .i64 0,.slice none 0 0]) 3 40 a3x hj hh l3 l4 rfl (by decide) _ _ _ rfl (a0m (ae HX).2.1 _) ⟨wr.heap.size+1,0,none⟩ 1 1 [.int .i64 y,.int .i64 (k:Int),.slice (some ⟨wr.heap.size,0,none⟩) 1 1] rfl rfl (qN _ _ _ _ _ _ (ae HX).2.2.2.2.2) (qO _ _ _ _ _) (ae V).1 (ae V).2 (au (by rw[(ae HX).2.2.2.2.2];omega) _) ?_;intro v' x3 an m k2;clear k2);obtain⟨hA,I,H,G,T,K⟩:=ae HX;have ev:∀{B:Nat} {o:Obj},B=wr.heap.size+1->Below B (wr.alloc (.cells #[.int .i64 (k:Int)] 3)) ((wr.alloc (.cells #[.int .i64 (k:Int)] 3)).alloc o):=fun{B} {o} e=>(a0c _ _).alloc (by rw[K];omega) _;have Y:cF 317 ((wr.alloc (.cells #[.int .i64 (k:Int)] 3)).alloc (.cells #[.int .i64 y,.int .i64 (k:Int),.slice (some ⟨wr.heap.size,0,none⟩) 1 1] 317)) (w.heap.size+1) u4 L:=a0m I _;have ab:=(H.later (ev rfl) (by rw[K];exact a0a _)).grown Y (by decide) m;have a7:=lk (hA.later (ev rfl) (by rw[K];exact a0a _)) Y (by decide) m;have a3:=lk (G.later (ev rfl) (by rw[K];exact a0a _)) Y (by decide) m;have ao:Below w.heap.size w x3:=aH (v:=u4) m I (by omega) (by rw[K];omega) T;have be:=qP ⟨y,(k:Int),[(k:Int)],.slice (some ⟨wr.heap.size,0,none⟩) 1 1⟩ an;have ca:=ab.snoc (g:=⟨y,(k:Int),[(k:Int)],.slice (some ⟨wr.heap.size,0,none⟩) 1 1⟩) a7;clear an m HX hA I H G T ev Y ab a7;go_wp2;go_roundw
    case rel=>exact⟨k+1,L++[⟨y,(k:Int),[(k:Int)],.slice (some ⟨wr.heap.size,0,none⟩) 1 1⟩],by omega,by go_num,by rw[ae eh,a0I,ae HL];rfl,be,ca,a3,ao⟩
    case measure=>simp[intOf];omega
   .
    have eh:=af (Fp hy);generalize l.getD k 0=y at *
    go_wp2;go_roundw
    case rel=>exact⟨k+1,L,by omega,by go_num,by rw[ae eh];exact ae HL,ht,hs,hp,J⟩
    case measure=>simp[intOf];omega
  .
   obtain rfl:k=n:=by omega
   have a4:Hid (L.map bare=ax l l.length):=by show L.map bare=ax l l.length;rw[ae HN];exact ae HL
   have hU:Hid (L.length=(ax l l.length).length):=by show L.length=(ax l l.length).length;rw[←ae a4,a0N]
   have jx:L.length<=300:=by
    have h2:=(kI l 100000 (by omega) (fun i hi=>(ae HC i hi).2) l.length (a0a _)).2.2;have:=ae hU;have:=ae HM;have:=ae HN;omega
   have l2:=af (Fq l l.length (a0a _));obtain⟨va,vc,rfl⟩:=ht.form;clear h;by_cases d5:L.length=1
   .
    obtain⟨g,rfl⟩:=ht.somes (by omega);obtain⟨_,c1,_,_,_⟩:=ht.at rfl 0 (by omega);have n1:=ae l2 ((ax l l.length).getD 0 g0) (fC _ 0 (by have:=ae hU;omega));have e2:(L.getD 0 g0).fst=((ax l l.length).getD 0 g0).fst:=by rw[←ae a4,nd];rfl
    obtain⟨_,f0,f1,_,_⟩:=n1;rw[←e2,ae HN]at f1;rw[←e2]at f0;have eb:Hid (bI l=(List.replicate l.length 0).set (L.getD 0 g0).fst.toNat 1):=by
     show bI l=_;unfold bI;rw[a0d (by rw[←ae hU];exact d5),e2]
    generalize (L.getD 0 g0).fst=f at *
    obtain⟨q,rfl⟩:=a0n f0;rw[a0l]at eb;have b7:(List.replicate l.length (0:Int)).length=k:=by simp[ae HN]
    obtain⟨d0,e0,_,_⟩:=hp.at (j:=q) b7 (by omega);have C:=hp.put (j:=q) b7 1;have d2:=ai J (b:=w.heap.size) (o:=q) (a0a _) (.int .i64 1);rw[←ae eb]at C;have HP:=af C;have HB:=af d2;have o6:wr.cell? ⟨g,1,none⟩=some (.int .i64 (q:Int)):=by simpa using c1
    clear C d2 b7 eb J hp hs ht c1 e2;rw[d5];generalize (List.replicate l.length (0:Int)).getD q 0=y at *
    go_wp2_with fail
    go_loopw [4,6,7,8,9,10,11] (fun v _ _ _ _ _ _ wq=>v = .slice (some ⟨g,0,none⟩) 1 vc/\wq=wr.setCell ⟨w.heap.size,q,none⟩ (.int .i64 1)) (fun _ _ _ _ _ _ _ _=>0)
    case atStart=>exact⟨rfl,rfl⟩
    case round=>
     obtain⟨rfl,hw⟩:=hrel;subst hw;go_wp2;go_ret;exact⟨rfl,ae HP,ae HB⟩
   .
    have n3:((L.length:Int) == 1)=false:=by rw[a04];omega
    have ka:Hid (∀k,(ax l l.length).length-k<=1->(k<(ax l l.length).length∨k=0)->bI l=(aw l k).2):=by
     intro k h1 h2;unfold bI;have:=ae hU;rw[a0e (by omega)]
     congr 2;omega
    have i3:=af jx;clear jx;have k3:al wr w.heap.size (.slice (some ⟨w.heap.size,0,none⟩) k k) (aw l 0).2:=hp;have jn:L.map bare=(aw l 0).1:=ae a4;generalize j1:(ax l l.length).length=U at *
    have en:=af j1;clear j1 l2 a4 HL hp;go_wp2_with fail
    go_loopw [4,6,7,8,9,10,11] (fun v _ _ _ _ _ _ wq=>∃(j:Nat) (M:List Grp),(j<U∨j=0)/\M.map bare=(aw l j).1/\cF 317 wq (w.heap.size+1) v M/\dJ wq (w.heap.size+1) M/\al wq w.heap.size (.slice (some ⟨w.heap.size,0,none⟩) k k) (aw l j).2/\Below w.heap.size w wq) (fun v _ _ _ _ _ _ _=>sliceLen v)
    case atStart=>exact⟨0,L,.inr rfl,jn,ht,hs,k3,J⟩
    case round=>
     obtain⟨j,M,hj,hM,a6,cy,ba,cv⟩:=hrel;clear ht hs k3 J jn n3 d5;have fh:=bW l j (by rw[ae en];exact hj);rw[←hM,ae en]at fh;obtain⟨iw,ic,is,il⟩:=fh;rw[a0N]at il;obtain⟨ma,mc,rfl⟩:=a6.form;have gf:=af hM;have HJ:=af hj;clear hM hj;by_cases s:1<M.length
     .
      have kl:(1:Int)<(M.length:Int):=by omega
      have m3:=ae i3;have c:M.length<=300:=by have:=ae hU;omega
      have o7:(M.length:Int)<=300:=by omega
      have ad:w.heap.size+1<=wr.heap.size:=ba.below.2;have N:=d9 M (by omega);have iw':WFL k M:=by
       intro g hg;have h1:=iw (bare g) (a2z hg);rw[ae HN]at h1;exact h1
      have P:=iw' _ (bv M (by omega));have D:=di M (by omega);have Q:=iw' _ (bf M _ (bv (am M) (by omega)));have O:=d9 (am M) (by omega);have r:f8 M<=30000000:=by
       have h1:=(kI l 100000 (by omega) (fun i hi=>(ae HC i hi).2) l.length (a0a _)).1;have h2:f8 (M.map bare)=f8 M:=by simp[f8,Function.comp_def,bare]
       rw[h2]at ic;have:=ae HN;have h3:(100000:Int)*(l.length:Int)<=100000*300:=Int.mul_le_mul_of_nonneg_left (by omega) (by omega);omega
      have d:=yF iw' s;have hz:=af (rl ma mc M.length (w.heap.size+1) M wr rfl a6 (by omega) c);obtain⟨g,rfl⟩:=a6.somes (by omega);have m9:Hid (aB M=M.getD (least M) g0):=rfl;have oi:Hid (am M=M.eraseIdx (least M)):=rfl;have HQ:=af (a0b a6 (a0b cy (a0b ba cv)));have el:=af (a0b P (a0b D (a0b Q (a0b O (a0b r d)))));have em:=af (a0b s (a0b c (a0b N (a0b ad il))));have o4:=af iw';clear a6 cy ba cv ic is iw P D Q O r d s c N ad il iw' m3;go_wp2_with fail;refine(ae hz).mono ?_;rintro e x1 ⟨rfl,a8⟩;obtain⟨a6,cy,ba,cv⟩:=ae HQ;obtain⟨s,c,N,ad,il⟩:=ae em;obtain⟨P,D,Q,O,r,d⟩:=ae el;have I:=a6.later a8 (a0a _);have H:=cy.later a8 (a0a _);have G:=ba.later a8 (a0a _);have Z:=ah cv a8;have l5:=a8.size;obtain⟨c0,c1,c2,_,e3⟩:=I.at rfl (least M) N;rw[←ae m9]at c0 c1 c2;have bk:=H _ (bv M (by omega));obtain⟨aa,ac,ey⟩:=bk.form;obtain⟨ga,kd⟩:=(ey▸bk).somes P.2.2.2.2;rw[kd]at ey;rw[ey]at c2 bk;have e5:((least M:Nat):Int)<(M.length:Int):=by omega
      have c9:=af (tW (some ⟨g,0,none⟩) mc M.length (w.heap.size+1) (w.heap.size+1) (least M) M (x1.alloc (.cells #[.int .i64 (aB M).cnt,.int .i64 (aB M).fst,.slice (some ⟨ga,0,none⟩) (aB M).syms.length ac] 317)) rfl (I.later ((a0c x1.heap.size x1).alloc (a0a _) _) (a0a _)) (H.later ((a0c x1.heap.size x1).alloc (a0a _) _) (a0a _)) N c);have h8:=af (a0b I (a0b H (a0b G (a0b Z bk))));have o2:=af e3;have k6:w.heap.size+1<=x1.heap.size:=G.below.2;clear a6 cy ba cv HQ hz I H G Z bk ey P D Q O r d s c N ad il kd e3 l5;generalize i5:aB M=A at *
      have f6:=af i5;clear i5;go_wp2_with fail;refine(ae c9).mono ?_;rintro e x2 ⟨⟨v1,rfl,Y⟩,cu⟩;obtain⟨I,H,G,Z,bk⟩:=ae h8;obtain⟨s,c,N,ad,il⟩:=ae em;obtain⟨P,D,Q,O,r,d⟩:=ae el;rw[←ae oi]at Y;have b5:Below x1.heap.size x1 (x1.alloc (.cells #[.int .i64 A.cnt,.int .i64 A.fst,.slice (some ⟨ga,0,none⟩) A.syms.length ac] 317)):=(a0c _ _).alloc (a0a _) _;have a9:=ah b5 cu;have dl:=(pK x1 (.int .i64 A.cnt) (.int .i64 A.fst) (.slice (some ⟨ga,0,none⟩) A.syms.length ac) 317).later cu;have ed:=H.later a9 (a0a _);have d8:=G.later a9 (a0a _);have bl:=bk.later a9 (a0a _);have dq:=ah Z a9;have bd:=Y.mono (show w.heap.size+1<=_ by have:=G.below.2;have:=b5.size;omega);obtain⟨ra,rc,he⟩:=bd.form;subst he;obtain⟨g2,nk⟩:=bd.somes (by omega);subst nk;have ns:(am M).length=M.length-1:=D;have e6:=af (rl (some ⟨g2,0,none⟩) rc (am M).length (w.heap.size+1) (am M) x2 rfl bd (by omega) (by omega));have pb:((am M).length:Int)<=300:=by omega
      have h9:=af (a0b bd (a0b ed (a0b d8 (a0b dq (a0b bl dl)))));clear I H G Z bk h8 c9 b5 a9 dl ed d8 bl dq bd Y cu c0 c1 c2 e5 P D Q O r d s c N ad il ns;go_wp2_with fail;refine(ae e6).mono ?_;rintro e x3 ⟨rfl,ao⟩;obtain⟨Y,ed,d8,dq,bl,dl⟩:=ae h9;obtain⟨s,c,N,ad,il⟩:=ae em;obtain⟨P,D,Q,O,r,d⟩:=ae el;have be:=Y.later ao (a0a _);have ab:=ed.later ao (a0a _);have a3:=d8.later ao (a0a _);have bs:=bl.later ao (a0a _);have a7:=dl.later ao;have ds:=ah dq ao;have fl:aB (am M)=(am M).getD (least (am M)) g0:=rfl;obtain⟨c0,c1,c2,_,e3⟩:=be.at rfl (least (am M)) O;rw[←fl]at c0 c1 c2;have b3:=ab _ (bf M _ (bv (am M) (by omega)));obtain⟨bb,bc,e1⟩:=b3.form;obtain⟨gb,ke⟩:=(e1▸b3).somes Q.2.2.2.2;rw[ke]at e1;rw[e1]at c2 b3;have e5:((least (am M):Nat):Int)<((am M).length:Int):=by omega
      have c9:=af (tW (some ⟨g2,0,none⟩) rc (am M).length (w.heap.size+1) (w.heap.size+1) (least (am M)) (am M) (x3.alloc (.cells #[.int .i64 (aB (am M)).cnt,.int .i64 (aB (am M)).fst,.slice (some ⟨gb,0,none⟩) (aB (am M)).syms.length bc] 317)) rfl (be.later ((a0c x3.heap.size x3).alloc (a0a _) _) (a0a _)) ((ab.sub (bf M)).later ((a0c x3.heap.size x3).alloc (a0a _) _) (a0a _)) O (by omega));have id:=af (a0b be (a0b ab (a0b a3 (a0b ds (a0b bs (a0b a7 b3))))));clear Y ed d8 dq bl dl h9 e6 be ab a3 bs a7 ds b3 e1 ao P D Q O r d s c N ad il ke e3 fl;generalize i9:aB (am M)=Bg at *
      have gd:=af i9;clear i9;go_wp2_with fail;refine(ae c9).mono ?_;rintro e x4 ⟨⟨v2,rfl,c6⟩,g1⟩;obtain⟨be,ab,a3,ds,bs,a7,b3⟩:=ae id;obtain⟨s,c,N,ad,il⟩:=ae em;obtain⟨P,D,Q,O,r,d⟩:=ae el;have fz:(am M).eraseIdx (least (am M))=am (am M):=rfl;rw[fz]at c6;have b5:Below x3.heap.size x3 (x3.alloc (.cells #[.int .i64 Bg.cnt,.int .i64 Bg.fst,.slice (some ⟨gb,0,none⟩) Bg.syms.length bc] 317)):=(a0c _ _).alloc (a0a _) _;have R:=ah b5 g1;have fb:=(pK x3 (.int .i64 Bg.cnt) (.int .i64 Bg.fst) (.slice (some ⟨gb,0,none⟩) Bg.syms.length bc) 317).later g1;have i8:=a7.later R;have ca:=ab.later R (a0a _);have b9:=a3.later R (a0a _);have f3:=bs.later R (a0a _);have f4:=b3.later R (a0a _);have dv:=ah ds R;have hf:w.heap.size+1<=x4.heap.size:=b9.below.2;have k7:w.heap.size+1<=x3.heap.size:=a3.below.2;have ei:=c6.mono (show w.heap.size+1<=_ by have:=a3.below.2;have:=b5.size;omega);have co:=di (am M) (by omega);obtain⟨ra,l6,he⟩:=ei.form;subst he;have j3:Hid ((A.syms.map (Value.int .i64)).length=A.syms.length*1):=by show _=_;simp
      have j4:Hid ((Bg.syms.map (Value.int .i64)).length=Bg.syms.length*1):=by show _=_;simp
      have ks:A.syms.length+Bg.syms.length<=300:=by
       have h1:=d.2;have h2:(bg M).length=A.syms.length+Bg.syms.length:=by
        unfold bg;rw[a0i,ae f6,ae gd]
       have h3:=(bW l j (by rw[ae en];exact ae HJ)).2.2.1;have h4:jZ (M.map bare)=jZ M:=by simp[jZ,Function.comp_def,bare]
       rw[←ae gf,h4]at h3;have h5:=(kI l 100000 (by omega) (fun i hi=>(ae HC i hi).2) l.length (a0a _)).2.1;have:=ae HN;have:=ae HM;omega
      have ix:Hid (∀W,Below x4.heap.size x4 W->∀j u,(A.syms.map (Value.int .i64))[j]?=some u->W.cell? ((⟨ga,0,none⟩:Addr).add j)=some u):=fun W hW=>a1V (f3.later hW (a0a _)) rfl;have i1:Hid (∀W,Below x4.heap.size x4 W->∀j u,(Bg.syms.map (Value.int .i64))[j]?=some u->W.cell? ((⟨gb,0,none⟩:Addr).add j)=some u):=fun W hW=>a1V (f4.later hW (a0a _)) rfl;have c8:∀W,Below x4.heap.size x4 W->W.cell? ⟨x1.heap.size,2,none⟩=some (.slice (some ⟨ga,0,none⟩) A.syms.length ac)/\W.cell? ⟨x3.heap.size,2,none⟩=some (.slice (some ⟨gb,0,none⟩) Bg.syms.length bc):=fun W hW=>⟨(i8.later hW).2.2.1,(fb.later hW).2.2.1⟩;have gv:World.ownsRow (x4.alloc (.cells #[] 3)).drew x4.heap.size 3 1 (.slice (some ⟨x4.heap.size,0,none⟩) 0 0) 0 []:=a0Y x4 #[] 0 (a0a _) (by unfold maxLen;omega) rfl;have cs:Below x4.heap.size x4 (x4.alloc (.cells #[] 3)).drew:=((a0c _ _).alloc (a0a _) _).drew;have a8:Hid (0+A.syms.length<=maxLen/\(0+A.syms.length)*8<=140737488355328):=by show _/\_;unfold maxLen;omega
      have cu:Hid (0+A.syms.length+Bg.syms.length<=maxLen/\(0+A.syms.length+Bg.syms.length)*8<=140737488355328):=by show _/\_;unfold maxLen;omega
      obtain⟨a0,a1,a2,_,_,_,abl⟩:=i8;obtain⟨b0,b1,b2,_,_,_,mm⟩:=fb;have h0:x1.heap.size≠w.heap.size:=by have:=k6;omega
      have h6:x3.heap.size≠w.heap.size:=by have:=k7;omega
      have e8:Below x4.heap.size x4 x4.drew:=(a0c _ _).drew;have fv:Hid ((dQ A Bg).fst=if Bg.fst<A.fst then Bg.fst else A.fst):=rfl;have md:=af ks;have dd:=af (a0b r (a0b d.1 (a0b P Q)));have ih:=af (a0b co (a0b D (a0b s (a0b c il))));have mi:=af (a0b ei (a0b ca (a0b b9 dv)));clear be ab a3 ds bs a7 b3 id c9 b5 R ca b9 f3 f4 dv ei c6 g1 c0 c1 c2 e5 P D Q O r d s c N ad il co ks fz;have kc:∃F:Int,(dQ A Bg).fst=F:=⟨_,rfl⟩;obtain⟨F,hF⟩:=kc;have HF:=af hF;clear hF;by_cases fr:Bg.fst<A.fst
      case' pos=>have ji:Hid (Bg.fst=F):=by have:=ae fv;rw[ae HF,a0d fr]at this;exact this.symm
      case' neg=>have ji:Hid (A.fst=F):=by have:=ae fv;rw[ae HF,a0e fr]at this;exact this.symm
      all_goals
       go_wp2_with fail
       go_region_held3 (fun W=>W.cell? ⟨x1.heap.size,2,none⟩=some (.slice (some ⟨ga,0,none⟩) A.syms.length ac)/\W.cell? ⟨x3.heap.size,2,none⟩=some (.slice (some ⟨gb,0,none⟩) Bg.syms.length bc)) (first|exact c8 _ e8|assumption|exact c8 _ cs) (first
        | (refine aX rfl (.tmp 76) (.tmp 78) 97 rfl x4.heap.size 3 i0 (.int .i64 0) 1 8 a0G hi ho hr hu rfl (a3y 0) (.slice (some ⟨x4.heap.size,0,none⟩) 0 0) _ _ rfl gv ⟨ga,0,none⟩ A.syms.length ac (A.syms.map (Value.int .i64)) rfl (ae j3) (ae ix _ cs) (a1m .i64 _) (ae a8).1 (ae a8).2 cs.size ?_;intro v5 x5 b8 cg g6;clear g6;have cr:Below x4.heap.size x4 x5:=cs.grown cg cs.size (fun j hj=>(a0E gv j hj).1);have mo:=c8 _ cr)
        | (refine aX rfl (.tmp 79) (.tmp 81) 97 rfl x4.heap.size 3 i0 (.int .i64 0) 1 8 a0G hi ho hr hu rfl (a3y 0) v5 _ _ rfl b8 ⟨gb,0,none⟩ Bg.syms.length bc (Bg.syms.map (Value.int .i64)) rfl (ae j4) (ae i1 _ cr) (a1m .i64 _) (ae cu).1 (ae cu).2 cr.size ?_;intro v6 x6 d6 ch g7;clear g7;have b4:Below x4.heap.size x4 x6:=cr.grown ch cr.size (fun j hj=>(a0E b8 j hj).1);have mp:=c8 _ b4))
       obtain⟨c6,ca,b9,dv⟩:=ae mi;have hf:w.heap.size+1<=x4.heap.size:=b9.below.2;have c5:al x6 x4.heap.size v6 (A.syms++Bg.syms):=by
        show World.ownsRow _ _ _ _ _ (A.syms++Bg.syms).length ((A.syms++Bg.syms).map (Value.int .i64));rw[a0i,a0I];simpa using d6
       have gy:Hid ((A.syms++Bg.syms).length<=300/\0<(A.syms++Bg.syms).length):=by
        show _/\_;rw[a0i];have:=ae md;have:=(ae dd).2.2.1.2.2.2.2;omega
       have m2:Hid (∀x∈A.syms++Bg.syms,0<=x/\x<(k:Int)):=by
        intro x hx;simp only[a0V]at hx;rcases hx with hx|hx
        . exact(ae dd).2.2.1.2.2.2.1 x hx
        . exact(ae dd).2.2.2.2.2.2.1 x hx
       have m1:Hid (bg M=A.syms++Bg.syms):=by
        show bg M=_;unfold bg;rw[ae f6,ae gd]
       have m0:Hid ((dQ A Bg).syms=A.syms++Bg.syms):=rfl;generalize A.syms++Bg.syms=S at *
       obtain⟨sv,sc,ek⟩:=c5.form;obtain⟨gs,kq⟩:=(ek▸c5).somes (ae gy).2;rw[kq]at ek;rw[ek];rw[ek]at c5;have lo:=c6.later b4 (a0a _);have k8:=ca.later b4 (a0a _);have k5:=b9.later b4 (a0a _);have e9:=ah dv b4;have fn:=c5.below;have a0':=(b4.cell (p:=⟨x1.heap.size,0,none⟩) abl).trans a0;have i4:=(b4.cell (p:=⟨x3.heap.size,0,none⟩) mm).trans b0;have n2:=af (tw l (fun i hi=>(ae HC i hi).2) (by rw[ae HN];exact ae HM) j (by rw[ae en];exact ae HJ));have no:Hid ((j:Int)<=300):=by show(j:Int)<=300;have:=ae HJ;have:=ae hU;have:=ae i3;omega
       have f5:x1.heap.size≠w.heap.size/\x3.heap.size≠w.heap.size:=⟨h0,h6⟩;have gl:=af c5;have i2:=af lo;have it:=af k8;have e7:=af f5;have f7:=af (a0b a0' i4);have o3:=af fn;have sI:(S.length:Int)<=300:=by have:=(ae gy).1;omega
       clear b8 d6 cg ch mo mp cr c6 ca b9 dv lo k8 c5 c8 ix i1 gv cs e8 ek kq a0 a1 a2 b0 b1 b2 f5 a0' i4 fn j3 j4;go_wp2_with fail
       go_loopw [11] (fun i wq=>∃t:Nat,t<=S.length/\i = .int .i64 t/\al wq w.heap.size (.slice (some ⟨w.heap.size,0,none⟩) k k) (bump (aw l j).2 (S.take t))/\Touch (some ⟨w.heap.size,0,none⟩) x6 wq/\Below w.heap.size w wq) (fun i _=>S.length-(intOf i).toNat)
       case atStart=>exact⟨0,a0g _,rfl,k5,Touch.refl _ _,e9⟩
       case round=>
        obtain⟨t,ht,rfl,X,E,b6⟩:=hrel;clear k5 e9;have g4:Hid ((bump (aw l j).2 (S.take t)).length=k):=by show(bump (aw l j).2 (S.take t)).length=k;rw[oJ,dY,ae HN]
        have op:Hid (t<=S.length):=ht;clear ht;by_cases d4:t<S.length
        .
         have f2:=(ae gl).touch E (by intro g e;simp only[a0k,a0D,a0P]at e;have:=hf;omega);obtain⟨c0,_,_,_⟩:=f2.at rfl d4;have hx:=ae m2 (S.getD t 0) (by simp[List.getD,d4]);have fk:=af (vI (aw l j).2 S t d4);have k1:=af (sU (ae n2) (S.take t));obtain⟨q,hq⟩:=a0n hx.1;rw[hq]at c0 fk;have ha:q<k:=by omega
         obtain⟨d0,f0,_,_⟩:=X.at (ae g4) ha;have hl:=ae k1 q (by rw[ae g4];exact ha);have C:=X.put (j:=q) (ae g4) ((bump (aw l j).2 (S.take t)).getD q 0+1);have eh:Hid (bump (aw l j).2 (S.take (t+1))=(bump (aw l j).2 (S.take t)).set q ((bump (aw l j).2 (S.take t)).getD q 0+1)):=by
          show bump (aw l j).2 (S.take (t+1))=_;rw[ae fk];unfold fw;rw[a0l]
         have pk:(bump (aw l j).2 (S.take t)).getD q 0<=100000:=by
          have h1:=hl.2;have h2:(S.take t).length<=300:=by rw[a0z];have:=(ae gy).1;omega
          have:=ae no;omega
         have hh:=hl.1;have cc:=ai b6 (b:=w.heap.size) (o:=q) (a0a _) (.int .i64 ((bump (aw l j).2 (S.take t)).getD q 0+1));have a5:=E.set (o:=q) rfl (.int .i64 ((bump (aw l j).2 (S.take t)).getD q 0+1));generalize (bump (aw l j).2 (S.take t)).getD q 0=y at *
         have h7:=af (a0b C (a0b cc a5));have e5:(q:Int)<(k:Int):=by omega
         have pc:(t:Int)<(S.length:Int):=by omega
         clear C cc a5 X f2 b6 E hl hx hq ha;go_wp2_with fail
         go_region
         obtain⟨C,cc,a5⟩:=ae h7;rw[←ae eh]at C;go_wp2;go_roundw
         case rel=>exact⟨t+1,by have:=ae op;omega,by go_num,C,a5,cc.drew⟩
         case measure=>simp[intOf];omega
        .
         have l0:S.take t=S:=a0o (by omega);rw[l0]at X;have c7:cF 317 wr (w.heap.size+1) (.slice ra (am (am M)).length l6) (am (am M)):=nO (ae i2) E (jl _ _ (a0s _));have eg:dJ wr (w.heap.size+1) (am (am M)):=fun g hg=>(ae it g (bf M _ (bf _ _ hg))).touch E (jl _ _ (a0s _));have ej:al wr (w.heap.size+1) (.slice (some ⟨gs,0,none⟩) S.length sc) S:=((ae gl).touch E (jl _ _ (by omega))).mono hf;have a0q:=(gZ (p:=⟨x1.heap.size,0,none⟩) E (ae e7).1).trans (ae f7).1;have o5:=(gZ (p:=⟨x3.heap.size,0,none⟩) E (ae e7).2).trans (ae f7).2;have g5:Hid ((aw l (j+1)).2=bump (aw l j).2 S):=by
          show(aw l (j+1)).2=_;simp only[aw];rw[←ae gf,Ip,ae m1]
         have e4:Hid ((aw l (j+1)).1=(am (am M)).map bare++[dQ A Bg]):=by
          show(aw l (j+1)).1=_;simp only[aw];rw[←ae gf,Ii,ae f6,ae gd]
         rw[←ae g5]at X;obtain⟨co,D,s,c,il⟩:=ae ih;have nm:Hid (j+1<U):=by show j+1<U;omega
         have kt:Hid ((am (am M)).length+1<M.length+0):=by show _<_;omega
         have V:Hid ((am (am M)).length+1<=maxLen/\((am (am M)).length+1)*40<=140737488355328):=by show _/\_;unfold maxLen;omega
         have d3:=ae dd;have o8:A.cnt+Bg.cnt<=30000000:=by have:=d3.1;have:=d3.2.1;omega
         have os:=d3.2.2.1.1;have o0:=d3.2.2.2.1;have m5:w.heap.size+1<=wr.heap.size:=X.below.2;have gk:=af (a0b c7 (a0b eg (a0b ej (a0b X b6))));have o1:Hid ((dQ A Bg).cnt=A.cnt+Bg.cnt):=rfl;clear co D s c il c7 eg ej X b6 E l0 d3 dd ih i2 it gl f7;rw[ae ji];go_wp2_with (at_builtin;refine a0B _ rfl _ _ 315 rfl (w.heap.size+1) 317 j0 (.agg #[.int .i64 0,.int .i64 0,.slice none 0 0]) 3 40 a3x hj hh l3 l4 rfl (by decide) _ _ _ rfl (a0m (ae gk).1 _) ⟨wr.heap.size,0,none⟩ 1 1 [.int .i64 (A.cnt+Bg.cnt),.int .i64 F,.slice (some ⟨gs,0,none⟩) S.length sc] rfl rfl (qN _ _ _ _ _ _ rfl) (qO _ _ _ _ _) (ae V).1 (ae V).2 (au m5 _) ?_;intro v7 x7 d7 z g8;clear g8);obtain⟨c7,eg,ej,X,b6⟩:=ae gk;have d1:Below wr.heap.size wr (wr.alloc (.cells #[.int .i64 (A.cnt+Bg.cnt),.int .i64 F,.slice (some ⟨gs,0,none⟩) S.length sc] 317)):=(a0c _ _).alloc (a0a _) _;have cp:=c7.later d1 (a0a _);have k9:=(eg.later d1 (a0a _)).grown cp (by decide) z;have l1:=lk (ej.later d1 (a0a _)) cp (by decide) z;have ob:=lk (X.later d1 (a0a _)) cp (by decide) z;have m4:Below w.heap.size w x7:=aH (v:=.slice ra (am (am M)).length l6) z c7 (by omega) (by omega) b6;have ls:=qP ⟨A.cnt+Bg.cnt,F,S,.slice (some ⟨gs,0,none⟩) S.length sc⟩ d7;have ol:=k9.snoc (g:=⟨A.cnt+Bg.cnt,F,S,.slice (some ⟨gs,0,none⟩) S.length sc⟩) l1;have m6:Hid ((am (am M)++[(⟨A.cnt+Bg.cnt,F,S,.slice (some ⟨gs,0,none⟩) S.length sc⟩:Grp)]).map bare=(aw l (j+1)).1):=by
          show _=(aw l (j+1)).1;rw[ae e4,a0I]
          congr 1
          have e:dQ A Bg=⟨A.cnt+Bg.cnt,F,S,.slice none 0 0⟩:=by
           rw[←ae HF,←ae m0];rfl
          rw[e];rfl
         have lb:Hid (sliceLen v7<M.length):=by
          show sliceLen v7<M.length;obtain⟨fa,fc,hv⟩:=ls.form;rw[hv];have:=ae kt;simp only[sliceLen,a0i,a1j];omega
         clear d7 z d1 cp k9 l1 c7 eg ej X b6 gk;go_wp2;go_roundw
         case rel=>exact⟨j+1,_,.inl (ae nm),ae m6,ls,ol,ob,m4⟩
         case measure=>exact ae lb
     .
      have g3:=af (ae ka j (by omega) (ae HJ));have kl:¬ (1:Int)<(M.length:Int):=by omega
      have HP:=af ba;clear a6 cy ba ic is;go_wp2;go_ret;exact⟨rfl,by rw[ae g3];exact ae HP,cv⟩
theorem Du(a:Option Addr)(cap n:Nat)(o:List Int)(w:World)(s:o.length=n)(h:bo w a o)(q:n<=300) :
  Calls prog 234 #[.slice a n cap] w fun e w'=>e = .returned (.int .i64 (bG o n))/\w'=w:=by
 subst s;have r:(o.length:Int)<=300:=by omega
 clear q;go_enter func234,ntmps234;go_wp2_with fail
 go_loop [3,4] (fun m i=>∃k:Nat,k<=o.length/\i = .int .i64 k/\m = .int .i64 (bG o k)) (fun _ i=>o.length-(intOf i).toNat)
 case atStart=>exact⟨0,a0g _,rfl,rfl⟩
 case round=>
  obtain⟨k,l,rfl,rfl⟩:=hrel;have t:=af l;by_cases d:k<o.length
  .
   obtain⟨g,f,rfl,u,j⟩:=h (by omega);have c0:=j k d;have c:Hid (bG o (k+1)=if bG o k<o.getD k 0 then o.getD k 0 else bG o k):=rfl;clear j l h;generalize o.getD k 0=y at *
   generalize bG o k=m at *
   by_cases p:m<y
   .
    have b:Hid (bG o (k+1)=y):=by have:=ae c;rw[a0d p]at this;exact this
    go_wp2
    go_round
    case rel=>exact⟨k+1,by omega,by go_num,by rw[ae b]⟩
    case measure=>simp[intOf];omega
   .
    have b:Hid (bG o (k+1)=m):=by have:=ae c;rw[a0e p]at this;exact this
    go_wp2
    go_round
    case rel=>exact⟨k+1,by omega,by go_num,by rw[ae b]⟩
    case measure=>simp[intOf];omega
  .
   obtain rfl:k=o.length:=by omega
   clear h;go_wp2;go_ret;exact⟨rfl,rfl⟩
def Ee(w:World)(b n:Nat):Nat:=((List.range n).map (fun i=>(intOf ((w.cell? ⟨b,i,none⟩).getD (.int .i64 0))).toNat)).sum
theorem Fv{base:Nat}(a:l.length=n)(h:al w base (.slice (some ⟨b,0,none⟩) n c) l):Ee w b n=js l:=by
 unfold Ee js
 congr 1
 apply a2p
 . simp[a]
 .
  intro i d h2;have f:i<n:=by simpa using d
  have:=(h.at a f).1;simp only[List.getElem_map,List.getElem_range];rw[this];have e:l.getD i 0=l[i]:=by simp[List.getD,show i<l.length by omega]
  rw[e];rfl
theorem Gn(l:List Int)(j:Nat)(h:j<l.length):(bq (l.take j)++l.drop j).set j (im (l.getD j 0))=bq (l.take (j+1))++l.drop (j+1):=by
 have b:(bq (l.take j)).length=j:=by simp[bq];omega
 rw[List.set_append_right _ _ (by omega),b,a2I,bZ l j h];have a:l.drop j=l[j] :: l.drop (j+1):=List.drop_eq_getElem_cons h;rw[a,List.set_cons_zero];simp[bq]
theorem JU(l:List Int)(j:Nat)(h:j<l.length):(bq (l.take j)++l.drop j).getD j 0=l.getD j 0:=by
 have a:(bq (l.take j)).length=j:=by simp[bq];omega
 simp only[List.getD];rw[List.getElem?_append_right (by omega),a,a2I,List.getElem?_drop];simp
def okC(l:List Int):Prop:=∀i,i<l.length->0<=l.getD i 0/\l.getD i 0<=100000
theorem ux(h:okC l):okC (bq l):=by
 intro i a;rw[ec]at a;rw[qg l i a];have:=h i a;unfold im;omega
theorem yk(h:okC l):∀x∈l,0<=x:=by
 intro x b;obtain⟨i,a,rfl⟩:=a1N b;have:=(h i a).1;have e:l.getD i 0=l[i]:=by simp[List.getD,a]
 rw[e]at this;exact this
def da(m:Int)(l:List Int):List Int:=oR m (js l) l
theorem wk(a:Option Addr)(cap n mm:Nat)(l:List Int)(w:World)(hn:l.length=n)(h:bo w a l)(h1:1<=n)(hm:n<=300)(hc:okC l)(hU:(ax l l.length).length<=p2 mm)(b6:mm<=14) :
  Calls prog 202 #[.slice a n cap,.int .i64 ((mm:Int)+1)] w fun e w'=>(∃v,e = .returned v/\al w' w.heap.size v (da ((mm:Int)+1) l))/\Below w.heap.size w w':=by
 obtain⟨i0,hi,ca,cc,cg⟩:=a0r Tryz.infoInt;obtain⟨g,o,rfl,hg,a4⟩:=h (by omega);have cp:(n:Int)<=300:=by omega
 have co:(mm:Int)<=14:=by omega
 have Z:=af hn;have HC:=af hc;have HU:=af hU;have HM:=af (a0b h1 hm);have G:Below w.heap.size w (w.alloc (.cells #[] 3)):=(a0c _ _).alloc (a0a _) _;have S:World.ownsRow (w.alloc (.cells #[] 3)) w.heap.size 3 1 (.slice (some ⟨w.heap.size,0,none⟩) 0 0) 0 []:=a0Y w #[] 0 (a0a _) (by unfold maxLen;omega) rfl;have W:Hid (∀j u,(l.map (Value.int .i64))[j]?=some u->(w.alloc (.cells #[] 3)).cell? ((⟨g,o,none⟩:Addr).add j)=some u):=by
  intro j u hj;have a6:j<l.length:=by have:=(List.getElem?_eq_some_iff.1 hj).1;simpa using this
  have ad:(⟨g,o,none⟩:Addr).add j=⟨g,o+j,none⟩:=by unfold Addr.add;split<;>simp_all
  rw[ad,G.cell (p:=⟨g,o+j,none⟩) hg,a4 j a6,←hj];simp[List.getD,a6]
 have b4:Hid ((l.map (Value.int .i64)).length=n*1):=by show _=_;simp[hn]
 have an:Hid (0+n<=maxLen/\(0+n)*8<=140737488355328):=by show _/\_;unfold maxLen;omega
 clear hn hc hU h1 hm a4 b6 h;go_enter func202,ntmps202;go_wp2_with (at_builtin;refine a0B _ rfl _ _ 97 rfl w.heap.size 3 i0 (.int .i64 0) 1 8 a0G hi ca cc cg rfl (by decide) _ _ _ rfl S ⟨g,o,none⟩ n cap (l.map (Value.int .i64)) rfl (ae b4) (ae W) (a1m .i64 _) (ae an).1 (ae an).2 G.size ?_;intro v1 x1 Q K ba;clear ba);have A:al x1 w.heap.size v1 l:=by
  show World.ownsRow _ _ _ _ _ l.length _;rw[ae Z];simpa using Q
 have ab:Below w.heap.size w x1:=G.grown K G.size (fun j hj=>(a0E S j hj).1);obtain⟨va,vc,X⟩:=A.formN (ae Z);rw[X];rw[X]at A;refine(tV va vc n l x1 (ae Z) (A.rowN (ae Z)) (ae HM).2 (ae HC)).mono ?_;rintro e x2 ⟨rfl,bb,T⟩;have bd:=A.later T (a0a _);have ac:=ah ab T;have be:w.heap.size<=x1.heap.size:=ab.size;obtain⟨lb,b2⟩:=A.somes (by rw[ae Z];exact(ae HM).1);subst b2;have P:=A.below;have HX:=af (a0b be P);clear A T Q K X S G P;go_wp2_with fail
 go_loopw [6,7] (fun v _ wr=>∃(c:List Int) (f ob:Nat),c.length=n/\okC c/\(ax c c.length).length<=p2 mm/\js c<=f/\da ((mm:Int)+1) l=oR ((mm:Int)+1) f c/\v = .slice (some ⟨ob,0,none⟩) n n/\lb<ob/\al wr ob (.slice (some ⟨ob,0,none⟩) n n) (bI c)/\al wr w.heap.size (.slice (some ⟨lb,0,none⟩) n vc) c/\Below w.heap.size w wr) (fun _ _ wr=>Ee wr lb n)
 case atStart=>exact⟨l,js l,x1.heap.size,ae Z,ae HC,ae HU,a0a _,rfl,rfl,(ae HX).2.2,bb,bd,ac⟩
 case round=>
  obtain⟨c,f,ob,m,d,E,M,s,rfl,a8,F,z,q⟩:=hrel;clear bb bd ac;have r:(bI c).length=n:=(io c).trans m;have aa:=af (Du (some ⟨ob,0,none⟩) n n (bI c) wr r (F.rowN r) (ae HM).2);have L:Hid (fits (bI c) ((mm:Int)+1)=decide (bG (bI c) n<=(mm:Int)+1)):=by show _=_;unfold fits;rw[r]
  have HQ:=af (a0b m (a0b d (a0b E (a0b M s))));have HO:=af (a0b F (a0b z q));have HS:=af (Fv m z);have a9:=af a8;clear m d E M s r a8;generalize bG (bI c) n=mo at *
  by_cases ch:(mm:Int)+1<mo
  .
   have N:fits (bI c) ((mm:Int)+1)=false:=by rw[ae L];exact a0v (by omega)
   obtain⟨m,d,E,M,s⟩:=ae HQ;have hex:=uw E N;have R:=(uW c (yk d)).2 hex;have b1:∃f',f=f'+1:=⟨f-1,by omega⟩;obtain⟨f',a5⟩:=b1;have V:Hid (da ((mm:Int)+1) l=oR ((mm:Int)+1) f' (bq c)):=by
    show _=_;rw[s,a5];simp only[oR];rw[N];rfl
   have a3:Hid (js (bq c)<=f'):=by show _<=_;omega
   have bl:=af R;have I:=af (ux d);have a2:Hid ((ax (bq c) (bq c).length).length<=p2 mm):=by show _<=_;rw[ec,qG c (fun i hi=>(d i hi).1) _ (a0a _)];exact E
   have B:Hid ((bq c).length=n):=(ec c).trans m;clear m d E M s hex R a5;go_wp2_with fail;refine(ae aa).mono ?_;rintro e x3 ⟨rfl,Y⟩;subst Y;obtain⟨F,z,q⟩:=ae HO;have a0:al x3 w.heap.size (.slice (some ⟨lb,0,none⟩) n vc) (bq (c.take 0)++c.drop 0):=by simpa[bq]using z
   clear F z;go_wp2_with fail
   go_loopw [7] (fun i wq=>∃t:Nat,t<=n/\i = .int .i64 t/\al wq w.heap.size (.slice (some ⟨lb,0,none⟩) n vc) (bq (c.take t)++c.drop t)/\Below w.heap.size w wq) (fun i _=>n-(intOf i).toNat)
   case atStart=>exact⟨0,a0g _,rfl,a0,q⟩
   case round=>
    obtain⟨t,ht,rfl,k,x⟩:=hrel;clear a0 q;obtain⟨m,d,_,_,_⟩:=ae HQ;have a7:Hid ((bq (c.take t)++c.drop t).length=n):=by show _=n;rw[a0i,ec,a0z,a1v];omega
    by_cases b5:t<n
    .
     have D:=k.put (j:=t) (ae a7) (im (c.getD t 0));rw[Gn c t (by omega)]at D;obtain⟨d0,f0,ao,_⟩:=k.at (ae a7) b5;rw[JU c t (by omega)]at d0;have hy:=d t (by omega);have H:=ai x (b:=lb) (o:=t) ao (.int .i64 (im (c.getD t 0)));unfold im at D H;have O:=af (a0b D H);have b9:(t:Int)<(n:Int):=by omega
     have Ht:=af ht;generalize c.getD t 0=y at *
     obtain⟨y0,y1⟩:=hy;have e1:IntKind.i64.wrap ((y+1).tdiv 2)=(y+1)/2:=by rw[Int.tdiv_eq_ediv_of_nonneg (by omega)];simp[IntKind.wrap,IntKind.bits,IntKind.signed];omega
     clear D H k x m d ht ao;go_wp2;go_roundw
     case rel=>exact⟨t+1,by have:=ae Ht;omega,by go_num,(ae O).1,(ae O).2⟩
     case measure=>simp[intOf];omega
    .
     have cr:t=n:=by omega
     have J:bq (c.take t)++c.drop t=bq c:=by rw[a0o (by omega),a24 (by omega)];simp
     rw[J]at k;have b3:=af (tV (some ⟨lb,0,none⟩) vc n (bq c) wr (ae B) (k.rowN (ae B)) (ae HM).2 (ae I));have C:=k.below;have bk:=af (a0b k (a0b x C));have b9:¬ (t:Int)<(n:Int):=by omega
     clear k x m d J C;go_wp2_with fail;refine(ae b3).mono ?_;rintro e x4 ⟨rfl,b8,U⟩;obtain⟨k,x,C⟩:=ae bk;have a1:=k.later U (a0a _);have bs:=ah x U;have b7:Hid (Ee x4 lb n<Ee x3 lb n):=by
      show Ee x4 lb n<Ee x3 lb n;rw[Fv (ae B) a1,ae HS];exact ae bl
     clear k x U;go_wp2;go_roundw
     case rel=>exact⟨bq c,f',wr.heap.size,ae B,ae I,ae a2,ae a3,ae V,rfl,C.2,b8,a1,bs⟩
     case measure=>exact ae b7
  .
   have N:fits (bI c) ((mm:Int)+1)=true:=by rw[ae L];exact a0F (by omega)
   have bc:Hid (da ((mm:Int)+1) l=bI c):=by
    show _=_;rw[(ae HQ).2.2.2.2];cases f with
    | zero=>rfl
    | succ f=>simp only[oR];rw[N];rfl
   go_wp2_with fail;refine(ae aa).mono ?_;rintro e x3 ⟨rfl,Y⟩;subst Y;obtain⟨F,z,q⟩:=ae HO;have b0:w.heap.size<=ob:=by have:=z.below.1;have:=ae a9;omega
   go_wp2;go_ret;exact⟨⟨_,rfl,by rw[ae bc];exact F.mono b0⟩,q⟩
def inC(l:List Int):Bool:=l.all (fun b=>inB b 0 100000)
def wv(l:List Int)(m:Int):Bool:=decide (l.length<=300)&&inB m 1 15&&inC l&&inB (us l:Nat) 1 ((p2 m.toNat/2:Nat):Int)
def jy(l:List Int)(m:Int):List Int:=if wv l m then da m l else []
theorem J3(l:List Int)(k:Nat)(h:k<l.length):inC (l.take (k+1))=(inC (l.take k)&&inB (l.getD k 0) 0 100000):=by
 rw[bZ l k h];simp[inC]
theorem Nm(h:k<l.length)(a:inB (l.getD k 0) 0 100000=false):inC l=false:=by
 rcases hb:inC l with _|_
 . rfl
 . have:=a03.1 hb (l.getD k 0) (by simp[List.getD,h]);rw[a]at this;exact absurd this (by simp)
theorem Ph(h:inC l=true):okC l:=by
 intro i a;have:=a03.1 h (l.getD i 0) (by simp[List.getD,a]);exact aI.1 this
theorem NU(l:List Int)(k:Nat)(a:k<=l.length):(ax l k).length=us (l.take k):=by
 induction k with
 | zero=>rfl
 | succ k ih=>
  rw[pN l k (by omega),←ih (by omega)];simp only[ax]
  split
  . simp
  . rfl
theorem eK(l:List Int):(ax l l.length).length=us l:=by
 rw[NU l _ (a0a _),a1Q]
theorem yr(m:Nat):p2 (m+1)/2=p2 m:=by rw[jB];omega
theorem od{x y:Grp}(h:aT x y=true):aT y x=false:=by
 simp only[aT,a1f,a0j,a0p]at h;simp only[aT,a2u,a2K,a2L];omega
theorem iq{x y z:Grp}(h:aT x y=false)(h2:aT y z=false):aT x z=false:=by
 simp only[aT,a2u,a2K,a2L]at h h2 ⊢;omega
theorem Au{x y z:Grp}(h:aT x y=false)(h2:aT z y=true):aT x z=false:=by
 simp only[aT,a1f,a0j,a0p]at h2;simp only[aT,a2u,a2K,a2L]at h ⊢;omega
theorem fW(x:Grp):aT x x=false:=by
 simp only[aT,a2u,a2K,a2L];omega
def cN(L:List Grp)(i j:Nat):List Grp:=(L.set i (L.getD j g0)).set j (L.getD i g0)
theorem fZ(L:List Grp)(i j:Nat):(cN L i j).length=L.length:=by simp[cN]
theorem wO{L:List Grp}(a:i<L.length):(cN L i j).getD i g0=L.getD j g0:=by
 unfold cN;rw[List.getD_eq_getElem?_getD,List.getElem?_set];by_cases h:j=i
 . subst h;simp[a]
 . rw[a0e h,List.getElem?_set_self a];rfl
theorem nv{L:List Grp}(a:j<L.length):(cN L i j).getD j g0=L.getD i g0:=by
 unfold cN;rw[List.getD_eq_getElem?_getD,List.getElem?_set_self (by simpa using a)];rfl
theorem cU{L:List Grp}(a:k≠i)(h2:k≠j):(cN L i j).getD k g0=L.getD k g0:=by
 unfold cN;rw[List.getD_eq_getElem?_getD,List.getElem?_set_ne (fun e=>h2 e.symm),List.getElem?_set_ne (fun e=>a e.symm),←List.getD_eq_getElem?_getD]
theorem set_perm(L:List Grp)(i:Nat)(x:Grp)(h:i<L.length):(L.getD i g0 :: L.set i x).Perm (x :: L):=by
 induction L generalizing i with
 | nil=>simp at h
 | cons g L ih=>
  cases i with
  | zero=>simp only[List.getD_cons_zero,List.set_cons_zero];exact a3A _ _ _
  | succ i=>
   simp only[a2x,List.set_cons_succ];have a:=ih i (by simpa using h);exact(a3A _ _ _).trans ((a.cons g).trans (a3A _ _ _))
theorem gV{L:List Grp}(b:i<L.length)(d:j<L.length):(cN L i j).Perm L:=by
 have c:=set_perm L i (L.getD j g0) b;have h2:=set_perm (L.set i (L.getD j g0)) j (L.getD i g0) (by simpa using d);have e:(L.set i (L.getD j g0)).getD j g0=L.getD j g0:=by
  rw[List.getD_eq_getElem?_getD,List.getElem?_set];by_cases a:i=j
  . subst a;simp[b]
  . rw[a0e a,←List.getD_eq_getElem?_getD]
 rw[e]at h2;exact(h2.trans c).cons_inv
def HP(L:List Grp):Prop:=∀i,0<i->i<L.length->aT (L.getD i g0) (L.getD ((i-1)/2) g0)=false
def UpI(L:List Grp)(k:Nat):Prop:=
 (∀i,0<i->i<L.length->i≠k->aT (L.getD i g0) (L.getD ((i-1)/2) g0)=false) /\
 (∀i,0<i->i<L.length->(i-1)/2=k->0<k->aT (L.getD i g0) (L.getD ((k-1)/2) g0)=false)
def DnI(L:List Grp)(k:Nat):Prop:=
 (∀i,0<i->i<L.length->(i-1)/2≠k->aT (L.getD i g0) (L.getD ((i-1)/2) g0)=false) /\
 (∀i,0<i->i<L.length->(i-1)/2=k->0<k->aT (L.getD i g0) (L.getD ((k-1)/2) g0)=false)
theorem Mm{L:List Grp}(h:UpI L k)(a:k=0∨aT (L.getD k g0) (L.getD ((k-1)/2) g0)=false):HP L:=by
 intro i b c;by_cases e:i=k
 .
  subst e;rcases a with a|a
  . omega
  . exact a
 . exact h.1 i b c e
theorem Oh{L:List Grp}(h:UpI L k)(l:0<k)(m:k<L.length)(g:aT (L.getD k g0) (L.getD ((k-1)/2) g0)=true):UpI (cN L k ((k-1)/2)) ((k-1)/2):=by
 have hq:(k-1)/2<k:=by omega
 have b:(k-1)/2<L.length:=by omega
 have sk:=wO (L:=L) (j:=(k-1)/2) m;have sq:=nv (L:=L) (i:=k) b;refine⟨?_,?_⟩
 .
  intro i i0 a d;rw[fZ]at a;by_cases e:i=k
  . subst e;rw[sk,sq];exact od g
  .
   rw[cU e d];by_cases p:(i-1)/2=(k-1)/2
   . rw[p,sq];have:=h.1 i i0 a e;rw[p]at this;exact Au this g
   .
    by_cases p2:(i-1)/2=k
    . rw[p2,sk];exact h.2 i i0 a p2 l
    . rw[cU p2 p];exact h.1 i i0 a e
 .
  intro i i0 a n f;rw[fZ]at a;have o:((k-1)/2-1)/2<(k-1)/2:=by omega
  rw[cU (k:=((k-1)/2-1)/2) (by omega) (by omega)];have c:=h.1 ((k-1)/2) f b (by omega);by_cases e:i=k
  . subst e;rw[sk];exact c
  . rw[cU e (by omega)];have:=h.1 i i0 a e;rw[n]at this;exact iq this c
theorem xF{L:List Grp}(h:DnI L k)(d:∀c,0<c->c<L.length->(c-1)/2=k->aT (L.getD c g0) (L.getD k g0)=false):HP L:=by
 intro i a b;by_cases e:(i-1)/2=k
 . rw[e];exact d i a b e
 . exact h.1 i a b e
theorem xG{L:List Grp}(h:DnI L k)(l:k<L.length)(g:c<L.length)(d:0<c)(f:(c-1)/2=k)(o:∀i,0<i->i<L.length->(i-1)/2=k->aT (L.getD i g0) (L.getD c g0)=false)(n:aT (L.getD c g0) (L.getD k g0)=true):DnI (cN L c k) c:=by
 have m:k<c:=by omega
 have sc:=wO (L:=L) (j:=k) g;have sk:=nv (L:=L) (i:=c) l;refine⟨?_,?_⟩
 .
  intro i i0 b a;rw[fZ]at b;by_cases e:i=c
  . subst e;rw[f,sc,sk];exact od n
  .
   by_cases p:(i-1)/2=k
   . rw[p,sk,cU e (by omega)];exact o i i0 b p
   .
    rw[cU a p];by_cases e2:i=k
    . subst e2;rw[sk];exact h.2 c d g f i0
    . rw[cU e e2];exact h.1 i i0 b p
 . intro i i0 b a _;rw[fZ]at b;rw[f,sk,cU (by omega) (by omega)];have:=h.1 i i0 b (by omega);rw[a]at this;exact this
theorem J0{L:List Grp}(h:HP L):∀i,i<L.length->aT (L.getD i g0) (L.getD 0 g0)=false:=by
 intro i;induction i using Nat.strongRecOn with
 | ind i ih=>
  intro a;by_cases e:i=0
  . subst e;exact fW _
  . exact iq (h i (by omega) a) (ih ((i-1)/2) (by omega) (by omega))
theorem Ng{L:List Grp}(h:HP L)(g:Grp):UpI (L++[g]) L.length:=by
 refine⟨?_,?_⟩
 .
  intro i i0 b d;have a:i<L.length:=by simp at b;omega
  have e1:∀k,k<L.length->(L++[g]).getD k g0=L.getD k g0:=by
   intro k c;rw[List.getD_eq_getElem?_getD,List.getElem?_append_left c,←List.getD_eq_getElem?_getD]
  rw[e1 i a,e1 _ (by omega)];exact h i i0 a
 . intro i i0 b e _;simp at b;omega
theorem tp(L:List Grp)(m k:Nat)(h:k<m):(L.take m).getD k g0=L.getD k g0:=by
 rw[List.getD_eq_getElem?_getD,List.getElem?_take_of_lt h,←List.getD_eq_getElem?_getD]
theorem OR{L:List Grp}(h:HP L):DnI ((cN L 0 (L.length-1)).take (L.length-1)) 0:=by
 refine⟨?_,fun i _ _ _ b=>absurd b (a2M 0)⟩;intro i i0 c d;have a:i<L.length-1:=by rw[a0z,fZ]at c;omega
 rw[tp _ _ _ a,tp _ _ _ (by omega),cU (by omega) (by omega),cU d (by omega)];exact h i i0 (by omega)
theorem Eg(L:List Grp)(n:Nat)(h:L.length=n+1):L=L.take n++[L.getD n g0]:=by
 have e:L.take (n+1)=L:=a0o (by omega);have h2:L.take (n+1)=L.take n++[L.getD n g0]:=by
  rw[a09 (by omega)]
  congr 2
  simp[List.getD,h]
 rw[e]at h2;exact h2
theorem Jo{L:List Grp}(h:0<L.length):(L.getD 0 g0 :: (cN L 0 (L.length-1)).take (L.length-1)).Perm L:=by
 have b:=gV (L:=L) (i:=0) (j:=L.length-1) h (by omega);have h2:=Eg (cN L 0 (L.length-1)) (L.length-1) (by rw[fZ];omega);rw[nv (by omega)]at h2;have a:(L.getD 0 g0 :: (cN L 0 (L.length-1)).take (L.length-1)).Perm ((cN L 0 (L.length-1)).take (L.length-1)++[L.getD 0 g0]):=(List.perm_append_singleton _ _).symm;rw[←h2]at a;exact a.trans b
theorem Ap(L:List Grp)(k j:Nat)(b:j<=k):aT (L.getD j g0) (L.getD (cf L k) g0)=false:=by
 induction k with
 | zero=>
  obtain rfl:j=0:=by omega
  exact fW _
 | succ k ih=>
  simp only[cf];cases a:aT (L.getD (k+1) g0) (L.getD (cf L k) g0)
  .
   simp only[a1y,a1z];by_cases e:j=k+1
   . subst e;exact a
   . exact ih (by omega)
  .
   simp only[a0Z];by_cases e:j=k+1
   . subst e;exact fW _
   . exact Au (ih (by omega)) a
theorem Db(M:List Grp)(g:Grp)(a:g∈M):aT g (aB M)=false:=by
 obtain⟨i,b,rfl⟩:=a1N a;have:=Ap M (M.length-1) i (by omega);have e:M.getD i g0=M[i]:=by simp[List.getD,b]
 rw[e]at this;exact this
def rf(M:List Grp):Prop:=∀g∈M,g.fst∈g.syms
theorem LE(l:List Int)(k:Nat):rf (ax l k):=by
 induction k with
 | zero=>intro g a;simp[ax]at a
 | succ k ih=>
  simp only[ax]
  split
  .
   intro g a;simp only[a0V,a01]at a;rcases a with a|rfl
   . exact ih g a
   . simp
  . exact ih
theorem LV{M:List Grp}(h:rf M)(c:1<M.length):rf (stepG M):=by
 have d:=di M (by omega);intro g a;simp only[stepG,a0V,a01]at a;rcases a with a|rfl
 . exact h g (bf M _ (bf _ _ a))
 .
  have b:=h _ (bv M (by omega));have hb:=h _ (bf M _ (bv (am M) (by omega)));simp only[dQ,a0V]
  split
  . exact .inr hb
  . exact .inl b
theorem J2(l:List Int)(k:Nat)(b:k<(ax l l.length).length∨k=0):rf (aw l k).1:=by
 induction k with
 | zero=>exact LE l _
 | succ k ih=>
  have a:1<(aw l k).1.length:=by have:=(bW l k (by omega)).2.2.2;omega
  exact LV (ih (by omega)) a
theorem LC{M:List Grp}(j:(bn M).Nodup)(i:rf M){x y:Grp}(b:x∈M)(a:y∈M)(e:x.fst=y.fst):x=y:=by
 induction M with
 | nil=>cases b
 | cons g M ih=>
  have k:bn (g :: M)=g.syms++bn M:=by simp[bn]
  rw[k,a3B]at j;obtain⟨_,n2,n3⟩:=j;have c:rf M:=fun z h=>i z (by simp[h]);have f:∀z∈M,z.fst∈bn M:=fun z h=>List.mem_flatMap.2 ⟨z,h,c z h⟩;have d:g.fst∈g.syms:=i g (by simp);simp only[a0U]at b a;rcases b with rfl|b
  .
   rcases a with rfl|a
   . rfl
   . exact absurd e (n3 _ d _ (f y a))
  .
   rcases a with rfl|a
   . exact absurd e.symm (n3 _ d _ (f x b))
   . exact ih n2 c b a
theorem GG{x y:Grp}(h:aT x y=false)(h2:aT y x=false):x.fst=y.fst:=by
 simp only[aT,a2u,a2K,a2L]at h h2;omega
theorem wX{L M:List Grp}{a:Grp}{L1:List Grp}(h:(L.map bare).Perm M)(k:L.Perm (a :: L1))(f:∀g∈L,aT g a=false)(m:0<L.length)(s:(bn M).Nodup)(r:rf M):bare a=aB M/\(L1.map bare).Perm (am M):=by
 have l:0<M.length:=by rw[←h.length_eq,a0N];exact m
 have p:a∈L:=k.mem_iff.2 (by simp);have b:bare a∈M:=h.mem_iff.1 (a2z p);have d:=bv M l;obtain⟨c,q,i⟩:=a2J.1 (h.mem_iff.2 d);have n:aT (aB M) (bare a)=false:=by rw[←i,uf];exact f c q
 have h2:=Db M (bare a) b;have e:bare a=aB M:=LC s r b d (GG h2 n);refine⟨e,?_⟩;have o:(bare a :: L1.map bare).Perm M:=by
  have:=(k.map bare).symm.trans h;simpa using this
 have j:=o.trans (lq M l).symm;rw[e]at j;exact j.cons_inv
theorem Gg{M:List Grp}(b:0<M.length)(c:(bn M).Nodup):(bn (am M)).Nodup:=by
 have a:=qf (lq M b);have h2:=a.nodup_iff.2 c;have e:bn (aB M :: am M)=(aB M).syms++bn (am M):=by simp[bn]
 rw[e,a3B]at h2;exact h2.2.1
theorem G3{α:Type}(f:α->Nat){A B:List α}(h:A.Perm B):(A.map f).sum=(B.map f).sum:=by
 induction h with
 | nil=>rfl
 | cons x _ ih=>simp only[a0C,a0M];omega
 | swap x y l=>simp only[a0C,a0M];omega
 | trans _ _ h1 h2=>omega
def qW:Nat->List Grp->Int
 | 0,_=>0
 | n+1,M=>if 1<M.length then(aB M).cnt+(aB (am M)).cnt+qW n (stepG M)else 0
theorem iU(h:0<l.getD k 0):ax l (k+1)=ax l k++[⟨l.getD k 0,(k:Int),[(k:Int)],.slice none 0 0⟩]:=by simp only[ax];rw[a0d h]
theorem mN(h:¬ 0<l.getD k 0):ax l (k+1)=ax l k:=by simp only[ax];rw[a0e h]
def krR(l:List Int)(len:Nat->Nat)(D:Nat):Nat->Nat
 | 0=>0
 | n+1=>krR l len D n+(if 0<l.getD n 0 then 2 ^ (D-len n)else 0)
theorem pz(l:List Int)(k:Nat):∀g∈ax l k,0<=g.cnt/\∃i:Nat,g.fst=(i:Int)/\i<k/\0<l.getD i 0/\g.cnt=l.getD i 0/\g.syms=[(i:Int)]:=by
 induction k with
 | zero=>intro g a;simp[ax]at a
 | succ k ih=>
  intro g a;by_cases d:0<l.getD k 0
  .
   rw[iU d]at a;simp only[a0V,a01]at a;rcases a with a|rfl
   . obtain⟨b,i,h2,e,c⟩:=ih g a;exact⟨b,i,h2,by omega,c⟩
   . exact⟨by simp only;omega,k,rfl,by omega,d,rfl,rfl⟩
  . rw[mN d]at a;obtain⟨b,i,h2,e,c⟩:=ih g a;exact⟨b,i,h2,by omega,c⟩
theorem vq(l:List Int)(len:Nat->Nat)(D k:Nat):((bn (ax l k)).map fun s=>2 ^ (D-len s.toNat)).sum=krR l len D k:=by
 induction k with
 | zero=>rfl
 | succ k ih=>
  simp only[krR];by_cases h:0<l.getD k 0
  . rw[a0d h,←ih,iU h];simp[bn]
  . rw[a0e h,←ih,mN h];simp
theorem zD(l:List Int)(k:Nat)(x:Int):x∈bn (ax l k)<->∃i:Nat,x=(i:Int)/\i<k/\0<l.getD i 0:=by
 constructor
 . intro h;obtain⟨g,d,a⟩:=List.mem_flatMap.1 h;obtain⟨_,i,j,h2,b,_,c⟩:=pz l k g d;rw[c]at a;simp only[a01]at a;exact⟨i,a,h2,b⟩
 .
  rintro⟨i,rfl,m,f⟩;induction k with
  | zero=>omega
  | succ k ih=>
   by_cases e:i=k
   . subst e;rw[iU f];simp[bn]
   .
    have:=ih (by omega);by_cases h:0<l.getD k 0
    . rw[iU h];simp only[bn,a2q,a0V];exact .inl this
    . rw[mN h];exact this
/-! What holds behind so many steps. -/
def jX(l s:List Int):Int:=(s.map fun x=>l.getD x.toNat 0).sum
theorem nQ(l a b:List Int):jX l (a++b)=jX l a+jX l b:=by simp[jX]
theorem EQ(l:List Int)(k:Nat)(j:k<(ax l l.length).length∨k=0):∀g∈(aw l k).1,g.cnt=jX l g.syms:=by
 induction k with
 | zero=>
  intro g b;obtain⟨_,i,f,h2,h,d,e⟩:=pz l l.length g b;rw[d,e];simp[jX]
 | succ k ih=>
  have c:1<(aw l k).1.length:=by have:=(bW l k (by omega)).2.2.2;omega
  have m:=di (aw l k).1 (by omega);have ih':=ih (by omega);intro g b;have a:g∈stepG (aw l k).1:=b;simp only[stepG,a0V,a01]at a;rcases a with a|rfl
  . exact ih' g (bf _ _ (bf _ _ a))
  . simp only[dQ];rw[nQ,ih' _ (bv _ (by omega)),ih' _ (bf _ _ (bv (am _) (by omega)))]
def oP(l o:List Int):Nat->Int
 | 0=>0
 | n+1=>oP l o n+l.getD n 0*o.getD n 0
theorem F3(l o:List Int)(s:Int)(a:0<=s)(n:Nat)(b:n<=o.length):oP l (fw o s) n=oP l o n+(if s<(n:Int)then l.getD s.toNat 0 else 0):=by
 induction n with
 | zero=>simp only[oP];rw[a0e (by omega)];rfl
 | succ n ih=>
  simp only[oP];rw[ih (by omega),vH o s n a (by omega)];by_cases e:s=(n:Int)
  . subst e;rw[a0e (by omega),a0d rfl,a0d (by omega),Int.mul_add,Int.mul_one,a0l];omega
  .
   rw[a0e e,Int.add_zero];by_cases h:s<(n:Int)
   . rw[a0d h,a0d (by omega)];omega
   . rw[a0e h,a0e (by omega)];omega
theorem Ju(l s:List Int)(n:Nat):∀(o:List Int),n<=o.length->(∀x∈s,0<=x/\x<(n:Int))->oP l (bump o s) n=oP l o n+jX l s:=by
 induction s with
 | nil=>intro o _ _;simp[bump,jX]
 | cons x s ih=>
  intro o b a;show oP l (bump (fw o x) s) n=_;rw[ih (fw o x) (by rw[mW];exact b) (fun y c=>a y (by simp[c])),F3 l o x (a x (by simp)).1 n b,a0d (a x (by simp)).2];simp only[jX,a0C,a0M];omega
theorem Jv(l:List Int)(m n:Nat):oP l (List.replicate m 0) n=0:=by
 induction n with
 | zero=>rfl
 | succ n ih=>
  simp only[oP];rw[ih];have:(List.replicate m (0:Int)).getD n 0=0:=by
   rw[List.getD_eq_getElem?_getD,List.getElem?_replicate]
   split<;>rfl
  rw[this];omega
theorem Nj(l:List Int)(k:Nat)(i:k<(ax l l.length).length∨k=0):oP l (aw l k).2 l.length+qW ((ax l l.length).length-1-k) (aw l k).1=qW ((ax l l.length).length-1) (ax l l.length):=by
 induction k with
 | zero=>
  show oP l (List.replicate l.length 0) l.length+qW _ (ax l l.length)=_;rw[Jv,Int.zero_add,Nat.sub_zero]
 | succ k ih=>
  have ih':=ih (by omega);have a:1<(aw l k).1.length:=by have:=(bW l k (by omega)).2.2.2;omega
  have j:=di (aw l k).1 (by omega);obtain⟨m,hm⟩:∃m,(ax l l.length).length-1-k=m+1:=⟨(ax l l.length).length-1-k-1,by omega⟩;have b:(ax l l.length).length-1-(k+1)=m:=by omega
  rw[hm]at ih';rw[b];simp only[qW]at ih';rw[a0d a]at ih';have c:∀x∈bg (aw l k).1,0<=x/\x<(l.length:Int):=by
   intro x h;have g:=(gN l k (by omega)).2;exact g x ((jj _ a).mem_iff.1 (by simp[h]))
  have d:=Ju l (bg (aw l k).1) l.length (aw l k).2 (by rw[dY];exact a0a _) c;have h2:=EQ l k (by omega) _ (bv (aw l k).1 (by omega));have e:=EQ l k (by omega) _ (bf _ _ (bv (am (aw l k).1) (by omega)));have f:jX l (bg (aw l k).1)=(aB (aw l k).1).cnt+(aB (am (aw l k).1)).cnt:=by
   unfold bg;rw[nQ,←h2,←e]
  show oP l (bump (aw l k).2 (bg (aw l k).1)) l.length+qW m (stepG (aw l k).1)=_;rw[d,f];omega
def oa(o s:List Int)(D:Nat):Nat:=(s.map fun x=>2 ^ (D-(o.getD x.toNat 0).toNat)).sum
theorem zX(o a b:List Int)(D:Nat):oa o (a++b) D=oa o a D+oa o b D:=by simp[oa]
theorem Gs{o o' s:List Int}{D:Nat}(h:∀x∈s,o'.getD x.toNat 0=o.getD x.toNat 0):oa o' s D=oa o s D:=by
 unfold oa
 congr 1
 apply List.map_congr_left;intro x a;rw[h x a]
theorem Gr{o o' s:List Int}{D:Nat}(h:∀x∈s,0<=o.getD x.toNat 0/\o.getD x.toNat 0<(D:Int)/\o'.getD x.toNat 0=o.getD x.toNat 0+1):2*oa o' s D=oa o s D:=by
 induction s with
 | nil=>rfl
 | cons x s ih=>
  have ih':=ih (fun y c=>h y (by simp[c]));obtain⟨e,h2,b⟩:=h x (by simp);simp only[oa,a0C,a0M]at ih' ⊢;rw[b];obtain⟨d,hd⟩:∃d,D-(o.getD x.toNat 0).toNat=d+1:=⟨D-(o.getD x.toNat 0).toNat-1,by omega⟩;have a:D-(o.getD x.toNat 0+1).toNat=d:=by omega
  rw[hd,a,a1s];omega
theorem Nk(l:List Int)(D:Nat)(A:(ax l l.length).length<=D)(k:Nat)(B:k<(ax l l.length).length∨k=0):∀g∈(aw l k).1,oa (aw l k).2 g.syms D=2 ^ D:=by
 induction k with
 | zero=>
  intro g m;obtain⟨_,i,q,h2,w,z,r⟩:=pz l l.length g m;rw[r];show oa (List.replicate l.length 0) [(i:Int)] D=2 ^ D;simp[oa,List.getD,h2]
 | succ k ih=>
  have c:1<(aw l k).1.length:=by have:=(bW l k (by omega)).2.2.2;omega
  have C:=di (aw l k).1 (by omega);have ih':=ih (by omega);have d:=gN l k (by omega);obtain⟨n,h⟩:=jh c d.1;have f:=lh l k (by omega);have j:∀x∈bg (aw l k).1,0<=x/\x<(l.length:Int):=fun x e=>d.2 x ((jj _ c).mem_iff.1 (by simp[e]));have b:=fun(x:Int) (h0:0<=x) (q:x<(l.length:Int))=>lX (aw l k).2 (bg (aw l k).1) x.toNat n (fun y v=>(j y v).1) (by rw[dY];omega);intro g m;show oa (bump (aw l k).2 (bg (aw l k).1)) g.syms D=2 ^ D;have a:g∈stepG (aw l k).1:=m;simp only[stepG,a0V,a01]at a;rcases a with a|rfl
  .
   rw[Gs (o:=(aw l k).2)]
   . exact ih' g (bf _ _ (bf _ _ a))
   . intro x e;have p:x∈bn (aw l k).1:=List.mem_flatMap.2 ⟨g,bf _ _ (bf _ _ a),e⟩;obtain⟨x0,x1⟩:=d.2 x p;rw[b x x0 x1,a28 x0,a0e (h g a x e),Int.add_zero]
  .
   have u:(dQ (aB (aw l k).1) (aB (am (aw l k).1))).syms=bg (aw l k).1:=rfl;rw[u];have t:=Gr (o:=(aw l k).2) (o':=bump (aw l k).2 (bg (aw l k).1)) (s:=bg (aw l k).1) (D:=D) (by
    intro x e;obtain⟨x0,x1⟩:=j x e;have hd:=f x.toNat (by rw[dY];omega);refine⟨hd.1,by omega,?_⟩;rw[b x x0 x1,a28 x0,a0d e])
   have h2:oa (aw l k).2 (bg (aw l k).1) D=2 ^ D+2 ^ D:=by
    unfold bg;rw[zX,ih' _ (bv _ (by omega)),ih' _ (bf _ _ (bv (am _) (by omega)))]
   omega
open Corb
def cH(w:World)(b base:Nat)(v:Value)(L:List Grp):Prop:=w.heap[b]?=some (Obj.cells #[v] 297)/\cF 266 w base v L
theorem cH.cell{base:Nat}{L:List Grp}(h:cH w b base v L):w.cell? ⟨b,0,none⟩=some v:=by simp[World.cell?,h.1]
theorem cH.frz{base:Nat}{L:List Grp}(h:cH w b base v L):w.frozen? ⟨b,0,none⟩=false:=by simp[World.frozen?,h.1]
theorem cH.lt{base:Nat}{L:List Grp}(h:cH w b base v L):b<w.heap.size:=(Array.getElem?_eq_some_iff.1 h.1).1
theorem iO(b base n cap:Nat)(a:Option Addr)(L:List Grp)(w:World)(h:cH w b base (.slice a n cap) L) :
  Calls prog 190 #[.pointer (some ⟨b,0,none⟩)] w fun e w'=>e = .returned (.int .i64 (n:Nat))/\w'=w:=by
 have c0:=h.cell;clear h;go_enter func190,ntmps190;go_wp2;go_ret;exact⟨rfl,rfl⟩
theorem iX(b base ob g n cap i j:Nat)(L:List Grp)(w:World)(d:dJ w ob L)(f:L.length=n)(t:n<=300)(h:cH w b base (.slice (some ⟨g,0,none⟩) n cap) L)(l:i<n)(m:j<n) :
  CD 308 #[.pointer (some ⟨b,0,none⟩),.int .i64 (i:Nat),.int .i64 (j:Nat)] w (.bool (aT (L.getD i g0) (L.getD j g0))):=by
 have c0:=h.cell;obtain⟨a0,a1,a2,_,z⟩:=h.2.at f i l;obtain⟨o,p,k,_,_⟩:=h.2.at f j m;have q:b<w.heap.size:=World.block_lt_of_cell? w ⟨b,0,none⟩ c0;obtain⟨xa,xq,a⟩:=(d (L.getD i g0) (fC L i (by omega))).form;obtain⟨ya,yq,c⟩:=(d (L.getD j g0) (fC L j (by omega))).form;have r:(i:Int)<(n:Int):=by omega
 have s:(j:Int)<(n:Int):=by omega
 have u:(n:Int)<=300:=by omega
 rw[a]at a2;rw[c]at k;clear h f t l m a c d;generalize L.getD i g0=x at *
 generalize L.getD j g0=y at *
 obtain⟨xc,xf,xs,xv⟩:=x;obtain⟨yc,yf,ys,yv⟩:=y;simp only at a0 a1 a2 o p k;generalize xs.length=xn at *
 generalize ys.length=yn at *
 go_enter func308,ntmps308;go_wp2_with fail
 go_region
 all_goals
  by_cases e:xc=yc
  . subst e;go_wp2;go_ret;exact⟨congrArg (fun x=>Ending.returned (.bool x)) (by simp[aT]),(((a0c _ _).alloc (a0a _) _).alloc (by simp) _).drew⟩
  .
   have v:(xc == yc)=false:=by simpa using e
   go_wp2;go_ret;exact⟨congrArg (fun x=>Ending.returned (.bool x)) (by simp[aT,e]),(((a0c _ _).alloc (a0a _) _).alloc (by simp) _).drew⟩
theorem bp.ints{base:Nat}(h:bp 3 w w')(a:al w base v l):al w' base v l:=h.own a
theorem bp.syms{l:List Grp}(h:bp 3 w w')(b:dJ w ob l):dJ w' ob l:=fun g a=>h.ints (b g a)
theorem dJ.perm{l m:List Grp}(h:dJ w ob l)(b:m.Perm l):dJ w ob m:=fun g a=>h g (b.mem_iff.1 a)
def bz(g:Nat)(w w':World):Prop:=bp 3 w w'/\w.heap.size<=w'.heap.size/\∀k,k<w.heap.size->k≠g->w'.heap[k]?=w.heap[k]?
theorem bz.refl(g:Nat)(w:World):bz g w w:=⟨bp.refl _ _,a0a _,fun _ _ _=>rfl⟩
theorem bz.trans{w1 w2:World}(h:bz g w w1)(k:bz g w1 w2):bz g w w2:=
 ⟨h.1.trans k.1,a0L h.2.1 k.2.1,fun j b a=>(k.2.2 j (a0h b h.2.1) a).trans (h.2.2 j b a)⟩
theorem bz.below(h:Below w.heap.size w w'):bz g w w':=⟨bp.below h,h.size,fun j a _=>h.block j a⟩
theorem bz.syms{l:List Grp}(h:bz g w w')(a:dJ w ob l):dJ w' ob l:=h.1.syms a
theorem bz.drew(h:bz g w w'):bz g w w'.drew:=h
theorem bz.touch{t':TypeId}{c:Array Value}{f:Nat×Nat}(d:w.heap[g]?=some (.cells c t' f))(a:3≠t')(b:Touch (some ⟨g,0,none⟩) w w'):bz g w w':=
 ⟨bp.touch d a b,Nat.le_of_eq b.1.symm,fun j _ h=>b.2 j (fun g' e=>by simp only[a0k,a0D,a0P]at e;omega)⟩
theorem Ej(l:List Grp)(j:Nat)(x:Grp):(((aO l).set (j*3) (.int .i64 x.cnt)).set (j*3+1) (.int .i64 x.fst)).set (j*3+2) x.val=aO (l.set j x):=by
 induction l generalizing j with
 | nil=>simp[aO]
 | cons p l ih=>
  cases j with
  | zero=>simp[aO]
  | succ j=>
   rw[show(j+1)*3=j*3+1+1+1 by omega];simp only[aO,List.set_cons_succ];rw[ih j]
theorem cF.put{base cap:Nat}{l:List Grp}(c:l.length=n)(h:cF t w base (.slice (some ⟨g,0,none⟩) n cap) l)(j:Nat)(x:Grp) :
  cF t (((w.setCell ⟨g,j*3,none⟩ (.int .i64 x.cnt)).setCell ⟨g,j*3+1,none⟩ (.int .i64 x.fst)).setCell ⟨g,j*3+2,none⟩ x.val) base (.slice (some ⟨g,0,none⟩) n cap) (l.set j x):=by
 subst c;have b:=(a10 h (j*3) (.int .i64 x.cnt)).1;have h2:=(a10 b (j*3+1) (.int .i64 x.fst)).1;have a:=(a10 h2 (j*3+2) x.val).1;rw[Ej]at a;show World.ownsRow _ _ _ _ _ (l.set j x).length _;rw[a1w];exact a
theorem cF.frozen{base cap:Nat}{l:List Grp}(a:l.length=n)(h:cF t w base (.slice (some ⟨g,0,none⟩) n cap) l)(j:Nat):w.frozen? ⟨g,j,none⟩=false:=by
 subst a;exact a2o h j
theorem Touch.drew{a:Option Addr}(h:Touch a w w'):Touch a w w'.drew:=h
theorem cF.drew{base:Nat}{l:List Grp}(h:cF t w base v l):cF t w.drew base v l:=h
theorem cH.drew{base:Nat}{L:List Grp}(h:cH w b base v L):cH w.drew b base v L:=⟨h.1,h.2.drew⟩
theorem mO(b base ob g n cap i j:Nat)(L:List Grp)(w:World)(u:dJ w ob L)(a:L.length=n)(V:n<=300)(h:cH w b base (.slice (some ⟨g,0,none⟩) n cap) L)(O:b<base)(B:i<n)(C:j<n) :
  Calls prog 221 #[.pointer (some ⟨b,0,none⟩),.int .i64 (i:Nat),.int .i64 (j:Nat)] w fun e w'=>e = .returned (.tuple #[])/\cH w' b base (.slice (some ⟨g,0,none⟩) n cap) (cN L i j)/\Below b w w'/\bz g w w':=by
 have c0:=h.cell;have R:=(a0E h.2 g rfl).1;have v:b≠g:=by omega
 obtain⟨gc,q⟩:=Hf (n:=n) (by have h2:=h.2;unfold cF at h2;rw[a]at h2;exact h2) rfl;have s:=af q;clear q;obtain⟨a0,a1,a2,_,X⟩:=h.2.at a i B;obtain⟨K,M,A,_,_⟩:=h.2.at a j C;have f0:=h.2.frozen a (i*3);have f1:=h.2.frozen a (i*3+1);have f2:=h.2.frozen a (i*3+2);have k0:=h.2.frozen a (j*3);have Y:=h.2.frozen a (j*3+1);have Z:=h.2.frozen a (j*3+2);have P:b<w.heap.size:=World.block_lt_of_cell? w ⟨b,0,none⟩ c0;obtain⟨xa,xq,d⟩:=(u (L.getD i g0) (fC L i (by omega))).form;obtain⟨ya,yq,f⟩:=(u (L.getD j g0) (fC L j (by omega))).form;have S:(i:Int)<(n:Int):=by omega
 have T:(j:Int)<(n:Int):=by omega
 have W:(n:Int)<=300:=by omega
 rw[d]at a2;rw[f]at A;have H:=af h;have z:=af a;clear h a V B C u;have F:=af d;have G:=af f;have Q:g≠b:=fun e=>v e.symm;clear d f;generalize D:L.getD i g0=x at *
 generalize E:L.getD j g0=y at *
 obtain⟨xc,xf,xs,xv⟩:=x;obtain⟨yc,yf,ys,yv⟩:=y;simp only at a0 a1 a2 K M A;generalize xs.length=xn at *
 generalize ys.length=yn at *
 have I:=af D;have J:=af E;clear D E;go_enter func221,ntmps221;go_wp2_with fail;have ex:Hid (L.getD i g0=⟨xc,xf,xs,.slice xa xn xq⟩):=by
  have e:xv = .slice xa xn xq:=ae F;show L.getD i g0=_;rw[ae I,e]
 have ey:Hid (L.getD j g0=⟨yc,yf,ys,.slice ya yn yq⟩):=by
  have e:yv = .slice ya yn yq:=ae G;show L.getD j g0=_;rw[ae J,e]
 have N:=af (cF.put (by rw[a1w];exact ae z) (cF.put (ae z) (ae H).2 i ⟨yc,yf,ys,.slice ya yn yq⟩) j ⟨xc,xf,xs,.slice xa xn xq⟩);have p:=af (((((((Touch.refl (some ⟨g,0,none⟩) w).set (o:=i*3) rfl (.int .i64 yc)).set (o:=i*3+1) rfl (.int .i64 yf)).set (o:=i*3+2) rfl (.slice ya yn yq)).set (o:=j*3) rfl (.int .i64 xc)).set (o:=j*3+1) rfl (.int .i64 xf)).set (o:=j*3+2) rfl (.slice xa xn xq));have k:=af ((ai (ai (ai (ai (ai (ai (a0c b w) (b:=g) (o:=i*3) (by omega) (.int .i64 yc)) (b:=g) (o:=i*3+1) (by omega) (.int .i64 yf)) (b:=g) (o:=i*3+2) (by omega) (.slice ya yn yq)) (b:=g) (o:=j*3) (by omega) (.int .i64 xc)) (b:=g) (o:=j*3+1) (by omega) (.int .i64 xf)) (b:=g) (o:=j*3+2) (by omega) (.slice xa xn xq)));have l:=af (bz.touch (ae s) (by decide) (ae p));have t:=af (((ae p).2 b (fun g' e=>by simp only[a0k,a0D,a0P]at e;omega)).trans (ae H).1);have c:Hid (cH ((((((w.setCell ⟨g,i*3,none⟩ (.int .i64 yc)).setCell ⟨g,i*3+1,none⟩ (.int .i64 yf)).setCell ⟨g,i*3+2,none⟩ (.slice ya yn yq)).setCell ⟨g,j*3,none⟩ (.int .i64 xc)).setCell ⟨g,j*3+1,none⟩ (.int .i64 xf)).setCell ⟨g,j*3+2,none⟩ (.slice xa xn xq)) b base (.slice (some ⟨g,0,none⟩) n cap) ((L.set i ⟨yc,yf,ys,.slice ya yn yq⟩).set j ⟨xc,xf,xs,.slice xa xn xq⟩)):=⟨ae t,ae N⟩;clear H;have m:Hid (cN L i j=(L.set i ⟨yc,yf,ys,.slice ya yn yq⟩).set j ⟨xc,xf,xs,.slice xa xn xq⟩):=by
  show cN L i j=_;unfold cN;rw[ae ex,ae ey]
 by_cases r:i=j
 .
  subst r;have exy:=(ae ex).symm.trans (ae ey);simp only[Grp.mk.injEq,a0J]at exy;obtain⟨rfl,rfl,rfl,rfl,rfl,rfl⟩:=exy
  go_region
  all_goals
   go_wp2
   go_end0
   refine⟨rfl,?_,(ae k).drew,(ae l).drew⟩;rw[ae m];exact(ae c).drew
 .
  have U:¬ j=i:=fun e=>r e.symm;have q1:¬ j*3=i*3+1:=by omega
  have q2:¬ j*3=i*3+2:=by omega
  have q3:¬ j*3+1=i*3:=by omega
  have q4:¬ j*3+1=i*3+2:=by omega
  have q5:¬ j*3+2=i*3:=by omega
  have q6:¬ j*3+2=i*3+1:=by omega
  have q7:¬ j*3=i*3:=by omega
  have q8:¬ j*3+1=i*3+1:=by omega
  have q9:¬ j*3+2=i*3+2:=by omega
  go_region
  all_goals
   go_wp2
   go_end0
   refine⟨rfl,?_,(ae k).drew,(ae l).drew⟩;rw[ae m];exact(ae c).drew
theorem KL(a:Addr)(w:World):(method 472 263 (.pointer (some a)) "loop.example/corbel/impl.size").run prog w = .ok (190,.pointer (some a)) w:=by kernel_rfl
theorem uo(a:Addr)(w:World):(method 472 263 (.pointer (some a)) "loop.example/corbel/impl.before").run prog w = .ok (308,.pointer (some a)) w:=by kernel_rfl
theorem AG(a:Addr)(w:World):(method 472 263 (.pointer (some a)) "loop.example/corbel/impl.swap").run prog w = .ok (221,.pointer (some a)) w:=by kernel_rfl
theorem cH.later{base:Nat}{L:List Grp}(h:cH w b base v L)(hb:Below w.heap.size w w'):cH w' b base v L:=
 ⟨(hb.block b h.lt).trans h.1,h.2.later hb (a0a _)⟩
theorem xR(b g n cap p:Nat)(L:List Grp)(w:World)(D:dJ w (b+1) L)(F:L.length=n)(E:n<=300)(h:cH w b (b+1) (.slice (some ⟨g,0,none⟩) n cap) L)(G:p<n)(l:UpI L p) :
  Calls prog 223 #[.iface 263 (.pointer (some ⟨b,0,none⟩)),.int .i64 (p:Nat)] w fun e w'=>e = .returned (.tuple #[])/\∃M:List Grp,M.Perm L/\HP M/\cH w' b (b+1) (.slice (some ⟨g,0,none⟩) n cap) M/\Below b w w'/\bz g w w':=by
 have m1:=uo ⟨b,0,none⟩;have m2:=AG ⟨b,0,none⟩;have N:(n:Int)<=300:=by omega
 have C:=af D;have x:=af (a0b F E);have u:=af (a0b h (a0b G l));clear D F E h G l;go_enter func223,ntmps223;go_wp2_with fail
 go_loopw [1] (fun p wr=>∃(k:Nat) (M:List Grp),p = .int .i64 k/\k<n/\M.Perm L/\UpI M k/\cH wr b (b+1) (.slice (some ⟨g,0,none⟩) n cap) M/\Below b w wr/\bz g w wr) (fun p _=>(intOf p).toNat)
 case atStart=>exact⟨p,L,rfl,(ae u).2.1,a2t _,(ae u).2.2,(ae u).1,a0c _ _,bz.refl _ _⟩
 case round=>
  obtain⟨k,M,rfl,m,i,l,j,a,c⟩:=hrel;have K:(k:Int)<(n:Int):=by omega
  have d:M.length=n:=i.length_eq.trans (ae x).1;have t:=af (a0b m (a0b i (a0b l (a0b j (a0b a (a0b c d))))));by_cases I:k=0
  .
   subst I;clear m i l j a c d;go_wp2
   go_end0
   obtain⟨m,i,l,j,a,c,d⟩:=ae t;exact⟨rfl,M,i,Mm l (.inl rfl),j,a,c⟩
  .
   have B:dJ wr (b+1) M:=(c.syms (ae C)).perm i;obtain⟨q,hq⟩:∃q,q=(k-1)/2:=⟨_,rfl⟩;have P:((k:Int)-1)/2=(q:Int):=by omega
   have O:(q:Int)<(n:Int):=by omega
   have J:(1:Int)<=(k:Int):=by omega
   have s:=af (iX b (b+1) (b+1) g n cap k q M wr B d (ae x).2 j m (by omega));have o:=af hq;clear m i l j a c d hq;cases r:aT (M.getD k g0) (M.getD q g0)
   .
    rw[r]at s;have v:=af r;clear r;go_wp2_with fail;refine(ae s).mono ?_;rintro e x1 ⟨rfl,f⟩;go_wp2
    go_end0
    obtain⟨m,i,l,j,a,c,d⟩:=ae t;exact⟨rfl,M,i,Mm l (.inr (by rw[←ae o];exact ae v)),j.later f,a.trans (f.mono (a0w (j.lt))),c.trans (bz.below f)⟩
   .
    rw[r]at s;have v:=af r;clear r;go_wp2_with fail;refine(ae s).mono ?_;rintro e x1 ⟨rfl,f⟩;have H:Hid (Calls prog 221 #[.pointer (some ⟨b,0,none⟩),.int .i64 (k:Nat),.int .i64 (q:Nat)] x1 fun e w'=>e = .returned (.tuple #[])/\cH w' b (b+1) (.slice (some ⟨g,0,none⟩) n cap) (cN M k q)/\Below b x1 w'/\bz g x1 w'):=by
     obtain⟨m,i,l,j,a,c,d⟩:=ae t;exact mO b (b+1) (b+1) g n cap k q M x1 (((c.trans (bz.below f)).syms (ae C)).perm i) d (ae x).2 (j.later f) (a0s _) m (by omega)
    go_wp2_with fail;refine(ae H).mono ?_;rintro e x2 ⟨rfl,z,y,A⟩;go_wp2;go_roundw
    case rel=>
     obtain⟨m,i,l,j,a,c,d⟩:=ae t;have hq:=ae o;refine⟨q,cN M k q,by first|rfl|go_num,by omega,(gV (by omega) (by omega)).trans i,?_,z,(a.trans (f.mono (a0w (j.lt)))).trans y,(c.trans (bz.below f)).trans A⟩;subst hq;exact Oh l (by omega) (by omega) (ae v)
    case measure=>
     have hq:=ae o;simp[intOf];omega
theorem yG{L:List Grp}(b:(c=2*k+1/\(L.length<=2*k+2∨aT (L.getD (2*k+2) g0) (L.getD (2*k+1) g0)=false))∨(c=2*k+2/\aT (L.getD (2*k+2) g0) (L.getD (2*k+1) g0)=true)) :
  ∀i,0<i->i<L.length->(i-1)/2=k->aT (L.getD i g0) (L.getD c g0)=false:=by
 intro i i0 d e;have a:i=2*k+1∨i=2*k+2:=by omega
 rcases b with⟨rfl,h|h⟩|⟨rfl,h⟩
 .
  rcases a with rfl|rfl
  . exact fW _
  . omega
 .
  rcases a with rfl|rfl
  . exact fW _
  . exact h
 .
  rcases a with rfl|rfl
  . exact od h
  . exact fW _
theorem xS(b g n cap p:Nat)(L:List Grp)(w:World)(X:dJ w (b+1) L)(hn:L.length=n)(hm:n<=300)(h:cH w b (b+1) (.slice (some ⟨g,0,none⟩) n cap) L)(G:p<=n)(r:DnI L p) :
  Calls prog 222 #[.iface 263 (.pointer (some ⟨b,0,none⟩)),.int .i64 (p:Nat)] w fun e w'=>e = .returned (.tuple #[])/\∃M:List Grp,M.Perm L/\HP M/\cH w' b (b+1) (.slice (some ⟨g,0,none⟩) n cap) M/\Below b w w'/\bz g w w':=by
 have m1:=uo ⟨b,0,none⟩;have m2:=AG ⟨b,0,none⟩;have m3:=KL ⟨b,0,none⟩;have ab:(n:Int)<=300:=by omega
 have J:=af X;have I:=af (a0b hn hm);have T:=af (a0b h (a0b G r));clear X hn hm h G r;go_enter func222,ntmps222;go_wp2_with fail
 go_loopw [1,4] (fun p _ wr=>∃(k:Nat) (M:List Grp),p = .int .i64 k/\k<=n/\M.Perm L/\DnI M k/\cH wr b (b+1) (.slice (some ⟨g,0,none⟩) n cap) M/\Below b w wr/\bz g w wr) (fun p _ _=>n-(intOf p).toNat)
 case atStart=>exact⟨p,L,rfl,(ae T).2.1,a2t _,(ae T).2.2,(ae T).1,a0c _ _,bz.refl _ _⟩
 case round=>
  obtain⟨k,M,rfl,v,o,r,t,a,j⟩:=hrel;have aa:(k:Int)<=(n:Int):=by omega
  have d:M.length=n:=o.length_eq.trans (ae I).1;have z:=af (a0b v (a0b o (a0b r (a0b t (a0b a (a0b j d))))));have K:=af (iO b (b+1) n cap _ M wr t);have H:dJ wr (b+1) M:=(j.syms (ae J)).perm o;obtain⟨c1,D⟩:∃q,q=2*k+1:=⟨_,rfl⟩;have Y:2*(k:Int)+1=(c1:Int):=by omega
  have x:=af D;by_cases S:c1<n
  .
   have V:(c1:Int)<(n:Int):=by omega
   obtain⟨c2,hc2⟩:∃q,q=2*k+2:=⟨_,rfl⟩;have Z:(c1:Int)+1=(c2:Int):=by omega
   have B:=af hc2;by_cases h2:c2<n
   .
    have W:(c2:Int)<(n:Int):=by omega
    have R:=af (iX b (b+1) (b+1) g n cap c2 c1 M wr H d (ae I).2 t h2 S);clear v o r t a j d D hc2 S h2 H;cases O:aT (M.getD c2 g0) (M.getD c1 g0)
    .
     rw[O]at R;have U:=af O;clear O;go_wp2_with fail;refine(ae K).mono ?_;rintro e y1 ⟨rfl,m⟩;rw[m];clear m y1;go_wp2_with fail;refine(ae K).mono ?_;rintro e y1 ⟨rfl,m⟩;rw[m];clear m y1;go_wp2_with fail;refine(ae R).mono ?_;rintro e x1 ⟨rfl,A⟩;have y:Hid (cH x1 b (b+1) (.slice (some ⟨g,0,none⟩) n cap) M/\Below b w x1/\bz g w x1/\c1<n/\0<c1/\(c1-1)/2=k/\(∀i,0<i->i<M.length->(i-1)/2=k->aT (M.getD i g0) (M.getD c1 g0)=false)):=by
      obtain⟨v,o,r,t,a,j,d⟩:=ae z;refine⟨(t.later A),(a.trans (A.mono (a0w (t.lt)))),(j.trans (bz.below A)),by omega,?_,?_,yG (k:=k) (.inl ⟨ae x,.inr (by rw[←ae x,←ae B];exact ae U)⟩)⟩
      . have:=ae x;omega
      . have:=ae x;omega
     have s:Hid (Calls prog 308 #[.pointer (some ⟨b,0,none⟩),.int .i64 (c1:Nat),.int .i64 (k:Nat)] x1 fun e w'=>e = .returned (.bool (aT (M.getD c1 g0) (M.getD k g0)))/\Below (x1).heap.size x1 w'):=by
      obtain⟨v,o,r,t,a,j,d⟩:=ae z;obtain⟨xh,xb,xk,xc,xc0,xp,xm⟩:=ae y;exact iX b (b+1) (b+1) g n cap c1 k M x1 ((xk.syms (ae J)).perm o) d (ae I).2 xh xc (by omega)
     cases l:aT (M.getD c1 g0) (M.getD k g0)
     . rw[l]at s;have u:=af l;clear l;go_wp2_with fail;refine(ae s).mono ?_;rintro e x2 ⟨rfl,f⟩;go_wp2;refine a0u (a29 rfl _ _ _) rfl ?_;obtain⟨v,o,r,t,a,j,d⟩:=ae z;obtain⟨xh,xb,xk,xc,xc0,xp,xm⟩:=ae y;exact⟨rfl,M,o,xF r (fun c c0 N G=>iq (xm c c0 N G) (ae u)),xh.later f,xb.trans (f.mono (a0w (xh.lt))),xk.trans (bz.below f)⟩
     .
      rw[l]at s;have u:=af l;clear l;go_wp2_with fail;refine(ae s).mono ?_;rintro e x2 ⟨rfl,f⟩;have P:Hid (Calls prog 221 #[.pointer (some ⟨b,0,none⟩),.int .i64 (c1:Nat),.int .i64 (k:Nat)] x2 fun e w'=>e = .returned (.tuple #[])/\cH w' b (b+1) (.slice (some ⟨g,0,none⟩) n cap) (cN M c1 k)/\Below b x2 w'/\bz g x2 w'):=by
       obtain⟨v,o,r,t,a,j,d⟩:=ae z;obtain⟨xh,xb,xk,xc,xc0,xp,xm⟩:=ae y;exact mO b (b+1) (b+1) g n cap c1 k M x2 (((xk.trans (bz.below f)).syms (ae J)).perm o) d (ae I).2 (xh.later f) (a0s _) xc (by omega)
      go_wp2_with fail;refine(ae P).mono ?_;rintro e x3 ⟨rfl,E,C,F⟩;go_wp2;go_roundw
      case rel=>
       obtain⟨v,o,r,t,a,j,d⟩:=ae z;obtain⟨xh,xb,xk,xc,xc0,xp,xm⟩:=ae y;exact⟨c1,cN M c1 k,rfl,by omega,(gV (by omega) (by omega)).trans o,xG r (by omega) (by omega) xc0 xp xm (ae u),E,(xb.trans (f.mono (a0w (xh.lt)))).trans C,(xk.trans (bz.below f)).trans F⟩
      case measure=>
       obtain⟨xh,xb,xk,xc,xc0,xp,xm⟩:=ae y;simp[intOf];omega
    .
     rw[O]at R;have U:=af O;clear O;go_wp2_with fail;refine(ae K).mono ?_;rintro e y1 ⟨rfl,m⟩;rw[m];clear m y1;go_wp2_with fail;refine(ae K).mono ?_;rintro e y1 ⟨rfl,m⟩;rw[m];clear m y1;go_wp2_with fail;refine(ae R).mono ?_;rintro e x1 ⟨rfl,A⟩;have y:Hid (cH x1 b (b+1) (.slice (some ⟨g,0,none⟩) n cap) M/\Below b w x1/\bz g w x1/\c2<n/\0<c2/\(c2-1)/2=k/\(∀i,0<i->i<M.length->(i-1)/2=k->aT (M.getD i g0) (M.getD c2 g0)=false)):=by
      obtain⟨v,o,r,t,a,j,d⟩:=ae z;refine⟨(t.later A),(a.trans (A.mono (a0w (t.lt)))),(j.trans (bz.below A)),by omega,?_,?_,yG (k:=k) (.inr ⟨ae B,by rw[←ae x,←ae B];exact ae U⟩)⟩
      . have:=ae B;omega
      . have:=ae B;omega
     have s:Hid (Calls prog 308 #[.pointer (some ⟨b,0,none⟩),.int .i64 (c2:Nat),.int .i64 (k:Nat)] x1 fun e w'=>e = .returned (.bool (aT (M.getD c2 g0) (M.getD k g0)))/\Below (x1).heap.size x1 w'):=by
      obtain⟨v,o,r,t,a,j,d⟩:=ae z;obtain⟨xh,xb,xk,xc,xc0,xp,xm⟩:=ae y;exact iX b (b+1) (b+1) g n cap c2 k M x1 ((xk.syms (ae J)).perm o) d (ae I).2 xh xc (by omega)
     cases l:aT (M.getD c2 g0) (M.getD k g0)
     . rw[l]at s;have u:=af l;clear l;go_wp2_with fail;refine(ae s).mono ?_;rintro e x2 ⟨rfl,f⟩;go_wp2;refine a0u (a29 rfl _ _ _) rfl ?_;obtain⟨v,o,r,t,a,j,d⟩:=ae z;obtain⟨xh,xb,xk,xc,xc0,xp,xm⟩:=ae y;exact⟨rfl,M,o,xF r (fun c c0 N G=>iq (xm c c0 N G) (ae u)),xh.later f,xb.trans (f.mono (a0w (xh.lt))),xk.trans (bz.below f)⟩
     .
      rw[l]at s;have u:=af l;clear l;go_wp2_with fail;refine(ae s).mono ?_;rintro e x2 ⟨rfl,f⟩;have P:Hid (Calls prog 221 #[.pointer (some ⟨b,0,none⟩),.int .i64 (c2:Nat),.int .i64 (k:Nat)] x2 fun e w'=>e = .returned (.tuple #[])/\cH w' b (b+1) (.slice (some ⟨g,0,none⟩) n cap) (cN M c2 k)/\Below b x2 w'/\bz g x2 w'):=by
       obtain⟨v,o,r,t,a,j,d⟩:=ae z;obtain⟨xh,xb,xk,xc,xc0,xp,xm⟩:=ae y;exact mO b (b+1) (b+1) g n cap c2 k M x2 (((xk.trans (bz.below f)).syms (ae J)).perm o) d (ae I).2 (xh.later f) (a0s _) xc (by omega)
      go_wp2_with fail;refine(ae P).mono ?_;rintro e x3 ⟨rfl,E,C,F⟩;go_wp2;go_roundw
      case rel=>
       obtain⟨v,o,r,t,a,j,d⟩:=ae z;obtain⟨xh,xb,xk,xc,xc0,xp,xm⟩:=ae y;exact⟨c2,cN M c2 k,rfl,by omega,(gV (by omega) (by omega)).trans o,xG r (by omega) (by omega) xc0 xp xm (ae u),E,(xb.trans (f.mono (a0w (xh.lt)))).trans C,(xk.trans (bz.below f)).trans F⟩
      case measure=>
       obtain⟨xh,xb,xk,xc,xc0,xp,xm⟩:=ae y;simp[intOf];omega
   .
    have W:¬ (c2:Int)<(n:Int):=by omega
    have Q:Hid (n<=c2):=by show n<=c2;omega
    clear v o r t a j d D hc2 S h2 H;go_wp2_with fail;refine(ae K).mono ?_;rintro e y1 ⟨rfl,m⟩;rw[m];clear m y1;go_wp2_with fail;refine(ae K).mono ?_;rintro e y1 ⟨rfl,m⟩;rw[m];clear m y1;have y:Hid (cH wr b (b+1) (.slice (some ⟨g,0,none⟩) n cap) M/\Below b w wr/\bz g w wr/\c1<n/\0<c1/\(c1-1)/2=k/\(∀i,0<i->i<M.length->(i-1)/2=k->aT (M.getD i g0) (M.getD c1 g0)=false)):=by
     obtain⟨v,o,r,t,a,j,d⟩:=ae z;refine⟨t,a,j,by omega,?_,?_,yG (k:=k) (.inl ⟨ae x,.inl (by rw[d,←ae B];exact ae Q)⟩)⟩
     . have:=ae x;omega
     . have:=ae x;omega
    have s:Hid (Calls prog 308 #[.pointer (some ⟨b,0,none⟩),.int .i64 (c1:Nat),.int .i64 (k:Nat)] wr fun e w'=>e = .returned (.bool (aT (M.getD c1 g0) (M.getD k g0)))/\Below (wr).heap.size wr w'):=by
     obtain⟨v,o,r,t,a,j,d⟩:=ae z;obtain⟨xh,xb,xk,xc,xc0,xp,xm⟩:=ae y;exact iX b (b+1) (b+1) g n cap c1 k M wr ((xk.syms (ae J)).perm o) d (ae I).2 xh xc (by omega)
    cases l:aT (M.getD c1 g0) (M.getD k g0)
    . rw[l]at s;have u:=af l;clear l;go_wp2_with fail;refine(ae s).mono ?_;rintro e x2 ⟨rfl,f⟩;go_wp2;refine a0u (a29 rfl _ _ _) rfl ?_;obtain⟨v,o,r,t,a,j,d⟩:=ae z;obtain⟨xh,xb,xk,xc,xc0,xp,xm⟩:=ae y;exact⟨rfl,M,o,xF r (fun c c0 N G=>iq (xm c c0 N G) (ae u)),xh.later f,xb.trans (f.mono (a0w (xh.lt))),xk.trans (bz.below f)⟩
    .
     rw[l]at s;have u:=af l;clear l;go_wp2_with fail;refine(ae s).mono ?_;rintro e x2 ⟨rfl,f⟩;have P:Hid (Calls prog 221 #[.pointer (some ⟨b,0,none⟩),.int .i64 (c1:Nat),.int .i64 (k:Nat)] x2 fun e w'=>e = .returned (.tuple #[])/\cH w' b (b+1) (.slice (some ⟨g,0,none⟩) n cap) (cN M c1 k)/\Below b x2 w'/\bz g x2 w'):=by
      obtain⟨v,o,r,t,a,j,d⟩:=ae z;obtain⟨xh,xb,xk,xc,xc0,xp,xm⟩:=ae y;exact mO b (b+1) (b+1) g n cap c1 k M x2 (((xk.trans (bz.below f)).syms (ae J)).perm o) d (ae I).2 (xh.later f) (a0s _) xc (by omega)
     go_wp2_with fail;refine(ae P).mono ?_;rintro e x3 ⟨rfl,E,C,F⟩;go_wp2;go_roundw
     case rel=>
      obtain⟨v,o,r,t,a,j,d⟩:=ae z;obtain⟨xh,xb,xk,xc,xc0,xp,xm⟩:=ae y;exact⟨c1,cN M c1 k,rfl,by omega,(gV (by omega) (by omega)).trans o,xG r (by omega) (by omega) xc0 xp xm (ae u),E,(xb.trans (f.mono (a0w (xh.lt)))).trans C,(xk.trans (bz.below f)).trans F⟩
     case measure=>
      obtain⟨xh,xb,xk,xc,xc0,xp,xm⟩:=ae y;simp[intOf];omega
  .
   have V:¬ (c1:Int)<(n:Int):=by omega
   have Q:Hid (n<=c1):=by show n<=c1;omega
   clear v o r t a j d D S H;go_wp2_with fail;refine(ae K).mono ?_;rintro e y1 ⟨rfl,m⟩;rw[m];clear m y1;go_wp2
   go_end0
   obtain⟨v,o,r,t,a,j,d⟩:=ae z;have D:=ae x;exact⟨rfl,M,o,xF r (fun c c0 N G=>by omega),t,a,j⟩
theorem EF(h:w.heap[b]?=some (Obj.cells #[v] t))(u:Value):(w.setCell ⟨b,0,none⟩ u).heap[b]?=some (Obj.cells #[u] t):=by
 show(w.heap.modify b _)[b]?=_;rw[Array.getElem?_modify,a0d rfl,h];simp
theorem Jk(h:w.heap[b]?=some (Obj.cells #[v] t)):w.cell? ⟨b,0,none⟩=some v:=by simp[World.cell?,h]
theorem ML(h:w.heap[b]?=some (Obj.cells #[v] t)):w.frozen? ⟨b,0,none⟩=false:=by simp[World.frozen?,h]
theorem Tryz.infoGrp:(prog.info? 266).map (fun i=>(i.zero,i.size,i.bytes))=some (some (.agg #[.int .i64 0,.int .i64 0,.slice none 0 0]),3,40):=by kernel_rfl
theorem Dw{W x1:World}{v':Value}{L:List Grp}{x:Grp}{o:Obj}(z:L.length=n)(h:cH w b (b+1) v L)(m:Below w.heap.size w W)(y:bp 3 w W)(l:x1.ownsRow (b+1) 266 3 v' (n+1) (aO L++[.int .i64 x.cnt,.int .i64 x.fst,x.val]))(a:(W.alloc o).drew.grownBy x1 v.ownBlock) :
  (∃g c,v' = .slice (some ⟨g,0,none⟩) (n+1) c)/\(x1.heap[b]?=some (Obj.cells #[v] 297))/\cH (x1.setCell ⟨b,0,none⟩ v') b (b+1) v' (L++[x])/\Below b w (x1.setCell ⟨b,0,none⟩ v')/\bp 3 w (x1.setCell ⟨b,0,none⟩ v'):=by
 have p:(W.alloc o).grownBy x1 v.ownBlock:=⟨a.os,a.tape,a.output,a.size,a.block⟩;have u:=m.size;have s:=h.lt;have t:=h.later m;have h2:cF 266 (W.alloc o) (b+1) v L:=a0m t.2 _;have j:∀k,v.ownBlock=some k->b<k:=fun k e=>(a0E h2 k e).1;have f:x1.heap[b]?=some (Obj.cells #[v] 297):=by
  rw[p.block b (by simp;omega) (fun e=>by have:=j b e.symm;omega),a1i W o b (by omega)];exact t.1
 have i:Below b w x1:=(((m.mono (a0w s)).alloc (by omega) o)).grown p (by simp;omega) (fun k e=>a0w (j k e));have r:bp 3 w x1:=(y.alloc o).grown h2 (by decide) p;subst z;have d:=qP x l;obtain⟨va,vc,e⟩:=d.formN (n:=L.length+1) (by simp);obtain⟨g,q⟩:=(show cF 266 x1 (b+1) (.slice va (L.length+1) vc) (L++[x]) by rw[←e];exact d).somes (by simp);refine⟨⟨g,vc,by rw[e,q]⟩,f,⟨EF f v',?_⟩,ai i (a0a _) _,r.set f (by decide) _⟩;exact a23 d (a0s _) _
theorem Al(b n cap:Nat)(a:Option Addr)(L:List Grp)(x:Grp)(w:World)(Q:dJ w (b+1) L)(G:al w (b+1) x.val x.syms)(E:L.length=n)(R:n<300)(h:cH w b (b+1) (.slice a n cap) L)(S:HP L) :
  Calls prog 192 #[.pointer (some ⟨b,0,none⟩),.agg #[.int .i64 x.cnt,.int .i64 x.fst,x.val]] w fun e w'=>e = .returned (.tuple #[])/\∃(M:List Grp) (g cap':Nat),M.Perm (L++[x])/\HP M/\cH w' b (b+1) (.slice (some ⟨g,0,none⟩) (n+1) cap') M/\Below b w w'/\bp 3 w w':=by
 obtain⟨i0,Z,H,I,J⟩:=a0r Tryz.infoGrp;have ab:(n:Int)<300:=by omega
 have aa:=h.lt;have c0:=h.cell;obtain⟨xa,xq,o⟩:=G.form;have U:=af Q;have s:=af (a0b E R);have K:=af (a0b h S);have V:=af (a0b G o);obtain⟨xc,xf,xs,xv⟩:=x;simp only at o;subst o;generalize ac:xs.length=xn at *
 have f:Hid (n+1<=maxLen/\(n+1)*40<=140737488355328):=by show _/\_;unfold maxLen;omega
 have Y:Hid (World.ownsRow ((w.alloc (.cells #[.int .i64 xc,.int .i64 xf,.slice xa xn xq] 266)).alloc (.cells #[.int .i64 xc,.int .i64 xf,.slice xa xn xq] 266)).drew (b+1) 266 3 (.slice a n cap) n (aO L)):=by
  have h2:=h.2;unfold cF at h2;rw[E]at h2;exact a0m (a0m h2 _) _
 have z:Hid (∀(j:Nat) (u:Value),[Value.int .i64 xc,.int .i64 xf,.slice xa xn xq][j]?=some u->World.cell? ((w.alloc (.cells #[.int .i64 xc,.int .i64 xf,.slice xa xn xq] 266)).alloc (.cells #[.int .i64 xc,.int .i64 xf,.slice xa xn xq] 266)).drew ((⟨w.heap.size+1,0,none⟩:Addr).add j)=some u):=qN _ _ _ _ _ _ (by simp);have A:Hid (b+1<=((w.alloc (.cells #[.int .i64 xc,.int .i64 xf,.slice xa xn xq] 266)).alloc (.cells #[.int .i64 xc,.int .i64 xf,.slice xa xn xq] 266)).drew.heap.size):=by show b+1<=((w.alloc (.cells #[.int .i64 xc,.int .i64 xf,.slice xa xn xq] 266)).alloc (.cells #[.int .i64 xc,.int .i64 xf,.slice xa xn xq] 266)).drew.heap.size;simp;omega
 clear Q E R h S G;go_enter func192,ntmps192;go_wp2_with fail
 go_region_law (refine aX rfl (.tmp 8) (.tmp 10) 295 rfl (b+1) 266 i0 (.agg #[.int .i64 0,.int .i64 0,.slice none 0 0]) 3 40 underlying295 Z H I J rfl (by decide) _ _ _ rfl (ae Y) ⟨w.heap.size+1,0,none⟩ 1 1 [.int .i64 xc,.int .i64 xf,.slice xa xn xq] rfl rfl (ae z) (qO _ _ _ _ _) (ae f).1 (ae f).2 (ae A) ?_;intro v' w' k c q;clear q;have O:=af (Dw (x:=⟨xc,xf,xs,.slice xa xn xq⟩) (ae s).1 (ae K).1 ((a0c _ _).alloc (a0a _) _) ((bp.refl _ _).alloc _) k c);obtain⟨⟨g',v,F⟩,t,N⟩:=(ae O);subst F;clear k c O;have c1:=Jk t;have f1:=ML t;have p:=af N;clear N t)
 all_goals
  go_wp2_with fail;obtain⟨i,m,d⟩:=ae p;have l:=(d.syms (ae U)).snoc (g:=⟨xc,xf,xs,.slice xa xn xq⟩) (d.ints (ae V).1);have W:=af (iO b (b+1) (n+1) v (some ⟨g',0,none⟩) _ _ i);have T:=af (xR b g' (n+1) v n _ _ l (by rw[a0i,(ae s).1];rfl) (by have:=(ae s).2;omega) i (a0s _) (by have P:=Ng (ae K).2 ⟨xc,xf,xs,.slice xa xn xq⟩;rw[(ae s).1]at P;exact P));clear i m d l;refine(ae W).mono ?_;rintro e y1 ⟨rfl,r⟩;rw[r];clear r y1;go_wp2_with fail;refine(ae T).mono ?_;rintro e x3 ⟨rfl,M,X,y,C,B,D⟩;go_wp2
  go_end0
  obtain⟨i,m,d⟩:=ae p;exact⟨rfl,M,g',v,X,y,C,m.trans B,d.trans D.1⟩
theorem Nb(g n cap k:Nat)(d:k<=cap)(c:0<cap)(W:World):(Instr.slice 295 (.slice (some ⟨g,0,none⟩) n cap) none (some (.int .i64 (k:Int))) none).run prog W = .ok (.slice (some ⟨g,0,none⟩) k cap) W:=by
 have b:(k:Int)<=(cap:Int):=by omega
 have h2:¬ ((k:Int)<0):=by omega
 have a:(cap == 0)=false:=by simp;omega
 go_simp
theorem Me{base cap:Nat}{l:List Grp}(b:l.length=n+1)(h:cF 266 w base (.slice (some ⟨g,0,none⟩) (n+1) cap) l):cF 266 w base (.slice (some ⟨g,0,none⟩) n cap) (l.take n):=by
 have e:aO l=aO (l.take n)++aO (l.drop n):=by rw[←jY,a1H]
 have a:(l.take n).length=n:=by rw[a0z];omega
 unfold cF at h ⊢;rw[b,e]at h;rw[a];exact ownsRow_pop (by rw[lw,a]) h
theorem qz{base size o m cap:Nat}{e:TypeId}{xs:List Value}(h:w.ownsRow base e size (.slice (some ⟨g,0,none⟩) n cap) m xs)(f:k≠g)(u:Value):(w.setCell ⟨k,o,none⟩ u).ownsRow base e size (.slice (some ⟨g,0,none⟩) n cap) m xs:=by
 refine⟨h.1,?_⟩;rcases h.2 with d|⟨g1,cap,a,e,b,c,rest⟩
 . exact .inl d
 . refine .inr ⟨g1,cap,a,e,b,?_,rest⟩;simp only[a0J,a0k,a0D,a0P]at e;rw[a0K w ⟨k,o,none⟩ u g1 (by show g1≠k;omega)];exact c
theorem cH.setOther{base o cap:Nat}{L:List Grp}(h:cH w b base (.slice (some ⟨g,0,none⟩) n cap) L)(hb:k≠b)(a:k≠g)(u:Value):cH (w.setCell ⟨k,o,none⟩ u) b base (.slice (some ⟨g,0,none⟩) n cap) L:=
 ⟨(a0K w ⟨k,o,none⟩ u b (fun e=>hb e.symm)).trans h.1,qz h.2 a u⟩
theorem rF{x y z:Value}(h:w.heap[b]?=some (Obj.cells #[x,y,z] t)):Three w b x y z:=
 ⟨by simp[World.cell?,h],by simp[World.cell?,h],by simp[World.cell?,h],by simp[World.frozen?,h],by simp[World.frozen?,h],by simp[World.frozen?,h],(Array.getElem?_eq_some_iff.1 h).1⟩
theorem qh(w:World)(o:Obj):(w.alloc o).heap[w.heap.size]?=some o:=Array.getElem?_push_size
theorem BB(b g N cap:Nat)(L:List Grp)(w:World)(T:dJ w (b+1) L)(y:L.length=N+1)(hm:N<300)(h:cH w b (b+1) (.slice (some ⟨g,0,none⟩) (N+1) cap) L)(hp:HP L) :
  Calls prog 191 #[.pointer (some ⟨b,0,none⟩)] w fun e w'=>e = .returned (.agg #[.int .i64 (L.getD 0 g0).cnt,.int .i64 (L.getD 0 g0).fst,(L.getD 0 g0).val])/\∃M:List Grp,(L.getD 0 g0 :: M).Perm L/\HP M/\cH w' b (b+1) (.slice (some ⟨g,0,none⟩) N cap) M/\Below b w w'/\bp 3 w w':=by
 have a8:(N:Int)<300:=by omega
 have s:=h.lt;have l:=h.2.cap y;have HS:=af T;have B:=af (a0b y hm);have Q:=af (a0b h hp);have i:Below w.heap.size w (w.alloc (.cells #[.int .i64 0,.int .i64 0,.slice none 0 0] 266)):=(a0c _ _).alloc (a0a _) _;have HZ:=af (iO b (b+1) (N+1) cap (some ⟨g,0,none⟩) L _ (h.later i));have HW:=af (mO b (b+1) (b+1) g (N+1) cap 0 N L _ ((bz.below (g:=g) i).syms T) y (by omega) (h.later i) (a0s _) (by omega) (by omega));have u:=af i;clear T y h hp i;go_enter func191,ntmps191;go_wp2_with fail;refine(ae HZ).mono ?_;rintro e y1 ⟨rfl,O⟩;rw[O];clear O y1;go_wp2_with fail;refine(ae HW).mono ?_;rintro e x1 ⟨rfl,c,j,d⟩;have a7:=(a0E (ae Q).1.2 g rfl).2;have a:(cN L 0 N).length=N+1:=by rw[fZ];exact(ae B).1
 obtain⟨c0,c1,c2,_,an⟩:=c.2.at a N (a0s _);rw[nv (by rw[(ae B).1];exact a0s _)]at c0 c1 c2;have hA:=ae HS (L.getD 0 g0) (fC L 0 (by rw[(ae B).1];exact Nat.succ_pos _));obtain⟨aa,ac,f⟩:=hA.form;rw[f]at c2;have a4:=c.cell;have a5:=c.frz;have ab:=c.lt;have a6:b≠g:=by have:=(a0E (ae Q).1.2 g rfl).1;omega
 have K:w.heap.size<x1.heap.size:=by have:=d.2.1;simp at this;omega
 have a3:=Nb g (N+1) cap N (by omega) (by omega);have ad:(cap:Int)<=9223372036854775807:=by have:=l.2;unfold maxLen at this;omega
 have P:(N:Int)+1<=(cap:Int):=by have:=l.1;omega
 have m:x1.heap[w.heap.size]?=some (Obj.cells #[.int .i64 0,.int .i64 0,.slice none 0 0] 266):=by
  rw[d.2.2 w.heap.size (by simp) (by omega)];exact qh _ _
 have HX:=af (a0b c (a0b j (a0b d (a0b a (a0b f m)))));clear c j d a l an hA m hm HZ HW;generalize D:(L.getD 0 g0).cnt=Ac at *
 generalize E:(L.getD 0 g0).fst=Af at *
 generalize F:(L.getD 0 g0).syms.length=An at *
 have R:=af (a0b D (a0b E F));clear D E F f;go_wp2_with fail;have S:Hid (cH ((x1.setCell ⟨b,0,none⟩ (.slice (some ⟨g,0,none⟩) N cap)).alloc (.cells #[.int .i64 Ac,.int .i64 Af,.slice aa An ac] 266)) b (b+1) (.slice (some ⟨g,0,none⟩) N cap) ((cN L 0 N).take N) /\
   Below b w ((x1.setCell ⟨b,0,none⟩ (.slice (some ⟨g,0,none⟩) N cap)).alloc (.cells #[.int .i64 Ac,.int .i64 Af,.slice aa An ac] 266)) /\
   bp 3 w ((x1.setCell ⟨b,0,none⟩ (.slice (some ⟨g,0,none⟩) N cap)).alloc (.cells #[.int .i64 Ac,.int .i64 Af,.slice aa An ac] 266)) /\
   ((x1.setCell ⟨b,0,none⟩ (.slice (some ⟨g,0,none⟩) N cap)).alloc (.cells #[.int .i64 Ac,.int .i64 Af,.slice aa An ac] 266)).heap[w.heap.size]?=some (Obj.cells #[.int .i64 0,.int .i64 0,.slice none 0 0] 266) /\
   ((x1.setCell ⟨b,0,none⟩ (.slice (some ⟨g,0,none⟩) N cap)).alloc (.cells #[.int .i64 Ac,.int .i64 Af,.slice aa An ac] 266)).heap[x1.heap.size]?=some (Obj.cells #[.int .i64 Ac,.int .i64 Af,.slice aa An ac] 266)):=by
  obtain⟨c,j,d,a,f,m⟩:=ae HX;have t:(x1.setCell ⟨b,0,none⟩ (.slice (some ⟨g,0,none⟩) N cap)).heap.size=x1.heap.size:=by simp
  refine⟨⟨?_,?_⟩,?_,?_,?_,?_⟩
  . rw[a1i _ _ b (by rw[t];exact ab)];exact EF c.1 _
  . exact a0m (a23 (Me a c.2) (a0s _) _) _
  . exact(ai (((ae u).mono (a0w s)).trans j) (a0a _) _).alloc (by rw[t];omega) _
  . exact(((bp.below (ae u)).trans d.1).set c.1 (by decide) _).alloc _
  . rw[a1i _ _ w.heap.size (by rw[t];exact K),a0K _ _ _ _ (by show w.heap.size≠b;omega)];exact m
  . rw[←t];exact qh _ _
 generalize (x1.setCell ⟨b,0,none⟩ (.slice (some ⟨g,0,none⟩) N cap)).alloc (.cells #[.int .i64 Ac,.int .i64 Af,.slice aa An ac] 266)=Y at *
 have HK:Hid (Calls prog 222 #[.iface 263 (.pointer (some ⟨b,0,none⟩)),.int .i64 ((0:Nat):Int)] Y fun e w'=>e = .returned (.tuple #[])/\∃M:List Grp,M.Perm ((cN L 0 N).take N)/\HP M/\cH w' b (b+1) (.slice (some ⟨g,0,none⟩) N cap) M/\Below b Y w'/\bz g Y w'):=by
  obtain⟨z,A,n,p,q⟩:=ae S;obtain⟨y,hm⟩:=ae B;have a2:dJ Y (b+1) ((cN L 0 N).take N):=fun x hx=>n.syms (ae HS) x ((gV (by omega) (by omega)).mem_iff.1 (a2d hx));exact xS b g N cap 0 _ Y a2 (by rw[a0z,fZ];omega) (by omega) z (a0g _) (by have C:=OR (ae Q).2;rw[y]at C;exact C)
 refine(ae HK).mono ?_;rintro e x5 ⟨rfl,M,hM,G,J,H,r⟩;have HF:Hid (cH x5 b (b+1) (.slice (some ⟨g,0,none⟩) N cap) M/\Below b w x5/\bp 3 w x5/\x5.heap[w.heap.size]?=some (Obj.cells #[.int .i64 0,.int .i64 0,.slice none 0 0] 266)/\M.Perm ((cN L 0 N).take N)/\HP M):=by
  obtain⟨z,A,n,p,q⟩:=ae S;exact⟨J,A.trans H,n.trans r.1,(r.2.2 _ (dm p) (by omega)).trans p,hM,G⟩
 have U:Three x5 w.heap.size _ _ _:=rF (ae HF).2.2.2.1;have V:Three x5 x1.heap.size (.int .i64 Ac) (.int .i64 Af) (.slice aa An ac):=by
  obtain⟨z,A,n,p,q⟩:=ae S;exact rF ((r.2.2 _ (dm q) (by omega)).trans q)
 clear hM G J H r HK;obtain⟨p0,p1,p2,q0,q1,q2,a1⟩:=U;obtain⟨r0,r1,r2,s0,s1,s2,a9⟩:=V;go_wp2_with fail;obtain⟨c,j,d,a,f,m⟩:=ae HX;obtain⟨fh,fb,fk,fr,fM,fP⟩:=ae HF;obtain⟨eA,eF,eS⟩:=ae R;have X:=(((Three.set0 ⟨p0,p1,p2,q0,q1,q2,a1⟩ (.int .i64 Ac)).set1 (.int .i64 Af)).set2 (.slice aa An ac));have W:=((((Touch.refl (some ⟨w.heap.size,0,none⟩) x5).set (o:=0) rfl (.int .i64 Ac)).set (o:=1) rfl (.int .i64 Af)).set (o:=2) rfl (.slice aa An ac));have I:=ai (ai (ai fb (b:=w.heap.size) (o:=0) (a0w s) (.int .i64 Ac)) (b:=w.heap.size) (o:=1) (a0w s) (.int .i64 Af)) (b:=w.heap.size) (o:=2) (a0w s) (.slice aa An ac);have a0:=fk.trans (bp.touch fr (by decide) W);have ao:=((fh.setOther (k:=w.heap.size) (o:=0) (by omega) (by omega) (.int .i64 Ac)).setOther (k:=w.heap.size) (o:=1) (by omega) (by omega) (.int .i64 Af)).setOther (k:=w.heap.size) (o:=2) (by omega) (by omega) (.slice aa An ac);generalize ((x5.setCell ⟨w.heap.size,0,none⟩ (.int .i64 Ac)).setCell ⟨w.heap.size,1,none⟩ (.int .i64 Af)).setCell ⟨w.heap.size,2,none⟩ (.slice aa An ac)=Z at *
 obtain⟨t0,t1,t2,_,_,_,_⟩:=X;refine a0u (v:=.agg #[.int .i64 Ac,.int .i64 Af,.slice aa An ac]) (by simp[results,results191,go_sem,t0,t1,t2]) rfl ⟨?_,M,?_,fP,ao,I,a0⟩
 . rw[eA,eF,f]
 . have y:=(ae B).1;have C:=Jo (L:=L) (by omega);rw[y]at C;exact(fM.cons _).trans C
theorem ow(l:List Int)(k:Nat):(ax l k).length<=k:=by
 induction k with
 | zero=>simp[ax]
 | succ k ih=>
  simp only[ax]
  split
  . simp;omega
  . omega
theorem vE(a:Option Addr)(cap n:Nat)(l:List Int)(w:World)(K:l.length=n)(h:bo w a l)(J:n<=300) :
  Calls prog 189 #[.slice a n cap] w fun e w'=>e = .returned (.pointer (some ⟨w.heap.size,0,none⟩))/\∃(L:List Grp) (va:Option Addr) (vc:Nat),cH w' w.heap.size (w.heap.size+1) (.slice va L.length vc) L/\HP L/\(L.map bare).Perm (ax l n)/\dJ w' (w.heap.size+1) L/\Below w.heap.size w w':=by
 have S:(n:Int)<=300:=by omega
 have A:=af (a0b K J);have s:Below w.heap.size w (w.alloc (.cells #[.slice none 0 0] 297)):=(a0c _ _).alloc (a0a _) _;have t:cH (w.alloc (.cells #[.slice none 0 0] 297)) w.heap.size (w.heap.size+1) (.slice none 0 0) []:=⟨qh _ _,a00 _ _ _ _⟩;clear K J;go_enter func189,ntmps189;go_wp2_with fail
 go_loopw [4,5,10] (fun _ _ i wr=>∃(k:Nat) (L:List Grp) (va:Option Addr) (vc:Nat),k<=n/\i = .int .i64 k/\cH wr w.heap.size (w.heap.size+1) (.slice va L.length vc) L/\HP L/\(L.map bare).Perm (ax l k)/\dJ wr (w.heap.size+1) L/\Below w.heap.size w wr) (fun _ _ i _=>n-(intOf i).toNat)
 case atStart=>exact⟨0,[],none,0,a0g _,rfl,t,fun i _ R=>by simp at R,a2t _,BA _ _,s⟩
 case round=>
  obtain⟨k,L,va,vc,v,rfl,d,p,j,m,b⟩:=hrel;clear s t;by_cases H:k<n
  .
   obtain⟨g,o,rfl,T,u⟩:=(h.later b) (by rw[(ae A).1];omega);have c0:=u k (by rw[(ae A).1];exact H);have c:L.length<300:=by
    have Q:=j.length_eq;rw[a0N]at Q;have h2:=ow l k;have:=(ae A).2;omega
   have I:=af (a0b v (a0b d (a0b p (a0b j (a0b m b)))));clear u;by_cases N:0<l.getD k 0
   .
    have q:=af (uQ N);generalize l.getD k 0=y at *
    have f:Below wr.heap.size wr (wr.alloc (.cells #[.int .i64 (k:Int)] 3)):=(a0c _ _).alloc (a0a _) _;have B:al (wr.alloc (.cells #[.int .i64 (k:Int)] 3)) (w.heap.size+1) (.slice (some ⟨wr.heap.size,0,none⟩) 1 1) [(k:Int)]:=al.one wr _ d.lt _;have z:=af (Al w.heap.size L.length vc va L ⟨y,(k:Int),[(k:Int)],.slice (some ⟨wr.heap.size,0,none⟩) 1 1⟩ _ ((bp.below f).syms m) B rfl c (d.later f) p);have r:=af f;have O:=af B;clear v d p j m b B f c;go_wp2_with fail;refine(ae z).mono ?_;rintro e x1 ⟨rfl,M,g',P,D,C,F,E,x⟩;go_wp2;go_roundw
    case rel=>
     obtain⟨v,d,p,j,m,b⟩:=ae I;have G:M.length=L.length+1:=by rw[D.length_eq];simp
     refine⟨k+1,M,some ⟨g',0,none⟩,P,by omega,by go_num,by rw[G];exact F,C,?_,?_,(b.trans ((ae r).mono (a0w d.lt))).trans E⟩
     . rw[ae q];refine(D.map bare).trans ?_;rw[a0I];exact j.append_right _
     . exact((x.syms ((bp.below (ae r)).syms m)).snoc (x.ints (ae O))).perm D
    case measure=>simp[intOf];omega
   .
    have q:=af (Fp N);generalize l.getD k 0=y at *
    clear v d p j m b c;go_wp2;go_roundw
    case rel=>
     obtain⟨v,d,p,j,m,b⟩:=ae I;exact⟨k+1,L,va,vc,by omega,by go_num,d,p,by rw[ae q];exact j,m,b⟩
    case measure=>simp[intOf];omega
  .
   obtain rfl:k=n:=by omega
   clear h;go_wp2;go_ret;exact⟨rfl,L,va,vc,d,p,j,m,b⟩
theorem JY{L M1 M2:List Grp}(E:∀i,i<l.length->0<=l.getD i 0/\l.getD i 0<=100000)(M:l.length<=300)(t:j<(ax l l.length).length∨j=0)(A:(L.map bare).Perm (aw l j).1)(F:HP L)(h2:1<L.length)(y:(L.getD 0 g0 :: M1).Perm L)(u:HP M1)(q:(M1.getD 0 g0 :: M2).Perm M1) :
  bg (aw l j).1=(L.getD 0 g0).syms++(M1.getD 0 g0).syms /\
  (∀(M3:List Grp) (v:Value),M3.Perm (M2++[⟨(L.getD 0 g0).cnt+(M1.getD 0 g0).cnt,if (M1.getD 0 g0).fst<(L.getD 0 g0).fst then(M1.getD 0 g0).fst else(L.getD 0 g0).fst,(L.getD 0 g0).syms++(M1.getD 0 g0).syms,v⟩])->(M3.map bare).Perm (aw l (j+1)).1) /\
  0<=(L.getD 0 g0).cnt/\0<=(M1.getD 0 g0).cnt/\(L.getD 0 g0).cnt+(M1.getD 0 g0).cnt<=30000000 /\
  ((L.getD 0 g0).syms++(M1.getD 0 g0).syms).length<=300/\0<(L.getD 0 g0).syms.length/\0<(M1.getD 0 g0).syms.length/\(∀x∈(L.getD 0 g0).syms++(M1.getD 0 g0).syms,0<=x/\x<(l.length:Int)):=by
 have B:M1.length+1=L.length:=by have:=y.length_eq;simpa using this
 obtain⟨d,J,K,C⟩:=bW l j t;have D:(aw l j).1.length=L.length:=by rw[←A.length_eq,a0N]
 have m:=(gN l j t).1;have h:=J2 l j t;have o:∀g∈L,aT g (L.getD 0 g0)=false:=by
  intro g k;obtain⟨i,b,rfl⟩:=a1N k;have:=J0 F i b;have e:L.getD i g0=L[i]:=by simp[List.getD,b]
  rw[e]at this;exact this
 have c:∀g∈M1,aT g (M1.getD 0 g0)=false:=by
  intro g k;obtain⟨i,b,rfl⟩:=a1N k;have:=J0 u i b;have e:M1.getD i g0=M1[i]:=by simp[List.getD,b]
  rw[e]at this;exact this
 obtain⟨e1,I⟩:=wX A y.symm o (by omega) m h;have s:rf (am (aw l j).1):=fun g k=>h g (bf _ g k);obtain⟨e2,p2⟩:=wX I q.symm c (by omega) (Gg (by omega) m) s;have a:=yF d (by omega:1<(aw l j).1.length);have p:=d _ (bv (aw l j).1 (by omega));have G:=di (aw l j).1 (by omega);have hb:=d _ (bf _ _ (bv (am (aw l j).1) (by omega)));have H:=kI l 100000 (by omega) (fun i b=>(E i b).2) l.length (a0a _);have n:bg (aw l j).1=(L.getD 0 g0).syms++(M1.getD 0 g0).syms:=by
  unfold bg;rw[←e1,←e2];rfl
 rw[←e1]at p a;rw[←e2]at hb a;refine⟨n,?_,p.1,hb.1,?_,?_,p.2.2.2.2,hb.2.2.2.2,?_⟩
 . intro M3 v r;have z:=r.map bare;rw[a0I]at z;refine z.trans ?_;show List.Perm _ (stepG (aw l j).1);unfold stepG;rw[←e1,←e2];exact p2.append_right _
 . have w:=a.1;have:(bare (L.getD 0 g0)).cnt=(L.getD 0 g0).cnt:=rfl;have:(bare (M1.getD 0 g0)).cnt=(M1.getD 0 g0).cnt:=rfl;omega
 . have w:=a.2;rw[n]at w;omega
 .
  intro x f;simp only[a0V]at f;rcases f with f|f
  . exact p.2.2.2.1 x f
  . exact hb.2.2.2.1 x f
def iK(l:List Int):Int:=if decide (l.length<=300)&&inC l then(us l:Nat)else -1
theorem IB(h:300<l.length):iK l = -1:=by
 unfold iK;rw[a0v (by omega)];rfl
theorem IC(h:inC l=false):iK l = -1:=by
 unfold iK;rw[h];simp
theorem ny(h:l.length<=300)(h2:inC l=true):iK l=(us l:Nat):=by
 unfold iK;rw[a0F h,h2];rfl
theorem l7(a:Option Addr)(cap n:Nat)(l:List Int)(w:World)(E:l.length=n)(h:bo w a l)(C:n<=1048576) :
  Calls prog 156 #[.slice a n cap] w fun e w'=>e = .returned (.int .i64 (iK l))/\w'=w:=by
 subst E;have D:(l.length:Int)<=1048576:=by omega
 clear C;by_cases H:(l.length:Int)<=300
 .
  go_enter func156,ntmps156;go_wp2_with fail
  go_loop [3,5,11] (fun n _ i=>∃k:Nat,k<=l.length/\i = .int .i64 k/\n = .int .i64 (us (l.take k):Nat)/\inC (l.take k)=true) (fun _ _ i=>l.length-(intOf i).toNat)
  case atStart=>exact⟨0,a0g _,rfl,rfl,rfl⟩
  case round=>
   obtain⟨k,B,rfl,rfl,j⟩:=hrel;have x:=af j;clear j;by_cases d:k<l.length
   .
    obtain⟨g,o,rfl,I,z⟩:=h (by omega);have c0:=z k d;have p:=af (pN l k d);have hit:=af (J3 l k d);have s:=af (fun hb=>Nm (l:=l) (k:=k) d hb);have t:=rK (l.take k);have A:(us (l.take k):Int)<=300:=by
     have:(l.take k).length<=l.length:=by simp;omega
     omega
    clear z B h t;generalize l.getD k 0=y at *
    generalize us (l.take k)=u at *
    by_cases hb:0<=y/\y<=100000
    .
     obtain⟨q,r⟩:=hb;have b:Hid (inC (l.take (k+1))=true):=by
      show _=true;rw[ae hit,ae x,aI.2 ⟨q,r⟩];rfl
     by_cases v:0<y
     .
      have c:Hid (us (l.take (k+1))=u+1):=by have:=ae p;rw[a0d v]at this;exact this
      go_wp2
      go_round
      case rel=>exact⟨k+1,by omega,by go_num,by rw[ae c];go_num,ae b⟩
      case measure=>simp[intOf];omega
     .
      have c:Hid (us (l.take (k+1))=u):=by have:=ae p;rw[a0e v]at this;exact this
      go_wp2
      go_round
      case rel=>exact⟨k+1,by omega,by go_num,by rw[ae c],ae b⟩
      case measure=>simp[intOf];omega
    .
     have f:Hid (iK l = -1):=IC (ae s (by
      cases F:inB y 0 100000
      . rfl
      . exact absurd (aI.1 F) hb))
     by_cases v:y<0
     . go_wp2;go_ret;exact⟨aJ (ae f).symm,rfl⟩
     .
      have G:¬ y<=100000:=by omega
      go_wp2;go_ret;exact⟨aJ (ae f).symm,rfl⟩
   .
    have m:Hid (l.take k=l):=a0o (by omega);have b:Hid (inC l=true):=by show inC l=true;rw[←ae m];exact ae x
    clear h;go_wp2;go_ret;exact⟨aJ (by rw[ny (by omega) (ae b),ae m]),rfl⟩
 . have f:=af (IB (l:=l) (by omega));go_enter func156,ntmps156;clear h;go_wp2;go_ret;exact⟨aJ (ae f).symm,rfl⟩
def gQ(x:Int):Int:=if x<=1 then x else 1
theorem As(x:Int)(w:World)(a : -1000000<=x)(b:x<=1000000) :
  Calls prog 158 #[.int .i64 x] w fun e w'=>e = .returned (.int .i64 (gQ x))/\w'=w:=by
 by_cases h:x<=1
 .
  have e:Hid (gQ x=x):=by show gQ x=x;simp[gQ,h]
  go_enter func158,ntmps158;go_wp2;go_ret;exact⟨aJ (ae e).symm,rfl⟩
 .
  have e:Hid (gQ x=1):=by show gQ x=1;simp[gQ,h]
  go_enter func158,ntmps158;go_wp2;go_ret;exact⟨aJ (ae e).symm,rfl⟩
theorem zr(a:Option Addr)(cap n:Nat)(l:List Int)(w:World)(H:l.length=n)(h:bo w a l)(G:n<=1048576)(E:okC l) :
  Calls prog 157 #[.slice a n cap,.func (.func 158) #[] #[]] w fun e w'=>∃v,e = .returned v/\al w' w.heap.size v (l.map gQ)/\Below w.heap.size w w':=by
 have M:(n:Int)<=1048576:=by omega
 have p:=af H;have K:=af G;have I:=af E;clear H G E;obtain⟨i0,L,B,C,D⟩:=a0r Tryz.infoInt;go_enter func157,ntmps157;go_wp2_with fail
 go_loopw [5,7,10] (fun o _ i wr=>∃k:Nat,k<=n/\i = .int .i64 k/\al wr w.heap.size o ((l.take k).map gQ)/\Below w.heap.size w wr) (fun _ _ i _=>n-(intOf i).toNat)
 case atStart=>exact⟨0,a0g _,rfl,a00 _ _ _ _,a0c _ _⟩
 case round=>
  obtain⟨k,F,rfl,hq,b⟩:=hrel;have q:=b.size;by_cases m:k<n
  .
   obtain⟨g,o,rfl,N,r⟩:=(h.later b) (by rw[ae p];omega);have c0:=r k (by rw[ae p];exact m);obtain⟨y0,y1⟩:=ae I k (by rw[ae p];exact m);have A:Hid ((l.take (k+1)).map gQ=(l.take k).map gQ++[gQ (l.getD k 0)]):=by
    show _=_;rw[bZ l k (by rw[ae p];exact m),a0I];rfl
   have z:Hid (((l.take k).map gQ).length=k):=by show _=k;have:=ae p;simp;omega
   have J:=af F;clear r F h;generalize l.getD k 0=y at *
   have HP:=af (As y wr (by omega) (by omega));generalize gQ y=R at *
   go_wp2_with fail;refine(ae HP).mono ?_;rintro e x1 ⟨rfl,u⟩;rw[u];clear u x1;have d:Hid (((l.take k).map gQ).length+1<=maxLen/\(((l.take k).map gQ).length+1)*8<=140737488355328):=by
    show _/\_;rw[ae z];have:=ae K;unfold maxLen;omega
   clear HP;go_wp2_with (at_builtin;refine a0B _ rfl _ _ 97 rfl w.heap.size 3 i0 (.int .i64 0) 1 8 a0G L B C D rfl (by decide) _ _ _ rfl (a0m hq _) ⟨wr.heap.size,0,none⟩ 1 1 [.int .i64 R] rfl rfl (dB _ _ rfl _ _) (ib _) (ae d).1 (ae d).2 (au q _) ?_;intro v' x2 j c s;clear s);have x:=aH (v:=u5) c hq (a0a _) q b;have t:=nf j;rw[←ae A]at t;clear j c hq;go_wp2;go_roundw
   case rel=>exact⟨k+1,by have:=ae J;omega,by go_num,t,x⟩
   case measure=>simp[intOf];omega
  . have f:l.take k=l:=a0o (by rw[ae p];omega);rw[f]at hq;obtain⟨va,vc,rfl⟩:=hq.form;clear f h;go_wp2;go_ret;exact⟨_,rfl,hq,b⟩
end Go.Proofs.YtgmfehnnebkaoaaGreatDoor
