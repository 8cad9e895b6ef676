/- Of what the proof is made: 9 texts, one behind the other. -/
import Derived.Test.YtkdlcomfpffhhaaGreatDoorM13
import Derived.Test.YtkdlcomfpffhhaaGreatDoorM8
import Derived.BigRegion
set_option maxRecDepth 100000
set_option linter.unusedSimpArgs false
set_option linter.unusedVariables false
set_option maxHeartbeats 6400000
namespace Go.Proofs.YtkdlcomfpffhhaaGreatDoor
open Go.Proofs.Tryz
open Go.RowKit
variable {b k n ob:Nat}{l:List Int}{t:TypeId}{v:Value}{w w':World}
def sliceLen:Value->Nat
 | .slice _ n _=>n
 | _=>0
theorem zf(h:0<l.getD k 0):aC l (k+1)=aC l k++[⟨l.getD k 0,(k:Int),[(k:Int)],.slice none 0 0⟩]:=by simp only[aC];rw[a0e h]
theorem L2(h:¬ 0<l.getD k 0):aC l (k+1)=aC l k:=by simp only[aC];rw[a0d h]
theorem vd(w:World)(x y z:Value)(t:TypeId)(g:Nat)(b:w.heap.size=g):∀(j:Nat) (u:Value),[x,y,z][j]?=some u->(w.alloc (.cells #[x,y,z] t)).cell? ((⟨g,0,none⟩:Addr).add j)=some u:=by
 subst b;intro j u a
 match j,a with
 | 0,a=>simp at a;subst a;simp[Addr.add]
 | 1,a=>simp at a;subst a;simp[Addr.add]
 | 2,a=>simp at a;subst a;simp[Addr.add]
theorem ve(x y:Int)(a:Option Addr)(n c:Nat):∀u∈[Value.int .i64 x,Value.int .i64 y,Value.slice a n c],u.oneCell'=true:=by
 intro u b;simp at b;rcases b with rfl|rfl|rfl<;>rfl
theorem vj{x:World}{base:Nat}{l:List Grp}(g:Grp)(h:x.ownsRow base t 3 v (l.length+1) (aQ l++[.int .i64 g.cnt,.int .i64 g.fst,g.val])):de t x base v (l++[g]):=by
 show World.ownsRow _ _ _ _ _ (l++[g]).length _;rw[mj];simpa[aQ]using h
theorem ax.one(w:World)(base:Nat)(hb:base<=w.heap.size)(x:Int):ax (w.alloc (.cells #[.int .i64 x] 3)) base (.slice (some ⟨w.heap.size,0,none⟩) 1 1) [x]:=
 a0P w #[.int .i64 x] 1 hb (by unfold maxLen;omega) rfl
theorem JV(w:World)(ob:Nat):jb w ob []:=fun g a=>by simp at a
theorem jb.snoc{l:List Grp}{g:Grp}(h:jb w ob l)(b:ax w ob g.val g.syms):jb w ob (l++[g]):=by
 intro x a;simp only[a1j,a1g]at a;rcases a with a|rfl
 . exact h x a
 . exact b
theorem jb.grown{base:Nat}{l m:List Grp}(h:jb w ob l)(c:de t w base v m)(d:3≠t)(b:w.grownBy w' v.ownBlock):jb w' ob l:=
 fun g a=>a1y (h g a) b (j9 (h g a) c d)
theorem jP{base:Nat}{u:Value}{m:List Grp}(h:ax w ob u l)(b:de t w base v m)(c:3≠t)(a:w.grownBy w' v.ownBlock):ax w' ob u l:=
 a1y h a (j9 h b c)
theorem zy(w:World)(x y z:Value)(t:TypeId):Three (w.alloc (.cells #[x,y,z] t)) w.heap.size x y z:=⟨by simp,by simp,by simp,by simp,by simp,by simp,by simp⟩
theorem Three.later{v0 v1 v2:Value}(h:Three w b v0 v1 v2)(hb:Below w.heap.size w w'):Three w' b v0 v1 v2:=h.kept (hb.mono h.2.2.2.2.2.2)
theorem de.mono{base base':Nat}{l:List Grp}(h:de t w base v l)(hb:base'<=base):de t w base' v l:=
 ⟨h.1,h.2.imp id fun⟨g,c,u,e,a,r⟩=>⟨g,c,u,e,a0G hb a,r⟩⟩
theorem jb.sub{l m:List Grp}(h:jb w ob l)(b:∀g∈m,g∈l):jb w ob m:=fun g a=>h g (b g a)
theorem tM{a:Option Addr}{base size:Nat}{e:TypeId}{xs:List Value}(h:w.ownsRow base e size v n xs)(j:Touch a w w')(f:∀g,a=some ⟨g,0,none⟩->g<base):w'.ownsRow base e size v n xs:=by
 refine⟨h.1,?_⟩;rcases h.2 with i|⟨g,cap,b,rfl,c,d,rest⟩
 . exact .inl i
 . refine .inr ⟨g,cap,b,rfl,c,?_,rest⟩;rw[j.2 g (fun g' e=>by have:=f g' e;omega)];exact d
theorem tj{p:Addr}(a:Touch (some ⟨b,0,none⟩) w w')(c:p.block≠b):w'.cell? p=w.cell? p:=
 World.cell?_of_block (a.2 p.block (fun g e=>by simp only[a0m,a0F,a1a]at e;omega))
theorem tk(b B:Nat)(h:b<B):∀g,(some ⟨b,0,none⟩:Option Addr)=some ⟨g,0,none⟩->g<B:=by
 intro g e;simp only[a0m,a0F,a1a]at e;omega
theorem rS(a:Option Addr)(cap n:Nat)(l:List Int)(w:World)(hn:l.length=n)(h:bn w a l)(hm:n<=300)(hc:∀i,i<l.length->0<=l.getD i 0/\l.getD i 0<=100000) :
  Calls prog 266 #[.slice a n cap] w fun e w'=>e = .returned (.slice (some ⟨w.heap.size,0,none⟩) n n)/\ax w' w.heap.size (.slice (some ⟨w.heap.size,0,none⟩) n n) (cB l)/\Below w.heap.size w w':=by
 have os:(n:Int)<=300:=by omega
 obtain⟨i0,hi,ho,hr,hu⟩:=a0s Tryz.infoInt;obtain⟨j0,hj,hh,l0,l1⟩:=a0s Tryz.infoTree;have HN:=af hn;have HC:=af hc;have HM:=af hm;clear hc;go_enter func266,ntmps266;go_wp2_with (at_make;refine a2a _ rfl _ _ 146 rfl w.heap.size 3 i0 (.int .i64 0) 1 a0L hi ho hr .i64 .i64 _ _ n rfl rfl rfl rfl (by rw[hu];omega) (by unfold maxLen;omega) (a0a _) ?_;intro w1 al m);have k3:ax (w1.alloc (.cells #[] 354)) w.heap.size (.slice (some ⟨w.heap.size,0,none⟩) n n) (List.replicate l.length 0):=by
  rw[hn];exact(eq al).later ((a0c w1.heap.size w1).alloc (a0a _) _) (a0a _)
 have kv:w.heap.size+1<=w1.heap.size:=(eq al).below.2;have j1:Below w.heap.size w (w1.alloc (.cells #[] 354)):=((a0c _ _).grown m (a0a _) (fun k h=>by cases h)).alloc (by omega) _;have lb:de 354 (w1.alloc (.cells #[] 354)) (w.heap.size+1) (.slice (some ⟨w1.heap.size,0,none⟩) 0 0) []:=a0P w1 #[] 0 kv (by unfold maxLen;omega) rfl;clear al m hn hm
 go_loopw [4,5] (fun v i wr=>∃(k:Nat) (L:List Grp),k<=n/\i = .int .i64 k/\L.map bare=aC l k/\de 354 wr (w.heap.size+1) v L/\jb wr (w.heap.size+1) L/\ax wr w.heap.size (.slice (some ⟨w.heap.size,0,none⟩) n n) (List.replicate l.length 0)/\Below w.heap.size w wr) (fun _ i _=>n-(intOf i).toNat)
 case atStart=>exact⟨0,[],a0h _,rfl,rfl,lb,JV _ _,k3,j1⟩
 case round=>
  obtain⟨k,L,hk,rfl,hL,ht,hs,hp,J⟩:=hrel;clear k3 j1 lb;have HL:=af hL;have m1:w.heap.size+1<=wr.heap.size:=hp.below.2;clear hL;by_cases m9:k<n
  .
   obtain⟨g,o,rfl,hg,j4⟩:=(h.later J) (by rw[ae HN];omega);have c0:=j4 k (by rw[ae HN];exact m9);have HK:=af hk;have m6:L.length<=300:=by
    have h1:(L.map bare).length=(aC l k).length:=by rw[ae HL]
    have h2:=(kZ l 100000 (by omega) (fun i hi=>(ae HC i hi).2) k (by rw[ae HN];omega)).2.2;rw[a1l]at h1;have:=ae HM;omega
   clear j4 hk;by_cases hy:0<l.getD k 0
   .
    have eh:=af (zf hy);generalize l.getD k 0=y at *
    have hA:ax (wr.alloc (.cells #[.int .i64 (k:Int)] 3)) (w.heap.size+1) (.slice (some ⟨wr.heap.size,0,none⟩) 1 1) [(k:Int)]:=ax.one wr _ m1 _;have Z:Below wr.heap.size wr (wr.alloc (.cells #[.int .i64 (k:Int)] 3)):=(a0c _ _).alloc (a0a _) _;have K:(wr.alloc (.cells #[.int .i64 (k:Int)] 3)).heap.size=wr.heap.size+1:=by simp
    have I:=ht.later Z (a0a _);have H:=hs.later Z (a0a _);have G:=hp.later Z (a0a _);have T:=am J ((a0c wr.heap.size wr).alloc (a0a _) (.cells #[.int .i64 (k:Int)] 3));have HX:=af (a0b hA (a0b I (a0b H (a0b G (a0b T K)))));have V:Hid (L.length+1<=maxLen/\(L.length+1)*40<=140737488355328):=by show _/\_;unfold maxLen;omega
    clear hA Z I H G T ht hs hp J K;go_wp2_with (at_builtin;refine a0v _ rfl _ _ 352 rfl (w.heap.size+1) 354 j0 (.agg #[.int .i64 0,.int .i64 0,.slice none 0 0]) 3 40 a3Q hj hh l0 l1 rfl (by decide) _ _ _ rfl (a0k (ae HX).2.1 _) ⟨wr.heap.size+1,0,none⟩ 1 1 [.int .i64 y,.int .i64 (k:Int),.slice (some ⟨wr.heap.size,0,none⟩) 1 1] rfl rfl (vd _ _ _ _ _ _ (ae HX).2.2.2.2.2) (ve _ _ _ _ _) (ae V).1 (ae V).2 (av (by rw[(ae HX).2.2.2.2.2];omega) _) ?_;intro v' x3 al m k1;clear k1);obtain⟨hA,I,H,G,T,K⟩:=ae HX;have eu:∀{B:Nat} {o:Obj},B=wr.heap.size+1->Below B (wr.alloc (.cells #[.int .i64 (k:Int)] 3)) ((wr.alloc (.cells #[.int .i64 (k:Int)] 3)).alloc o):=fun{B} {o} e=>(a0c _ _).alloc (by rw[K];omega) _;have Y:de 354 ((wr.alloc (.cells #[.int .i64 (k:Int)] 3)).alloc (.cells #[.int .i64 y,.int .i64 (k:Int),.slice (some ⟨wr.heap.size,0,none⟩) 1 1] 354)) (w.heap.size+1) u4 L:=a0k I _;have ab:=(H.later (eu rfl) (by rw[K];exact a0a _)).grown Y (by decide) m;have a6:=jP (hA.later (eu rfl) (by rw[K];exact a0a _)) Y (by decide) m;have ao:=jP (G.later (eu rfl) (by rw[K];exact a0a _)) Y (by decide) m;have an:Below w.heap.size w x3:=aI (v:=u4) m I (by omega) (by rw[K];omega) T;have be:=vj ⟨y,(k:Int),[(k:Int)],.slice (some ⟨wr.heap.size,0,none⟩) 1 1⟩ al;have ch:=ab.snoc (g:=⟨y,(k:Int),[(k:Int)],.slice (some ⟨wr.heap.size,0,none⟩) 1 1⟩) a6;clear al m HX hA I H G T eu Y ab a6;go_wp2;go_roundw
    case rel=>exact⟨k+1,L++[⟨y,(k:Int),[(k:Int)],.slice (some ⟨wr.heap.size,0,none⟩) 1 1⟩],by omega,by go_num,by rw[ae eh,a1d,ae HL];rfl,be,ch,ao,an⟩
    case measure=>simp[intOf];omega
   .
    have eh:=af (L2 hy);generalize l.getD k 0=y at *
    go_wp2;go_roundw
    case rel=>exact⟨k+1,L,by omega,by go_num,by rw[ae eh];exact ae HL,ht,hs,hp,J⟩
    case measure=>simp[intOf];omega
  .
   obtain rfl:k=n:=by omega
   have a3:Hid (L.map bare=aC l l.length):=by show L.map bare=aC l l.length;rw[ae HN];exact ae HL
   have hU:Hid (L.length=(aC l l.length).length):=by show L.length=(aC l l.length).length;rw[←ae a3,a1l]
   have jn:L.length<=300:=by
    have h2:=(kZ l 100000 (by omega) (fun i hi=>(ae HC i hi).2) l.length (a0a _)).2.2;have:=ae hU;have:=ae HM;have:=ae HN;omega
   have ls:=af (Dw l l.length (a0a _));obtain⟨va,vc,rfl⟩:=ht.form;clear h;by_cases d4:L.length=1
   .
    obtain⟨g,rfl⟩:=ht.somes (by omega);obtain⟨_,c1,_,_,_⟩:=ht.at rfl 0 (by omega);have na:=ae ls ((aC l l.length).getD 0 g0) (xF _ 0 (by have:=ae hU;omega));have e1:(L.getD 0 g0).fst=((aC l l.length).getD 0 g0).fst:=by rw[←ae a3,lA];rfl
    obtain⟨_,f0,f1,_,_⟩:=na;rw[←e1,ae HN]at f1;rw[←e1]at f0;have d8:Hid (cB l=(List.replicate l.length 0).set (L.getD 0 g0).fst.toNat 1):=by
     show cB l=_;unfold cB;rw[a0e (by rw[←ae hU];exact d4),e1]
    generalize (L.getD 0 g0).fst=f at *
    obtain⟨q,rfl⟩:=a0r f0;rw[a0x]at d8;have b8:(List.replicate l.length (0:Int)).length=k:=by simp[ae HN]
    obtain⟨d0,e0,_,_⟩:=hp.at (j:=q) b8 (by omega);have C:=hp.put (j:=q) b8 1;have d1:=ap J (b:=w.heap.size) (o:=q) (a0a _) (.int .i64 1);rw[←ae d8]at C;have HP:=af C;have HB:=af d1;have oi:wr.cell? ⟨g,1,none⟩=some (.int .i64 (q:Int)):=by simpa using c1
    clear C d1 b8 d8 J hp hs ht c1 e1;rw[d4];generalize (List.replicate l.length (0:Int)).getD q 0=y at *
    go_wp2_with fail
    go_loopw [4,6,7,8,9,10,11] (fun v _ _ _ _ _ _ wq=>v = .slice (some ⟨g,0,none⟩) 1 vc/\wq=wr.setCell ⟨w.heap.size,q,none⟩ (.int .i64 1)) (fun _ _ _ _ _ _ _ _=>0)
    case atStart=>exact⟨rfl,rfl⟩
    case round=>
     obtain⟨rfl,hw⟩:=hrel;subst hw;go_wp2;go_ret;exact⟨rfl,ae HP,ae HB⟩
   .
    have nk:((L.length:Int) == 1)=false:=by rw[a03];omega
    have j5:Hid (∀k,(aC l l.length).length-k<=1->(k<(aC l l.length).length∨k=0)->cB l=(aF l k).2):=by
     intro k h1 h2;unfold cB;have:=ae hU;rw[a0d (by omega)]
     congr 2;omega
    have i3:=af jn;clear jn;have k2:ax wr w.heap.size (.slice (some ⟨w.heap.size,0,none⟩) k k) (aF l 0).2:=hp;have jj:L.map bare=(aF l 0).1:=ae a3;generalize jx:(aC l l.length).length=U at *
    have ep:=af jx;clear jx ls a3 HL hp;go_wp2_with fail
    go_loopw [4,6,7,8,9,10,11] (fun v _ _ _ _ _ _ wq=>∃(j:Nat) (M:List Grp),(j<U∨j=0)/\M.map bare=(aF l j).1/\de 354 wq (w.heap.size+1) v M/\jb wq (w.heap.size+1) M/\ax wq w.heap.size (.slice (some ⟨w.heap.size,0,none⟩) k k) (aF l j).2/\Below w.heap.size w wq) (fun v _ _ _ _ _ _ _=>sliceLen v)
    case atStart=>exact⟨0,L,.inr rfl,jj,ht,hs,k2,J⟩
    case round=>
     obtain⟨j,M,hj,hM,a5,cv,ba,cu⟩:=hrel;clear ht hs k2 J jj nk d4;have fb:=cX l j (by rw[ae ep];exact hj);rw[←hM,ae ep]at fb;obtain⟨iw,ic,is,il⟩:=fb;rw[a1l]at il;obtain⟨ma,mc,rfl⟩:=a5.form;have gf:=af hM;have HJ:=af hj;clear hM hj;by_cases s:1<M.length
     .
      have kk:(1:Int)<(M.length:Int):=by omega
      have mm:=ae i3;have c:M.length<=300:=by have:=ae hU;omega
      have ol:(M.length:Int)<=300:=by omega
      have ad:w.heap.size+1<=wr.heap.size:=ba.below.2;have N:=dF M (by omega);have iw':WFL k M:=by
       intro g hg;have h1:=iw (bare g) (a3r hg);rw[ae HN]at h1;exact h1
      have P:=iw' _ (bP M (by omega));have D:=dj M (by omega);have Q:=iw' _ (bj M _ (bP (au M) (by omega)));have O:=dF (au M) (by omega);have r:fw M<=30000000:=by
       have h1:=(kZ l 100000 (by omega) (fun i hi=>(ae HC i hi).2) l.length (a0a _)).1;have h2:fw (M.map bare)=fw M:=by simp[fw,Function.comp_def,bare]
       rw[h2]at ic;have:=ae HN;have h3:(100000:Int)*(l.length:Int)<=100000*300:=Int.mul_le_mul_of_nonneg_left (by omega) (by omega);omega
      have d:=DD iw' s;have hz:=af (pU ma mc M.length (w.heap.size+1) M wr rfl a5 (by omega) c);obtain⟨g,rfl⟩:=a5.somes (by omega);have m2:Hid (aB M=M.getD (least M) g0):=rfl;have no:Hid (au M=M.eraseIdx (least M)):=rfl;have HQ:=af (a0b a5 (a0b cv (a0b ba cu)));have em:=af (a0b P (a0b D (a0b Q (a0b O (a0b r d)))));have en:=af (a0b s (a0b c (a0b N (a0b ad il))));have oc:=af iw';clear a5 cv ba cu ic is iw P D Q O r d s c N ad il iw' mm;go_wp2_with fail;refine(ae hz).mono ?_;rintro e x1 ⟨rfl,a7⟩;obtain⟨a5,cv,ba,cu⟩:=ae HQ;obtain⟨s,c,N,ad,il⟩:=ae en;obtain⟨P,D,Q,O,r,d⟩:=ae em;have I:=a5.later a7 (a0a _);have H:=cv.later a7 (a0a _);have G:=ba.later a7 (a0a _);have Z:=am cu a7;have l2:=a7.size;obtain⟨c0,c1,c2,_,e2⟩:=I.at rfl (least M) N;rw[←ae m2]at c0 c1 c2;have bk:=H _ (bP M (by omega));obtain⟨aa,ac,ev⟩:=bk.form;obtain⟨ga,kd⟩:=(ev▸bk).somes P.2.2.2.2;rw[kd]at ev;rw[ev]at c2 bk;have e4:((least M:Nat):Int)<(M.length:Int):=by omega
      have c8:=af (rT (some ⟨g,0,none⟩) mc M.length (w.heap.size+1) (w.heap.size+1) (least M) M (x1.alloc (.cells #[.int .i64 (aB M).cnt,.int .i64 (aB M).fst,.slice (some ⟨ga,0,none⟩) (aB M).syms.length ac] 354)) rfl (I.later ((a0c x1.heap.size x1).alloc (a0a _) _) (a0a _)) (H.later ((a0c x1.heap.size x1).alloc (a0a _) _) (a0a _)) N c);have h8:=af (a0b I (a0b H (a0b G (a0b Z bk))));have n3:=af e2;have k5:w.heap.size+1<=x1.heap.size:=G.below.2;clear a5 cv ba cu HQ hz I H G Z bk ev P D Q O r d s c N ad il kd e2 l2;generalize i5:aB M=A at *
      have f7:=af i5;clear i5;go_wp2_with fail;refine(ae c8).mono ?_;rintro e x2 ⟨⟨v1,rfl,Y⟩,ct⟩;obtain⟨I,H,G,Z,bk⟩:=ae h8;obtain⟨s,c,N,ad,il⟩:=ae en;obtain⟨P,D,Q,O,r,d⟩:=ae em;rw[←ae no]at Y;have b6:Below x1.heap.size x1 (x1.alloc (.cells #[.int .i64 A.cnt,.int .i64 A.fst,.slice (some ⟨ga,0,none⟩) A.syms.length ac] 354)):=(a0c _ _).alloc (a0a _) _;have a9:=am b6 ct;have dl:=(zy x1 (.int .i64 A.cnt) (.int .i64 A.fst) (.slice (some ⟨ga,0,none⟩) A.syms.length ac) 354).later ct;have ed:=H.later a9 (a0a _);have d7:=G.later a9 (a0a _);have bs:=bk.later a9 (a0a _);have dq:=am Z a9;have bd:=Y.mono (show w.heap.size+1<=_ by have:=G.below.2;have:=b6.size;omega);obtain⟨ra,rc,he⟩:=bd.form;subst he;obtain⟨g2,m3⟩:=bd.somes (by omega);subst m3;have m7:(au M).length=M.length-1:=D;have e5:=af (pU (some ⟨g2,0,none⟩) rc (au M).length (w.heap.size+1) (au M) x2 rfl bd (by omega) (by omega));have o0:((au M).length:Int)<=300:=by omega
      have h9:=af (a0b bd (a0b ed (a0b d7 (a0b dq (a0b bs dl)))));clear I H G Z bk h8 c8 b6 a9 dl ed d7 bs dq bd Y ct c0 c1 c2 e4 P D Q O r d s c N ad il m7;go_wp2_with fail;refine(ae e5).mono ?_;rintro e x3 ⟨rfl,an⟩;obtain⟨Y,ed,d7,dq,bs,dl⟩:=ae h9;obtain⟨s,c,N,ad,il⟩:=ae en;obtain⟨P,D,Q,O,r,d⟩:=ae em;have be:=Y.later an (a0a _);have ab:=ed.later an (a0a _);have ao:=d7.later an (a0a _);have b3:=bs.later an (a0a _);have a6:=dl.later an;have ds:=am dq an;have fn:aB (au M)=(au M).getD (least (au M)) g0:=rfl;obtain⟨c0,c1,c2,_,e2⟩:=be.at rfl (least (au M)) O;rw[←fn]at c0 c1 c2;have b4:=ab _ (bj M _ (bP (au M) (by omega)));obtain⟨bb,bc,ey⟩:=b4.form;obtain⟨gb,ke⟩:=(ey▸b4).somes Q.2.2.2.2;rw[ke]at ey;rw[ey]at c2 b4;have e4:((least (au M):Nat):Int)<((au M).length:Int):=by omega
      have c8:=af (rT (some ⟨g2,0,none⟩) rc (au M).length (w.heap.size+1) (w.heap.size+1) (least (au M)) (au M) (x3.alloc (.cells #[.int .i64 (aB (au M)).cnt,.int .i64 (aB (au M)).fst,.slice (some ⟨gb,0,none⟩) (aB (au M)).syms.length bc] 354)) rfl (be.later ((a0c x3.heap.size x3).alloc (a0a _) _) (a0a _)) ((ab.sub (bj M)).later ((a0c x3.heap.size x3).alloc (a0a _) _) (a0a _)) O (by omega));have id:=af (a0b be (a0b ab (a0b ao (a0b ds (a0b b3 (a0b a6 b4))))));clear Y ed d7 dq bs dl h9 e5 be ab ao b3 a6 ds b4 ey an P D Q O r d s c N ad il ke e2 fn;generalize i9:aB (au M)=Bg at *
      have gd:=af i9;clear i9;go_wp2_with fail;refine(ae c8).mono ?_;rintro e x4 ⟨⟨v2,rfl,c5⟩,g1⟩;obtain⟨be,ab,ao,ds,b3,a6,b4⟩:=ae id;obtain⟨s,c,N,ad,il⟩:=ae en;obtain⟨P,D,Q,O,r,d⟩:=ae em;have f2:(au M).eraseIdx (least (au M))=au (au M):=rfl;rw[f2]at c5;have b6:Below x3.heap.size x3 (x3.alloc (.cells #[.int .i64 Bg.cnt,.int .i64 Bg.fst,.slice (some ⟨gb,0,none⟩) Bg.syms.length bc] 354)):=(a0c _ _).alloc (a0a _) _;have R:=am b6 g1;have e9:=(zy x3 (.int .i64 Bg.cnt) (.int .i64 Bg.fst) (.slice (some ⟨gb,0,none⟩) Bg.syms.length bc) 354).later g1;have i8:=a6.later R;have ch:=ab.later R (a0a _);have cg:=ao.later R (a0a _);have f4:=b3.later R (a0a _);have f5:=b4.later R (a0a _);have dv:=am ds R;have hf:w.heap.size+1<=x4.heap.size:=cg.below.2;have k6:w.heap.size+1<=x3.heap.size:=ao.below.2;have ei:=c5.mono (show w.heap.size+1<=_ by have:=ao.below.2;have:=b6.size;omega);have cp:=dj (au M) (by omega);obtain⟨ra,l3,he⟩:=ei.form;subst he;have j2:Hid ((A.syms.map (Value.int .i64)).length=A.syms.length*1):=by show _=_;simp
      have j3:Hid ((Bg.syms.map (Value.int .i64)).length=Bg.syms.length*1):=by show _=_;simp
      have ks:A.syms.length+Bg.syms.length<=300:=by
       have h1:=d.2;have h2:(aX M).length=A.syms.length+Bg.syms.length:=by
        unfold aX;rw[a0o,ae f7,ae gd]
       have h3:=(cX l j (by rw[ae ep];exact ae HJ)).2.2.1;have h4:ja (M.map bare)=ja M:=by simp[ja,Function.comp_def,bare]
       rw[←ae gf,h4]at h3;have h5:=(kZ l 100000 (by omega) (fun i hi=>(ae HC i hi).2) l.length (a0a _)).2.1;have:=ae HN;have:=ae HM;omega
      have ix:Hid (∀W,Below x4.heap.size x4 W->∀j u,(A.syms.map (Value.int .i64))[j]?=some u->W.cell? ((⟨ga,0,none⟩:Addr).add j)=some u):=fun W hW=>a1Q (f4.later hW (a0a _)) rfl;have i1:Hid (∀W,Below x4.heap.size x4 W->∀j u,(Bg.syms.map (Value.int .i64))[j]?=some u->W.cell? ((⟨gb,0,none⟩:Addr).add j)=some u):=fun W hW=>a1Q (f5.later hW (a0a _)) rfl;have c7:∀W,Below x4.heap.size x4 W->W.cell? ⟨x1.heap.size,2,none⟩=some (.slice (some ⟨ga,0,none⟩) A.syms.length ac)/\W.cell? ⟨x3.heap.size,2,none⟩=some (.slice (some ⟨gb,0,none⟩) Bg.syms.length bc):=fun W hW=>⟨(i8.later hW).2.2.1,(e9.later hW).2.2.1⟩;have gv:World.ownsRow (x4.alloc (.cells #[] 3)).drew x4.heap.size 3 1 (.slice (some ⟨x4.heap.size,0,none⟩) 0 0) 0 []:=a0P x4 #[] 0 (a0a _) (by unfold maxLen;omega) rfl;have cs:Below x4.heap.size x4 (x4.alloc (.cells #[] 3)).drew:=((a0c _ _).alloc (a0a _) _).drew;have a7:Hid (0+A.syms.length<=maxLen/\(0+A.syms.length)*8<=140737488355328):=by show _/\_;unfold maxLen;omega
      have ct:Hid (0+A.syms.length+Bg.syms.length<=maxLen/\(0+A.syms.length+Bg.syms.length)*8<=140737488355328):=by show _/\_;unfold maxLen;omega
      obtain⟨a0,a1,a2,_,_,_,abl⟩:=i8;obtain⟨b0,b1,b2,_,_,_,l6⟩:=e9;have h0:x1.heap.size≠w.heap.size:=by have:=k5;omega
      have h6:x3.heap.size≠w.heap.size:=by have:=k6;omega
      have e7:Below x4.heap.size x4 x4.drew:=(a0c _ _).drew;have fv:Hid ((dD A Bg).fst=if Bg.fst<A.fst then Bg.fst else A.fst):=rfl;have l4:=af ks;have dd:=af (a0b r (a0b d.1 (a0b P Q)));have ih:=af (a0b cp (a0b D (a0b s (a0b c il))));have l5:=af (a0b ei (a0b ch (a0b cg dv)));clear be ab ao ds b3 a6 b4 id c8 b6 R ch cg f4 f5 dv ei c5 g1 c0 c1 c2 e4 P D Q O r d s c N ad il cp ks f2;have ka:∃F:Int,(dD A Bg).fst=F:=⟨_,rfl⟩;obtain⟨F,hF⟩:=ka;have HF:=af hF;clear hF;by_cases fs:Bg.fst<A.fst
      case' pos=>have ji:Hid (Bg.fst=F):=by have:=ae fv;rw[ae HF,a0e fs]at this;exact this.symm
      case' neg=>have ji:Hid (A.fst=F):=by have:=ae fv;rw[ae HF,a0d fs]at this;exact this.symm
      all_goals
       go_wp2_with fail
       go_region_held3 (fun W=>W.cell? ⟨x1.heap.size,2,none⟩=some (.slice (some ⟨ga,0,none⟩) A.syms.length ac)/\W.cell? ⟨x3.heap.size,2,none⟩=some (.slice (some ⟨gb,0,none⟩) Bg.syms.length bc)) (first|exact c7 _ e7|assumption|exact c7 _ cs) (first
        | (refine ak rfl (.tmp 76) (.tmp 78) 146 rfl x4.heap.size 3 i0 (.int .i64 0) 1 8 a0L hi ho hr hu rfl (a1V 0) (.slice (some ⟨x4.heap.size,0,none⟩) 0 0) _ _ rfl gv ⟨ga,0,none⟩ A.syms.length ac (A.syms.map (Value.int .i64)) rfl (ae j2) (ae ix _ cs) (a2c .i64 _) (ae a7).1 (ae a7).2 cs.size ?_;intro v5 x5 cc cm g6;clear g6;have cr:Below x4.heap.size x4 x5:=cs.grown cm cs.size (fun j hj=>(a0p gv j hj).1);have l7:=c7 _ cr)
        | (refine ak rfl (.tmp 79) (.tmp 81) 146 rfl x4.heap.size 3 i0 (.int .i64 0) 1 8 a0L hi ho hr hu rfl (a1V 0) v5 _ _ rfl cc ⟨gb,0,none⟩ Bg.syms.length bc (Bg.syms.map (Value.int .i64)) rfl (ae j3) (ae i1 _ cr) (a2c .i64 _) (ae ct).1 (ae ct).2 cr.size ?_;intro v6 x6 d5 co g7;clear g7;have b5:Below x4.heap.size x4 x6:=cr.grown co cr.size (fun j hj=>(a0p cc j hj).1);have l8:=c7 _ b5))
       obtain⟨c5,ch,cg,dv⟩:=ae l5;have hf:w.heap.size+1<=x4.heap.size:=cg.below.2;have cy:ax x6 x4.heap.size v6 (A.syms++Bg.syms):=by
        show World.ownsRow _ _ _ _ _ (A.syms++Bg.syms).length ((A.syms++Bg.syms).map (Value.int .i64));rw[a0o,a1d];simpa using d5
       have gy:Hid ((A.syms++Bg.syms).length<=300/\0<(A.syms++Bg.syms).length):=by
        show _/\_;rw[a0o];have:=ae l4;have:=(ae dd).2.2.1.2.2.2.2;omega
       have mi:Hid (∀x∈A.syms++Bg.syms,0<=x/\x<(k:Int)):=by
        intro x hx;simp only[a1j]at hx;rcases hx with hx|hx
        . exact(ae dd).2.2.1.2.2.2.1 x hx
        . exact(ae dd).2.2.2.2.2.2.1 x hx
       have md:Hid (aX M=A.syms++Bg.syms):=by
        show aX M=_;unfold aX;rw[ae f7,ae gd]
       have mb:Hid ((dD A Bg).syms=A.syms++Bg.syms):=rfl;generalize A.syms++Bg.syms=S at *
       obtain⟨sv,sc,el⟩:=cy.form;obtain⟨gs,kq⟩:=(el▸cy).somes (ae gy).2;rw[kq]at el;rw[el];rw[el]at cy;have lc:=c5.later b5 (a0a _);have k7:=ch.later b5 (a0a _);have k4:=cg.later b5 (a0a _);have e8:=am dv b5;have fr:=cy.below;have a0':=(b5.cell (p:=⟨x1.heap.size,0,none⟩) abl).trans a0;have i4:=(b5.cell (p:=⟨x3.heap.size,0,none⟩) l6).trans b0;have nc:=af (Ir l (fun i hi=>(ae HC i hi).2) (by rw[ae HN];exact ae HM) j (by rw[ae ep];exact ae HJ));have m5:Hid ((j:Int)<=300):=by show(j:Int)<=300;have:=ae HJ;have:=ae hU;have:=ae i3;omega
       have f6:x1.heap.size≠w.heap.size/\x3.heap.size≠w.heap.size:=⟨h0,h6⟩;have gl:=af cy;have i2:=af lc;have it:=af k7;have e6:=af f6;have f8:=af (a0b a0' i4);have ob:=af fr;have sI:(S.length:Int)<=300:=by have:=(ae gy).1;omega
       clear cc d5 cm co l7 l8 cr c5 ch cg dv lc k7 cy c7 ix i1 gv cs e7 el kq a0 a1 a2 b0 b1 b2 f6 a0' i4 fr j2 j3;go_wp2_with fail
       go_loopw [11] (fun i wq=>∃t:Nat,t<=S.length/\i = .int .i64 t/\ax wq w.heap.size (.slice (some ⟨w.heap.size,0,none⟩) k k) (bump (aF l j).2 (S.take t))/\Touch (some ⟨w.heap.size,0,none⟩) x6 wq/\Below w.heap.size w wq) (fun i _=>S.length-(intOf i).toNat)
       case atStart=>exact⟨0,a0h _,rfl,k4,Touch.refl _ _,e8⟩
       case round=>
        obtain⟨t,ht,rfl,X,E,b7⟩:=hrel;clear k4 e8;have g4:Hid ((bump (aF l j).2 (S.take t)).length=k):=by show(bump (aF l j).2 (S.take t)).length=k;rw[rj,dU,ae HN]
        have ns:Hid (t<=S.length):=ht;clear ht;by_cases d3:t<S.length
        .
         have f3:=(ae gl).touch E (by intro g e;simp only[a0m,a0F,a1a]at e;have:=hf;omega);obtain⟨c0,_,_,_⟩:=f3.at rfl d3;have hx:=ae mi (S.getD t 0) (by simp[List.getD,d3]);have fl:=af (D4 (aF l j).2 S t d3);have kx:=af (wU (ae nc) (S.take t));obtain⟨q,hq⟩:=a0r hx.1;rw[hq]at c0 fl;have ha:q<k:=by omega
         obtain⟨d0,f0,_,_⟩:=X.at (ae g4) ha;have hl:=ae kx q (by rw[ae g4];exact ha);have C:=X.put (j:=q) (ae g4) ((bump (aF l j).2 (S.take t)).getD q 0+1);have eh:Hid (bump (aF l j).2 (S.take (t+1))=(bump (aF l j).2 (S.take t)).set q ((bump (aF l j).2 (S.take t)).getD q 0+1)):=by
          show bump (aF l j).2 (S.take (t+1))=_;rw[ae fl];unfold fj;rw[a0x]
         have o2:(bump (aF l j).2 (S.take t)).getD q 0<=100000:=by
          have h1:=hl.2;have h2:(S.take t).length<=300:=by rw[a0t];have:=(ae gy).1;omega
          have:=ae m5;omega
         have hh:=hl.1;have ck:=ap b7 (b:=w.heap.size) (o:=q) (a0a _) (.int .i64 ((bump (aF l j).2 (S.take t)).getD q 0+1));have a4:=E.set (o:=q) rfl (.int .i64 ((bump (aF l j).2 (S.take t)).getD q 0+1));generalize (bump (aF l j).2 (S.take t)).getD q 0=y at *
         have h7:=af (a0b C (a0b ck a4));have e4:(q:Int)<(k:Int):=by omega
         have o1:(t:Int)<(S.length:Int):=by omega
         clear C ck a4 X f3 b7 E hl hx hq ha;go_wp2_with fail
         go_region
         obtain⟨C,ck,a4⟩:=ae h7;rw[←ae eh]at C;go_wp2;go_roundw
         case rel=>exact⟨t+1,by have:=ae ns;omega,by go_num,C,a4,ck.drew⟩
         case measure=>simp[intOf];omega
        .
         have lg:S.take t=S:=a0D (by omega);rw[lg]at X;have c6:de 354 wr (w.heap.size+1) (.slice ra (au (au M)).length l3) (au (au M)):=tM (ae i2) E (tk _ _ (a0l _));have eg:jb wr (w.heap.size+1) (au (au M)):=fun g hg=>(ae it g (bj M _ (bj _ _ hg))).touch E (tk _ _ (a0l _));have ek:ax wr (w.heap.size+1) (.slice (some ⟨gs,0,none⟩) S.length sc) S:=((ae gl).touch E (tk _ _ (by omega))).mono hf;have a0q:=(tj (p:=⟨x1.heap.size,0,none⟩) E (ae e6).1).trans (ae f8).1;have og:=(tj (p:=⟨x3.heap.size,0,none⟩) E (ae e6).2).trans (ae f8).2;have g5:Hid ((aF l (j+1)).2=bump (aF l j).2 S):=by
          show(aF l (j+1)).2=_;simp only[aF];rw[←ae gf,FW,ae md]
         have e3:Hid ((aF l (j+1)).1=(au (au M)).map bare++[dD A Bg]):=by
          show(aF l (j+1)).1=_;simp only[aF];rw[←ae gf,FP,ae f7,ae gd]
         rw[←ae g5]at X;obtain⟨cp,D,s,c,il⟩:=ae ih;have m4:Hid (j+1<U):=by show j+1<U;omega
         have kt:Hid ((au (au M)).length+1<M.length+0):=by show _<_;omega
         have V:Hid ((au (au M)).length+1<=maxLen/\((au (au M)).length+1)*40<=140737488355328):=by show _/\_;unfold maxLen;omega
         have d2:=ae dd;have op:A.cnt+Bg.cnt<=30000000:=by have:=d2.1;have:=d2.2.1;omega
         have n0:=d2.2.2.1.1;have n1:=d2.2.2.2.1;have mp:w.heap.size+1<=wr.heap.size:=X.below.2;have gk:=af (a0b c6 (a0b eg (a0b ek (a0b X b7))));have n2:Hid ((dD A Bg).cnt=A.cnt+Bg.cnt):=rfl;clear cp D s c il c6 eg ek X b7 E lg d2 dd ih i2 it gl f8;rw[ae ji];go_wp2_with (at_builtin;refine a0v _ rfl _ _ 352 rfl (w.heap.size+1) 354 j0 (.agg #[.int .i64 0,.int .i64 0,.slice none 0 0]) 3 40 a3Q hj hh l0 l1 rfl (by decide) _ _ _ rfl (a0k (ae gk).1 _) ⟨wr.heap.size,0,none⟩ 1 1 [.int .i64 (A.cnt+Bg.cnt),.int .i64 F,.slice (some ⟨gs,0,none⟩) S.length sc] rfl rfl (vd _ _ _ _ _ _ rfl) (ve _ _ _ _ _) (ae V).1 (ae V).2 (av mp _) ?_;intro v7 x7 d6 z g8;clear g8);obtain⟨c6,eg,ek,X,b7⟩:=ae gk;have dz:Below wr.heap.size wr (wr.alloc (.cells #[.int .i64 (A.cnt+Bg.cnt),.int .i64 F,.slice (some ⟨gs,0,none⟩) S.length sc] 354)):=(a0c _ _).alloc (a0a _) _;have cq:=c6.later dz (a0a _);have k8:=(eg.later dz (a0a _)).grown cq (by decide) z;have lo:=jP (ek.later dz (a0a _)) cq (by decide) z;have nm:=jP (X.later dz (a0a _)) cq (by decide) z;have mo:Below w.heap.size w x7:=aI (v:=.slice ra (au (au M)).length l3) z c6 (by omega) (by omega) b7;have lf:=vj ⟨A.cnt+Bg.cnt,F,S,.slice (some ⟨gs,0,none⟩) S.length sc⟩ d6;have nq:=k8.snoc (g:=⟨A.cnt+Bg.cnt,F,S,.slice (some ⟨gs,0,none⟩) S.length sc⟩) lo;have m0:Hid ((au (au M)++[(⟨A.cnt+Bg.cnt,F,S,.slice (some ⟨gs,0,none⟩) S.length sc⟩:Grp)]).map bare=(aF l (j+1)).1):=by
          show _=(aF l (j+1)).1;rw[ae e3,a1d]
          congr 1
          have e:dD A Bg=⟨A.cnt+Bg.cnt,F,S,.slice none 0 0⟩:=by
           rw[←ae HF,←ae mb];rfl
          rw[e];rfl
         have k9:Hid (sliceLen v7<M.length):=by
          show sliceLen v7<M.length;obtain⟨fa,fc,hv⟩:=lf.form;rw[hv];have:=ae kt;simp only[sliceLen,a0o,a1R];omega
         clear d6 z dz cq k8 lo c6 eg ek X b7 gk;go_wp2;go_roundw
         case rel=>exact⟨j+1,_,.inl (ae m4),ae m0,lf,nq,nm,mo⟩
         case measure=>exact ae k9
     .
      have g3:=af (ae j5 j (by omega) (ae HJ));have kk:¬ (1:Int)<(M.length:Int):=by omega
      have HP:=af ba;clear a5 cv ba ic is;go_wp2;go_ret;exact⟨rfl,by rw[ae g3];exact ae HP,cu⟩
theorem Bc(a:Option Addr)(cap n:Nat)(o:List Int)(w:World)(s:o.length=n)(h:bn w a o)(q:n<=300) :
  Calls prog 267 #[.slice a n cap] w fun e w'=>e = .returned (.int .i64 (dO o n))/\w'=w:=by
 subst s;have r:(o.length:Int)<=300:=by omega
 clear q;go_enter func267,ntmps267;go_wp2_with fail
 go_loop [3,4] (fun m i=>∃k:Nat,k<=o.length/\i = .int .i64 k/\m = .int .i64 (dO o k)) (fun _ i=>o.length-(intOf i).toNat)
 case atStart=>exact⟨0,a0h _,rfl,rfl⟩
 case round=>
  obtain⟨k,l,rfl,rfl⟩:=hrel;have t:=af l;by_cases d:k<o.length
  .
   obtain⟨g,f,rfl,u,j⟩:=h (by omega);have c0:=j k d;have c:Hid (dO o (k+1)=if dO o k<o.getD k 0 then o.getD k 0 else dO o k):=rfl;clear j l h;generalize o.getD k 0=y at *
   generalize dO o k=m at *
   by_cases p:m<y
   .
    have b:Hid (dO o (k+1)=y):=by have:=ae c;rw[a0e p]at this;exact this
    go_wp2
    go_round
    case rel=>exact⟨k+1,by omega,by go_num,by rw[ae b]⟩
    case measure=>simp[intOf];omega
   .
    have b:Hid (dO o (k+1)=m):=by have:=ae c;rw[a0d p]at this;exact this
    go_wp2
    go_round
    case rel=>exact⟨k+1,by omega,by go_num,by rw[ae b]⟩
    case measure=>simp[intOf];omega
  .
   obtain rfl:k=o.length:=by omega
   clear h;go_wp2;go_ret;exact⟨rfl,rfl⟩
def BS(w:World)(b n:Nat):Nat:=((List.range n).map (fun i=>(intOf ((w.cell? ⟨b,i,none⟩).getD (.int .i64 0))).toNat)).sum
theorem Dz{base c:Nat}(a:l.length=n)(h:ax w base (.slice (some ⟨b,0,none⟩) n c) l):BS w b n=lY l:=by
 unfold BS lY
 congr 1
 apply a3a
 . simp[a]
 .
  intro i d h2;have f:i<n:=by simpa using d
  have:=(h.at a f).1;simp only[List.getElem_map,List.getElem_range];rw[this];have e:l.getD i 0=l[i]:=by simp[List.getD,show i<l.length by omega]
  rw[e];rfl
theorem Et(l:List Int)(j:Nat)(h:j<l.length):(b9 (l.take j)++l.drop j).set j (iO (l.getD j 0))=b9 (l.take (j+1))++l.drop (j+1):=by
 have b:(b9 (l.take j)).length=j:=by simp[b9];omega
 rw[List.set_append_right _ _ (by omega),b,Nat.sub_self,dy l j h];have a:l.drop j=l[j] :: l.drop (j+1):=a3q h;rw[a,List.set_cons_zero];simp[b9]
theorem Ik(l:List Int)(j:Nat)(h:j<l.length):(b9 (l.take j)++l.drop j).getD j 0=l.getD j 0:=by
 have a:(b9 (l.take j)).length=j:=by simp[b9];omega
 simp only[List.getD];rw[List.getElem?_append_right (by omega),a,Nat.sub_self,List.getElem?_drop];simp
def okC(l:List Int):Prop:=∀i,i<l.length->0<=l.getD i 0/\l.getD i 0<=100000
theorem yG(h:okC l):okC (b9 l):=by
 intro i a;rw[fW]at a;rw[oK l i a];have:=h i a;unfold iO;omega
theorem Dl(h:okC l):∀x∈l,0<=x:=by
 intro x b;obtain⟨i,a,rfl⟩:=a2b b;have:=(h i a).1;have e:l.getD i 0=l[i]:=by simp[List.getD,a]
 rw[e]at this;exact this
def ft(m:Int)(l:List Int):List Int:=vO m (lY l) l
theorem uy(a:Option Addr)(cap n mm:Nat)(l:List Int)(w:World)(hn:l.length=n)(h:bn w a l)(h1:1<=n)(hm:n<=300)(hc:okC l)(hU:(aC l l.length).length<=p2 mm)(b7:mm<=14) :
  Calls prog 244 #[.slice a n cap,.int .i64 ((mm:Int)+1)] w fun e w'=>(∃v,e = .returned v/\ax w' w.heap.size v (ft ((mm:Int)+1) l))/\Below w.heap.size w w':=by
 obtain⟨i0,hi,ch,ck,cm⟩:=a0s Tryz.infoInt;obtain⟨g,o,rfl,hg,a3⟩:=h (by omega);have cq:(n:Int)<=300:=by omega
 have cp:(mm:Int)<=14:=by omega
 have Z:=af hn;have HC:=af hc;have HU:=af hU;have HM:=af (a0b h1 hm);have G:Below w.heap.size w (w.alloc (.cells #[] 3)):=(a0c _ _).alloc (a0a _) _;have S:World.ownsRow (w.alloc (.cells #[] 3)) w.heap.size 3 1 (.slice (some ⟨w.heap.size,0,none⟩) 0 0) 0 []:=a0P w #[] 0 (a0a _) (by unfold maxLen;omega) rfl;have W:Hid (∀j u,(l.map (Value.int .i64))[j]?=some u->(w.alloc (.cells #[] 3)).cell? ((⟨g,o,none⟩:Addr).add j)=some u):=by
  intro j u hj;have a5:j<l.length:=by have:=(List.getElem?_eq_some_iff.1 hj).1;simpa using this
  have ad:(⟨g,o,none⟩:Addr).add j=⟨g,o+j,none⟩:=by unfold Addr.add;split<;>simp_all
  rw[ad,G.cell (p:=⟨g,o+j,none⟩) hg,a3 j a5,←hj];simp[List.getD,a5]
 have b5:Hid ((l.map (Value.int .i64)).length=n*1):=by show _=_;simp[hn]
 have al:Hid (0+n<=maxLen/\(0+n)*8<=140737488355328):=by show _/\_;unfold maxLen;omega
 clear hn hc hU h1 hm a3 b7 h;go_enter func244,ntmps244;go_wp2_with (at_builtin;refine a0v _ rfl _ _ 146 rfl w.heap.size 3 i0 (.int .i64 0) 1 8 a0L hi ch ck cm rfl (by decide) _ _ _ rfl S ⟨g,o,none⟩ n cap (l.map (Value.int .i64)) rfl (ae b5) (ae W) (a2c .i64 _) (ae al).1 (ae al).2 G.size ?_;intro v1 x1 Q K ba;clear ba);have A:ax x1 w.heap.size v1 l:=by
  show World.ownsRow _ _ _ _ _ l.length _;rw[ae Z];simpa using Q
 have ab:Below w.heap.size w x1:=G.grown K G.size (fun j hj=>(a0p S j hj).1);obtain⟨va,vc,X⟩:=A.formN (ae Z);rw[X];rw[X]at A;refine(rS va vc n l x1 (ae Z) (A.rowN (ae Z)) (ae HM).2 (ae HC)).mono ?_;rintro e x2 ⟨rfl,bb,T⟩;have bd:=A.later T (a0a _);have ac:=am ab T;have be:w.heap.size<=x1.heap.size:=ab.size;obtain⟨lb,b3⟩:=A.somes (by rw[ae Z];exact(ae HM).1);subst b3;have P:=A.below;have HX:=af (a0b be P);clear A T Q K X S G P;go_wp2_with fail
 go_loopw [6,7] (fun v _ wr=>∃(c:List Int) (f ob:Nat),c.length=n/\okC c/\(aC c c.length).length<=p2 mm/\lY c<=f/\ft ((mm:Int)+1) l=vO ((mm:Int)+1) f c/\v = .slice (some ⟨ob,0,none⟩) n n/\lb<ob/\ax wr ob (.slice (some ⟨ob,0,none⟩) n n) (cB c)/\ax wr w.heap.size (.slice (some ⟨lb,0,none⟩) n vc) c/\Below w.heap.size w wr) (fun _ _ wr=>BS wr lb n)
 case atStart=>exact⟨l,lY l,x1.heap.size,ae Z,ae HC,ae HU,a0a _,rfl,rfl,(ae HX).2.2,bb,bd,ac⟩
 case round=>
  obtain⟨c,f,ob,m,d,E,M,s,rfl,a7,F,z,q⟩:=hrel;clear bb bd ac;have r:(cB c).length=n:=(iq c).trans m;have aa:=af (Bc (some ⟨ob,0,none⟩) n n (cB c) wr r (F.rowN r) (ae HM).2);have L:Hid (fits (cB c) ((mm:Int)+1)=decide (dO (cB c) n<=(mm:Int)+1)):=by show _=_;unfold fits;rw[r]
  have HQ:=af (a0b m (a0b d (a0b E (a0b M s))));have HO:=af (a0b F (a0b z q));have HS:=af (Dz m z);have a9:=af a7;clear m d E M s r a7;generalize dO (cB c) n=mo at *
  by_cases co:(mm:Int)+1<mo
  .
   have N:fits (cB c) ((mm:Int)+1)=false:=by rw[ae L];exact a0j (by omega)
   obtain⟨m,d,E,M,s⟩:=ae HQ;have hex:=yF E N;have R:=(zq c (Dl d)).2 hex;have b2:∃f',f=f'+1:=⟨f-1,by omega⟩;obtain⟨f',a4⟩:=b2;have V:Hid (ft ((mm:Int)+1) l=vO ((mm:Int)+1) f' (b9 c)):=by
    show _=_;rw[s,a4];simp only[vO];rw[N];rfl
   have a2:Hid (lY (b9 c)<=f'):=by show _<=_;omega
   have bs:=af R;have I:=af (yG d);have a1:Hid ((aC (b9 c) (b9 c).length).length<=p2 mm):=by show _<=_;rw[fW,uT c (fun i hi=>(d i hi).1) _ (a0a _)];exact E
   have B:Hid ((b9 c).length=n):=(fW c).trans m;clear m d E M s hex R a4;go_wp2_with fail;refine(ae aa).mono ?_;rintro e x3 ⟨rfl,Y⟩;subst Y;obtain⟨F,z,q⟩:=ae HO;have ao:ax x3 w.heap.size (.slice (some ⟨lb,0,none⟩) n vc) (b9 (c.take 0)++c.drop 0):=by simpa[b9]using z
   clear F z;go_wp2_with fail
   go_loopw [7] (fun i wq=>∃t:Nat,t<=n/\i = .int .i64 t/\ax wq w.heap.size (.slice (some ⟨lb,0,none⟩) n vc) (b9 (c.take t)++c.drop t)/\Below w.heap.size w wq) (fun i _=>n-(intOf i).toNat)
   case atStart=>exact⟨0,a0h _,rfl,ao,q⟩
   case round=>
    obtain⟨t,ht,rfl,k,x⟩:=hrel;clear ao q;obtain⟨m,d,_,_,_⟩:=ae HQ;have a6:Hid ((b9 (c.take t)++c.drop t).length=n):=by show _=n;rw[a0o,fW,a0t,a01];omega
    by_cases b6:t<n
    .
     have D:=k.put (j:=t) (ae a6) (iO (c.getD t 0));rw[Et c t (by omega)]at D;obtain⟨d0,f0,an,_⟩:=k.at (ae a6) b6;rw[Ik c t (by omega)]at d0;have hy:=d t (by omega);have H:=ap x (b:=lb) (o:=t) an (.int .i64 (iO (c.getD t 0)));unfold iO at D H;have O:=af (a0b D H);have cg:(t:Int)<(n:Int):=by omega
     have Ht:=af ht;generalize c.getD t 0=y at *
     obtain⟨y0,y1⟩:=hy;have e1:IntKind.i64.wrap ((y+1).tdiv 2)=(y+1)/2:=by rw[Int.tdiv_eq_ediv_of_nonneg (by omega)];simp[IntKind.wrap,IntKind.bits,IntKind.signed];omega
     clear D H k x m d ht an;go_wp2;go_roundw
     case rel=>exact⟨t+1,by have:=ae Ht;omega,by go_num,(ae O).1,(ae O).2⟩
     case measure=>simp[intOf];omega
    .
     have cr:t=n:=by omega
     have J:b9 (c.take t)++c.drop t=b9 c:=by rw[a0D (by omega),a2p (by omega)];simp
     rw[J]at k;have b4:=af (rS (some ⟨lb,0,none⟩) vc n (b9 c) wr (ae B) (k.rowN (ae B)) (ae HM).2 (ae I));have C:=k.below;have bk:=af (a0b k (a0b x C));have cg:¬ (t:Int)<(n:Int):=by omega
     clear k x m d J C;go_wp2_with fail;refine(ae b4).mono ?_;rintro e x4 ⟨rfl,cc,U⟩;obtain⟨k,x,C⟩:=ae bk;have a0:=k.later U (a0a _);have b0:=am x U;have b8:Hid (BS x4 lb n<BS x3 lb n):=by
      show BS x4 lb n<BS x3 lb n;rw[Dz (ae B) a0,ae HS];exact ae bs
     clear k x U;go_wp2;go_roundw
     case rel=>exact⟨b9 c,f',wr.heap.size,ae B,ae I,ae a1,ae a2,ae V,rfl,C.2,cc,a0,b0⟩
     case measure=>exact ae b8
  .
   have N:fits (cB c) ((mm:Int)+1)=true:=by rw[ae L];exact a0w (by omega)
   have bc:Hid (ft ((mm:Int)+1) l=cB c):=by
    show _=_;rw[(ae HQ).2.2.2.2];cases f with
    | zero=>rfl
    | succ f=>simp only[vO];rw[N];rfl
   go_wp2_with fail;refine(ae aa).mono ?_;rintro e x3 ⟨rfl,Y⟩;subst Y;obtain⟨F,z,q⟩:=ae HO;have b1:w.heap.size<=ob:=by have:=z.below.1;have:=ae a9;omega
   go_wp2;go_ret;exact⟨⟨_,rfl,by rw[ae bc];exact F.mono b1⟩,q⟩
theorem L3(l:List Int)(k:Nat)(a:k<=l.length):(aC l k).length=us (l.take k):=by
 induction k with
 | zero=>rfl
 | succ k ih=>
  rw[qT l k (by omega),←ih (by omega)];simp only[aC]
  split
  . simp
  . rfl
theorem gu(l:List Int):(aC l l.length).length=us l:=by
 rw[L3 l _ (a0a _),List.take_length]
def HP(L:List Grp):Prop:=∀i,0<i->i<L.length->uH (L.getD i g0) (L.getD ((i-1)/2) g0)=false
theorem Fq{α:Type}(f:α->Nat){A B:List α}(h:A.Perm B):(A.map f).sum=(B.map f).sum:=by
 induction h with
 | nil=>rfl
 | cons x _ ih=>simp only[a0K,a0V];omega
 | swap x y l=>simp only[a0K,a0V];omega
 | trans _ _ h1 h2=>omega
def pL:Nat->List Grp->Int
 | 0,_=>0
 | n+1,M=>if 1<M.length then(aB M).cnt+(aB (au M)).cnt+pL n (stepG M)else 0
theorem ib(h:0<l.getD k 0):aC l (k+1)=aC l k++[⟨l.getD k 0,(k:Int),[(k:Int)],.slice none 0 0⟩]:=by simp only[aC];rw[a0e h]
theorem kY(h:¬ 0<l.getD k 0):aC l (k+1)=aC l k:=by simp only[aC];rw[a0d h]
def krR(l:List Int)(len:Nat->Nat)(D:Nat):Nat->Nat
 | 0=>0
 | n+1=>krR l len D n+(if 0<l.getD n 0 then 2 ^ (D-len n)else 0)
theorem oh(l:List Int)(k:Nat):∀g∈aC l k,0<=g.cnt/\∃i:Nat,g.fst=(i:Int)/\i<k/\0<l.getD i 0/\g.cnt=l.getD i 0/\g.syms=[(i:Int)]:=by
 induction k with
 | zero=>intro g a;simp[aC]at a
 | succ k ih=>
  intro g a;by_cases d:0<l.getD k 0
  .
   rw[ib d]at a;simp only[a1j,a1g]at a;rcases a with a|rfl
   . obtain⟨b,i,h2,e,c⟩:=ih g a;exact⟨b,i,h2,by omega,c⟩
   . exact⟨by simp only;omega,k,rfl,by omega,d,rfl,rfl⟩
  . rw[kY d]at a;obtain⟨b,i,h2,e,c⟩:=ih g a;exact⟨b,i,h2,by omega,c⟩
theorem tD(l:List Int)(len:Nat->Nat)(D k:Nat):((bq (aC l k)).map fun s=>2 ^ (D-len s.toNat)).sum=krR l len D k:=by
 induction k with
 | zero=>rfl
 | succ k ih=>
  simp only[krR];by_cases h:0<l.getD k 0
  . rw[a0e h,←ih,ib h];simp[bq]
  . rw[a0d h,←ih,kY h];simp
theorem xA(l:List Int)(k:Nat)(x:Int):x∈bq (aC l k)<->∃i:Nat,x=(i:Int)/\i<k/\0<l.getD i 0:=by
 constructor
 . intro h;obtain⟨g,d,a⟩:=List.mem_flatMap.1 h;obtain⟨_,i,j,h2,b,_,c⟩:=oh l k g d;rw[c]at a;simp only[a1g]at a;exact⟨i,a,h2,b⟩
 .
  rintro⟨i,rfl,m,f⟩;induction k with
  | zero=>omega
  | succ k ih=>
   by_cases e:i=k
   . subst e;rw[ib f];simp[bq]
   .
    have:=ih (by omega);by_cases h:0<l.getD k 0
    . rw[ib h];simp only[bq,a3b,a1j];exact .inl this
    . rw[kY h];exact this
/-! What holds behind so many steps. -/
def i7(l s:List Int):Int:=(s.map fun x=>l.getD x.toNat 0).sum
theorem mh(l a b:List Int):i7 l (a++b)=i7 l a+i7 l b:=by simp[i7]
theorem CQ(l:List Int)(k:Nat)(j:k<(aC l l.length).length∨k=0):∀g∈(aF l k).1,g.cnt=i7 l g.syms:=by
 induction k with
 | zero=>
  intro g b;obtain⟨_,i,f,h2,h,d,e⟩:=oh l l.length g b;rw[d,e];simp[i7]
 | succ k ih=>
  have c:1<(aF l k).1.length:=by have:=(cX l k (by omega)).2.2.2;omega
  have m:=dj (aF l k).1 (by omega);have ih':=ih (by omega);intro g b;have a:g∈stepG (aF l k).1:=b;simp only[stepG,a1j,a1g]at a;rcases a with a|rfl
  . exact ih' g (bj _ _ (bj _ _ a))
  . simp only[dD];rw[mh,ih' _ (bP _ (by omega)),ih' _ (bj _ _ (bP (au _) (by omega)))]
def nE(l o:List Int):Nat->Int
 | 0=>0
 | n+1=>nE l o n+l.getD n 0*o.getD n 0
theorem Eb(l o:List Int)(s:Int)(a:0<=s)(n:Nat)(b:n<=o.length):nE l (fj o s) n=nE l o n+(if s<(n:Int)then l.getD s.toNat 0 else 0):=by
 induction n with
 | zero=>simp only[nE];rw[a0d (by omega)];rfl
 | succ n ih=>
  simp only[nE];rw[ih (by omega),tX o s n a (by omega)];by_cases e:s=(n:Int)
  . subst e;rw[a0d (by omega),a0e rfl,a0e (by omega),Int.mul_add,Int.mul_one,a0x];omega
  .
   rw[a0d e,Int.add_zero];by_cases h:s<(n:Int)
   . rw[a0e h,a0e (by omega)];omega
   . rw[a0d h,a0d (by omega)];omega
theorem He(l s:List Int)(n:Nat):∀(o:List Int),n<=o.length->(∀x∈s,0<=x/\x<(n:Int))->nE l (bump o s) n=nE l o n+i7 l s:=by
 induction s with
 | nil=>intro o _ _;simp[bump,i7]
 | cons x s ih=>
  intro o b a;show nE l (bump (fj o x) s) n=_;rw[ih (fj o x) (by rw[lu];exact b) (fun y c=>a y (by simp[c])),Eb l o x (a x (by simp)).1 n b,a0e (a x (by simp)).2];simp only[i7,a0K,a0V];omega
theorem Hg(l:List Int)(m n:Nat):nE l (List.replicate m 0) n=0:=by
 induction n with
 | zero=>rfl
 | succ n ih=>
  simp only[nE];rw[ih];have:(List.replicate m (0:Int)).getD n 0=0:=by
   rw[List.getD_eq_getElem?_getD,List.getElem?_replicate]
   split<;>rfl
  rw[this];omega
theorem Ld(l:List Int)(k:Nat)(i:k<(aC l l.length).length∨k=0):nE l (aF l k).2 l.length+pL ((aC l l.length).length-1-k) (aF l k).1=pL ((aC l l.length).length-1) (aC l l.length):=by
 induction k with
 | zero=>
  show nE l (List.replicate l.length 0) l.length+pL _ (aC l l.length)=_;rw[Hg,Int.zero_add,a3L]
 | succ k ih=>
  have ih':=ih (by omega);have a:1<(aF l k).1.length:=by have:=(cX l k (by omega)).2.2.2;omega
  have j:=dj (aF l k).1 (by omega);obtain⟨m,hm⟩:∃m,(aC l l.length).length-1-k=m+1:=⟨(aC l l.length).length-1-k-1,by omega⟩;have b:(aC l l.length).length-1-(k+1)=m:=by omega
  rw[hm]at ih';rw[b];simp only[pL]at ih';rw[a0e a]at ih';have c:∀x∈aX (aF l k).1,0<=x/\x<(l.length:Int):=by
   intro x h;have g:=(gZ l k (by omega)).2;exact g x ((iE _ a).mem_iff.1 (by simp[h]))
  have d:=He l (aX (aF l k).1) l.length (aF l k).2 (by rw[dU];exact a0a _) c;have h2:=CQ l k (by omega) _ (bP (aF l k).1 (by omega));have e:=CQ l k (by omega) _ (bj _ _ (bP (au (aF l k).1) (by omega)));have f:i7 l (aX (aF l k).1)=(aB (aF l k).1).cnt+(aB (au (aF l k).1)).cnt:=by
   unfold aX;rw[mh,←h2,←e]
  show nE l (bump (aF l k).2 (aX (aF l k).1)) l.length+pL m (stepG (aF l k).1)=_;rw[d,f];omega
def mF(o s:List Int)(D:Nat):Nat:=(s.map fun x=>2 ^ (D-(o.getD x.toNat 0).toNat)).sum
theorem xT(o a b:List Int)(D:Nat):mF o (a++b) D=mF o a D+mF o b D:=by simp[mF]
theorem Ex{o o' s:List Int}{D:Nat}(h:∀x∈s,o'.getD x.toNat 0=o.getD x.toNat 0):mF o' s D=mF o s D:=by
 unfold mF
 congr 1
 apply List.map_congr_left;intro x a;rw[h x a]
theorem Ew{o o' s:List Int}{D:Nat}(h:∀x∈s,0<=o.getD x.toNat 0/\o.getD x.toNat 0<(D:Int)/\o'.getD x.toNat 0=o.getD x.toNat 0+1):2*mF o' s D=mF o s D:=by
 induction s with
 | nil=>rfl
 | cons x s ih=>
  have ih':=ih (fun y c=>h y (by simp[c]));obtain⟨e,h2,b⟩:=h x (by simp);simp only[mF,a0K,a0V]at ih' ⊢;rw[b];obtain⟨d,hd⟩:∃d,D-(o.getD x.toNat 0).toNat=d+1:=⟨D-(o.getD x.toNat 0).toNat-1,by omega⟩;have a:D-(o.getD x.toNat 0+1).toNat=d:=by omega
  rw[hd,a,a12];omega
theorem Le(l:List Int)(D:Nat)(A:(aC l l.length).length<=D)(k:Nat)(B:k<(aC l l.length).length∨k=0):∀g∈(aF l k).1,mF (aF l k).2 g.syms D=2 ^ D:=by
 induction k with
 | zero=>
  intro g m;obtain⟨_,i,q,h2,w,z,r⟩:=oh l l.length g m;rw[r];show mF (List.replicate l.length 0) [(i:Int)] D=2 ^ D;simp[mF,List.getD,h2]
 | succ k ih=>
  have c:1<(aF l k).1.length:=by have:=(cX l k (by omega)).2.2.2;omega
  have C:=dj (aF l k).1 (by omega);have ih':=ih (by omega);have d:=gZ l k (by omega);obtain⟨n,h⟩:=iD c d.1;have f:=jN l k (by omega);have j:∀x∈aX (aF l k).1,0<=x/\x<(l.length:Int):=fun x e=>d.2 x ((iE _ c).mem_iff.1 (by simp[e]));have b:=fun(x:Int) (h0:0<=x) (q:x<(l.length:Int))=>kC (aF l k).2 (aX (aF l k).1) x.toNat n (fun y v=>(j y v).1) (by rw[dU];omega);intro g m;show mF (bump (aF l k).2 (aX (aF l k).1)) g.syms D=2 ^ D;have a:g∈stepG (aF l k).1:=m;simp only[stepG,a1j,a1g]at a;rcases a with a|rfl
  .
   rw[Ex (o:=(aF l k).2)]
   . exact ih' g (bj _ _ (bj _ _ a))
   . intro x e;have p:x∈bq (aF l k).1:=List.mem_flatMap.2 ⟨g,bj _ _ (bj _ _ a),e⟩;obtain⟨x0,x1⟩:=d.2 x p;rw[b x x0 x1,Int.toNat_of_nonneg x0,a0d (h g a x e),Int.add_zero]
  .
   have u:(dD (aB (aF l k).1) (aB (au (aF l k).1))).syms=aX (aF l k).1:=rfl;rw[u];have t:=Ew (o:=(aF l k).2) (o':=bump (aF l k).2 (aX (aF l k).1)) (s:=aX (aF l k).1) (D:=D) (by
    intro x e;obtain⟨x0,x1⟩:=j x e;have hd:=f x.toNat (by rw[dU];omega);refine⟨hd.1,by omega,?_⟩;rw[b x x0 x1,Int.toNat_of_nonneg x0,a0e e])
   have h2:mF (aF l k).2 (aX (aF l k).1) D=2 ^ D+2 ^ D:=by
    unfold aX;rw[xT,ih' _ (bP _ (by omega)),ih' _ (bj _ _ (bP (au _) (by omega)))]
   omega
theorem cf.ints{base:Nat}(h:cf 3 w w')(a:ax w base v l):ax w' base v l:=h.own a
theorem cf.syms{l:List Grp}(h:cf 3 w w')(b:jb w ob l):jb w' ob l:=fun g a=>h.ints (b g a)
open Corb
theorem Cb(l:List Grp)(j:Nat)(x:Grp):(((aQ l).set (j*3) (.int .i64 x.cnt)).set (j*3+1) (.int .i64 x.fst)).set (j*3+2) x.val=aQ (l.set j x):=by
 induction l generalizing j with
 | nil=>simp[aQ]
 | cons p l ih=>
  cases j with
  | zero=>simp[aQ]
  | succ j=>
   rw[show(j+1)*3=j*3+1+1+1 by omega];simp only[aQ,List.set_cons_succ];rw[ih j]
theorem de.put{base g cap:Nat}{l:List Grp}(c:l.length=n)(h:de t w base (.slice (some ⟨g,0,none⟩) n cap) l)(j:Nat)(x:Grp) :
  de t (((w.setCell ⟨g,j*3,none⟩ (.int .i64 x.cnt)).setCell ⟨g,j*3+1,none⟩ (.int .i64 x.fst)).setCell ⟨g,j*3+2,none⟩ x.val) base (.slice (some ⟨g,0,none⟩) n cap) (l.set j x):=by
 subst c;have b:=(a1S h (j*3) (.int .i64 x.cnt)).1;have h2:=(a1S b (j*3+1) (.int .i64 x.fst)).1;have a:=(a1S h2 (j*3+2) x.val).1;rw[Cb]at a;show World.ownsRow _ _ _ _ _ (l.set j x).length _;rw[a16];exact a
theorem de.frozen{base g cap:Nat}{l:List Grp}(a:l.length=n)(h:de t w base (.slice (some ⟨g,0,none⟩) n cap) l)(j:Nat):w.frozen? ⟨g,j,none⟩=false:=by
 subst a;exact a2B h j
theorem Touch.drew{a:Option Addr}(h:Touch a w w'):Touch a w w'.drew:=h
theorem de.drew{base:Nat}{l:List Grp}(h:de t w base v l):de t w.drew base v l:=h
def Fs(x:Int):Int:=if x<=1 then x else 1
end Go.Proofs.YtkdlcomfpffhhaaGreatDoor
