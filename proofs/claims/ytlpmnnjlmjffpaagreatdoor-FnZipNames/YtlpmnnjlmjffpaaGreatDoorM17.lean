/- Of what the proof is made: 9 texts, one behind the other. -/
import Derived.Test.YtlpmnnjlmjffpaaGreatDoorM15
import Derived.Test.YtlpmnnjlmjffpaaGreatDoorM9
import Derived.BigRegion
set_option maxRecDepth 100000
set_option linter.unusedSimpArgs false
set_option linter.unusedVariables false
set_option maxHeartbeats 6400000
namespace Go.Proofs.YtlpmnnjlmjffpaaGreatDoor
open Go.Proofs.Tryz
open Go.RowKit
variable {b k n ob:Nat}{l:List Int}{t:TypeId}{v:Value}{w w':World}
def sliceLen:Value->Nat
 | .slice _ n _=>n
 | _=>0
theorem Ab(h:0<l.getD k 0):aC l (k+1)=aC l k++[⟨l.getD k 0,(k:Int),[(k:Int)],.slice none 0 0⟩]:=by simp only[aC];rw[a0e h]
theorem M8(h:¬ 0<l.getD k 0):aC l (k+1)=aC l k:=by simp only[aC];rw[a0d h]
theorem vM(w:World)(x y z:Value)(t:TypeId)(g:Nat)(b:w.heap.size=g):∀(j:Nat) (u:Value),[x,y,z][j]?=some u->(w.alloc (.cells #[x,y,z] t)).cell? ((⟨g,0,none⟩:Addr).add j)=some u:=by
 subst b;intro j u a
 match j,a with
 | 0,a=>simp at a;subst a;simp[Addr.add]
 | 1,a=>simp at a;subst a;simp[Addr.add]
 | 2,a=>simp at a;subst a;simp[Addr.add]
theorem vN(x y:Int)(a:Option Addr)(n c:Nat):∀u∈[Value.int .i64 x,Value.int .i64 y,Value.slice a n c],u.oneCell'=true:=by
 intro u b;simp at b;rcases b with rfl|rfl|rfl<;>rfl
theorem vS{x:World}{base:Nat}{l:List Grp}(g:Grp)(h:x.ownsRow base t 3 v (l.length+1) (aS l++[.int .i64 g.cnt,.int .i64 g.fst,g.val])):dy t x base v (l++[g]):=by
 show World.ownsRow _ _ _ _ _ (l++[g]).length _;rw[m8];simpa[aS]using h
theorem ay.one(w:World)(base:Nat)(hb:base<=w.heap.size)(x:Int):ay (w.alloc (.cells #[.int .i64 x] 3)) base (.slice (some ⟨w.heap.size,0,none⟩) 1 1) [x]:=
 a0Y w #[.int .i64 x] 1 hb (by unfold maxLen;omega) rfl
theorem Lb(w:World)(ob:Nat):jM w ob []:=fun g a=>by simp at a
theorem jM.snoc{l:List Grp}{g:Grp}(h:jM w ob l)(b:ay w ob g.val g.syms):jM w ob (l++[g]):=by
 intro x a;simp only[a1b,a09]at a;rcases a with a|rfl
 . exact h x a
 . exact b
theorem jM.grown{base:Nat}{l m:List Grp}(h:jM w ob l)(c:dy t w base v m)(d:3≠t)(b:w.grownBy w' v.ownBlock):jM w' ob l:=
 fun g a=>a16 (h g a) b (nV (h g a) c d)
theorem kG{base:Nat}{u:Value}{m:List Grp}(h:ay w ob u l)(b:dy t w base v m)(c:3≠t)(a:w.grownBy w' v.ownBlock):ay w' ob u l:=
 a16 h a (nV h b c)
theorem Aq(w:World)(x y z:Value)(t:TypeId):Three (w.alloc (.cells #[x,y,z] t)) w.heap.size x y z:=⟨by simp,by simp,by simp,by simp,by simp,by simp,by simp⟩
theorem Three.later{v0 v1 v2:Value}(h:Three w b v0 v1 v2)(hb:Below w.heap.size w w'):Three w' b v0 v1 v2:=h.kept (hb.mono h.2.2.2.2.2.2)
theorem dy.mono{base base':Nat}{l:List Grp}(h:dy t w base v l)(hb:base'<=base):dy t w base' v l:=
 ⟨h.1,h.2.imp id fun⟨g,c,u,e,a,r⟩=>⟨g,c,u,e,a0G hb a,r⟩⟩
theorem jM.sub{l m:List Grp}(h:jM w ob l)(b:∀g∈m,g∈l):jM w ob m:=fun g a=>h g (b g a)
theorem uu{a:Option Addr}{base size:Nat}{e:TypeId}{xs:List Value}(h:w.ownsRow base e size v n xs)(j:Touch a w w')(f:∀g,a=some ⟨g,0,none⟩->g<base):w'.ownsRow base e size v n xs:=by
 refine⟨h.1,?_⟩;rcases h.2 with i|⟨g,cap,b,rfl,c,d,rest⟩
 . exact .inl i
 . refine .inr ⟨g,cap,b,rfl,c,?_,rest⟩;rw[j.2 g (fun g' e=>by have:=f g' e;omega)];exact d
theorem tZ{p:Addr}(a:Touch (some ⟨b,0,none⟩) w w')(c:p.block≠b):w'.cell? p=w.cell? p:=
 World.cell?_of_block (a.2 p.block (fun g e=>by simp only[a0k,a0F,a03]at e;omega))
theorem ua(b B:Nat)(h:b<B):∀g,(some ⟨b,0,none⟩:Option Addr)=some ⟨g,0,none⟩->g<B:=by
 intro g e;simp only[a0k,a0F,a03]at e;omega
theorem sP(a:Option Addr)(cap n:Nat)(l:List Int)(w:World)(hn:l.length=n)(h:bu w a l)(hm:n<=300)(hc:∀i,i<l.length->0<=l.getD i 0/\l.getD i 0<=100000) :
  Calls prog 273 #[.slice a n cap] w fun e w'=>e = .returned (.slice (some ⟨w.heap.size,0,none⟩) n n)/\ay w' w.heap.size (.slice (some ⟨w.heap.size,0,none⟩) n n) (da l)/\Below w.heap.size w w':=by
 have pc:(n:Int)<=300:=by omega
 obtain⟨i0,hi,h6,h7,h8⟩:=a0w Tryz.infoInt;obtain⟨j0,hj,hz,l8,md⟩:=a0w Tryz.infoTree;have HN:=af hn;have HC:=af hc;have HM:=af hm;clear hc;go_enter func273,ntmps273;go_wp2_with (at_make;refine a19 _ rfl _ _ 65 rfl w.heap.size 3 i0 (.int .i64 0) 1 a0I hi h6 h7 .i64 .i64 _ _ n rfl rfl rfl rfl (by rw[h8];omega) (by unfold maxLen;omega) (a0a _) ?_;intro w1 al m);have lb:ay (w1.alloc (.cells #[] 348)) w.heap.size (.slice (some ⟨w.heap.size,0,none⟩) n n) (List.replicate l.length 0):=by
  rw[hn];exact(eT al).later ((a0c w1.heap.size w1).alloc (a0a _) _) (a0a _)
 have k6:w.heap.size+1<=w1.heap.size:=(eT al).below.2;have kd:Below w.heap.size w (w1.alloc (.cells #[] 348)):=((a0c _ _).grown m (a0a _) (fun k h=>by cases h)).alloc (by omega) _;have l2:dy 348 (w1.alloc (.cells #[] 348)) (w.heap.size+1) (.slice (some ⟨w1.heap.size,0,none⟩) 0 0) []:=a0Y w1 #[] 0 k6 (by unfold maxLen;omega) rfl;clear al m hn hm
 go_loopw [4,5] (fun v i wr=>∃(k:Nat) (L:List Grp),k<=n/\i = .int .i64 k/\L.map bare=aC l k/\dy 348 wr (w.heap.size+1) v L/\jM wr (w.heap.size+1) L/\ay wr w.heap.size (.slice (some ⟨w.heap.size,0,none⟩) n n) (List.replicate l.length 0)/\Below w.heap.size w wr) (fun _ i _=>n-(intOf i).toNat)
 case atStart=>exact⟨0,[],a0g _,rfl,rfl,l2,Lb _ _,lb,kd⟩
 case round=>
  obtain⟨k,L,hk,rfl,hL,ht,hs,hp,J⟩:=hrel;clear lb kd l2;have HL:=af hL;have nk:w.heap.size+1<=wr.heap.size:=hp.below.2;clear hL;by_cases n2:k<n
  .
   obtain⟨g,o,rfl,hg,kq⟩:=(h.later J) (by rw[ae HN];omega);have c0:=kq k (by rw[ae HN];exact n2);have HK:=af hk;have n0:L.length<=300:=by
    have h1:(L.map bare).length=(aC l k).length:=by rw[ae HL]
    have h2:=(lR l 100000 (by omega) (fun i hi=>(ae HC i hi).2) k (by rw[ae HN];omega)).2.2;rw[a1o]at h1;have:=ae HM;omega
   clear kq hk;by_cases hy:0<l.getD k 0
   .
    have el:=af (Ab hy);generalize l.getD k 0=y at *
    have hA:ay (wr.alloc (.cells #[.int .i64 (k:Int)] 3)) (w.heap.size+1) (.slice (some ⟨wr.heap.size,0,none⟩) 1 1) [(k:Int)]:=ay.one wr _ nk _;have Z:Below wr.heap.size wr (wr.alloc (.cells #[.int .i64 (k:Int)] 3)):=(a0c _ _).alloc (a0a _) _;have K:(wr.alloc (.cells #[.int .i64 (k:Int)] 3)).heap.size=wr.heap.size+1:=by simp
    have I:=ht.later Z (a0a _);have H:=hs.later Z (a0a _);have G:=hp.later Z (a0a _);have T:=ak J ((a0c wr.heap.size wr).alloc (a0a _) (.cells #[.int .i64 (k:Int)] 3));have HX:=af (a0b hA (a0b I (a0b H (a0b G (a0b T K)))));have V:Hid (L.length+1<=maxLen/\(L.length+1)*40<=140737488355328):=by show _/\_;unfold maxLen;omega
    clear hA Z I H G T ht hs hp J K;go_wp2_with (at_builtin;refine a0x _ rfl _ _ 346 rfl (w.heap.size+1) 348 j0 (.agg #[.int .i64 0,.int .i64 0,.slice none 0 0]) 3 40 a3L hj hz l8 md rfl (by decide) _ _ _ rfl (a0n (ae HX).2.1 _) ⟨wr.heap.size+1,0,none⟩ 1 1 [.int .i64 y,.int .i64 (k:Int),.slice (some ⟨wr.heap.size,0,none⟩) 1 1] rfl rfl (vM _ _ _ _ _ _ (ae HX).2.2.2.2.2) (vN _ _ _ _ _) (ae V).1 (ae V).2 (an (by rw[(ae HX).2.2.2.2.2];omega) _) ?_;intro v' x3 al m k8;clear k8);obtain⟨hA,I,H,G,T,K⟩:=ae HX;have e2:∀{B:Nat} {o:Obj},B=wr.heap.size+1->Below B (wr.alloc (.cells #[.int .i64 (k:Int)] 3)) ((wr.alloc (.cells #[.int .i64 (k:Int)] 3)).alloc o):=fun{B} {o} e=>(a0c _ _).alloc (by rw[K];omega) _;have Y:dy 348 ((wr.alloc (.cells #[.int .i64 (k:Int)] 3)).alloc (.cells #[.int .i64 y,.int .i64 (k:Int),.slice (some ⟨wr.heap.size,0,none⟩) 1 1] 348)) (w.heap.size+1) u4 L:=a0n I _;have ab:=(H.later (e2 rfl) (by rw[K];exact a0a _)).grown Y (by decide) m;have a7:=kG (hA.later (e2 rfl) (by rw[K];exact a0a _)) Y (by decide) m;have a3:=kG (G.later (e2 rfl) (by rw[K];exact a0a _)) Y (by decide) m;have ao:Below w.heap.size w x3:=aE (v:=u4) m I (by omega) (by rw[K];omega) T;have bk:=vS ⟨y,(k:Int),[(k:Int)],.slice (some ⟨wr.heap.size,0,none⟩) 1 1⟩ al;have cg:=ab.snoc (g:=⟨y,(k:Int),[(k:Int)],.slice (some ⟨wr.heap.size,0,none⟩) 1 1⟩) a7;clear al m HX hA I H G T e2 Y ab a7;go_wp2;go_roundw
    case rel=>exact⟨k+1,L++[⟨y,(k:Int),[(k:Int)],.slice (some ⟨wr.heap.size,0,none⟩) 1 1⟩],by omega,by go_num,by rw[ae el,a06,ae HL];rfl,bk,cg,a3,ao⟩
    case measure=>simp[intOf];omega
   .
    have el:=af (M8 hy);generalize l.getD k 0=y at *
    go_wp2;go_roundw
    case rel=>exact⟨k+1,L,by omega,by go_num,by rw[ae el];exact ae HL,ht,hs,hp,J⟩
    case measure=>simp[intOf];omega
  .
   obtain rfl:k=n:=by omega
   have a4:Hid (L.map bare=aC l l.length):=by show L.map bare=aC l l.length;rw[ae HN];exact ae HL
   have hU:Hid (L.length=(aC l l.length).length):=by show L.length=(aC l l.length).length;rw[←ae a4,a1o]
   have j5:L.length<=300:=by
    have h2:=(lR l 100000 (by omega) (fun i hi=>(ae HC i hi).2) l.length (a0a _)).2.2;have:=ae hU;have:=ae HM;have:=ae HN;omega
   have l7:=af (Ez l l.length (a0a _));obtain⟨va,vc,rfl⟩:=ht.form;clear h;by_cases d8:L.length=1
   .
    obtain⟨g,rfl⟩:=ht.somes (by omega);obtain⟨_,c1,_,_,_⟩:=ht.at rfl 0 (by omega);have n3:=ae l7 ((aC l l.length).getD 0 g0) (yx _ 0 (by have:=ae hU;omega));have e5:(L.getD 0 g0).fst=((aC l l.length).getD 0 g0).fst:=by rw[←ae a4,mr];rfl
    obtain⟨_,f0,f1,_,_⟩:=n3;rw[←e5,ae HN]at f1;rw[←e5]at f0;have eh:Hid (da l=(List.replicate l.length 0).set (L.getD 0 g0).fst.toNat 1):=by
     show da l=_;unfold da;rw[a0e (by rw[←ae hU];exact d8),e5]
    generalize (L.getD 0 g0).fst=f at *
    obtain⟨q,rfl⟩:=a0r f0;rw[a0l]at eh;have b7:(List.replicate l.length (0:Int)).length=k:=by simp[ae HN]
    obtain⟨d0,e0,_,_⟩:=hp.at (j:=q) b7 (by omega);have C:=hp.put (j:=q) b7 1;have d5:=aj J (b:=w.heap.size) (o:=q) (a0a _) (.int .i64 1);rw[←ae eh]at C;have HP:=af C;have HB:=af d5;have o8:wr.cell? ⟨g,1,none⟩=some (.int .i64 (q:Int)):=by simpa using c1
    clear C d5 b7 eh J hp hs ht c1 e5;rw[d8];generalize (List.replicate l.length (0:Int)).getD q 0=y at *
    go_wp2_with fail
    go_loopw [4,6,7,8,9,10,11] (fun v _ _ _ _ _ _ wq=>v = .slice (some ⟨g,0,none⟩) 1 vc/\wq=wr.setCell ⟨w.heap.size,q,none⟩ (.int .i64 1)) (fun _ _ _ _ _ _ _ _=>0)
    case atStart=>exact⟨rfl,rfl⟩
    case round=>
     obtain⟨rfl,hw⟩:=hrel;subst hw;go_wp2;go_ret;exact⟨rfl,ae HP,ae HB⟩
   .
    have oi:((L.length:Int) == 1)=false:=by rw[a0V];omega
    have ks:Hid (∀k,(aC l l.length).length-k<=1->(k<(aC l l.length).length∨k=0)->da l=(aG l k).2):=by
     intro k h1 h2;unfold da;have:=ae hU;rw[a0d (by omega)]
     congr 2;omega
    have ji:=af j5;clear j5;have k9:ay wr w.heap.size (.slice (some ⟨w.heap.size,0,none⟩) k k) (aG l 0).2:=hp;have j4:L.map bare=(aG l 0).1:=ae a4;generalize ka:(aC l l.length).length=U at *
    have e1:=af ka;clear ka l7 a4 HL hp;go_wp2_with fail
    go_loopw [4,6,7,8,9,10,11] (fun v _ _ _ _ _ _ wq=>∃(j:Nat) (M:List Grp),(j<U∨j=0)/\M.map bare=(aG l j).1/\dy 348 wq (w.heap.size+1) v M/\jM wq (w.heap.size+1) M/\ay wq w.heap.size (.slice (some ⟨w.heap.size,0,none⟩) k k) (aG l j).2/\Below w.heap.size w wq) (fun v _ _ _ _ _ _ _=>sliceLen v)
    case atStart=>exact⟨0,L,.inr rfl,j4,ht,hs,k9,J⟩
    case round=>
     obtain⟨j,M,hj,hM,a6,c6,bd,c5⟩:=hrel;clear ht hs k9 J j4 oi d8;have fv:=dp l j (by rw[ae e1];exact hj);rw[←hM,ae e1]at fv;obtain⟨iw,ic,is,il⟩:=fv;rw[a1o]at il;obtain⟨ma,mc,rfl⟩:=a6.form;have g1:=af hM;have HJ:=af hj;clear hM hj;by_cases s:1<M.length
     .
      have k2:(1:Int)<(M.length:Int):=by omega
      have m5:=ae ji;have c:M.length<=300:=by have:=ae hU;omega
      have o9:(M.length:Int)<=300:=by omega
      have ad:w.heap.size+1<=wr.heap.size:=bd.below.2;have N:=dR M (by omega);have iw':WFL k M:=by
       intro g hg;have h1:=iw (bare g) (a2W hg);rw[ae HN]at h1;exact h1
      have P:=iw' _ (bY M (by omega));have D:=dE M (by omega);have Q:=iw' _ (bn M _ (bY (ar M) (by omega)));have O:=dR (ar M) (by omega);have r:fS M<=30000000:=by
       have h1:=(lR l 100000 (by omega) (fun i hi=>(ae HC i hi).2) l.length (a0a _)).1;have h2:fS (M.map bare)=fS M:=by simp[fS,Function.comp_def,bare]
       rw[h2]at ic;have:=ae HN;have h3:(100000:Int)*(l.length:Int)<=100000*300:=Int.mul_le_mul_of_nonneg_left (by omega) (by omega);omega
      have d:=EF iw' s;have h9:=af (qA ma mc M.length (w.heap.size+1) M wr rfl a6 (by omega) c);obtain⟨g,rfl⟩:=a6.somes (by omega);have nm:Hid (aB M=M.getD (least M) g0):=rfl;have op:Hid (ar M=M.eraseIdx (least M)):=rfl;have HQ:=af (a0b a6 (a0b c6 (a0b bd c5)));have ev:=af (a0b P (a0b D (a0b Q (a0b O (a0b r d)))));have ey:=af (a0b s (a0b c (a0b N (a0b ad il))));have o6:=af iw';clear a6 c6 bd c5 ic is iw P D Q O r d s c N ad il iw' m5;go_wp2_with fail;refine(ae h9).mono ?_;rintro e x1 ⟨rfl,a9⟩;obtain⟨a6,c6,bd,c5⟩:=ae HQ;obtain⟨s,c,N,ad,il⟩:=ae ey;obtain⟨P,D,Q,O,r,d⟩:=ae ev;have I:=a6.later a9 (a0a _);have H:=c6.later a9 (a0a _);have G:=bd.later a9 (a0a _);have Z:=ak c5 a9;have mi:=a9.size;obtain⟨c0,c1,c2,_,e6⟩:=I.at rfl (least M) N;rw[←ae nm]at c0 c1 c2;have bq:=H _ (bY M (by omega));obtain⟨aa,ac,e3⟩:=bq.form;obtain⟨ga,kx⟩:=(e3▸bq).somes P.2.2.2.2;rw[kx]at e3;rw[e3]at c2 bq;have e8:((least M:Nat):Int)<(M.length:Int):=by omega
      have dq:=af (sQ (some ⟨g,0,none⟩) mc M.length (w.heap.size+1) (w.heap.size+1) (least M) M (x1.alloc (.cells #[.int .i64 (aB M).cnt,.int .i64 (aB M).fst,.slice (some ⟨ga,0,none⟩) (aB M).syms.length ac] 348)) rfl (I.later ((a0c x1.heap.size x1).alloc (a0a _) _) (a0a _)) (H.later ((a0c x1.heap.size x1).alloc (a0a _) _) (a0a _)) N c);have ix:=af (a0b I (a0b H (a0b G (a0b Z bq))));have o4:=af e6;have lg:w.heap.size+1<=x1.heap.size:=G.below.2;clear a6 c6 bd c5 HQ h9 I H G Z bq e3 P D Q O r d s c N ad il kx e6 mi;generalize jx:aB M=A at *
      have gl:=af jx;clear jx;go_wp2_with fail;refine(ae dq).mono ?_;rintro e x2 ⟨⟨v1,rfl,Y⟩,cy⟩;obtain⟨I,H,G,Z,bq⟩:=ae ix;obtain⟨s,c,N,ad,il⟩:=ae ey;obtain⟨P,D,Q,O,r,d⟩:=ae ev;rw[←ae op]at Y;have b5:Below x1.heap.size x1 (x1.alloc (.cells #[.int .i64 A.cnt,.int .i64 A.fst,.slice (some ⟨ga,0,none⟩) A.syms.length ac] 348)):=(a0c _ _).alloc (a0a _) _;have ba:=ak b5 cy;have dv:=(Aq x1 (.int .i64 A.cnt) (.int .i64 A.fst) (.slice (some ⟨ga,0,none⟩) A.syms.length ac) 348).later cy;have ei:=H.later ba (a0a _);have eg:=G.later ba (a0a _);have bs:=bq.later ba (a0a _);have d1:=ak Z ba;have be:=Y.mono (show w.heap.size+1<=_ by have:=G.below.2;have:=b5.size;omega);obtain⟨ra,rc,hr⟩:=be.form;subst hr;obtain⟨g2,no⟩:=be.somes (by omega);subst no;have n1:(ar M).length=M.length-1:=D;have e9:=af (qA (some ⟨g2,0,none⟩) rc (ar M).length (w.heap.size+1) (ar M) x2 rfl be (by omega) (by omega));have pk:((ar M).length:Int)<=300:=by omega
      have i1:=af (a0b be (a0b ei (a0b eg (a0b d1 (a0b bs dv)))));clear I H G Z bq ix dq b5 ba dv ei eg bs d1 be Y cy c0 c1 c2 e8 P D Q O r d s c N ad il n1;go_wp2_with fail;refine(ae e9).mono ?_;rintro e x3 ⟨rfl,ao⟩;obtain⟨Y,ei,eg,d1,bs,dv⟩:=ae i1;obtain⟨s,c,N,ad,il⟩:=ae ey;obtain⟨P,D,Q,O,r,d⟩:=ae ev;have bk:=Y.later ao (a0a _);have ab:=ei.later ao (a0a _);have a3:=eg.later ao (a0a _);have bz:=bs.later ao (a0a _);have a7:=dv.later ao;have d2:=ak d1 ao;have f3:aB (ar M)=(ar M).getD (least (ar M)) g0:=rfl;obtain⟨c0,c1,c2,_,e6⟩:=bk.at rfl (least (ar M)) O;rw[←f3]at c0 c1 c2;have b3:=ab _ (bn M _ (bY (ar M) (by omega)));obtain⟨bb,bc,e4⟩:=b3.form;obtain⟨gb,k1⟩:=(e4▸b3).somes Q.2.2.2.2;rw[k1]at e4;rw[e4]at c2 b3;have e8:((least (ar M):Nat):Int)<((ar M).length:Int):=by omega
      have dq:=af (sQ (some ⟨g2,0,none⟩) rc (ar M).length (w.heap.size+1) (w.heap.size+1) (least (ar M)) (ar M) (x3.alloc (.cells #[.int .i64 (aB (ar M)).cnt,.int .i64 (aB (ar M)).fst,.slice (some ⟨gb,0,none⟩) (aB (ar M)).syms.length bc] 348)) rfl (bk.later ((a0c x3.heap.size x3).alloc (a0a _) _) (a0a _)) ((ab.sub (bn M)).later ((a0c x3.heap.size x3).alloc (a0a _) _) (a0a _)) O (by omega));have i2:=af (a0b bk (a0b ab (a0b a3 (a0b d2 (a0b bz (a0b a7 b3))))));clear Y ei eg d1 bs dv i1 e9 bk ab a3 bz a7 d2 b3 e4 ao P D Q O r d s c N ad il k1 e6 f3;generalize j2:aB (ar M)=Bg at *
      have gy:=af j2;clear j2;go_wp2_with fail;refine(ae dq).mono ?_;rintro e x4 ⟨⟨v2,rfl,c8⟩,g7⟩;obtain⟨bk,ab,a3,d2,bz,a7,b3⟩:=ae i2;obtain⟨s,c,N,ad,il⟩:=ae ey;obtain⟨P,D,Q,O,r,d⟩:=ae ev;have f7:(ar M).eraseIdx (least (ar M))=ar (ar M):=rfl;rw[f7]at c8;have b5:Below x3.heap.size x3 (x3.alloc (.cells #[.int .i64 Bg.cnt,.int .i64 Bg.fst,.slice (some ⟨gb,0,none⟩) Bg.syms.length bc] 348)):=(a0c _ _).alloc (a0a _) _;have R:=ak b5 g7;have fr:=(Aq x3 (.int .i64 Bg.cnt) (.int .i64 Bg.fst) (.slice (some ⟨gb,0,none⟩) Bg.syms.length bc) 348).later g7;have j1:=a7.later R;have cg:=ab.later R (a0a _);have cc:=a3.later R (a0a _);have gd:=bz.later R (a0a _);have gf:=b3.later R (a0a _);have d3:=ak d2 R;have hu:w.heap.size+1<=x4.heap.size:=cc.below.2;have lo:w.heap.size+1<=x3.heap.size:=a3.below.2;have em:=c8.mono (show w.heap.size+1<=_ by have:=a3.below.2;have:=b5.size;omega);have cr:=dE (ar M) (by omega);obtain⟨ra,mm,hr⟩:=em.form;subst hr;have ke:Hid ((A.syms.map (Value.int .i64)).length=A.syms.length*1):=by show _=_;simp
      have kk:Hid ((Bg.syms.map (Value.int .i64)).length=Bg.syms.length*1):=by show _=_;simp
      have k4:A.syms.length+Bg.syms.length<=300:=by
       have h1:=d.2;have h2:(bf M).length=A.syms.length+Bg.syms.length:=by
        unfold bf;rw[a0m,ae gl,ae gy]
       have h3:=(dp l j (by rw[ae e1];exact ae HJ)).2.2.1;have h4:jJ (M.map bare)=jJ M:=by simp[jJ,Function.comp_def,bare]
       rw[←ae g1,h4]at h3;have h5:=(lR l 100000 (by omega) (fun i hi=>(ae HC i hi).2) l.length (a0a _)).2.1;have:=ae HN;have:=ae HM;omega
      have i5:Hid (∀W,Below x4.heap.size x4 W->∀j u,(A.syms.map (Value.int .i64))[j]?=some u->W.cell? ((⟨ga,0,none⟩:Addr).add j)=some u):=fun W hW=>a2g (gd.later hW (a0a _)) rfl;have i8:Hid (∀W,Below x4.heap.size x4 W->∀j u,(Bg.syms.map (Value.int .i64))[j]?=some u->W.cell? ((⟨gb,0,none⟩:Addr).add j)=some u):=fun W hW=>a2g (gf.later hW (a0a _)) rfl;have dl:∀W,Below x4.heap.size x4 W->W.cell? ⟨x1.heap.size,2,none⟩=some (.slice (some ⟨ga,0,none⟩) A.syms.length ac)/\W.cell? ⟨x3.heap.size,2,none⟩=some (.slice (some ⟨gb,0,none⟩) Bg.syms.length bc):=fun W hW=>⟨(j1.later hW).2.2.1,(fr.later hW).2.2.1⟩;have g5:World.ownsRow (x4.alloc (.cells #[] 3)).drew x4.heap.size 3 1 (.slice (some ⟨x4.heap.size,0,none⟩) 0 0) 0 []:=a0Y x4 #[] 0 (a0a _) (by unfold maxLen;omega) rfl;have cv:Below x4.heap.size x4 (x4.alloc (.cells #[] 3)).drew:=((a0c _ _).alloc (a0a _) _).drew;have a9:Hid (0+A.syms.length<=maxLen/\(0+A.syms.length)*8<=140737488355328):=by show _/\_;unfold maxLen;omega
      have cy:Hid (0+A.syms.length+Bg.syms.length<=maxLen/\(0+A.syms.length+Bg.syms.length)*8<=140737488355328):=by show _/\_;unfold maxLen;omega
      obtain⟨a0,a1,a2,_,_,_,abl⟩:=j1;obtain⟨b0,b1,b2,_,_,_,ms⟩:=fr;have id:x1.heap.size≠w.heap.size:=by have:=lg;omega
      have ih:x3.heap.size≠w.heap.size:=by have:=lo;omega
      have fl:Below x4.heap.size x4 x4.drew:=(a0c _ _).drew;have f6:Hid ((dQ A Bg).fst=if Bg.fst<A.fst then Bg.fst else A.fst):=rfl;have mo:=af k4;have ds:=af (a0b r (a0b d.1 (a0b P Q)));have i3:=af (a0b cr (a0b D (a0b s (a0b c il))));have mp:=af (a0b em (a0b cg (a0b cc d3)));clear bk ab a3 d2 bz a7 b3 i2 dq b5 R cg cc gd gf d3 em c8 g7 c0 c1 c2 e8 P D Q O r d s c N ad il cr k4 f7;have kt:∃F:Int,(dQ A Bg).fst=F:=⟨_,rfl⟩;obtain⟨F,hF⟩:=kt;have HF:=af hF;clear hF;by_cases f5:Bg.fst<A.fst
      case' pos=>have j3:Hid (Bg.fst=F):=by have:=ae f6;rw[ae HF,a0e f5]at this;exact this.symm
      case' neg=>have j3:Hid (A.fst=F):=by have:=ae f6;rw[ae HF,a0d f5]at this;exact this.symm
      all_goals
       go_wp2_with fail
       go_region_held3 (fun W=>W.cell? ⟨x1.heap.size,2,none⟩=some (.slice (some ⟨ga,0,none⟩) A.syms.length ac)/\W.cell? ⟨x3.heap.size,2,none⟩=some (.slice (some ⟨gb,0,none⟩) Bg.syms.length bc)) (first|exact dl _ fl|assumption|exact dl _ cv) (first
        | (refine aK rfl (.tmp 76) (.tmp 78) 65 rfl x4.heap.size 3 i0 (.int .i64 0) 1 8 a0I hi h6 h7 h8 rfl (a1V 0) (.slice (some ⟨x4.heap.size,0,none⟩) 0 0) _ _ rfl g5 ⟨ga,0,none⟩ A.syms.length ac (A.syms.map (Value.int .i64)) rfl (ae ke) (ae i5 _ cv) (a2a .i64 _) (ae a9).1 (ae a9).2 cv.size ?_;intro v5 x5 b8 co hf;clear hf;have cu:Below x4.heap.size x4 x5:=cv.grown co cv.size (fun j hj=>(a0D g5 j hj).1);have m0:=dl _ cu)
        | (refine aK rfl (.tmp 79) (.tmp 81) 65 rfl x4.heap.size 3 i0 (.int .i64 0) 1 8 a0I hi h6 h7 h8 rfl (a1V 0) v5 _ _ rfl b8 ⟨gb,0,none⟩ Bg.syms.length bc (Bg.syms.map (Value.int .i64)) rfl (ae kk) (ae i8 _ cu) (a2a .i64 _) (ae cy).1 (ae cy).2 cu.size ?_;intro v6 x6 eb cp hh;clear hh;have b4:Below x4.heap.size x4 x6:=cu.grown cp cu.size (fun j hj=>(a0D b8 j hj).1);have m1:=dl _ b4))
       obtain⟨c8,cg,cc,d3⟩:=ae mp;have hu:w.heap.size+1<=x4.heap.size:=cc.below.2;have c7:ay x6 x4.heap.size v6 (A.syms++Bg.syms):=by
        show World.ownsRow _ _ _ _ _ (A.syms++Bg.syms).length ((A.syms++Bg.syms).map (Value.int .i64));rw[a0m,a06];simpa using eb
       have g6:Hid ((A.syms++Bg.syms).length<=300/\0<(A.syms++Bg.syms).length):=by
        show _/\_;rw[a0m];have:=ae mo;have:=(ae ds).2.2.1.2.2.2.2;omega
       have m4:Hid (∀x∈A.syms++Bg.syms,0<=x/\x<(k:Int)):=by
        intro x hx;simp only[a1b]at hx;rcases hx with hx|hx
        . exact(ae ds).2.2.1.2.2.2.1 x hx
        . exact(ae ds).2.2.2.2.2.2.1 x hx
       have m3:Hid (bf M=A.syms++Bg.syms):=by
        show bf M=_;unfold bf;rw[ae gl,ae gy]
       have m2:Hid ((dQ A Bg).syms=A.syms++Bg.syms):=rfl;generalize A.syms++Bg.syms=S at *
       obtain⟨sv,sc,eu⟩:=c7.form;obtain⟨gs,k3⟩:=(eu▸c7).somes (ae g6).2;rw[k3]at eu;rw[eu];rw[eu]at c7;have l3:=c8.later b4 (a0a _);have ls:=cg.later b4 (a0a _);have lf:=cc.later b4 (a0a _);have fn:=ak d3 b4;have f4:=c7.below;have a0':=(b4.cell (p:=⟨x1.heap.size,0,none⟩) abl).trans a0;have jn:=(b4.cell (p:=⟨x3.heap.size,0,none⟩) ms).trans b0;have ob:=af (Jo l (fun i hi=>(ae HC i hi).2) (by rw[ae HN];exact ae HM) j (by rw[ae e1];exact ae HJ));have ns:Hid ((j:Int)<=300):=by show(j:Int)<=300;have:=ae HJ;have:=ae hU;have:=ae ji;omega
       have gk:x1.heap.size≠w.heap.size/\x3.heap.size≠w.heap.size:=⟨id,ih⟩;have g4:=af c7;have i9:=af l3;have i4:=af ls;have fb:=af gk;have gv:=af (a0b a0' jn);have o5:=af f4;have sI:(S.length:Int)<=300:=by have:=(ae g6).1;omega
       clear b8 eb co cp m0 m1 cu c8 cg cc d3 l3 ls c7 dl i5 i8 g5 cv fl eu k3 a0 a1 a2 b0 b1 b2 gk a0' jn f4 ke kk;go_wp2_with fail
       go_loopw [11] (fun i wq=>∃t:Nat,t<=S.length/\i = .int .i64 t/\ay wq w.heap.size (.slice (some ⟨w.heap.size,0,none⟩) k k) (bump (aG l j).2 (S.take t))/\Touch (some ⟨w.heap.size,0,none⟩) x6 wq/\Below w.heap.size w wq) (fun i _=>S.length-(intOf i).toNat)
       case atStart=>exact⟨0,a0g _,rfl,lf,Touch.refl _ _,fn⟩
       case round=>
        obtain⟨t,ht,rfl,X,E,b6⟩:=hrel;clear lf fn;have ha:Hid ((bump (aG l j).2 (S.take t)).length=k):=by show(bump (aG l j).2 (S.take t)).length=k;rw[rW,ej,ae HN]
        have o0:Hid (t<=S.length):=ht;clear ht;by_cases d7:t<S.length
        .
         have f8:=(ae g4).touch E (by intro g e;simp only[a0k,a0F,a03]at e;have:=hu;omega);obtain⟨c0,_,_,_⟩:=f8.at rfl d7;have hx:=ae m4 (S.getD t 0) (by simp[List.getD,d7]);have f2:=af (E8 (aG l j).2 S t d7);have k7:=af (xE (ae ob) (S.take t));obtain⟨q,hq⟩:=a0r hx.1;rw[hq]at c0 f2;have ho:q<k:=by omega
         obtain⟨d0,f0,_,_⟩:=X.at (ae ha) ho;have h0:=ae k7 q (by rw[ae ha];exact ho);have C:=X.put (j:=q) (ae ha) ((bump (aG l j).2 (S.take t)).getD q 0+1);have el:Hid (bump (aG l j).2 (S.take (t+1))=(bump (aG l j).2 (S.take t)).set q ((bump (aG l j).2 (S.take t)).getD q 0+1)):=by
          show bump (aG l j).2 (S.take (t+1))=_;rw[ae f2];unfold fI;rw[a0l]
         have pv:(bump (aG l j).2 (S.take t)).getD q 0<=100000:=by
          have h1:=h0.2;have h2:(S.take t).length<=300:=by rw[a0v];have:=(ae g6).1;omega
          have:=ae ns;omega
         have hz:=h0.1;have ch:=aj b6 (b:=w.heap.size) (o:=q) (a0a _) (.int .i64 ((bump (aG l j).2 (S.take t)).getD q 0+1));have a5:=E.set (o:=q) rfl (.int .i64 ((bump (aG l j).2 (S.take t)).getD q 0+1));generalize (bump (aG l j).2 (S.take t)).getD q 0=y at *
         have it:=af (a0b C (a0b ch a5));have e8:(q:Int)<(k:Int):=by omega
         have ps:(t:Int)<(S.length:Int):=by omega
         clear C ch a5 X f8 b6 E h0 hx hq ho;go_wp2_with fail
         go_region
         obtain⟨C,ch,a5⟩:=ae it;rw[←ae el]at C;go_wp2;go_roundw
         case rel=>exact⟨t+1,by have:=ae o0;omega,by go_num,C,a5,ch.drew⟩
         case measure=>simp[intOf];omega
        .
         have l5:S.take t=S:=a0A (by omega);rw[l5]at X;have dd:dy 348 wr (w.heap.size+1) (.slice ra (ar (ar M)).length mm) (ar (ar M)):=uu (ae i9) E (ua _ _ (a0p _));have ek:jM wr (w.heap.size+1) (ar (ar M)):=fun g hg=>(ae i4 g (bn M _ (bn _ _ hg))).touch E (ua _ _ (a0p _));have en:ay wr (w.heap.size+1) (.slice (some ⟨gs,0,none⟩) S.length sc) S:=((ae g4).touch E (ua _ _ (by omega))).mono hu;have a0q:=(tZ (p:=⟨x1.heap.size,0,none⟩) E (ae fb).1).trans (ae gv).1;have o7:=(tZ (p:=⟨x3.heap.size,0,none⟩) E (ae fb).2).trans (ae gv).2;have he:Hid ((aG l (j+1)).2=bump (aG l j).2 S):=by
          show(aG l (j+1)).2=_;simp only[aG];rw[←ae g1,GQ,ae m3]
         have e7:Hid ((aG l (j+1)).1=(ar (ar M)).map bare++[dQ A Bg]):=by
          show(aG l (j+1)).1=_;simp only[aG];rw[←ae g1,GI,ae gl,ae gy]
         rw[←ae he]at X;obtain⟨cr,D,s,c,il⟩:=ae i3;have nq:Hid (j+1<U):=by show j+1<U;omega
         have k5:Hid ((ar (ar M)).length+1<M.length+0):=by show _<_;omega
         have V:Hid ((ar (ar M)).length+1<=maxLen/\((ar (ar M)).length+1)*40<=140737488355328):=by show _/\_;unfold maxLen;omega
         have d6:=ae ds;have pb:A.cnt+Bg.cnt<=30000000:=by have:=d6.1;have:=d6.2.1;omega
         have o1:=d6.2.2.1.1;have o2:=d6.2.2.2.1;have m7:w.heap.size+1<=wr.heap.size:=X.below.2;have g3:=af (a0b dd (a0b ek (a0b en (a0b X b6))));have o3:Hid ((dQ A Bg).cnt=A.cnt+Bg.cnt):=rfl;clear cr D s c il dd ek en X b6 E l5 d6 ds i3 i9 i4 g4 gv;rw[ae j3];go_wp2_with (at_builtin;refine a0x _ rfl _ _ 346 rfl (w.heap.size+1) 348 j0 (.agg #[.int .i64 0,.int .i64 0,.slice none 0 0]) 3 40 a3L hj hz l8 md rfl (by decide) _ _ _ rfl (a0n (ae g3).1 _) ⟨wr.heap.size,0,none⟩ 1 1 [.int .i64 (A.cnt+Bg.cnt),.int .i64 F,.slice (some ⟨gs,0,none⟩) S.length sc] rfl rfl (vM _ _ _ _ _ _ rfl) (vN _ _ _ _ _) (ae V).1 (ae V).2 (an m7 _) ?_;intro v7 x7 ed z hl;clear hl);obtain⟨dd,ek,en,X,b6⟩:=ae g3;have d4:Below wr.heap.size wr (wr.alloc (.cells #[.int .i64 (A.cnt+Bg.cnt),.int .i64 F,.slice (some ⟨gs,0,none⟩) S.length sc] 348)):=(a0c _ _).alloc (a0a _) _;have cs:=dd.later d4 (a0a _);have l0:=(ek.later d4 (a0a _)).grown cs (by decide) z;have l6:=kG (en.later d4 (a0a _)) cs (by decide) z;have ol:=kG (X.later d4 (a0a _)) cs (by decide) z;have m6:Below w.heap.size w x7:=aE (v:=.slice ra (ar (ar M)).length mm) z dd (by omega) (by omega) b6;have l4:=vS ⟨A.cnt+Bg.cnt,F,S,.slice (some ⟨gs,0,none⟩) S.length sc⟩ ed;have os:=l0.snoc (g:=⟨A.cnt+Bg.cnt,F,S,.slice (some ⟨gs,0,none⟩) S.length sc⟩) l6;have m9:Hid ((ar (ar M)++[(⟨A.cnt+Bg.cnt,F,S,.slice (some ⟨gs,0,none⟩) S.length sc⟩:Grp)]).map bare=(aG l (j+1)).1):=by
          show _=(aG l (j+1)).1;rw[ae e7,a06]
          congr 1
          have e:dQ A Bg=⟨A.cnt+Bg.cnt,F,S,.slice none 0 0⟩:=by
           rw[←ae HF,←ae m2];rfl
          rw[e];rfl
         have l1:Hid (sliceLen v7<M.length):=by
          show sliceLen v7<M.length;obtain⟨fa,fc,hv⟩:=l4.form;rw[hv];have:=ae k5;simp only[sliceLen,a0m,a1z];omega
         clear ed z d4 cs l0 l6 dd ek en X b6 g3;go_wp2;go_roundw
         case rel=>exact⟨j+1,_,.inl (ae nq),ae m9,l4,os,ol,m6⟩
         case measure=>exact ae l1
     .
      have g8:=af (ae ks j (by omega) (ae HJ));have k2:¬ (1:Int)<(M.length:Int):=by omega
      have HP:=af bd;clear a6 c6 bd ic is;go_wp2;go_ret;exact⟨rfl,by rw[ae g8];exact ae HP,c5⟩
theorem Cd(a:Option Addr)(cap n:Nat)(o:List Int)(w:World)(s:o.length=n)(h:bu w a o)(q:n<=300) :
  Calls prog 274 #[.slice a n cap] w fun e w'=>e = .returned (.int .i64 (d9 o n))/\w'=w:=by
 subst s;have r:(o.length:Int)<=300:=by omega
 clear q;go_enter func274,ntmps274;go_wp2_with fail
 go_loop [3,4] (fun m i=>∃k:Nat,k<=o.length/\i = .int .i64 k/\m = .int .i64 (d9 o k)) (fun _ i=>o.length-(intOf i).toNat)
 case atStart=>exact⟨0,a0g _,rfl,rfl⟩
 case round=>
  obtain⟨k,l,rfl,rfl⟩:=hrel;have t:=af l;by_cases d:k<o.length
  .
   obtain⟨g,f,rfl,u,j⟩:=h (by omega);have c0:=j k d;have c:Hid (d9 o (k+1)=if d9 o k<o.getD k 0 then o.getD k 0 else d9 o k):=rfl;clear j l h;generalize o.getD k 0=y at *
   generalize d9 o k=m at *
   by_cases p:m<y
   .
    have b:Hid (d9 o (k+1)=y):=by have:=ae c;rw[a0e p]at this;exact this
    go_wp2
    go_round
    case rel=>exact⟨k+1,by omega,by go_num,by rw[ae b]⟩
    case measure=>simp[intOf];omega
   .
    have b:Hid (d9 o (k+1)=m):=by have:=ae c;rw[a0d p]at this;exact this
    go_wp2
    go_round
    case rel=>exact⟨k+1,by omega,by go_num,by rw[ae b]⟩
    case measure=>simp[intOf];omega
  .
   obtain rfl:k=o.length:=by omega
   clear h;go_wp2;go_ret;exact⟨rfl,rfl⟩
def Dk(w:World)(b n:Nat):Nat:=((List.range n).map (fun i=>(intOf ((w.cell? ⟨b,i,none⟩).getD (.int .i64 0))).toNat)).sum
theorem EC{base c:Nat}(a:l.length=n)(h:ay w base (.slice (some ⟨b,0,none⟩) n c) l):Dk w b n=mS l:=by
 unfold Dk mS
 congr 1
 apply a2H
 . simp[a]
 .
  intro i d h2;have f:i<n:=by simpa using d
  have:=(h.at a f).1;simp only[List.getElem_map,List.getElem_range];rw[this];have e:l.getD i 0=l[i]:=by simp[List.getD,show i<l.length by omega]
  rw[e];rfl
theorem Fx(l:List Int)(j:Nat)(h:j<l.length):(cx (l.take j)++l.drop j).set j (jr (l.getD j 0))=cx (l.take (j+1))++l.drop (j+1):=by
 have b:(cx (l.take j)).length=j:=by simp[cx];omega
 rw[List.set_append_right _ _ (by omega),b,a2j,dL l j h];have a:l.drop j=l[j] :: l.drop (j+1):=a2V h;rw[a,List.set_cons_zero];simp[cx]
theorem Jh(l:List Int)(j:Nat)(h:j<l.length):(cx (l.take j)++l.drop j).getD j 0=l.getD j 0:=by
 have a:(cx (l.take j)).length=j:=by simp[cx];omega
 simp only[List.getD];rw[List.getElem?_append_right (by omega),a,a2j,List.getElem?_drop];simp
def okC(l:List Int):Prop:=∀i,i<l.length->0<=l.getD i 0/\l.getD i 0<=100000
theorem zy(h:okC l):okC (cx l):=by
 intro i a;rw[gw]at a;rw[pC l i a];have:=h i a;unfold jr;omega
theorem Eo(h:okC l):∀x∈l,0<=x:=by
 intro x b;obtain⟨i,a,rfl⟩:=a2k b;have:=(h i a).1;have e:l.getD i 0=l[i]:=by simp[List.getD,a]
 rw[e]at this;exact this
def fR(m:Int)(l:List Int):List Int:=wE m (mS l) l
theorem vf(a:Option Addr)(cap n mm:Nat)(l:List Int)(w:World)(hn:l.length=n)(h:bu w a l)(h1:1<=n)(hm:n<=300)(hc:okC l)(hU:(aC l l.length).length<=p2 mm)(b6:mm<=14) :
  Calls prog 230 #[.slice a n cap,.int .i64 ((mm:Int)+1)] w fun e w'=>(∃v,e = .returned v/\ay w' w.heap.size v (fR ((mm:Int)+1) l))/\Below w.heap.size w w':=by
 obtain⟨i0,hi,cg,ch,co⟩:=a0w Tryz.infoInt;obtain⟨g,o,rfl,hg,a4⟩:=h (by omega);have cs:(n:Int)<=300:=by omega
 have cr:(mm:Int)<=14:=by omega
 have Z:=af hn;have HC:=af hc;have HU:=af hU;have HM:=af (a0b h1 hm);have G:Below w.heap.size w (w.alloc (.cells #[] 3)):=(a0c _ _).alloc (a0a _) _;have S:World.ownsRow (w.alloc (.cells #[] 3)) w.heap.size 3 1 (.slice (some ⟨w.heap.size,0,none⟩) 0 0) 0 []:=a0Y w #[] 0 (a0a _) (by unfold maxLen;omega) rfl;have W:Hid (∀j u,(l.map (Value.int .i64))[j]?=some u->(w.alloc (.cells #[] 3)).cell? ((⟨g,o,none⟩:Addr).add j)=some u):=by
  intro j u hj;have a6:j<l.length:=by have:=(List.getElem?_eq_some_iff.1 hj).1;simpa using this
  have ad:(⟨g,o,none⟩:Addr).add j=⟨g,o+j,none⟩:=by unfold Addr.add;split<;>simp_all
  rw[ad,G.cell (p:=⟨g,o+j,none⟩) hg,a4 j a6,←hj];simp[List.getD,a6]
 have b4:Hid ((l.map (Value.int .i64)).length=n*1):=by show _=_;simp[hn]
 have al:Hid (0+n<=maxLen/\(0+n)*8<=140737488355328):=by show _/\_;unfold maxLen;omega
 clear hn hc hU h1 hm a4 b6 h;go_enter func230,ntmps230;go_wp2_with (at_builtin;refine a0x _ rfl _ _ 65 rfl w.heap.size 3 i0 (.int .i64 0) 1 8 a0I hi cg ch co rfl (by decide) _ _ _ rfl S ⟨g,o,none⟩ n cap (l.map (Value.int .i64)) rfl (ae b4) (ae W) (a2a .i64 _) (ae al).1 (ae al).2 G.size ?_;intro v1 x1 Q K bb;clear bb);have A:ay x1 w.heap.size v1 l:=by
  show World.ownsRow _ _ _ _ _ l.length _;rw[ae Z];simpa using Q
 have ab:Below w.heap.size w x1:=G.grown K G.size (fun j hj=>(a0D S j hj).1);obtain⟨va,vc,X⟩:=A.formN (ae Z);rw[X];rw[X]at A;refine(sP va vc n l x1 (ae Z) (A.rowN (ae Z)) (ae HM).2 (ae HC)).mono ?_;rintro e x2 ⟨rfl,bc,T⟩;have be:=A.later T (a0a _);have ac:=ak ab T;have bk:w.heap.size<=x1.heap.size:=ab.size;obtain⟨lb,b2⟩:=A.somes (by rw[ae Z];exact(ae HM).1);subst b2;have P:=A.below;have HX:=af (a0b bk P);clear A T Q K X S G P;go_wp2_with fail
 go_loopw [6,7] (fun v _ wr=>∃(c:List Int) (f ob:Nat),c.length=n/\okC c/\(aC c c.length).length<=p2 mm/\mS c<=f/\fR ((mm:Int)+1) l=wE ((mm:Int)+1) f c/\v = .slice (some ⟨ob,0,none⟩) n n/\lb<ob/\ay wr ob (.slice (some ⟨ob,0,none⟩) n n) (da c)/\ay wr w.heap.size (.slice (some ⟨lb,0,none⟩) n vc) c/\Below w.heap.size w wr) (fun _ _ wr=>Dk wr lb n)
 case atStart=>exact⟨l,mS l,x1.heap.size,ae Z,ae HC,ae HU,a0a _,rfl,rfl,(ae HX).2.2,bc,be,ac⟩
 case round=>
  obtain⟨c,f,ob,m,d,E,M,s,rfl,a9,F,z,q⟩:=hrel;clear bc be ac;have r:(da c).length=n:=(iP c).trans m;have aa:=af (Cd (some ⟨ob,0,none⟩) n n (da c) wr r (F.rowN r) (ae HM).2);have L:Hid (fits (da c) ((mm:Int)+1)=decide (d9 (da c) n<=(mm:Int)+1)):=by show _=_;unfold fits;rw[r]
  have HQ:=af (a0b m (a0b d (a0b E (a0b M s))));have HO:=af (a0b F (a0b z q));have HS:=af (EC m z);have ba:=af a9;clear m d E M s r a9;generalize d9 (da c) n=mo at *
  by_cases cp:(mm:Int)+1<mo
  .
   have N:fits (da c) ((mm:Int)+1)=false:=by rw[ae L];exact a0i (by omega)
   obtain⟨m,d,E,M,s⟩:=ae HQ;have hex:=zv E N;have R:=(Al c (Eo d)).2 hex;have b1:∃f',f=f'+1:=⟨f-1,by omega⟩;obtain⟨f',a5⟩:=b1;have V:Hid (fR ((mm:Int)+1) l=wE ((mm:Int)+1) f' (cx c)):=by
    show _=_;rw[s,a5];simp only[wE];rw[N];rfl
   have a3:Hid (mS (cx c)<=f'):=by show _<=_;omega
   have bs:=af R;have I:=af (zy d);have a2:Hid ((aC (cx c) (cx c).length).length<=p2 mm):=by show _<=_;rw[gw,vC c (fun i hi=>(d i hi).1) _ (a0a _)];exact E
   have B:Hid ((cx c).length=n):=(gw c).trans m;clear m d E M s hex R a5;go_wp2_with fail;refine(ae aa).mono ?_;rintro e x3 ⟨rfl,Y⟩;subst Y;obtain⟨F,z,q⟩:=ae HO;have a0:ay x3 w.heap.size (.slice (some ⟨lb,0,none⟩) n vc) (cx (c.take 0)++c.drop 0):=by simpa[cx]using z
   clear F z;go_wp2_with fail
   go_loopw [7] (fun i wq=>∃t:Nat,t<=n/\i = .int .i64 t/\ay wq w.heap.size (.slice (some ⟨lb,0,none⟩) n vc) (cx (c.take t)++c.drop t)/\Below w.heap.size w wq) (fun i _=>n-(intOf i).toNat)
   case atStart=>exact⟨0,a0g _,rfl,a0,q⟩
   case round=>
    obtain⟨t,ht,rfl,k,x⟩:=hrel;clear a0 q;obtain⟨m,d,_,_,_⟩:=ae HQ;have a7:Hid ((cx (c.take t)++c.drop t).length=n):=by show _=n;rw[a0m,gw,a0v,a0X];omega
    by_cases b5:t<n
    .
     have D:=k.put (j:=t) (ae a7) (jr (c.getD t 0));rw[Fx c t (by omega)]at D;obtain⟨d0,f0,ao,_⟩:=k.at (ae a7) b5;rw[Jh c t (by omega)]at d0;have hy:=d t (by omega);have H:=aj x (b:=lb) (o:=t) ao (.int .i64 (jr (c.getD t 0)));unfold jr at D H;have O:=af (a0b D H);have cc:(t:Int)<(n:Int):=by omega
     have Ht:=af ht;generalize c.getD t 0=y at *
     obtain⟨y0,y1⟩:=hy;have e1:IntKind.i64.wrap ((y+1).tdiv 2)=(y+1)/2:=by rw[Int.tdiv_eq_ediv_of_nonneg (by omega)];simp[IntKind.wrap,IntKind.bits,IntKind.signed];omega
     clear D H k x m d ht ao;go_wp2;go_roundw
     case rel=>exact⟨t+1,by have:=ae Ht;omega,by go_num,(ae O).1,(ae O).2⟩
     case measure=>simp[intOf];omega
    .
     have cu:t=n:=by omega
     have J:cx (c.take t)++c.drop t=cx c:=by rw[a0A (by omega),a3H (by omega)];simp
     rw[J]at k;have b3:=af (sP (some ⟨lb,0,none⟩) vc n (cx c) wr (ae B) (k.rowN (ae B)) (ae HM).2 (ae I));have C:=k.below;have bq:=af (a0b k (a0b x C));have cc:¬ (t:Int)<(n:Int):=by omega
     clear k x m d J C;go_wp2_with fail;refine(ae b3).mono ?_;rintro e x4 ⟨rfl,b8,U⟩;obtain⟨k,x,C⟩:=ae bq;have a1:=k.later U (a0a _);have bz:=ak x U;have b7:Hid (Dk x4 lb n<Dk x3 lb n):=by
      show Dk x4 lb n<Dk x3 lb n;rw[EC (ae B) a1,ae HS];exact ae bs
     clear k x U;go_wp2;go_roundw
     case rel=>exact⟨cx c,f',wr.heap.size,ae B,ae I,ae a2,ae a3,ae V,rfl,C.2,b8,a1,bz⟩
     case measure=>exact ae b7
  .
   have N:fits (da c) ((mm:Int)+1)=true:=by rw[ae L];exact a0y (by omega)
   have bd:Hid (fR ((mm:Int)+1) l=da c):=by
    show _=_;rw[(ae HQ).2.2.2.2];cases f with
    | zero=>rfl
    | succ f=>simp only[wE];rw[N];rfl
   go_wp2_with fail;refine(ae aa).mono ?_;rintro e x3 ⟨rfl,Y⟩;subst Y;obtain⟨F,z,q⟩:=ae HO;have b0:w.heap.size<=ob:=by have:=z.below.1;have:=ae ba;omega
   go_wp2;go_ret;exact⟨⟨_,rfl,by rw[ae bd];exact F.mono b0⟩,q⟩
theorem M9(l:List Int)(k:Nat)(a:k<=l.length):(aC l k).length=us (l.take k):=by
 induction k with
 | zero=>rfl
 | succ k ih=>
  rw[rK l k (by omega),←ih (by omega)];simp only[aC]
  split
  . simp
  . rfl
theorem gV(l:List Int):(aC l l.length).length=us l:=by
 rw[M9 l _ (a0a _),a1v]
def HP(L:List Grp):Prop:=∀i,0<i->i<L.length->vn (L.getD i g0) (L.getD ((i-1)/2) g0)=false
theorem Gp{α:Type}(f:α->Nat){A B:List α}(h:A.Perm B):(A.map f).sum=(B.map f).sum:=by
 induction h with
 | nil=>rfl
 | cons x _ ih=>simp only[a0E,a0N];omega
 | swap x y l=>simp only[a0E,a0N];omega
 | trans _ _ h1 h2=>omega
def qp:Nat->List Grp->Int
 | 0,_=>0
 | n+1,M=>if 1<M.length then(aB M).cnt+(aB (ar M)).cnt+qp n (stepG M)else 0
theorem iE(h:0<l.getD k 0):aC l (k+1)=aC l k++[⟨l.getD k 0,(k:Int),[(k:Int)],.slice none 0 0⟩]:=by simp only[aC];rw[a0e h]
theorem lQ(h:¬ 0<l.getD k 0):aC l (k+1)=aC l k:=by simp only[aC];rw[a0d h]
def krR(l:List Int)(len:Nat->Nat)(D:Nat):Nat->Nat
 | 0=>0
 | n+1=>krR l len D n+(if 0<l.getD n 0 then 2 ^ (D-len n)else 0)
theorem oT(l:List Int)(k:Nat):∀g∈aC l k,0<=g.cnt/\∃i:Nat,g.fst=(i:Int)/\i<k/\0<l.getD i 0/\g.cnt=l.getD i 0/\g.syms=[(i:Int)]:=by
 induction k with
 | zero=>intro g a;simp[aC]at a
 | succ k ih=>
  intro g a;by_cases d:0<l.getD k 0
  .
   rw[iE d]at a;simp only[a1b,a09]at a;rcases a with a|rfl
   . obtain⟨b,i,h2,e,c⟩:=ih g a;exact⟨b,i,h2,by omega,c⟩
   . exact⟨by simp only;omega,k,rfl,by omega,d,rfl,rfl⟩
  . rw[lQ d]at a;obtain⟨b,i,h2,e,c⟩:=ih g a;exact⟨b,i,h2,by omega,c⟩
theorem uh(l:List Int)(len:Nat->Nat)(D k:Nat):((bF (aC l k)).map fun s=>2 ^ (D-len s.toNat)).sum=krR l len D k:=by
 induction k with
 | zero=>rfl
 | succ k ih=>
  simp only[krR];by_cases h:0<l.getD k 0
  . rw[a0e h,←ih,iE h];simp[bF]
  . rw[a0d h,←ih,lQ h];simp
theorem yo(l:List Int)(k:Nat)(x:Int):x∈bF (aC l k)<->∃i:Nat,x=(i:Int)/\i<k/\0<l.getD i 0:=by
 constructor
 . intro h;obtain⟨g,d,a⟩:=List.mem_flatMap.1 h;obtain⟨_,i,j,h2,b,_,c⟩:=oT l k g d;rw[c]at a;simp only[a09]at a;exact⟨i,a,h2,b⟩
 .
  rintro⟨i,rfl,m,f⟩;induction k with
  | zero=>omega
  | succ k ih=>
   by_cases e:i=k
   . subst e;rw[iE f];simp[bF]
   .
    have:=ih (by omega);by_cases h:0<l.getD k 0
    . rw[iE h];simp only[bF,a28,a1b];exact .inl this
    . rw[lQ h];exact this
/-! What holds behind so many steps. -/
def jI(l s:List Int):Int:=(s.map fun x=>l.getD x.toNat 0).sum
theorem mZ(l a b:List Int):jI l (a++b)=jI l a+jI l b:=by simp[jI]
theorem DZ(l:List Int)(k:Nat)(j:k<(aC l l.length).length∨k=0):∀g∈(aG l k).1,g.cnt=jI l g.syms:=by
 induction k with
 | zero=>
  intro g b;obtain⟨_,i,f,h2,h,d,e⟩:=oT l l.length g b;rw[d,e];simp[jI]
 | succ k ih=>
  have c:1<(aG l k).1.length:=by have:=(dp l k (by omega)).2.2.2;omega
  have m:=dE (aG l k).1 (by omega);have ih':=ih (by omega);intro g b;have a:g∈stepG (aG l k).1:=b;simp only[stepG,a1b,a09]at a;rcases a with a|rfl
  . exact ih' g (bn _ _ (bn _ _ a))
  . simp only[dQ];rw[mZ,ih' _ (bY _ (by omega)),ih' _ (bn _ _ (bY (ar _) (by omega)))]
def ox(l o:List Int):Nat->Int
 | 0=>0
 | n+1=>ox l o n+l.getD n 0*o.getD n 0
theorem Fi(l o:List Int)(s:Int)(a:0<=s)(n:Nat)(b:n<=o.length):ox l (fI o s) n=ox l o n+(if s<(n:Int)then l.getD s.toNat 0 else 0):=by
 induction n with
 | zero=>simp only[ox];rw[a0d (by omega)];rfl
 | succ n ih=>
  simp only[ox];rw[ih (by omega),uD o s n a (by omega)];by_cases e:s=(n:Int)
  . subst e;rw[a0d (by omega),a0e rfl,a0e (by omega),Int.mul_add,Int.mul_one,a0l];omega
  .
   rw[a0d e,Int.add_zero];by_cases h:s<(n:Int)
   . rw[a0e h,a0e (by omega)];omega
   . rw[a0d h,a0d (by omega)];omega
theorem IQ(l s:List Int)(n:Nat):∀(o:List Int),n<=o.length->(∀x∈s,0<=x/\x<(n:Int))->ox l (bump o s) n=ox l o n+jI l s:=by
 induction s with
 | nil=>intro o _ _;simp[bump,jI]
 | cons x s ih=>
  intro o b a;show ox l (bump (fI o x) s) n=_;rw[ih (fI o x) (by rw[l9];exact b) (fun y c=>a y (by simp[c])),Fi l o x (a x (by simp)).1 n b,a0e (a x (by simp)).2];simp only[jI,a0E,a0N];omega
theorem IR(l:List Int)(m n:Nat):ox l (List.replicate m 0) n=0:=by
 induction n with
 | zero=>rfl
 | succ n ih=>
  simp only[ox];rw[ih];have:(List.replicate m (0:Int)).getD n 0=0:=by
   rw[List.getD_eq_getElem?_getD,List.getElem?_replicate]
   split<;>rfl
  rw[this];omega
theorem Mp(l:List Int)(k:Nat)(i:k<(aC l l.length).length∨k=0):ox l (aG l k).2 l.length+qp ((aC l l.length).length-1-k) (aG l k).1=qp ((aC l l.length).length-1) (aC l l.length):=by
 induction k with
 | zero=>
  show ox l (List.replicate l.length 0) l.length+qp _ (aC l l.length)=_;rw[IR,Int.zero_add,a2K]
 | succ k ih=>
  have ih':=ih (by omega);have a:1<(aG l k).1.length:=by have:=(dp l k (by omega)).2.2.2;omega
  have j:=dE (aG l k).1 (by omega);obtain⟨m,hm⟩:∃m,(aC l l.length).length-1-k=m+1:=⟨(aC l l.length).length-1-k-1,by omega⟩;have b:(aC l l.length).length-1-(k+1)=m:=by omega
  rw[hm]at ih';rw[b];simp only[qp]at ih';rw[a0e a]at ih';have c:∀x∈bf (aG l k).1,0<=x/\x<(l.length:Int):=by
   intro x h;have g:=(iB l k (by omega)).2;exact g x ((ja _ a).mem_iff.1 (by simp[h]))
  have d:=IQ l (bf (aG l k).1) l.length (aG l k).2 (by rw[ej];exact a0a _) c;have h2:=DZ l k (by omega) _ (bY (aG l k).1 (by omega));have e:=DZ l k (by omega) _ (bn _ _ (bY (ar (aG l k).1) (by omega)));have f:jI l (bf (aG l k).1)=(aB (aG l k).1).cnt+(aB (ar (aG l k).1)).cnt:=by
   unfold bf;rw[mZ,←h2,←e]
  show ox l (bump (aG l k).2 (bf (aG l k).1)) l.length+qp m (stepG (aG l k).1)=_;rw[d,f];omega
def np(o s:List Int)(D:Nat):Nat:=(s.map fun x=>2 ^ (D-(o.getD x.toNat 0).toNat)).sum
theorem yN(o a b:List Int)(D:Nat):np o (a++b) D=np o a D+np o b D:=by simp[np]
theorem FB{o o' s:List Int}{D:Nat}(h:∀x∈s,o'.getD x.toNat 0=o.getD x.toNat 0):np o' s D=np o s D:=by
 unfold np
 congr 1
 apply List.map_congr_left;intro x a;rw[h x a]
theorem FA{o o' s:List Int}{D:Nat}(h:∀x∈s,0<=o.getD x.toNat 0/\o.getD x.toNat 0<(D:Int)/\o'.getD x.toNat 0=o.getD x.toNat 0+1):2*np o' s D=np o s D:=by
 induction s with
 | nil=>rfl
 | cons x s ih=>
  have ih':=ih (fun y c=>h y (by simp[c]));obtain⟨e,h2,b⟩:=h x (by simp);simp only[np,a0E,a0N]at ih' ⊢;rw[b];obtain⟨d,hd⟩:∃d,D-(o.getD x.toNat 0).toNat=d+1:=⟨D-(o.getD x.toNat 0).toNat-1,by omega⟩;have a:D-(o.getD x.toNat 0+1).toNat=d:=by omega
  rw[hd,a,a1s];omega
theorem Mq(l:List Int)(D:Nat)(A:(aC l l.length).length<=D)(k:Nat)(B:k<(aC l l.length).length∨k=0):∀g∈(aG l k).1,np (aG l k).2 g.syms D=2 ^ D:=by
 induction k with
 | zero=>
  intro g m;obtain⟨_,i,q,h2,w,z,r⟩:=oT l l.length g m;rw[r];show np (List.replicate l.length 0) [(i:Int)] D=2 ^ D;simp[np,List.getD,h2]
 | succ k ih=>
  have c:1<(aG l k).1.length:=by have:=(dp l k (by omega)).2.2.2;omega
  have C:=dE (aG l k).1 (by omega);have ih':=ih (by omega);have d:=iB l k (by omega);obtain⟨n,h⟩:=i7 c d.1;have f:=kE l k (by omega);have j:∀x∈bf (aG l k).1,0<=x/\x<(l.length:Int):=fun x e=>d.2 x ((ja _ c).mem_iff.1 (by simp[e]));have b:=fun(x:Int) (h0:0<=x) (q:x<(l.length:Int))=>ly (aG l k).2 (bf (aG l k).1) x.toNat n (fun y v=>(j y v).1) (by rw[ej];omega);intro g m;show np (bump (aG l k).2 (bf (aG l k).1)) g.syms D=2 ^ D;have a:g∈stepG (aG l k).1:=m;simp only[stepG,a1b,a09]at a;rcases a with a|rfl
  .
   rw[FB (o:=(aG l k).2)]
   . exact ih' g (bn _ _ (bn _ _ a))
   . intro x e;have p:x∈bF (aG l k).1:=List.mem_flatMap.2 ⟨g,bn _ _ (bn _ _ a),e⟩;obtain⟨x0,x1⟩:=d.2 x p;rw[b x x0 x1,a3d x0,a0d (h g a x e),Int.add_zero]
  .
   have u:(dQ (aB (aG l k).1) (aB (ar (aG l k).1))).syms=bf (aG l k).1:=rfl;rw[u];have t:=FA (o:=(aG l k).2) (o':=bump (aG l k).2 (bf (aG l k).1)) (s:=bf (aG l k).1) (D:=D) (by
    intro x e;obtain⟨x0,x1⟩:=j x e;have hd:=f x.toNat (by rw[ej];omega);refine⟨hd.1,by omega,?_⟩;rw[b x x0 x1,a3d x0,a0e e])
   have h2:np (aG l k).2 (bf (aG l k).1) D=2 ^ D+2 ^ D:=by
    unfold bf;rw[yN,ih' _ (bY _ (by omega)),ih' _ (bn _ _ (bY (ar _) (by omega)))]
   omega
theorem cM.ints{base:Nat}(h:cM 3 w w')(a:ay w base v l):ay w' base v l:=h.own a
theorem cM.syms{l:List Grp}(h:cM 3 w w')(b:jM w ob l):jM w' ob l:=fun g a=>h.ints (b g a)
open Corb
theorem Dp(l:List Grp)(j:Nat)(x:Grp):(((aS l).set (j*3) (.int .i64 x.cnt)).set (j*3+1) (.int .i64 x.fst)).set (j*3+2) x.val=aS (l.set j x):=by
 induction l generalizing j with
 | nil=>simp[aS]
 | cons p l ih=>
  cases j with
  | zero=>simp[aS]
  | succ j=>
   rw[show(j+1)*3=j*3+1+1+1 by omega];simp only[aS,List.set_cons_succ];rw[ih j]
theorem dy.put{base g cap:Nat}{l:List Grp}(c:l.length=n)(h:dy t w base (.slice (some ⟨g,0,none⟩) n cap) l)(j:Nat)(x:Grp) :
  dy t (((w.setCell ⟨g,j*3,none⟩ (.int .i64 x.cnt)).setCell ⟨g,j*3+1,none⟩ (.int .i64 x.fst)).setCell ⟨g,j*3+2,none⟩ x.val) base (.slice (some ⟨g,0,none⟩) n cap) (l.set j x):=by
 subst c;have b:=(a15 h (j*3) (.int .i64 x.cnt)).1;have h2:=(a15 b (j*3+1) (.int .i64 x.fst)).1;have a:=(a15 h2 (j*3+2) x.val).1;rw[Dp]at a;show World.ownsRow _ _ _ _ _ (l.set j x).length _;rw[a1I];exact a
theorem dy.frozen{base g cap:Nat}{l:List Grp}(a:l.length=n)(h:dy t w base (.slice (some ⟨g,0,none⟩) n cap) l)(j:Nat):w.frozen? ⟨g,j,none⟩=false:=by
 subst a;exact a2t h j
theorem Touch.drew{a:Option Addr}(h:Touch a w w'):Touch a w w'.drew:=h
theorem dy.drew{base:Nat}{l:List Grp}(h:dy t w base v l):dy t w.drew base v l:=h
def Gq(x:Int):Int:=if x<=1 then x else 1
end Go.Proofs.YtlpmnnjlmjffpaaGreatDoor
