/- Of what the proof is made: 16 texts, one behind the other. -/
import Derived.Test.YtbacpebljannfaaGreatDoorM13
import Derived.Test.YtbacpebljannfaaGreatDoorRb1
import Derived.Test.YtbacpebljannfaaGreatDoorM7
import Derived.BigRegion
import Derived.Test.YtbacpebljannfaaGreatDoorM2
set_option linter.unusedSimpArgs false
set_option maxHeartbeats 6400000
namespace Go.Proofs.YtbacpebljannfaaGreatDoor
open Go.RowKit
def sliceLen:Value->Nat
 | .slice _ n _=>n
 | _=>0
theorem rL{l:List Int}{k:Nat}(h:0<l.getD k 0):az l (k+1)=az l k++[⟨l.getD k 0,(k:Int),[(k:Int)],.slice none 0 0⟩]:=by simp only[az];rw[a0d h]
theorem zX{l:List Int}{k:Nat}(h:¬ 0<l.getD k 0):az l (k+1)=az l k:=by simp only[az];rw[a0e h]
theorem lV(w:World)(x y z:Value)(t:TypeId)(g:Nat)(hg:w.heap.size=g):∀(j:Nat) (u:Value),[x,y,z][j]?=some u->(w.alloc (.cells #[x,y,z] t)).cell? ((⟨g,0,none⟩:Addr).add j)=some u:=by
 subst hg;intro j u hj
 match j,hj with
 | 0,hj=>simp at hj;subst hj;simp[Addr.add]
 | 1,hj=>simp at hj;subst hj;simp[Addr.add]
 | 2,hj=>simp at hj;subst hj;simp[Addr.add]
theorem lW(x y:Int)(a:Option Addr)(n c:Nat):∀u∈[Value.int .i64 x,Value.int .i64 y,Value.slice a n c],u.oneCell'=true:=by
 intro u hu;simp at hu;rcases hu with rfl|rfl|rfl<;>rfl
theorem lX{t:TypeId}{x:World}{base:Nat}{v:Value}{l:List Grp}(g:Grp)(h:x.ownsRow base t 3 v (l.length+1) (aS l++[.int .i64 g.cnt,.int .i64 g.fst,g.val])):cq t x base v (l++[g]):=by
 show World.ownsRow _ _ _ _ _ (l++[g]).length _;rw[iW];simpa[aS]using h
theorem ak.one(w:World)(base:Nat)(hb:base<=w.heap.size)(x:Int):ak (w.alloc (.cells #[.int .i64 x] 3)) base (.slice (some ⟨w.heap.size,0,none⟩) 1 1) [x]:=
 a06 w #[.int .i64 x] 1 hb (by unfold maxLen;omega) rfl
theorem wX(w:World)(ob:Nat):dz w ob []:=fun g hg=>by simp at hg
theorem dz.snoc{w:World}{ob:Nat}{l:List Grp}{g:Grp}(h:dz w ob l)(hg:ak w ob g.val g.syms):dz w ob (l++[g]):=by
 intro x hx;simp only[a0U,a00]at hx;rcases hx with hx|rfl
 · exact h x hx
 · exact hg
theorem dz.grown{t:TypeId}{w w':World}{ob base:Nat}{v:Value}{l m:List Grp}(h:dz w ob l)(hr:cq t w base v m)(ht:3≠t)(hg:w.grownBy w' v.ownBlock):dz w' ob l:=
 fun g hgm=>a1P (h g hgm) hg (rT (h g hgm) hr ht)
theorem fQ{t:TypeId}{w w':World}{ob base:Nat}{v u:Value}{l:List Int}{m:List Grp}(h:ak w ob u l)(hr:cq t w base v m)(ht:3≠t)(hg:w.grownBy w' v.ownBlock):ak w' ob u l:=
 a1P h hg (rT h hr ht)
theorem nV(w:World)(x y z:Value)(t:TypeId):Three (w.alloc (.cells #[x,y,z] t)) w.heap.size x y z:=⟨by simp,by simp,by simp,by simp,by simp,by simp,by simp⟩
theorem Three.later{w w':World}{b:Nat}{v0 v1 v2:Value}(h:Three w b v0 v1 v2)(hb:Below w.heap.size w w'):Three w' b v0 v1 v2:=h.kept (hb.mono h.2.2.2.2.2.2)
theorem cq.mono{t:TypeId}{w:World}{base base':Nat}{v:Value}{l:List Grp}(h:cq t w base v l)(hb:base'<=base):cq t w base' v l:=
 ⟨h.1,h.2.imp id fun⟨g,c,u,e,hbg,r⟩=>⟨g,c,u,e,a0I hb hbg,r⟩⟩
theorem dz.sub{w:World}{ob:Nat}{l m:List Grp}(h:dz w ob l)(hs:∀g∈m,g∈l):dz w ob m:=fun g hg=>h g (hs g hg)
theorem iS{w w':World}{a:Option Addr}{base size n:Nat}{e:TypeId}{v:Value}{xs:List Value}(h:w.ownsRow base e size v n xs)(ht:Touch a w w')(hne:∀g,a=some ⟨g,0,none⟩->g<base):w'.ownsRow base e size v n xs:=by
 refine⟨h.1,?_⟩;rcases h.2 with hn|⟨g,cap,cur,rfl,hbg,hgg,rest⟩
 · exact .inl hn
 · refine .inr ⟨g,cap,cur,rfl,hbg,?_,rest⟩;rw[ht.2 g (fun g' e=>by have:=hne g' e;omega)];exact hgg
theorem ec{w w':World}{b:Nat}{p:Addr}(ht:Touch (some ⟨b,0,none⟩) w w')(hp:p.block≠b):w'.cell? p=w.cell? p:=
 World.cell?_of_block (ht.2 p.block (fun g e=>by simp only[a0n,a0z,a0Q]at e;omega))
theorem eR(b B:Nat)(h:b<B):∀g,(some ⟨b,0,none⟩:Option Addr)=some ⟨g,0,none⟩->g<B:=by
 intro g e;simp only[a0n,a0z,a0Q]at e;omega
set_option maxRecDepth 100000 in
theorem qQ(a:Option Addr)(cap n:Nat)(l:List Int)(w:World)(hn:l.length=n)(h:aZ w a l)(hm:n<=300)(hc:∀i,i<l.length->0<=l.getD i 0/\l.getD i 0<=100000) :
  Calls Tryz.prog 169 #[.slice a n cap] w fun e w'=>e = .returned (.slice (some ⟨w.heap.size,0,none⟩) n n)/\ak w' w.heap.size (.slice (some ⟨w.heap.size,0,none⟩) n n) (bI l)/\Below w.heap.size w w':=by
 have hmI:(n:Int)<=300:=by omega
 obtain⟨i0,hi,hz0,hz1,hz2⟩:=a0x Tryz.infoInt;obtain⟨j0,hj,hy0,hy1,hy2⟩:=a0x Tryz.infoTree;have HN:=af hn;have HC:=af hc;have HM:=af hm;clear hc;go_enter Tryz.func169,Tryz.ntmps169;go_wp2_with (at_make;refine a1m _ rfl _ _ 84 rfl w.heap.size 3 i0 (.int .i64 0) 1 a0h hi hz0 hz1 .i64 .i64 _ _ n rfl rfl rfl rfl (by rw[hz2];omega) (by unfold maxLen;omega) (a0a _) ?_;intro w1 hown hgrow);have hp0:ak (w1.alloc (.cells #[] 243)) w.heap.size (.slice (some ⟨w.heap.size,0,none⟩) n n) (List.replicate l.length 0):=by
  rw[hn];exact(ax hown).later ((a0c w1.heap.size w1).alloc (a0a _) _) (a0a _)
 have hlt1:w.heap.size+1<=w1.heap.size:=(ax hown).below.2;have hb0:Below w.heap.size w (w1.alloc (.cells #[] 243)):=((a0c _ _).grown hgrow (a0a _) (fun k h=>by cases h)).alloc (by omega) _;have ht0:cq 243 (w1.alloc (.cells #[] 243)) (w.heap.size+1) (.slice (some ⟨w1.heap.size,0,none⟩) 0 0) []:=a06 w1 #[] 0 hlt1 (by unfold maxLen;omega) rfl;clear hown hgrow hn hm
 go_loopw [4,5] (fun v i wr=>∃(k:Nat) (L:List Grp),k<=n/\i = .int .i64 k/\L.map bare=az l k/\cq 243 wr (w.heap.size+1) v L/\dz wr (w.heap.size+1) L/\ak wr w.heap.size (.slice (some ⟨w.heap.size,0,none⟩) n n) (List.replicate l.length 0)/\Below w.heap.size w wr) (fun _ i _=>n-(intOf i).toNat)
 case atStart=>exact⟨0,[],a0m _,rfl,rfl,ht0,wX _ _,hp0,hb0⟩
 case round=>
  obtain⟨k,L,hk,rfl,hL,ht,hs,hp,hbel⟩:=hrel;clear hp0 hb0 ht0;have HL:=af hL;have hbs:w.heap.size+1<=wr.heap.size:=hp.below.2;clear hL;by_cases hlt:k<n
  ·
   obtain⟨g,o,rfl,hg,hcc⟩:=(h.later hbel) (by rw[ae HN];omega);have c0:=hcc k (by rw[ae HN];exact hlt);have HK:=af hk;have hlenL:L.length<=300:=by
    have h1:(L.map bare).length=(az l k).length:=by rw[ae HL]
    have h2:=(ju l 100000 (by omega) (fun i hi=>(ae HC i hi).2) k (by rw[ae HN];omega)).2.2;rw[a0P]at h1;have:=ae HM;omega
   clear hcc hk;by_cases hy:0<l.getD k 0
   ·
    have hst:=af (rL hy);generalize l.getD k 0=y at *
    have hA:ak (wr.alloc (.cells #[.int .i64 (k:Int)] 3)) (w.heap.size+1) (.slice (some ⟨wr.heap.size,0,none⟩) 1 1) [(k:Int)]:=ak.one wr _ hbs _;have hB1:Below wr.heap.size wr (wr.alloc (.cells #[.int .i64 (k:Int)] 3)):=(a0c _ _).alloc (a0a _) _;have hsz1:(wr.alloc (.cells #[.int .i64 (k:Int)] 3)).heap.size=wr.heap.size+1:=by simp
    have ht1:=ht.later hB1 (a0a _);have hs1:=hs.later hB1 (a0a _);have hp1:=hp.later hB1 (a0a _);have hbel1:=al hbel ((a0c wr.heap.size wr).alloc (a0a _) (.cells #[.int .i64 (k:Int)] 3));have HX:=af (a0b hA (a0b ht1 (a0b hs1 (a0b hp1 (a0b hbel1 hsz1)))));have hlen1:Hid (L.length+1<=maxLen/\(L.length+1)*40<=140737488355328):=by show _/\_;unfold maxLen;omega
    clear hA hB1 ht1 hs1 hp1 hbel1 ht hs hp hbel hsz1;go_wp2_with (at_builtin;refine a0A _ rfl _ _ 241 rfl (w.heap.size+1) 243 j0 (.agg #[.int .i64 0,.int .i64 0,.slice none 0 0]) 3 40 a2V hj hy0 hy1 hy2 rfl (by decide) _ _ _ rfl (a0p (ae HX).2.1 _) ⟨wr.heap.size+1,0,none⟩ 1 1 [.int .i64 y,.int .i64 (k:Int),.slice (some ⟨wr.heap.size,0,none⟩) 1 1] rfl rfl (lV _ _ _ _ _ _ (ae HX).2.2.2.2.2) (lW _ _ _ _ _) (ae hlen1).1 (ae hlen1).2 (ay (by rw[(ae HX).2.2.2.2.2];omega) _) ?_;intro v' x3 hown hgrow hnil;clear hnil);obtain⟨hA,ht1,hs1,hp1,hbel1,hsz1⟩:=ae HX;have hAl:∀{B:Nat} {o:Obj},B=wr.heap.size+1->Below B (wr.alloc (.cells #[.int .i64 (k:Int)] 3)) ((wr.alloc (.cells #[.int .i64 (k:Int)] 3)).alloc o):=fun{B} {o} e=>(a0c _ _).alloc (by rw[hsz1];omega) _;have ht2:cq 243 ((wr.alloc (.cells #[.int .i64 (k:Int)] 3)).alloc (.cells #[.int .i64 y,.int .i64 (k:Int),.slice (some ⟨wr.heap.size,0,none⟩) 1 1] 243)) (w.heap.size+1) u4 L:=a0p ht1 _;have hs3:=(hs1.later (hAl rfl) (by rw[hsz1];exact a0a _)).grown ht2 (by decide) hgrow;have hA3:=fQ (hA.later (hAl rfl) (by rw[hsz1];exact a0a _)) ht2 (by decide) hgrow;have hp3:=fQ (hp1.later (hAl rfl) (by rw[hsz1];exact a0a _)) ht2 (by decide) hgrow;have hb3:Below w.heap.size w x3:=aF (v:=u4) hgrow ht1 (by omega) (by rw[hsz1];omega) hbel1;have ht3:=lX ⟨y,(k:Int),[(k:Int)],.slice (some ⟨wr.heap.size,0,none⟩) 1 1⟩ hown;have hs4:=hs3.snoc (g:=⟨y,(k:Int),[(k:Int)],.slice (some ⟨wr.heap.size,0,none⟩) 1 1⟩) hA3;clear hown hgrow HX hA ht1 hs1 hp1 hbel1 hAl ht2 hs3 hA3;go_wp2;go_roundw
    case rel=>exact⟨k+1,L++[⟨y,(k:Int),[(k:Int)],.slice (some ⟨wr.heap.size,0,none⟩) 1 1⟩],by omega,by go_num,by rw[ae hst,a0J,ae HL];rfl,ht3,hs4,hp3,hb3⟩
    case measure=>simp[intOf];omega
   ·
    have hst:=af (zX hy);generalize l.getD k 0=y at *
    go_wp2;go_roundw
    case rel=>exact⟨k+1,L,by omega,by go_num,by rw[ae hst];exact ae HL,ht,hs,hp,hbel⟩
    case measure=>simp[intOf];omega
  ·
   obtain rfl:k=n:=by omega
   have hseed:Hid (L.map bare=az l l.length):=by show L.map bare=az l l.length;rw[ae HN];exact ae HL
   have hU:Hid (L.length=(az l l.length).length):=by show L.length=(az l l.length).length;rw[←ae hseed,a0P]
   have hUb:L.length<=300:=by
    have h2:=(ju l 100000 (by omega) (fun i hi=>(ae HC i hi).2) l.length (a0a _)).2.2;have:=ae hU;have:=ae HM;have:=ae HN;omega
   have hwf:=af (zY l l.length (a0a _));obtain⟨va,vc,rfl⟩:=ht.form;clear h;by_cases hone:L.length=1
   ·
    obtain⟨g,rfl⟩:=ht.somes (by omega);obtain⟨_,c1,_,_,_⟩:=ht.at rfl 0 (by omega);have hm0:=ae hwf ((az l l.length).getD 0 g0) (eK _ 0 (by have:=ae hU;omega));have hf0:(L.getD 0 g0).fst=((az l l.length).getD 0 g0).fst:=by rw[←ae hseed,lH];rfl
    obtain⟨_,f0,f1,_,_⟩:=hm0;rw[←hf0,ae HN]at f1;rw[←hf0]at f0;have hres:Hid (bI l=(List.replicate l.length 0).set (L.getD 0 g0).fst.toNat 1):=by
     show bI l=_;unfold bI;rw[a0d (by rw[←ae hU];exact hone),hf0]
    generalize (L.getD 0 g0).fst=f at *
    obtain⟨q,rfl⟩:=a0t f0;rw[a0y]at hres;have hlenr:(List.replicate l.length (0:Int)).length=k:=by simp[ae HN]
    obtain⟨d0,e0,_,_⟩:=hp.at (j:=q) hlenr (by omega);have hput:=hp.put (j:=q) hlenr 1;have hbel2:=ag hbel (b:=w.heap.size) (o:=q) (a0a _) (.int .i64 1);rw[←ae hres]at hput;have HP:=af hput;have HB:=af hbel2;have c1':wr.cell? ⟨g,1,none⟩=some (.int .i64 (q:Int)):=by simpa using c1
    clear hput hbel2 hlenr hres hbel hp hs ht c1 hf0;rw[hone];generalize (List.replicate l.length (0:Int)).getD q 0=y at *
    go_wp2_with fail
    go_loopw [4,6,7,8,9,10,11] (fun v _ _ _ _ _ _ wq=>v = .slice (some ⟨g,0,none⟩) 1 vc/\wq=wr.setCell ⟨w.heap.size,q,none⟩ (.int .i64 1)) (fun _ _ _ _ _ _ _ _=>0)
    case atStart=>exact⟨rfl,rfl⟩
    case round=>
     obtain⟨rfl,hw⟩:=hrel;subst hw;go_wp2;go_ret;exact⟨rfl,ae HP,ae HB⟩
   ·
    have hne:((L.length:Int) == 1)=false:=by rw[a1p];omega
    have hfin:Hid (∀k,(az l l.length).length-k<=1->(k<(az l l.length).length∨k=0)->bI l=(aw l k).2):=by
     intro k h1 h2;unfold bI;have:=ae hU;rw[a0e (by omega)]
     congr 2;omega
    have HUB:=af hUb;clear hUb;have hp':ak wr w.heap.size (.slice (some ⟨w.heap.size,0,none⟩) k k) (aw l 0).2:=hp;have hL0:L.map bare=(aw l 0).1:=ae hseed;generalize hUe:(az l l.length).length=U at *
    have HUE:=af hUe;clear hUe hwf hseed HL hp;go_wp2_with fail
    go_loopw [4,6,7,8,9,10,11] (fun v _ _ _ _ _ _ wq=>∃(j:Nat) (M:List Grp),(j<U∨j=0)/\M.map bare=(aw l j).1/\cq 243 wq (w.heap.size+1) v M/\dz wq (w.heap.size+1) M/\ak wq w.heap.size (.slice (some ⟨w.heap.size,0,none⟩) k k) (aw l j).2/\Below w.heap.size w wq) (fun v _ _ _ _ _ _ _=>sliceLen v)
    case atStart=>exact⟨0,L,.inr rfl,hL0,ht,hs,hp',hbel⟩
    case round=>
     obtain⟨j,M,hj,hM,htm,hsm,hpm,hbm⟩:=hrel;clear ht hs hp' hbel hL0 hne hone;have hInv:=bT l j (by rw[ae HUE];exact hj);rw[←hM,ae HUE]at hInv;obtain⟨iw,ic,is,il⟩:=hInv;rw[a0P]at il;obtain⟨ma,mc,rfl⟩:=htm.form;have HM2:=af hM;have HJ:=af hj;clear hM hj;by_cases hgo:1<M.length
     ·
      have hgoI:(1:Int)<(M.length:Int):=by omega
      have hUB:=ae HUB;have hM300:M.length<=300:=by have:=ae hU;omega
      have hMI:(M.length:Int)<=300:=by omega
      have hw0:w.heap.size+1<=wr.heap.size:=hpm.below.2;have hq1:=dQ M (by omega);have iw':WFL k M:=by
       intro g hg;have h1:=iw (bare g) (a2N hg);rw[ae HN]at h1;exact h1
      have hwa:=iw' _ (bv M (by omega));have hrl:=da M (by omega);have hwb:=iw' _ (be M _ (bv (am M) (by omega)));have hq2:=dQ (am M) (by omega);have htot:fs M<=30000000:=by
       have h1:=(ju l 100000 (by omega) (fun i hi=>(ae HC i hi).2) l.length (a0a _)).1;have h2:fs (M.map bare)=fs M:=by simp[fs,Function.comp_def,bare]
       rw[h2]at ic;have:=ae HN;have h3:(100000:Int)*(l.length:Int)<=100000*300:=Int.mul_le_mul_of_nonneg_left (by omega) (by omega);omega
      have htwo:=uK iw' hgo;have HLe:=af (pq ma mc M.length (w.heap.size+1) M wr rfl htm (by omega) hM300);obtain⟨g,rfl⟩:=htm.somes (by omega);have hfm:Hid (aC M=M.getD (least M) g0):=rfl;have hrm:Hid (am M=M.eraseIdx (least M)):=rfl;have HQ:=af (a0b htm (a0b hsm (a0b hpm hbm)));have HFA:=af (a0b hwa (a0b hrl (a0b hwb (a0b hq2 (a0b htot htwo)))));have HGO:=af (a0b hgo (a0b hM300 (a0b hq1 (a0b hw0 il))));have HIW:=af iw';clear htm hsm hpm hbm ic is iw hwa hrl hwb hq2 htot htwo hgo hM300 hq1 hw0 il iw' hUB;go_wp2_with fail;refine(ae HLe).mono ?_;rintro e x1 ⟨rfl,hb1⟩;obtain⟨htm,hsm,hpm,hbm⟩:=ae HQ;obtain⟨hgo,hM300,hq1,hw0,il⟩:=ae HGO;obtain⟨hwa,hrl,hwb,hq2,htot,htwo⟩:=ae HFA;have ht1:=htm.later hb1 (a0a _);have hs1:=hsm.later hb1 (a0a _);have hp1:=hpm.later hb1 (a0a _);have hB1:=al hbm hb1;have hz1':=hb1.size;obtain⟨c0,c1,c2,_,hgx⟩:=ht1.at rfl (least M) hq1;rw[←ae hfm]at c0 c1 c2;have hvA:=hs1 _ (bv M (by omega));obtain⟨aa,ac,hav⟩:=hvA.form;obtain⟨ga,hga⟩:=(hav▸hvA).somes hwa.2.2.2.2;rw[hga]at hav;rw[hav]at c2 hvA;have hqI:((least M:Nat):Int)<(M.length:Int):=by omega
      have HLs:=af (qR (some ⟨g,0,none⟩) mc M.length (w.heap.size+1) (w.heap.size+1) (least M) M (x1.alloc (.cells #[.int .i64 (aC M).cnt,.int .i64 (aC M).fst,.slice (some ⟨ga,0,none⟩) (aC M).syms.length ac] 243)) rfl (ht1.later ((a0c x1.heap.size x1).alloc (a0a _) _) (a0a _)) (hs1.later ((a0c x1.heap.size x1).alloc (a0a _) _) (a0a _)) hq1 hM300);have HQ1:=af (a0b ht1 (a0b hs1 (a0b hp1 (a0b hB1 hvA))));have hgxI:=af hgx;have hq1w:w.heap.size+1<=x1.heap.size:=hp1.below.2;clear htm hsm hpm hbm HQ HLe ht1 hs1 hp1 hB1 hvA hav hwa hrl hwb hq2 htot htwo hgo hM300 hq1 hw0 il hga hgx hz1';generalize hA0:aC M=A at *
      have HA0:=af hA0;clear hA0;go_wp2_with fail;refine(ae HLs).mono ?_;rintro e x2 ⟨⟨v1,rfl,ht2⟩,hb2⟩;obtain⟨ht1,hs1,hp1,hB1,hvA⟩:=ae HQ1;obtain⟨hgo,hM300,hq1,hw0,il⟩:=ae HGO;obtain⟨hwa,hrl,hwb,hq2,htot,htwo⟩:=ae HFA;rw[←ae hrm]at ht2;have hba:Below x1.heap.size x1 (x1.alloc (.cells #[.int .i64 A.cnt,.int .i64 A.fst,.slice (some ⟨ga,0,none⟩) A.syms.length ac] 243)):=(a0c _ _).alloc (a0a _) _;have hb12:=al hba hb2;have hA2:=(nV x1 (.int .i64 A.cnt) (.int .i64 A.fst) (.slice (some ⟨ga,0,none⟩) A.syms.length ac) 243).later hb2;have hs2:=hs1.later hb12 (a0a _);have hp2:=hp1.later hb12 (a0a _);have hvA2:=hvA.later hb12 (a0a _);have hB2:=al hB1 hb12;have ht2':=ht2.mono (show w.heap.size+1<=_ by have:=hp1.below.2;have:=hba.size;omega);obtain⟨ra,rc,hrv⟩:=ht2'.form;subst hrv;obtain⟨g2,hg2⟩:=ht2'.somes (by omega);subst hg2;have hlr:(am M).length=M.length-1:=hrl;have HLe2:=af (pq (some ⟨g2,0,none⟩) rc (am M).length (w.heap.size+1) (am M) x2 rfl ht2' (by omega) (by omega));have hrI:((am M).length:Int)<=300:=by omega
      have HQ2:=af (a0b ht2' (a0b hs2 (a0b hp2 (a0b hB2 (a0b hvA2 hA2)))));clear ht1 hs1 hp1 hB1 hvA HQ1 HLs hba hb12 hA2 hs2 hp2 hvA2 hB2 ht2' ht2 hb2 c0 c1 c2 hqI hwa hrl hwb hq2 htot htwo hgo hM300 hq1 hw0 il hlr;go_wp2_with fail;refine(ae HLe2).mono ?_;rintro e x3 ⟨rfl,hb3⟩;obtain⟨ht2,hs2,hp2,hB2,hvA2,hA2⟩:=ae HQ2;obtain⟨hgo,hM300,hq1,hw0,il⟩:=ae HGO;obtain⟨hwa,hrl,hwb,hq2,htot,htwo⟩:=ae HFA;have ht3:=ht2.later hb3 (a0a _);have hs3:=hs2.later hb3 (a0a _);have hp3:=hp2.later hb3 (a0a _);have hvA3:=hvA2.later hb3 (a0a _);have hA3:=hA2.later hb3;have hB3:=al hB2 hb3;have hfm2:aC (am M)=(am M).getD (least (am M)) g0:=rfl;obtain⟨c0,c1,c2,_,hgx⟩:=ht3.at rfl (least (am M)) hq2;rw[←hfm2]at c0 c1 c2;have hvB:=hs3 _ (be M _ (bv (am M) (by omega)));obtain⟨bb,bc,hbv⟩:=hvB.form;obtain⟨gb,hgb⟩:=(hbv▸hvB).somes hwb.2.2.2.2;rw[hgb]at hbv;rw[hbv]at c2 hvB;have hqI:((least (am M):Nat):Int)<((am M).length:Int):=by omega
      have HLs:=af (qR (some ⟨g2,0,none⟩) rc (am M).length (w.heap.size+1) (w.heap.size+1) (least (am M)) (am M) (x3.alloc (.cells #[.int .i64 (aC (am M)).cnt,.int .i64 (aC (am M)).fst,.slice (some ⟨gb,0,none⟩) (aC (am M)).syms.length bc] 243)) rfl (ht3.later ((a0c x3.heap.size x3).alloc (a0a _) _) (a0a _)) ((hs3.sub (be M)).later ((a0c x3.heap.size x3).alloc (a0a _) _) (a0a _)) hq2 (by omega));have HQ3:=af (a0b ht3 (a0b hs3 (a0b hp3 (a0b hB3 (a0b hvA3 (a0b hA3 hvB))))));clear ht2 hs2 hp2 hB2 hvA2 hA2 HQ2 HLe2 ht3 hs3 hp3 hvA3 hA3 hB3 hvB hbv hb3 hwa hrl hwb hq2 htot htwo hgo hM300 hq1 hw0 il hgb hgx hfm2;generalize hB0:aC (am M)=Bg at *
      have HB0:=af hB0;clear hB0;go_wp2_with fail;refine(ae HLs).mono ?_;rintro e x4 ⟨⟨v2,rfl,ht4⟩,hb4⟩;obtain⟨ht3,hs3,hp3,hB3,hvA3,hA3,hvB⟩:=ae HQ3;obtain⟨hgo,hM300,hq1,hw0,il⟩:=ae HGO;obtain⟨hwa,hrl,hwb,hq2,htot,htwo⟩:=ae HFA;have hrm2:(am M).eraseIdx (least (am M))=am (am M):=rfl;rw[hrm2]at ht4;have hba:Below x3.heap.size x3 (x3.alloc (.cells #[.int .i64 Bg.cnt,.int .i64 Bg.fst,.slice (some ⟨gb,0,none⟩) Bg.syms.length bc] 243)):=(a0c _ _).alloc (a0a _) _;have hb34:=al hba hb4;have hBb4:=(nV x3 (.int .i64 Bg.cnt) (.int .i64 Bg.fst) (.slice (some ⟨gb,0,none⟩) Bg.syms.length bc) 243).later hb4;have hA4:=hA3.later hb34;have hs4:=hs3.later hb34 (a0a _);have hp4:=hp3.later hb34 (a0a _);have hvA4:=hvA3.later hb34 (a0a _);have hvB4:=hvB.later hb34 (a0a _);have hB4:=al hB3 hb34;have hw4:w.heap.size+1<=x4.heap.size:=hp4.below.2;have hq3w:w.heap.size+1<=x3.heap.size:=hp3.below.2;have ht4':=ht4.mono (show w.heap.size+1<=_ by have:=hp3.below.2;have:=hba.size;omega);have hrl2:=da (am M) (by omega);obtain⟨ra,rc',hrv⟩:=ht4'.form;subst hrv;have hcA:Hid ((A.syms.map (Value.int .i64)).length=A.syms.length*1):=by show _=_;simp
      have hcB:Hid ((Bg.syms.map (Value.int .i64)).length=Bg.syms.length*1):=by show _=_;simp
      have hlA:A.syms.length+Bg.syms.length<=300:=by
       have h1:=htwo.2;have h2:(bf M).length=A.syms.length+Bg.syms.length:=by
        unfold bf;rw[a0l,ae HA0,ae HB0]
       have h3:=(bT l j (by rw[ae HUE];exact ae HJ)).2.2.1;have h4:iX (M.map bare)=iX M:=by simp[iX,Function.comp_def,bare]
       rw[←ae HM2,h4]at h3;have h5:=(ju l 100000 (by omega) (fun i hi=>(ae HC i hi).2) l.length (a0a _)).2.1;have:=ae HN;have:=ae HM;omega
      have HSA:Hid (∀W,Below x4.heap.size x4 W->∀j u,(A.syms.map (Value.int .i64))[j]?=some u->W.cell? ((⟨ga,0,none⟩:Addr).add j)=some u):=fun W hW=>a1L (hvA4.later hW (a0a _)) rfl;have HSB:Hid (∀W,Below x4.heap.size x4 W->∀j u,(Bg.syms.map (Value.int .i64))[j]?=some u->W.cell? ((⟨gb,0,none⟩:Addr).add j)=some u):=fun W hW=>a1L (hvB4.later hW (a0a _)) rfl;have HCC:∀W,Below x4.heap.size x4 W->W.cell? ⟨x1.heap.size,2,none⟩=some (.slice (some ⟨ga,0,none⟩) A.syms.length ac)/\W.cell? ⟨x3.heap.size,2,none⟩=some (.slice (some ⟨gb,0,none⟩) Bg.syms.length bc):=fun W hW=>⟨(hA4.later hW).2.2.1,(hBb4.later hW).2.2.1⟩;have hR0:World.ownsRow (x4.alloc (.cells #[] 3)).drew x4.heap.size 3 1 (.slice (some ⟨x4.heap.size,0,none⟩) 0 0) 0 []:=a06 x4 #[] 0 (a0a _) (by unfold maxLen;omega) rfl;have hBd:Below x4.heap.size x4 (x4.alloc (.cells #[] 3)).drew:=((a0c _ _).alloc (a0a _) _).drew;have hb1:Hid (0+A.syms.length<=maxLen/\(0+A.syms.length)*8<=140737488355328):=by show _/\_;unfold maxLen;omega
      have hb2:Hid (0+A.syms.length+Bg.syms.length<=maxLen/\(0+A.syms.length+Bg.syms.length)*8<=140737488355328):=by show _/\_;unfold maxLen;omega
      obtain⟨a0,a1,a2,_,_,_,abl⟩:=hA4;obtain⟨b0,b1,b2,_,_,_,bbl⟩:=hBb4;have HNE1:x1.heap.size≠w.heap.size:=by have:=hq1w;omega
      have HNE3:x3.heap.size≠w.heap.size:=by have:=hq3w;omega
      have hB4d:Below x4.heap.size x4 x4.drew:=(a0c _ _).drew;have hmin:Hid ((dh A Bg).fst=if Bg.fst<A.fst then Bg.fst else A.fst):=rfl;have HLA:=af hlA;have HTT:=af (a0b htot (a0b htwo.1 (a0b hwa hwb)));have HRL:=af (a0b hrl2 (a0b hrl (a0b hgo (a0b hM300 il))));have HQ4:=af (a0b ht4' (a0b hs4 (a0b hp4 hB4)));clear ht3 hs3 hp3 hB3 hvA3 hA3 hvB HQ3 HLs hba hb34 hs4 hp4 hvA4 hvB4 hB4 ht4' ht4 hb4 c0 c1 c2 hqI hwa hrl hwb hq2 htot htwo hgo hM300 hq1 hw0 il hrl2 hlA hrm2;have hfst:∃F:Int,(dh A Bg).fst=F:=⟨_,rfl⟩;obtain⟨F,hF⟩:=hfst;have HF:=af hF;clear hF;by_cases hlt2:Bg.fst<A.fst
      ·
       have hFe:Hid (Bg.fst=F):=by have:=ae hmin;rw[ae HF,a0d hlt2]at this;exact this.symm
       go_wp2_with fail
       go_region_held3 (fun W=>W.cell? ⟨x1.heap.size,2,none⟩=some (.slice (some ⟨ga,0,none⟩) A.syms.length ac)/\W.cell? ⟨x3.heap.size,2,none⟩=some (.slice (some ⟨gb,0,none⟩) Bg.syms.length bc)) (first|exact HCC _ hB4d|assumption|exact HCC _ hBd) (first
        | (refine bz rfl (.tmp 76) (.tmp 78) 84 rfl x4.heap.size 3 i0 (.int .i64 0) 1 8 a0h hi hz0 hz1 hz2 rfl (a2A 0) (.slice (some ⟨x4.heap.size,0,none⟩) 0 0) _ _ rfl hR0 ⟨ga,0,none⟩ A.syms.length ac (A.syms.map (Value.int .i64)) rfl (ae hcA) (ae HSA _ hBd) (a09 .i64 _) (ae hb1).1 (ae hb1).2 hBd.size ?_;intro v5 x5 hown5 hgrow5 hnil5;clear hnil5;have hB5:Below x4.heap.size x4 x5:=hBd.grown hgrow5 hBd.size (fun j hj=>(a0G hR0 j hj).1);have hC5:=HCC _ hB5)
        | (refine bz rfl (.tmp 79) (.tmp 81) 84 rfl x4.heap.size 3 i0 (.int .i64 0) 1 8 a0h hi hz0 hz1 hz2 rfl (a2A 0) v5 _ _ rfl hown5 ⟨gb,0,none⟩ Bg.syms.length bc (Bg.syms.map (Value.int .i64)) rfl (ae hcB) (ae HSB _ hB5) (a09 .i64 _) (ae hb2).1 (ae hb2).2 hB5.size ?_;intro v6 x6 hown6 hgrow6 hnil6;clear hnil6;have hB6:Below x4.heap.size x4 x6:=hB5.grown hgrow6 hB5.size (fun j hj=>(a0G hown5 j hj).1);have hC6:=HCC _ hB6))
       obtain⟨ht4,hs4,hp4,hB4⟩:=ae HQ4;have hw4:w.heap.size+1<=x4.heap.size:=hp4.below.2;have hsy:ak x6 x4.heap.size v6 (A.syms++Bg.syms):=by
        show World.ownsRow _ _ _ _ _ (A.syms++Bg.syms).length ((A.syms++Bg.syms).map (Value.int .i64));rw[a0l,a0J];simpa using hown6
       have hSl:Hid ((A.syms++Bg.syms).length<=300/\0<(A.syms++Bg.syms).length):=by
        show _/\_;rw[a0l];have:=ae HLA;have:=(ae HTT).2.2.1.2.2.2.2;omega
       have hSw:Hid (∀x∈A.syms++Bg.syms,0<=x/\x<(k:Int)):=by
        intro x hx;simp only[a0U]at hx;rcases hx with hx|hx
        · exact(ae HTT).2.2.1.2.2.2.1 x hx
        · exact(ae HTT).2.2.2.2.2.2.1 x hx
       have hSe:Hid (bf M=A.syms++Bg.syms):=by
        show bf M=_;unfold bf;rw[ae HA0,ae HB0]
       have hJs:Hid ((dh A Bg).syms=A.syms++Bg.syms):=rfl;generalize A.syms++Bg.syms=S at *
       obtain⟨sv,sc,hvv⟩:=hsy.form;obtain⟨gs,hgs⟩:=(hvv▸hsy).somes (ae hSl).2;rw[hgs]at hvv;rw[hvv];rw[hvv]at hsy;have ht6:=ht4.later hB6 (a0a _);have hs6:=hs4.later hB6 (a0a _);have hp6:=hp4.later hB6 (a0a _);have hBB6:=al hB4 hB6;have hgsb:=hsy.below;have a0':=(hB6.cell (p:=⟨x1.heap.size,0,none⟩) abl).trans a0;have b0':=(hB6.cell (p:=⟨x3.heap.size,0,none⟩) bbl).trans b0;have hmx:=af (nt l (fun i hi=>(ae HC i hi).2) (by rw[ae HN];exact ae HM) j (by rw[ae HUE];exact ae HJ));have hjb:Hid ((j:Int)<=300):=by show(j:Int)<=300;have:=ae HJ;have:=ae hU;have:=ae HUB;omega
       have hx13:x1.heap.size≠w.heap.size/\x3.heap.size≠w.heap.size:=⟨HNE1,HNE3⟩;have HSY:=af hsy;have HT6:=af ht6;have HS6:=af hs6;have HX13:=af hx13;have HAB:=af (a0b a0' b0');have HGS:=af hgsb;have sI:(S.length:Int)<=300:=by have:=(ae hSl).1;omega
       clear hown5 hown6 hgrow5 hgrow6 hC5 hC6 hB5 ht4 hs4 hp4 hB4 ht6 hs6 hsy HCC HSA HSB hR0 hBd hB4d hvv hgs a0 a1 a2 b0 b1 b2 hx13 a0' b0' hgsb hcA hcB;go_wp2_with fail
       go_loopw [11] (fun i wq=>∃t:Nat,t<=S.length/\i = .int .i64 t/\ak wq w.heap.size (.slice (some ⟨w.heap.size,0,none⟩) k k) (bump (aw l j).2 (S.take t))/\Touch (some ⟨w.heap.size,0,none⟩) x6 wq/\Below w.heap.size w wq) (fun i _=>S.length-(intOf i).toNat)
       case atStart=>exact⟨0,a0m _,rfl,hp6,Touch.refl _ _,hBB6⟩
       case round=>
        obtain⟨t,ht,rfl,hpt,htch,hbt⟩:=hrel;clear hp6 hBB6;have hln:Hid ((bump (aw l j).2 (S.take t)).length=k):=by show(bump (aw l j).2 (S.take t)).length=k;rw[kA,dD,ae HN]
        have htk:Hid (t<=S.length):=ht;clear ht;by_cases hlt3:t<S.length
        ·
         have hsyt:=(ae HSY).touch htch (by intro g e;simp only[a0n,a0z,a0Q]at e;have:=hw4;omega);obtain⟨c0,_,_,_⟩:=hsyt.at rfl hlt3;have hx:=ae hSw (S.getD t 0) (by simp[List.getD,hlt3]);have hbt1:=af (od (aw l j).2 S t hlt3);have hmx2:=af (nf (ae hmx) (S.take t));obtain⟨q,hq⟩:=a0t hx.1;rw[hq]at c0 hbt1;have hqk:q<k:=by omega
         obtain⟨d0,f0,_,_⟩:=hpt.at (ae hln) hqk;have hyb:=ae hmx2 q (by rw[ae hln];exact hqk);have hput:=hpt.put (j:=q) (ae hln) ((bump (aw l j).2 (S.take t)).getD q 0+1);have hst:Hid (bump (aw l j).2 (S.take (t+1))=(bump (aw l j).2 (S.take t)).set q ((bump (aw l j).2 (S.take t)).getD q 0+1)):=by
          show bump (aw l j).2 (S.take (t+1))=_;rw[ae hbt1];unfold eu;rw[a0y]
         have hyI:(bump (aw l j).2 (S.take t)).getD q 0<=100000:=by
          have h1:=hyb.2;have h2:(S.take t).length<=300:=by rw[a0L];have:=(ae hSl).1;omega
          have:=ae hjb;omega
         have hy0:=hyb.1;have hbt2:=ag hbt (b:=w.heap.size) (o:=q) (a0a _) (.int .i64 ((bump (aw l j).2 (S.take t)).getD q 0+1));have htch2:=htch.set (o:=q) rfl (.int .i64 ((bump (aw l j).2 (S.take t)).getD q 0+1));generalize (bump (aw l j).2 (S.take t)).getD q 0=y at *
         have HPUT:=af (a0b hput (a0b hbt2 htch2));have hqI:(q:Int)<(k:Int):=by omega
         have htI:(t:Int)<(S.length:Int):=by omega
         clear hput hbt2 htch2 hpt hsyt hbt htch hyb hx hq hqk;go_wp2_with fail
         go_region
         obtain⟨hput,hbt2,htch2⟩:=ae HPUT;rw[←ae hst]at hput;go_wp2;go_roundw
         case rel=>exact⟨t+1,by have:=ae htk;omega,by go_num,hput,htch2,hbt2.drew⟩
         case measure=>simp[intOf];omega
        ·
         have htS:S.take t=S:=a0C (by omega);rw[htS]at hpt;have htq:cq 243 wr (w.heap.size+1) (.slice ra (am (am M)).length rc') (am (am M)):=iS (ae HT6) htch (eR _ _ (a0j _));have hsq:dz wr (w.heap.size+1) (am (am M)):=fun g hg=>(ae HS6 g (be M _ (be _ _ hg))).touch htch (eR _ _ (a0j _));have hvq:ak wr (w.heap.size+1) (.slice (some ⟨gs,0,none⟩) S.length sc) S:=((ae HSY).touch htch (eR _ _ (by omega))).mono hw4;have a0q:=(ec (p:=⟨x1.heap.size,0,none⟩) htch (ae HX13).1).trans (ae HAB).1;have b0q:=(ec (p:=⟨x3.heap.size,0,none⟩) htch (ae HX13).2).trans (ae HAB).2;have hnext:Hid ((aw l (j+1)).2=bump (aw l j).2 S):=by
          show(aw l (j+1)).2=_;simp only[aw];rw[←ae HM2,tt,ae hSe]
         have hnext1:Hid ((aw l (j+1)).1=(am (am M)).map bare++[dh A Bg]):=by
          show(aw l (j+1)).1=_;simp only[aw];rw[←ae HM2,tp,ae HA0,ae HB0]
         rw[←ae hnext]at hpt;obtain⟨hrl2,hrl,hgo,hM300,il⟩:=ae HRL;have hj1:Hid (j+1<U):=by show j+1<U;omega
         have hlr2:Hid ((am (am M)).length+1<M.length+0):=by show _<_;omega
         have hlen1:Hid ((am (am M)).length+1<=maxLen/\((am (am M)).length+1)*40<=140737488355328):=by show _/\_;unfold maxLen;omega
         have hcs:=ae HTT;have hcI:A.cnt+Bg.cnt<=30000000:=by have:=hcs.1;have:=hcs.2.1;omega
         have hcA0:=hcs.2.2.1.1;have hcB0:=hcs.2.2.2.1;have hbq:w.heap.size+1<=wr.heap.size:=hpt.below.2;have HPQ:=af (a0b htq (a0b hsq (a0b hvq (a0b hpt hbt))));have hgrp:Hid ((dh A Bg).cnt=A.cnt+Bg.cnt):=rfl;clear hrl2 hrl hgo hM300 il htq hsq hvq hpt hbt htch htS hcs HTT HRL HT6 HS6 HSY HAB;rw[ae hFe];go_wp2_with (at_builtin;refine a0A _ rfl _ _ 241 rfl (w.heap.size+1) 243 j0 (.agg #[.int .i64 0,.int .i64 0,.slice none 0 0]) 3 40 a2V hj hy0 hy1 hy2 rfl (by decide) _ _ _ rfl (a0p (ae HPQ).1 _) ⟨wr.heap.size,0,none⟩ 1 1 [.int .i64 (A.cnt+Bg.cnt),.int .i64 F,.slice (some ⟨gs,0,none⟩) S.length sc] rfl rfl (lV _ _ _ _ _ _ rfl) (lW _ _ _ _ _) (ae hlen1).1 (ae hlen1).2 (ay hbq _) ?_;intro v7 x7 hown7 hgrow7 hnil7;clear hnil7);obtain⟨htq,hsq,hvq,hpt,hbt⟩:=ae HPQ;have hal:Below wr.heap.size wr (wr.alloc (.cells #[.int .i64 (A.cnt+Bg.cnt),.int .i64 F,.slice (some ⟨gs,0,none⟩) S.length sc] 243)):=(a0c _ _).alloc (a0a _) _;have htq2:=htq.later hal (a0a _);have hs7:=(hsq.later hal (a0a _)).grown htq2 (by decide) hgrow7;have hv7:=fQ (hvq.later hal (a0a _)) htq2 (by decide) hgrow7;have hp7:=fQ (hpt.later hal (a0a _)) htq2 (by decide) hgrow7;have hb7:Below w.heap.size w x7:=aF (v:=.slice ra (am (am M)).length rc') hgrow7 htq (by omega) (by omega) hbt;have ht7:=lX ⟨A.cnt+Bg.cnt,F,S,.slice (some ⟨gs,0,none⟩) S.length sc⟩ hown7;have hs8:=hs7.snoc (g:=⟨A.cnt+Bg.cnt,F,S,.slice (some ⟨gs,0,none⟩) S.length sc⟩) hv7;have hbr:Hid ((am (am M)++[(⟨A.cnt+Bg.cnt,F,S,.slice (some ⟨gs,0,none⟩) S.length sc⟩:Grp)]).map bare=(aw l (j+1)).1):=by
          show _=(aw l (j+1)).1;rw[ae hnext1,a0J]
          congr 1
          have e:dh A Bg=⟨A.cnt+Bg.cnt,F,S,.slice none 0 0⟩:=by
           rw[←ae HF,←ae hJs];rfl
          rw[e];rfl
         have hsl7:Hid (sliceLen v7<M.length):=by
          show sliceLen v7<M.length;obtain⟨fa,fc,hv⟩:=ht7.form;rw[hv];have:=ae hlr2;simp only[sliceLen,a0l,a1b];omega
         clear hown7 hgrow7 hal htq2 hs7 hv7 htq hsq hvq hpt hbt HPQ;go_wp2;go_roundw
         case rel=>exact⟨j+1,_,.inl (ae hj1),ae hbr,ht7,hs8,hp7,hb7⟩
         case measure=>exact ae hsl7
      ·
       have hFe:Hid (A.fst=F):=by have:=ae hmin;rw[ae HF,a0e hlt2]at this;exact this.symm
       go_wp2_with fail
       go_region_held3 (fun W=>W.cell? ⟨x1.heap.size,2,none⟩=some (.slice (some ⟨ga,0,none⟩) A.syms.length ac)/\W.cell? ⟨x3.heap.size,2,none⟩=some (.slice (some ⟨gb,0,none⟩) Bg.syms.length bc)) (first|exact HCC _ hB4d|assumption|exact HCC _ hBd) (first
        | (refine bz rfl (.tmp 76) (.tmp 78) 84 rfl x4.heap.size 3 i0 (.int .i64 0) 1 8 a0h hi hz0 hz1 hz2 rfl (a2A 0) (.slice (some ⟨x4.heap.size,0,none⟩) 0 0) _ _ rfl hR0 ⟨ga,0,none⟩ A.syms.length ac (A.syms.map (Value.int .i64)) rfl (ae hcA) (ae HSA _ hBd) (a09 .i64 _) (ae hb1).1 (ae hb1).2 hBd.size ?_;intro v5 x5 hown5 hgrow5 hnil5;clear hnil5;have hB5:Below x4.heap.size x4 x5:=hBd.grown hgrow5 hBd.size (fun j hj=>(a0G hR0 j hj).1);have hC5:=HCC _ hB5)
        | (refine bz rfl (.tmp 79) (.tmp 81) 84 rfl x4.heap.size 3 i0 (.int .i64 0) 1 8 a0h hi hz0 hz1 hz2 rfl (a2A 0) v5 _ _ rfl hown5 ⟨gb,0,none⟩ Bg.syms.length bc (Bg.syms.map (Value.int .i64)) rfl (ae hcB) (ae HSB _ hB5) (a09 .i64 _) (ae hb2).1 (ae hb2).2 hB5.size ?_;intro v6 x6 hown6 hgrow6 hnil6;clear hnil6;have hB6:Below x4.heap.size x4 x6:=hB5.grown hgrow6 hB5.size (fun j hj=>(a0G hown5 j hj).1);have hC6:=HCC _ hB6))
       obtain⟨ht4,hs4,hp4,hB4⟩:=ae HQ4;have hw4:w.heap.size+1<=x4.heap.size:=hp4.below.2;have hsy:ak x6 x4.heap.size v6 (A.syms++Bg.syms):=by
        show World.ownsRow _ _ _ _ _ (A.syms++Bg.syms).length ((A.syms++Bg.syms).map (Value.int .i64));rw[a0l,a0J];simpa using hown6
       have hSl:Hid ((A.syms++Bg.syms).length<=300/\0<(A.syms++Bg.syms).length):=by
        show _/\_;rw[a0l];have:=ae HLA;have:=(ae HTT).2.2.1.2.2.2.2;omega
       have hSw:Hid (∀x∈A.syms++Bg.syms,0<=x/\x<(k:Int)):=by
        intro x hx;simp only[a0U]at hx;rcases hx with hx|hx
        · exact(ae HTT).2.2.1.2.2.2.1 x hx
        · exact(ae HTT).2.2.2.2.2.2.1 x hx
       have hSe:Hid (bf M=A.syms++Bg.syms):=by
        show bf M=_;unfold bf;rw[ae HA0,ae HB0]
       have hJs:Hid ((dh A Bg).syms=A.syms++Bg.syms):=rfl;generalize A.syms++Bg.syms=S at *
       obtain⟨sv,sc,hvv⟩:=hsy.form;obtain⟨gs,hgs⟩:=(hvv▸hsy).somes (ae hSl).2;rw[hgs]at hvv;rw[hvv];rw[hvv]at hsy;have ht6:=ht4.later hB6 (a0a _);have hs6:=hs4.later hB6 (a0a _);have hp6:=hp4.later hB6 (a0a _);have hBB6:=al hB4 hB6;have hgsb:=hsy.below;have a0':=(hB6.cell (p:=⟨x1.heap.size,0,none⟩) abl).trans a0;have b0':=(hB6.cell (p:=⟨x3.heap.size,0,none⟩) bbl).trans b0;have hmx:=af (nt l (fun i hi=>(ae HC i hi).2) (by rw[ae HN];exact ae HM) j (by rw[ae HUE];exact ae HJ));have hjb:Hid ((j:Int)<=300):=by show(j:Int)<=300;have:=ae HJ;have:=ae hU;have:=ae HUB;omega
       have hx13:x1.heap.size≠w.heap.size/\x3.heap.size≠w.heap.size:=⟨HNE1,HNE3⟩;have HSY:=af hsy;have HT6:=af ht6;have HS6:=af hs6;have HX13:=af hx13;have HAB:=af (a0b a0' b0');have HGS:=af hgsb;have sI:(S.length:Int)<=300:=by have:=(ae hSl).1;omega
       clear hown5 hown6 hgrow5 hgrow6 hC5 hC6 hB5 ht4 hs4 hp4 hB4 ht6 hs6 hsy HCC HSA HSB hR0 hBd hB4d hvv hgs a0 a1 a2 b0 b1 b2 hx13 a0' b0' hgsb hcA hcB;go_wp2_with fail
       go_loopw [11] (fun i wq=>∃t:Nat,t<=S.length/\i = .int .i64 t/\ak wq w.heap.size (.slice (some ⟨w.heap.size,0,none⟩) k k) (bump (aw l j).2 (S.take t))/\Touch (some ⟨w.heap.size,0,none⟩) x6 wq/\Below w.heap.size w wq) (fun i _=>S.length-(intOf i).toNat)
       case atStart=>exact⟨0,a0m _,rfl,hp6,Touch.refl _ _,hBB6⟩
       case round=>
        obtain⟨t,ht,rfl,hpt,htch,hbt⟩:=hrel;clear hp6 hBB6;have hln:Hid ((bump (aw l j).2 (S.take t)).length=k):=by show(bump (aw l j).2 (S.take t)).length=k;rw[kA,dD,ae HN]
        have htk:Hid (t<=S.length):=ht;clear ht;by_cases hlt3:t<S.length
        ·
         have hsyt:=(ae HSY).touch htch (by intro g e;simp only[a0n,a0z,a0Q]at e;have:=hw4;omega);obtain⟨c0,_,_,_⟩:=hsyt.at rfl hlt3;have hx:=ae hSw (S.getD t 0) (by simp[List.getD,hlt3]);have hbt1:=af (od (aw l j).2 S t hlt3);have hmx2:=af (nf (ae hmx) (S.take t));obtain⟨q,hq⟩:=a0t hx.1;rw[hq]at c0 hbt1;have hqk:q<k:=by omega
         obtain⟨d0,f0,_,_⟩:=hpt.at (ae hln) hqk;have hyb:=ae hmx2 q (by rw[ae hln];exact hqk);have hput:=hpt.put (j:=q) (ae hln) ((bump (aw l j).2 (S.take t)).getD q 0+1);have hst:Hid (bump (aw l j).2 (S.take (t+1))=(bump (aw l j).2 (S.take t)).set q ((bump (aw l j).2 (S.take t)).getD q 0+1)):=by
          show bump (aw l j).2 (S.take (t+1))=_;rw[ae hbt1];unfold eu;rw[a0y]
         have hyI:(bump (aw l j).2 (S.take t)).getD q 0<=100000:=by
          have h1:=hyb.2;have h2:(S.take t).length<=300:=by rw[a0L];have:=(ae hSl).1;omega
          have:=ae hjb;omega
         have hy0:=hyb.1;have hbt2:=ag hbt (b:=w.heap.size) (o:=q) (a0a _) (.int .i64 ((bump (aw l j).2 (S.take t)).getD q 0+1));have htch2:=htch.set (o:=q) rfl (.int .i64 ((bump (aw l j).2 (S.take t)).getD q 0+1));generalize (bump (aw l j).2 (S.take t)).getD q 0=y at *
         have HPUT:=af (a0b hput (a0b hbt2 htch2));have hqI:(q:Int)<(k:Int):=by omega
         have htI:(t:Int)<(S.length:Int):=by omega
         clear hput hbt2 htch2 hpt hsyt hbt htch hyb hx hq hqk;go_wp2_with fail
         go_region
         obtain⟨hput,hbt2,htch2⟩:=ae HPUT;rw[←ae hst]at hput;go_wp2;go_roundw
         case rel=>exact⟨t+1,by have:=ae htk;omega,by go_num,hput,htch2,hbt2.drew⟩
         case measure=>simp[intOf];omega
        ·
         have htS:S.take t=S:=a0C (by omega);rw[htS]at hpt;have htq:cq 243 wr (w.heap.size+1) (.slice ra (am (am M)).length rc') (am (am M)):=iS (ae HT6) htch (eR _ _ (a0j _));have hsq:dz wr (w.heap.size+1) (am (am M)):=fun g hg=>(ae HS6 g (be M _ (be _ _ hg))).touch htch (eR _ _ (a0j _));have hvq:ak wr (w.heap.size+1) (.slice (some ⟨gs,0,none⟩) S.length sc) S:=((ae HSY).touch htch (eR _ _ (by omega))).mono hw4;have a0q:=(ec (p:=⟨x1.heap.size,0,none⟩) htch (ae HX13).1).trans (ae HAB).1;have b0q:=(ec (p:=⟨x3.heap.size,0,none⟩) htch (ae HX13).2).trans (ae HAB).2;have hnext:Hid ((aw l (j+1)).2=bump (aw l j).2 S):=by
          show(aw l (j+1)).2=_;simp only[aw];rw[←ae HM2,tt,ae hSe]
         have hnext1:Hid ((aw l (j+1)).1=(am (am M)).map bare++[dh A Bg]):=by
          show(aw l (j+1)).1=_;simp only[aw];rw[←ae HM2,tp,ae HA0,ae HB0]
         rw[←ae hnext]at hpt;obtain⟨hrl2,hrl,hgo,hM300,il⟩:=ae HRL;have hj1:Hid (j+1<U):=by show j+1<U;omega
         have hlr2:Hid ((am (am M)).length+1<M.length+0):=by show _<_;omega
         have hlen1:Hid ((am (am M)).length+1<=maxLen/\((am (am M)).length+1)*40<=140737488355328):=by show _/\_;unfold maxLen;omega
         have hcs:=ae HTT;have hcI:A.cnt+Bg.cnt<=30000000:=by have:=hcs.1;have:=hcs.2.1;omega
         have hcA0:=hcs.2.2.1.1;have hcB0:=hcs.2.2.2.1;have hbq:w.heap.size+1<=wr.heap.size:=hpt.below.2;have HPQ:=af (a0b htq (a0b hsq (a0b hvq (a0b hpt hbt))));have hgrp:Hid ((dh A Bg).cnt=A.cnt+Bg.cnt):=rfl;clear hrl2 hrl hgo hM300 il htq hsq hvq hpt hbt htch htS hcs HTT HRL HT6 HS6 HSY HAB;rw[ae hFe];go_wp2_with (at_builtin;refine a0A _ rfl _ _ 241 rfl (w.heap.size+1) 243 j0 (.agg #[.int .i64 0,.int .i64 0,.slice none 0 0]) 3 40 a2V hj hy0 hy1 hy2 rfl (by decide) _ _ _ rfl (a0p (ae HPQ).1 _) ⟨wr.heap.size,0,none⟩ 1 1 [.int .i64 (A.cnt+Bg.cnt),.int .i64 F,.slice (some ⟨gs,0,none⟩) S.length sc] rfl rfl (lV _ _ _ _ _ _ rfl) (lW _ _ _ _ _) (ae hlen1).1 (ae hlen1).2 (ay hbq _) ?_;intro v7 x7 hown7 hgrow7 hnil7;clear hnil7);obtain⟨htq,hsq,hvq,hpt,hbt⟩:=ae HPQ;have hal:Below wr.heap.size wr (wr.alloc (.cells #[.int .i64 (A.cnt+Bg.cnt),.int .i64 F,.slice (some ⟨gs,0,none⟩) S.length sc] 243)):=(a0c _ _).alloc (a0a _) _;have htq2:=htq.later hal (a0a _);have hs7:=(hsq.later hal (a0a _)).grown htq2 (by decide) hgrow7;have hv7:=fQ (hvq.later hal (a0a _)) htq2 (by decide) hgrow7;have hp7:=fQ (hpt.later hal (a0a _)) htq2 (by decide) hgrow7;have hb7:Below w.heap.size w x7:=aF (v:=.slice ra (am (am M)).length rc') hgrow7 htq (by omega) (by omega) hbt;have ht7:=lX ⟨A.cnt+Bg.cnt,F,S,.slice (some ⟨gs,0,none⟩) S.length sc⟩ hown7;have hs8:=hs7.snoc (g:=⟨A.cnt+Bg.cnt,F,S,.slice (some ⟨gs,0,none⟩) S.length sc⟩) hv7;have hbr:Hid ((am (am M)++[(⟨A.cnt+Bg.cnt,F,S,.slice (some ⟨gs,0,none⟩) S.length sc⟩:Grp)]).map bare=(aw l (j+1)).1):=by
          show _=(aw l (j+1)).1;rw[ae hnext1,a0J]
          congr 1
          have e:dh A Bg=⟨A.cnt+Bg.cnt,F,S,.slice none 0 0⟩:=by
           rw[←ae HF,←ae hJs];rfl
          rw[e];rfl
         have hsl7:Hid (sliceLen v7<M.length):=by
          show sliceLen v7<M.length;obtain⟨fa,fc,hv⟩:=ht7.form;rw[hv];have:=ae hlr2;simp only[sliceLen,a0l,a1b];omega
         clear hown7 hgrow7 hal htq2 hs7 hv7 htq hsq hvq hpt hbt HPQ;go_wp2;go_roundw
         case rel=>exact⟨j+1,_,.inl (ae hj1),ae hbr,ht7,hs8,hp7,hb7⟩
         case measure=>exact ae hsl7
     ·
      have hexit:=af (ae hfin j (by omega) (ae HJ));have hgoI:¬ (1:Int)<(M.length:Int):=by omega
      have HP:=af hpm;clear htm hsm hpm ic is;go_wp2;go_ret;exact⟨rfl,by rw[ae hexit];exact ae HP,hbm⟩
set_option maxRecDepth 100000 in
theorem yi(a:Option Addr)(cap n:Nat)(o:List Int)(w:World)(hn:o.length=n)(h:aZ w a o)(hm:n<=300) :
  Calls Tryz.prog 170 #[.slice a n cap] w fun e w'=>e = .returned (.int .i64 (bG o n))/\w'=w:=by
 subst hn;have hmI:(o.length:Int)<=300:=by omega
 clear hm;go_enter Tryz.func170,Tryz.ntmps170;go_wp2_with fail
 go_loop [3,4] (fun m i=>∃k:Nat,k<=o.length/\i = .int .i64 k/\m = .int .i64 (bG o k)) (fun _ i=>o.length-(intOf i).toNat)
 case atStart=>exact⟨0,a0m _,rfl,rfl⟩
 case round=>
  obtain⟨k,hk,rfl,rfl⟩:=hrel;have HK:=af hk;by_cases hlt:k<o.length
  ·
   obtain⟨g,f,rfl,hg,hc⟩:=h (by omega);have c0:=hc k hlt;have hst:Hid (bG o (k+1)=if bG o k<o.getD k 0 then o.getD k 0 else bG o k):=rfl;clear hc hk h;generalize o.getD k 0=y at *
   generalize bG o k=m at *
   by_cases hy:m<y
   ·
    have hst':Hid (bG o (k+1)=y):=by have:=ae hst;rw[a0d hy]at this;exact this
    go_wp2
    go_round
    case rel=>exact⟨k+1,by omega,by go_num,by rw[ae hst']⟩
    case measure=>simp[intOf];omega
   ·
    have hst':Hid (bG o (k+1)=m):=by have:=ae hst;rw[a0e hy]at this;exact this
    go_wp2
    go_round
    case rel=>exact⟨k+1,by omega,by go_num,by rw[ae hst']⟩
    case measure=>simp[intOf];omega
  ·
   obtain rfl:k=o.length:=by omega
   clear h;go_wp2;go_ret;exact⟨rfl,rfl⟩
def yX(w:World)(b n:Nat):Nat:=((List.range n).map (fun i=>(intOf ((w.cell? ⟨b,i,none⟩).getD (.int .i64 0))).toNat)).sum
theorem Ad{w:World}{base b n c:Nat}{l:List Int}(hn:l.length=n)(h:ak w base (.slice (some ⟨b,0,none⟩) n c) l):yX w b n=iz l:=by
 unfold yX iz
 congr 1
 apply a2x
 · simp[hn]
 ·
  intro i h1 h2;have hi:i<n:=by simpa using h1
  have:=(h.at hn hi).1;simp only[List.getElem_map,List.getElem_range];rw[this];have e:l.getD i 0=l[i]:=by simp[List.getD,show i<l.length by omega]
  rw[e];rfl
theorem AV(l:List Int)(j:Nat)(h:j<l.length):(br (l.take j)++l.drop j).set j (gh (l.getD j 0))=br (l.take (j+1))++l.drop (j+1):=by
 have hl:(br (l.take j)).length=j:=by simp[br];omega
 rw[List.set_append_right _ _ (by omega),hl,a3r,bX l j h];have h1:l.drop j=l[j] :: l.drop (j+1):=List.drop_eq_getElem_cons h;rw[h1,List.set_cons_zero];simp[br]
theorem Dr(l:List Int)(j:Nat)(h:j<l.length):(br (l.take j)++l.drop j).getD j 0=l.getD j 0:=by
 have hl:(br (l.take j)).length=j:=by simp[br];omega
 simp only[List.getD];rw[List.getElem?_append_right (by omega),hl,a3r,List.getElem?_drop];simp
def okC(l:List Int):Prop:=∀i,i<l.length->0<=l.getD i 0/\l.getD i 0<=100000
theorem rx{l:List Int}(h:okC l):okC (br l):=by
 intro i hi;rw[dR]at hi;rw[ot l i hi];have:=h i hi;unfold gh;omega
theorem uy{l:List Int}(h:okC l):∀x∈l,0<=x:=by
 intro x hx;obtain⟨i,hi,rfl⟩:=a1W hx;have:=(h i hi).1;have e:l.getD i 0=l[i]:=by simp[List.getD,hi]
 rw[e]at this;exact this
def cV(m:Int)(l:List Int):List Int:=np m (iz l) l
set_option maxRecDepth 100000 in
theorem sP(a:Option Addr)(cap n mm:Nat)(l:List Int)(w:World)(hn:l.length=n)(h:aZ w a l)(h1:1<=n)(hm:n<=300)(hc:okC l)(hU:(az l l.length).length<=p2 mm)(hmm:mm<=14) :
  Calls Tryz.prog 133 #[.slice a n cap,.int .i64 ((mm:Int)+1)] w fun e w'=>(∃v,e = .returned v/\ak w' w.heap.size v (cV ((mm:Int)+1) l))/\Below w.heap.size w w':=by
 obtain⟨i0,hi,hz0,hz1,hz2⟩:=a0x Tryz.infoInt;obtain⟨g,o,rfl,hg,hcl⟩:=h (by omega);have hmI:(n:Int)<=300:=by omega
 have hmmI:(mm:Int)<=14:=by omega
 have HN:=af hn;have HC:=af hc;have HU:=af hU;have HM:=af (a0b h1 hm);have hB0:Below w.heap.size w (w.alloc (.cells #[] 3)):=(a0c _ _).alloc (a0a _) _;have hR0:World.ownsRow (w.alloc (.cells #[] 3)) w.heap.size 3 1 (.slice (some ⟨w.heap.size,0,none⟩) 0 0) 0 []:=a06 w #[] 0 (a0a _) (by unfold maxLen;omega) rfl;have hnews:Hid (∀j u,(l.map (Value.int .i64))[j]?=some u->(w.alloc (.cells #[] 3)).cell? ((⟨g,o,none⟩:Addr).add j)=some u):=by
  intro j u hj;have hjl:j<l.length:=by have:=(List.getElem?_eq_some_iff.1 hj).1;simpa using this
  have hadd:(⟨g,o,none⟩:Addr).add j=⟨g,o+j,none⟩:=by unfold Addr.add;split<;>simp_all
  rw[hadd,hB0.cell (p:=⟨g,o+j,none⟩) hg,hcl j hjl,←hj];simp[List.getD,hjl]
 have hll:Hid ((l.map (Value.int .i64)).length=n*1):=by show _=_;simp[hn]
 have hb1:Hid (0+n<=maxLen/\(0+n)*8<=140737488355328):=by show _/\_;unfold maxLen;omega
 clear hn hc hU h1 hm hcl hmm h;go_enter Tryz.func133,Tryz.ntmps133;go_wp2_with (at_builtin;refine a0A _ rfl _ _ 84 rfl w.heap.size 3 i0 (.int .i64 0) 1 8 a0h hi hz0 hz1 hz2 rfl (by decide) _ _ _ rfl hR0 ⟨g,o,none⟩ n cap (l.map (Value.int .i64)) rfl (ae hll) (ae hnews) (a09 .i64 _) (ae hb1).1 (ae hb1).2 hB0.size ?_;intro v1 x1 hown hgrow hnil;clear hnil);have hv1:ak x1 w.heap.size v1 l:=by
  show World.ownsRow _ _ _ _ _ l.length _;rw[ae HN];simpa using hown
 have hB1:Below w.heap.size w x1:=hB0.grown hgrow hB0.size (fun j hj=>(a0G hR0 j hj).1);obtain⟨va,vc,hvv⟩:=hv1.formN (ae HN);rw[hvv];rw[hvv]at hv1;refine(qQ va vc n l x1 (ae HN) (hv1.rowN (ae HN)) (ae HM).2 (ae HC)).mono ?_;rintro e x2 ⟨rfl,ho2,hb2⟩;have hv2:=hv1.later hb2 (a0a _);have hB2:=al hB1 hb2;have hx12:w.heap.size<=x1.heap.size:=hB1.size;obtain⟨lb,hlb⟩:=hv1.somes (by rw[ae HN];exact(ae HM).1);subst hlb;have hlbx:=hv1.below;have HX:=af (a0b hx12 hlbx);clear hv1 hb2 hown hgrow hvv hR0 hB0 hlbx;go_wp2_with fail
 go_loopw [6,7] (fun v _ wr=>∃(cur:List Int) (f ob:Nat),cur.length=n/\okC cur/\(az cur cur.length).length<=p2 mm/\iz cur<=f/\cV ((mm:Int)+1) l=np ((mm:Int)+1) f cur/\v = .slice (some ⟨ob,0,none⟩) n n/\lb<ob/\ak wr ob (.slice (some ⟨ob,0,none⟩) n n) (bI cur)/\ak wr w.heap.size (.slice (some ⟨lb,0,none⟩) n vc) cur/\Below w.heap.size w wr) (fun _ _ wr=>yX wr lb n)
 case atStart=>exact⟨l,iz l,x1.heap.size,ae HN,ae HC,ae HU,a0a _,rfl,rfl,(ae HX).2.2,ho2,hv2,hB2⟩
 case round=>
  obtain⟨cur,f,ob,hcn,hcok,hcU,hcf,hfit,rfl,hlo,hou,hcv,hbel⟩:=hrel;clear ho2 hv2 hB2;have hlenh:(bI cur).length=n:=(gi cur).trans hcn;have HMo:=af (yi (some ⟨ob,0,none⟩) n n (bI cur) wr hlenh (hou.rowN hlenh) (ae HM).2);have hmost:Hid (fits (bI cur) ((mm:Int)+1)=decide (bG (bI cur) n<=(mm:Int)+1)):=by show _=_;unfold fits;rw[hlenh]
  have HQ:=af (a0b hcn (a0b hcok (a0b hcU (a0b hcf hfit))));have HO:=af (a0b hou (a0b hcv hbel));have HS:=af (Ad hcn hcv);have hlo':=af hlo;clear hcn hcok hcU hcf hfit hlenh hlo;generalize bG (bI cur) n=mo at *
  by_cases hbig:(mm:Int)+1<mo
  ·
   have hnf:fits (bI cur) ((mm:Int)+1)=false:=by rw[ae hmost];exact a0r (by omega)
   obtain⟨hcn,hcok,hcU,hcf,hfit⟩:=ae HQ;have hex:=ru hcU hnf;have hsum:=(rO cur (uy hcok)).2 hex;have hf':∃f',f=f'+1:=⟨f-1,by omega⟩;obtain⟨f',hff⟩:=hf';have hfit2:Hid (cV ((mm:Int)+1) l=np ((mm:Int)+1) f' (br cur)):=by
    show _=_;rw[hfit,hff];simp only[np];rw[hnf];rfl
   have hcf2:Hid (iz (br cur)<=f'):=by show _<=_;omega
   have HSL:=af hsum;have hcok2:=af (rx hcok);have hcU2:Hid ((az (br cur) (br cur).length).length<=p2 mm):=by show _<=_;rw[dR,oQ cur (fun i hi=>(hcok i hi).1) _ (a0a _)];exact hcU
   have hcn2:Hid ((br cur).length=n):=(dR cur).trans hcn;clear hcn hcok hcU hcf hfit hex hsum hff;go_wp2_with fail;refine(ae HMo).mono ?_;rintro e x3 ⟨rfl,hx3⟩;subst hx3;obtain⟨hou,hcv,hbel⟩:=ae HO;have hc0:ak x3 w.heap.size (.slice (some ⟨lb,0,none⟩) n vc) (br (cur.take 0)++cur.drop 0):=by simpa[br]using hcv
   clear hou hcv;go_wp2_with fail
   go_loopw [7] (fun i wq=>∃t:Nat,t<=n/\i = .int .i64 t/\ak wq w.heap.size (.slice (some ⟨lb,0,none⟩) n vc) (br (cur.take t)++cur.drop t)/\Below w.heap.size w wq) (fun i _=>n-(intOf i).toNat)
   case atStart=>exact⟨0,a0m _,rfl,hc0,hbel⟩
   case round=>
    obtain⟨t,ht,rfl,hct,hbt⟩:=hrel;clear hc0 hbel;obtain⟨hcn,hcok,_,_,_⟩:=ae HQ;have hln:Hid ((br (cur.take t)++cur.drop t).length=n):=by show _=n;rw[a0l,dR,a0L,a1c];omega
    by_cases hlt:t<n
    ·
     have hput:=hct.put (j:=t) (ae hln) (gh (cur.getD t 0));rw[AV cur t (by omega)]at hput;obtain⟨d0,f0,hbg,_⟩:=hct.at (ae hln) hlt;rw[Dr cur t (by omega)]at d0;have hy:=hcok t (by omega);have hbt2:=ag hbt (b:=lb) (o:=t) hbg (.int .i64 (gh (cur.getD t 0)));unfold gh at hput hbt2;have HPUT:=af (a0b hput hbt2);have htI:(t:Int)<(n:Int):=by omega
     have Ht:=af ht;generalize cur.getD t 0=y at *
     obtain⟨y0,y1⟩:=hy;have e1:IntKind.i64.wrap ((y+1).tdiv 2)=(y+1)/2:=by rw[Int.tdiv_eq_ediv_of_nonneg (by omega)];simp[IntKind.wrap,IntKind.bits,IntKind.signed];omega
     clear hput hbt2 hct hbt hcn hcok ht hbg;go_wp2;go_roundw
     case rel=>exact⟨t+1,by have:=ae Ht;omega,by go_num,(ae HPUT).1,(ae HPUT).2⟩
     case measure=>simp[intOf];omega
    ·
     have htn:t=n:=by omega
     have hfull:br (cur.take t)++cur.drop t=br cur:=by rw[a0C (by omega),List.drop_of_length_le (by omega)];simp
     rw[hfull]at hct;have hle:=af (qQ (some ⟨lb,0,none⟩) vc n (br cur) wr (ae hcn2) (hct.rowN (ae hcn2)) (ae HM).2 (ae hcok2));have hlb2:=hct.below;have HCT:=af (a0b hct (a0b hbt hlb2));have htI:¬ (t:Int)<(n:Int):=by omega
     clear hct hbt hcn hcok hfull hlb2;go_wp2_with fail;refine(ae hle).mono ?_;rintro e x4 ⟨rfl,ho4,hb4⟩;obtain⟨hct,hbt,hlb2⟩:=ae HCT;have hc4:=hct.later hb4 (a0a _);have hB4:=al hbt hb4;have hms:Hid (yX x4 lb n<yX x3 lb n):=by
      show yX x4 lb n<yX x3 lb n;rw[Ad (ae hcn2) hc4,ae HS];exact ae HSL
     clear hct hbt hb4;go_wp2;go_roundw
     case rel=>exact⟨br cur,f',wr.heap.size,ae hcn2,ae hcok2,ae hcU2,ae hcf2,ae hfit2,rfl,hlb2.2,ho4,hc4,hB4⟩
     case measure=>exact ae hms
  ·
   have hnf:fits (bI cur) ((mm:Int)+1)=true:=by rw[ae hmost];exact a0s (by omega)
   have hres:Hid (cV ((mm:Int)+1) l=bI cur):=by
    show _=_;rw[(ae HQ).2.2.2.2];cases f with
    | zero=>rfl
    | succ f=>simp only[np];rw[hnf];rfl
   go_wp2_with fail;refine(ae HMo).mono ?_;rintro e x3 ⟨rfl,hx3⟩;subst hx3;obtain⟨hou,hcv,hbel⟩:=ae HO;have hbo:w.heap.size<=ob:=by have:=hcv.below.1;have:=ae hlo';omega
   go_wp2;go_ret;exact⟨⟨_,rfl,by rw[ae hres];exact hou.mono hbo⟩,hbel⟩
def inC(l:List Int):Bool:=l.all (fun b=>inB b 0 100000)
def sV(l:List Int)(m:Int):Bool:=decide (l.length<=300)&&inB m 1 15&&inC l&&inB (us l:Nat) 1 ((p2 m.toNat/2:Nat):Int)
def iD(l:List Int)(m:Int):List Int:=if sV l m then cV m l else []
theorem DC(l:List Int)(k:Nat)(h:k<l.length):inC (l.take (k+1))=(inC (l.take k)&&inB (l.getD k 0) 0 100000):=by
 rw[bX l k h];simp[inC]
theorem F1{l:List Int}{k:Nat}(h:k<l.length)(hn:inB (l.getD k 0) 0 100000=false):inC l=false:=by
 rcases hb:inC l with _|_
 · rfl
 · have:=a1h.1 hb (l.getD k 0) (by simp[List.getD,h]);rw[hn]at this;exact absurd this (by simp)
theorem Hi{l:List Int}(h:inC l=true):okC l:=by
 intro i hi;have:=a1h.1 h (l.getD i 0) (by simp[List.getD,hi]);exact aG.1 this
theorem Gt(l:List Int)(k:Nat)(hk:k<=l.length):(az l k).length=us (l.take k):=by
 induction k with
 | zero=>rfl
 | succ k ih=>
  rw[nX l k (by omega),←ih (by omega)];simp only[az]
  split
  · simp
  · rfl
theorem eb(l:List Int):(az l l.length).length=us l:=by
 rw[Gt l _ (a0a _),List.take_length]
theorem uC(m:Nat):p2 (m+1)/2=p2 m:=by rw[jQ];omega
theorem mF{x y:Grp}(h:aY x y=true):aY y x=false:=by
 simp only[aY,a1s,a0w,a0F]at h;simp only[aY,a2W,a2C,a2D];omega
theorem gm{x y z:Grp}(h:aY x y=false)(h2:aY y z=false):aY x z=false:=by
 simp only[aY,a2W,a2C,a2D]at h h2 ⊢;omega
theorem wg{x y z:Grp}(h:aY x y=false)(h2:aY z y=true):aY x z=false:=by
 simp only[aY,a1s,a0w,a0F]at h2;simp only[aY,a2W,a2C,a2D]at h ⊢;omega
theorem fj(x:Grp):aY x x=false:=by
 simp only[aY,a2W,a2C,a2D];omega
def cN(L:List Grp)(i j:Nat):List Grp:=(L.set i (L.getD j g0)).set j (L.getD i g0)
theorem fp(L:List Grp)(i j:Nat):(cN L i j).length=L.length:=by simp[cN]
theorem ts{L:List Grp}{i j:Nat}(hi:i<L.length):(cN L i j).getD i g0=L.getD j g0:=by
 unfold cN;rw[List.getD_eq_getElem?_getD,List.getElem?_set];by_cases h:j=i
 · subst h;simp[hi]
 · rw[a0e h,List.getElem?_set_self hi];rfl
theorem lT{L:List Grp}{i j:Nat}(hj:j<L.length):(cN L i j).getD j g0=L.getD i g0:=by
 unfold cN;rw[List.getD_eq_getElem?_getD,List.getElem?_set_self (by simpa using hj)];rfl
theorem cQ{L:List Grp}{i j k:Nat}(h1:k≠i)(h2:k≠j):(cN L i j).getD k g0=L.getD k g0:=by
 unfold cN;rw[List.getD_eq_getElem?_getD,List.getElem?_set_ne (fun e=>h2 e.symm),List.getElem?_set_ne (fun e=>h1 e.symm),←List.getD_eq_getElem?_getD]
theorem set_perm(L:List Grp)(i:Nat)(x:Grp)(h:i<L.length):(L.getD i g0 :: L.set i x).Perm (x :: L):=by
 induction L generalizing i with
 | nil=>simp at h
 | cons g L ih=>
  cases i with
  | zero=>simp only[List.getD_cons_zero,List.set_cons_zero];exact a3o _ _ _
  | succ i=>
   simp only[a2k,List.set_cons_succ];have h1:=ih i (by simpa using h);exact(a3o _ _ _).trans ((h1.cons g).trans (a3o _ _ _))
theorem fT{L:List Grp}{i j:Nat}(hi:i<L.length)(hj:j<L.length):(cN L i j).Perm L:=by
 have h1:=set_perm L i (L.getD j g0) hi;have h2:=set_perm (L.set i (L.getD j g0)) j (L.getD i g0) (by simpa using hj);have e:(L.set i (L.getD j g0)).getD j g0=L.getD j g0:=by
  rw[List.getD_eq_getElem?_getD,List.getElem?_set];by_cases hij:i=j
  · subst hij;simp[hi]
  · rw[a0e hij,←List.getD_eq_getElem?_getD]
 rw[e]at h2;exact(h2.trans h1).cons_inv
def HP(L:List Grp):Prop:=∀i,0<i->i<L.length->aY (L.getD i g0) (L.getD ((i-1)/2) g0)=false
def UpI(L:List Grp)(k:Nat):Prop:=
 (∀i,0<i->i<L.length->i≠k->aY (L.getD i g0) (L.getD ((i-1)/2) g0)=false) /\
 (∀i,0<i->i<L.length->(i-1)/2=k->0<k->aY (L.getD i g0) (L.getD ((k-1)/2) g0)=false)
def DnI(L:List Grp)(k:Nat):Prop:=
 (∀i,0<i->i<L.length->(i-1)/2≠k->aY (L.getD i g0) (L.getD ((i-1)/2) g0)=false) /\
 (∀i,0<i->i<L.length->(i-1)/2=k->0<k->aY (L.getD i g0) (L.getD ((k-1)/2) g0)=false)
theorem Fv{L:List Grp}{k:Nat}(h:UpI L k)(hk:k=0∨aY (L.getD k g0) (L.getD ((k-1)/2) g0)=false):HP L:=by
 intro i h0 hi;by_cases e:i=k
 ·
  subst e;rcases hk with hk|hk
  · omega
  · exact hk
 · exact h.1 i h0 hi e
theorem GF{L:List Grp}{k:Nat}(h:UpI L k)(h0:0<k)(hk:k<L.length)(hl:aY (L.getD k g0) (L.getD ((k-1)/2) g0)=true):UpI (cN L k ((k-1)/2)) ((k-1)/2):=by
 have hq:(k-1)/2<k:=by omega
 have hqn:(k-1)/2<L.length:=by omega
 have sk:=ts (L:=L) (j:=(k-1)/2) hk;have sq:=lT (L:=L) (i:=k) hqn;refine⟨?_,?_⟩
 ·
  intro i i0 hi hiq;rw[fp]at hi;by_cases e:i=k
  · subst e;rw[sk,sq];exact mF hl
  ·
   rw[cQ e hiq];by_cases p:(i-1)/2=(k-1)/2
   · rw[p,sq];have:=h.1 i i0 hi e;rw[p]at this;exact wg this hl
   ·
    by_cases p2:(i-1)/2=k
    · rw[p2,sk];exact h.2 i i0 hi p2 h0
    · rw[cQ p2 p];exact h.1 i i0 hi e
 ·
  intro i i0 hi hp hq0;rw[fp]at hi;have hpp:((k-1)/2-1)/2<(k-1)/2:=by omega
  rw[cQ (k:=((k-1)/2-1)/2) (by omega) (by omega)];have hqq:=h.1 ((k-1)/2) hq0 hqn (by omega);by_cases e:i=k
  · subst e;rw[sk];exact hqq
  · rw[cQ e (by omega)];have:=h.1 i i0 hi e;rw[hp]at this;exact gm this hqq
theorem tT{L:List Grp}{k:Nat}(h:DnI L k)(hk:∀c,0<c->c<L.length->(c-1)/2=k->aY (L.getD c g0) (L.getD k g0)=false):HP L:=by
 intro i h0 hi;by_cases e:(i-1)/2=k
 · rw[e];exact hk i h0 hi e
 · exact h.1 i h0 hi e
theorem tU{L:List Grp}{k c:Nat}(h:DnI L k)(hk:k<L.length)(hc:c<L.length)(hc0:0<c)(hp:(c-1)/2=k)(hm:∀i,0<i->i<L.length->(i-1)/2=k->aY (L.getD i g0) (L.getD c g0)=false)(hl:aY (L.getD c g0) (L.getD k g0)=true):DnI (cN L c k) c:=by
 have hkc:k<c:=by omega
 have sc:=ts (L:=L) (j:=k) hc;have sk:=lT (L:=L) (i:=c) hk;refine⟨?_,?_⟩
 ·
  intro i i0 hi hip;rw[fp]at hi;by_cases e:i=c
  · subst e;rw[hp,sc,sk];exact mF hl
  ·
   by_cases p:(i-1)/2=k
   · rw[p,sk,cQ e (by omega)];exact hm i i0 hi p
   ·
    rw[cQ hip p];by_cases e2:i=k
    · subst e2;rw[sk];exact h.2 c hc0 hc hp i0
    · rw[cQ e e2];exact h.1 i i0 hi p
 · intro i i0 hi hip _;rw[fp]at hi;rw[hp,sk,cQ (by omega) (by omega)];have:=h.1 i i0 hi (by omega);rw[hip]at this;exact this
theorem Dy{L:List Grp}(h:HP L):∀i,i<L.length->aY (L.getD i g0) (L.getD 0 g0)=false:=by
 intro i;induction i using Nat.strongRecOn with
 | ind i ih=>
  intro hi;by_cases e:i=0
  · subst e;exact fj _
  · exact gm (h i (by omega) hi) (ih ((i-1)/2) (by omega) (by omega))
theorem FX{L:List Grp}(h:HP L)(g:Grp):UpI (L++[g]) L.length:=by
 refine⟨?_,?_⟩
 ·
  intro i i0 hi hn;have hi':i<L.length:=by simp at hi;omega
  have e1:∀k,k<L.length->(L++[g]).getD k g0=L.getD k g0:=by
   intro k hk;rw[List.getD_eq_getElem?_getD,List.getElem?_append_left hk,←List.getD_eq_getElem?_getD]
  rw[e1 i hi',e1 _ (by omega)];exact h i i0 hi'
 · intro i i0 hi hp _;simp at hi;omega
theorem qz(L:List Grp)(m k:Nat)(h:k<m):(L.take m).getD k g0=L.getD k g0:=by
 rw[List.getD_eq_getElem?_getD,List.getElem?_take_of_lt h,←List.getD_eq_getElem?_getD]
theorem GU{L:List Grp}(h:HP L):DnI ((cN L 0 (L.length-1)).take (L.length-1)) 0:=by
 refine⟨?_,fun i _ _ _ h0=>absurd h0 (Nat.lt_irrefl 0)⟩;intro i i0 hi hp;have hi':i<L.length-1:=by rw[a0L,fp]at hi;omega
 rw[qz _ _ _ hi',qz _ _ _ (by omega),cQ (by omega) (by omega),cQ hp (by omega)];exact h i i0 (by omega)
theorem y6(L:List Grp)(n:Nat)(h:L.length=n+1):L=L.take n++[L.getD n g0]:=by
 have e:L.take (n+1)=L:=a0C (by omega);have h2:L.take (n+1)=L.take n++[L.getD n g0]:=by
  rw[a1a (by omega)]
  congr 2
  simp[List.getD,h]
 rw[e]at h2;exact h2
theorem C6{L:List Grp}(h:0<L.length):(L.getD 0 g0 :: (cN L 0 (L.length-1)).take (L.length-1)).Perm L:=by
 have h1:=fT (L:=L) (i:=0) (j:=L.length-1) h (by omega);have h2:=y6 (cN L 0 (L.length-1)) (L.length-1) (by rw[fp];omega);rw[lT (by omega)]at h2;have h3:(L.getD 0 g0 :: (cN L 0 (L.length-1)).take (L.length-1)).Perm ((cN L 0 (L.length-1)).take (L.length-1)++[L.getD 0 g0]):=(List.perm_append_singleton _ _).symm;rw[←h2]at h3;exact h3.trans h1
theorem wa(L:List Grp)(k j:Nat)(hj:j<=k):aY (L.getD j g0) (L.getD (bJ L k) g0)=false:=by
 induction k with
 | zero=>
  obtain rfl:j=0:=by omega
  exact fj _
 | succ k ih=>
  simp only[bJ];cases hl:aY (L.getD (k+1) g0) (L.getD (bJ L k) g0)
  ·
   simp only[a1n,a1o];by_cases e:j=k+1
   · subst e;exact hl
   · exact ih (by omega)
  ·
   simp only[a0Z];by_cases e:j=k+1
   · subst e;exact fj _
   · exact wg (ih (by omega)) hl
theorem xT(M:List Grp)(g:Grp)(hg:g∈M):aY g (aC M)=false:=by
 obtain⟨i,hi,rfl⟩:=a1W hg;have:=wa M (M.length-1) i (by omega);have e:M.getD i g0=M[i]:=by simp[List.getD,hi]
 rw[e]at this;exact this
def pi(M:List Grp):Prop:=∀g∈M,g.fst∈g.syms
theorem EQ(l:List Int)(k:Nat):pi (az l k):=by
 induction k with
 | zero=>intro g hg;simp[az]at hg
 | succ k ih=>
  simp only[az]
  split
  ·
   intro g hg;simp only[a0U,a00]at hg;rcases hg with hg|rfl
   · exact ih g hg
   · simp
  · exact ih
theorem E7{M:List Grp}(h:pi M)(hl:1<M.length):pi (stepG M):=by
 have hr:=da M (by omega);intro g hg;simp only[stepG,a0U,a00]at hg;rcases hg with hg|rfl
 · exact h g (be M _ (be _ _ hg))
 ·
  have ha:=h _ (bv M (by omega));have hb:=h _ (be M _ (bv (am M) (by omega)));simp only[dh,a0U]
  split
  · exact .inr hb
  · exact .inl ha
theorem Dz(l:List Int)(k:Nat)(hk:k<(az l l.length).length∨k=0):pi (aw l k).1:=by
 induction k with
 | zero=>exact EQ l _
 | succ k ih=>
  have hlen:1<(aw l k).1.length:=by have:=(bT l k (by omega)).2.2.2;omega
  exact E7 (ih (by omega)) hlen
theorem EN{M:List Grp}(hn:(bo M).Nodup)(hf:pi M){x y:Grp}(hx:x∈M)(hy:y∈M)(e:x.fst=y.fst):x=y:=by
 induction M with
 | nil=>cases hx
 | cons g M ih=>
  have hs:bo (g :: M)=g.syms++bo M:=by simp[bo]
  rw[hs,a3p]at hn;obtain⟨_,n2,n3⟩:=hn;have hfM:pi M:=fun z hz=>hf z (by simp[hz]);have hin:∀z∈M,z.fst∈bo M:=fun z hz=>List.mem_flatMap.2 ⟨z,hz,hfM z hz⟩;have hfg:g.fst∈g.syms:=hf g (by simp);simp only[a04]at hx hy;rcases hx with rfl|hx
  ·
   rcases hy with rfl|hy
   · rfl
   · exact absurd e (n3 _ hfg _ (hin y hy))
  ·
   rcases hy with rfl|hy
   · exact absurd e.symm (n3 _ hfg _ (hin x hx))
   · exact ih n2 hfM hx hy
theorem Bl{x y:Grp}(h:aY x y=false)(h2:aY y x=false):x.fst=y.fst:=by
 simp only[aY,a2W,a2C,a2D]at h h2;omega
theorem tE{L M:List Grp}{a:Grp}{L1:List Grp}(hp:(L.map bare).Perm M)(hL:L.Perm (a :: L1))(hmin:∀g∈L,aY g a=false)(h0:0<L.length)(hn:(bo M).Nodup)(hf:pi M):bare a=aC M/\(L1.map bare).Perm (am M):=by
 have hl:0<M.length:=by rw[←hp.length_eq,a0P];exact h0
 have ha:a∈L:=hL.mem_iff.2 (by simp);have haM:bare a∈M:=hp.mem_iff.1 (a2N ha);have hfM:=bv M hl;obtain⟨c,hc,hce⟩:=a2y.1 (hp.mem_iff.2 hfM);have h1:aY (aC M) (bare a)=false:=by rw[←hce,qZ];exact hmin c hc
 have h2:=xT M (bare a) haM;have e:bare a=aC M:=EN hn hf haM hfM (Bl h2 h1);refine⟨e,?_⟩;have h3:(bare a :: L1.map bare).Perm M:=by
  have:=(hL.map bare).symm.trans hp;simpa using this
 have h4:=h3.trans (jS M hl).symm;rw[e]at h4;exact h4.cons_inv
theorem AP{M:List Grp}(hl:0<M.length)(hn:(bo M).Nodup):(bo (am M)).Nodup:=by
 have h1:=oo (jS M hl);have h2:=h1.nodup_iff.2 hn;have e:bo (aC M :: am M)=(aC M).syms++bo (am M):=by simp[bo]
 rw[e,a3p]at h2;exact h2.2.1
theorem BI{α:Type}(f:α->Nat){A B:List α}(h:A.Perm B):(A.map f).sum=(B.map f).sum:=by
 induction h with
 | nil=>rfl
 | cons x _ ih=>simp only[a0K,a0R];omega
 | swap x y l=>simp only[a0K,a0R];omega
 | trans _ _ h1 h2=>omega
def pd:Nat->List Grp->Int
 | 0,_=>0
 | n+1,M=>if 1<M.length then(aC M).cnt+(aC (am M)).cnt+pd n (stepG M)else 0
theorem gW{l:List Int}{k:Nat}(h:0<l.getD k 0):az l (k+1)=az l k++[⟨l.getD k 0,(k:Int),[(k:Int)],.slice none 0 0⟩]:=by simp only[az];rw[a0d h]
theorem lm{l:List Int}{k:Nat}(h:¬ 0<l.getD k 0):az l (k+1)=az l k:=by simp only[az];rw[a0e h]
def krR(l:List Int)(len:Nat->Nat)(D:Nat):Nat->Nat
 | 0=>0
 | n+1=>krR l len D n+(if 0<l.getD n 0 then 2 ^ (D-len n)else 0)
theorem nR(l:List Int)(k:Nat):∀g∈az l k,0<=g.cnt/\∃i:Nat,g.fst=(i:Int)/\i<k/\0<l.getD i 0/\g.cnt=l.getD i 0/\g.syms=[(i:Int)]:=by
 induction k with
 | zero=>intro g hg;simp[az]at hg
 | succ k ih=>
  intro g hg;by_cases hp:0<l.getD k 0
  ·
   rw[gW hp]at hg;simp only[a0U,a00]at hg;rcases hg with hg|rfl
   · obtain⟨h1,i,h2,h3,h4⟩:=ih g hg;exact⟨h1,i,h2,by omega,h4⟩
   · exact⟨by simp only;omega,k,rfl,by omega,hp,rfl,rfl⟩
  · rw[lm hp]at hg;obtain⟨h1,i,h2,h3,h4⟩:=ih g hg;exact⟨h1,i,h2,by omega,h4⟩
theorem rZ(l:List Int)(len:Nat->Nat)(D k:Nat):((bo (az l k)).map fun s=>2 ^ (D-len s.toNat)).sum=krR l len D k:=by
 induction k with
 | zero=>rfl
 | succ k ih=>
  simp only[krR];by_cases h:0<l.getD k 0
  · rw[a0d h,←ih,gW h];simp[bo]
  · rw[a0e h,←ih,lm h];simp
theorem vz(l:List Int)(k:Nat)(x:Int):x∈bo (az l k)<->∃i:Nat,x=(i:Int)/\i<k/\0<l.getD i 0:=by
 constructor
 · intro h;obtain⟨g,hg,hx⟩:=List.mem_flatMap.1 h;obtain⟨_,i,h1,h2,h3,_,h5⟩:=nR l k g hg;rw[h5]at hx;simp only[a00]at hx;exact⟨i,hx,h2,h3⟩
 ·
  rintro⟨i,rfl,hi,hp⟩;induction k with
  | zero=>omega
  | succ k ih=>
   by_cases e:i=k
   · subst e;rw[gW hp];simp[bo]
   ·
    have:=ih (by omega);by_cases h:0<l.getD k 0
    · rw[gW h];simp only[bo,a2B,a0U];exact .inl this
    · rw[lm h];exact this
/-! What holds behind so many steps. -/
def iV(l s:List Int):Int:=(s.map fun x=>l.getD x.toNat 0).sum
theorem mq(l a b:List Int):iV l (a++b)=iV l a+iV l b:=by simp[iV]
theorem zx(l:List Int)(k:Nat)(hk:k<(az l l.length).length∨k=0):∀g∈(aw l k).1,g.cnt=iV l g.syms:=by
 induction k with
 | zero=>
  intro g hg;obtain⟨_,i,h1,h2,h3,h4,h5⟩:=nR l l.length g hg;rw[h4,h5];simp[iV]
 | succ k ih=>
  have hlen:1<(aw l k).1.length:=by have:=(bT l k (by omega)).2.2.2;omega
  have hr:=da (aw l k).1 (by omega);have ih':=ih (by omega);intro g hg;have hg':g∈stepG (aw l k).1:=hg;simp only[stepG,a0U,a00]at hg';rcases hg' with hg'|rfl
  · exact ih' g (be _ _ (be _ _ hg'))
  · simp only[dh];rw[mq,ih' _ (bv _ (by omega)),ih' _ (be _ _ (bv (am _) (by omega)))]
def nn(l o:List Int):Nat->Int
 | 0=>0
 | n+1=>nn l o n+l.getD n 0*o.getD n 0
theorem Ay(l o:List Int)(s:Int)(h0:0<=s)(n:Nat)(hn:n<=o.length):nn l (eu o s) n=nn l o n+(if s<(n:Int)then l.getD s.toNat 0 else 0):=by
 induction n with
 | zero=>simp only[nn];rw[a0e (by omega)];rfl
 | succ n ih=>
  simp only[nn];rw[ih (by omega),sw o s n h0 (by omega)];by_cases e:s=(n:Int)
  · subst e;rw[a0e (by omega),a0d rfl,a0d (by omega),Int.mul_add,Int.mul_one,a0y];omega
  ·
   rw[a0e e,Int.add_zero];by_cases h:s<(n:Int)
   · rw[a0d h,a0d (by omega)];omega
   · rw[a0e h,a0e (by omega)];omega
theorem De(l s:List Int)(n:Nat):∀(o:List Int),n<=o.length->(∀x∈s,0<=x/\x<(n:Int))->nn l (bump o s) n=nn l o n+iV l s:=by
 induction s with
 | nil=>intro o _ _;simp[bump,iV]
 | cons x s ih=>
  intro o hn hs;show nn l (bump (eu o x) s) n=_;rw[ih (eu o x) (by rw[lz];exact hn) (fun y hy=>hs y (by simp[hy])),Ay l o x (hs x (by simp)).1 n hn,a0d (hs x (by simp)).2];simp only[iV,a0K,a0R];omega
theorem Df(l:List Int)(m n:Nat):nn l (List.replicate m 0) n=0:=by
 induction n with
 | zero=>rfl
 | succ n ih=>
  simp only[nn];rw[ih];have:(List.replicate m (0:Int)).getD n 0=0:=by
   rw[List.getD_eq_getElem?_getD,List.getElem?_replicate]
   split<;>rfl
  rw[this];omega
theorem FY(l:List Int)(k:Nat)(hk:k<(az l l.length).length∨k=0):nn l (aw l k).2 l.length+pd ((az l l.length).length-1-k) (aw l k).1=pd ((az l l.length).length-1) (az l l.length):=by
 induction k with
 | zero=>
  show nn l (List.replicate l.length 0) l.length+pd _ (az l l.length)=_;rw[Df,Int.zero_add,Nat.sub_zero]
 | succ k ih=>
  have ih':=ih (by omega);have hlen:1<(aw l k).1.length:=by have:=(bT l k (by omega)).2.2.2;omega
  have hr:=da (aw l k).1 (by omega);obtain⟨m,hm⟩:∃m,(az l l.length).length-1-k=m+1:=⟨(az l l.length).length-1-k-1,by omega⟩;have hm2:(az l l.length).length-1-(k+1)=m:=by omega
  rw[hm]at ih';rw[hm2];simp only[pd]at ih';rw[a0d hlen]at ih';have hsy:∀x∈bf (aw l k).1,0<=x/\x<(l.length:Int):=by
   intro x hx;have hf:=(fJ l k (by omega)).2;exact hf x ((ip _ hlen).mem_iff.1 (by simp[hx]))
  have h1:=De l (bf (aw l k).1) l.length (aw l k).2 (by rw[dD];exact a0a _) hsy;have h2:=zx l k (by omega) _ (bv (aw l k).1 (by omega));have h3:=zx l k (by omega) _ (be _ _ (bv (am (aw l k).1) (by omega)));have h4:iV l (bf (aw l k).1)=(aC (aw l k).1).cnt+(aC (am (aw l k).1)).cnt:=by
   unfold bf;rw[mq,←h2,←h3]
  show nn l (bump (aw l k).2 (bf (aw l k).1)) l.length+pd m (stepG (aw l k).1)=_;rw[h1,h4];omega
def mC(o s:List Int)(D:Nat):Nat:=(s.map fun x=>2 ^ (D-(o.getD x.toNat 0).toNat)).sum
theorem vO(o a b:List Int)(D:Nat):mC o (a++b) D=mC o a D+mC o b D:=by simp[mC]
theorem A9{o o' s:List Int}{D:Nat}(h:∀x∈s,o'.getD x.toNat 0=o.getD x.toNat 0):mC o' s D=mC o s D:=by
 unfold mC
 congr 1
 apply List.map_congr_left;intro x hx;rw[h x hx]
theorem AZ{o o' s:List Int}{D:Nat}(h:∀x∈s,0<=o.getD x.toNat 0/\o.getD x.toNat 0<(D:Int)/\o'.getD x.toNat 0=o.getD x.toNat 0+1):2*mC o' s D=mC o s D:=by
 induction s with
 | nil=>rfl
 | cons x s ih=>
  have ih':=ih (fun y hy=>h y (by simp[hy]));obtain⟨h1,h2,h3⟩:=h x (by simp);simp only[mC,a0K,a0R]at ih' ⊢;rw[h3];obtain⟨d,hd⟩:∃d,D-(o.getD x.toNat 0).toNat=d+1:=⟨D-(o.getD x.toNat 0).toNat-1,by omega⟩;have hd2:D-(o.getD x.toNat 0+1).toNat=d:=by omega
  rw[hd,hd2,a10];omega
theorem FZ(l:List Int)(D:Nat)(hD:(az l l.length).length<=D)(k:Nat)(hk:k<(az l l.length).length∨k=0):∀g∈(aw l k).1,mC (aw l k).2 g.syms D=2 ^ D:=by
 induction k with
 | zero=>
  intro g hg;obtain⟨_,i,h1,h2,h3,h4,h5⟩:=nR l l.length g hg;rw[h5];show mC (List.replicate l.length 0) [(i:Int)] D=2 ^ D;simp[mC,List.getD,h2]
 | succ k ih=>
  have hlen:1<(aw l k).1.length:=by have:=(bT l k (by omega)).2.2.2;omega
  have hr:=da (aw l k).1 (by omega);have ih':=ih (by omega);have hfl:=fJ l k (by omega);obtain⟨hnd,hdis⟩:=io hlen hfl.1;have hdep:=jJ l k (by omega);have hin:∀x∈bf (aw l k).1,0<=x/\x<(l.length:Int):=fun x hx=>hfl.2 x ((ip _ hlen).mem_iff.1 (by simp[hx]));have hget:=fun(x:Int) (h0:0<=x) (h1:x<(l.length:Int))=>kz (aw l k).2 (bf (aw l k).1) x.toNat hnd (fun y hy=>(hin y hy).1) (by rw[dD];omega);intro g hg;show mC (bump (aw l k).2 (bf (aw l k).1)) g.syms D=2 ^ D;have hg':g∈stepG (aw l k).1:=hg;simp only[stepG,a0U,a00]at hg';rcases hg' with hg'|rfl
  ·
   rw[A9 (o:=(aw l k).2)]
   · exact ih' g (be _ _ (be _ _ hg'))
   · intro x hx;have hxf:x∈bo (aw l k).1:=List.mem_flatMap.2 ⟨g,be _ _ (be _ _ hg'),hx⟩;obtain⟨x0,x1⟩:=hfl.2 x hxf;rw[hget x x0 x1,Int.toNat_of_nonneg x0,a0e (hdis g hg' x hx),Int.add_zero]
  ·
   have hj:(dh (aC (aw l k).1) (aC (am (aw l k).1))).syms=bf (aw l k).1:=rfl;rw[hj];have hha:=AZ (o:=(aw l k).2) (o':=bump (aw l k).2 (bf (aw l k).1)) (s:=bf (aw l k).1) (D:=D) (by
    intro x hx;obtain⟨x0,x1⟩:=hin x hx;have hd:=hdep x.toNat (by rw[dD];omega);refine⟨hd.1,by omega,?_⟩;rw[hget x x0 x1,Int.toNat_of_nonneg x0,a0d hx])
   have h2:mC (aw l k).2 (bf (aw l k).1) D=2 ^ D+2 ^ D:=by
    unfold bf;rw[vO,ih' _ (bv _ (by omega)),ih' _ (be _ _ (bv (am _) (by omega)))]
   omega
end Go.Proofs.YtbacpebljannfaaGreatDoor
namespace Go.Proofs.YtbacpebljannfaaGreatDoor
open Go.RowKit Corb
def cH(w:World)(b base:Nat)(v:Value)(L:List Grp):Prop:=w.heap[b]?=some (Obj.cells #[v] 250)/\cq 230 w base v L
theorem cH.cell{w:World}{b base:Nat}{v:Value}{L:List Grp}(h:cH w b base v L):w.cell? ⟨b,0,none⟩=some v:=by simp[World.cell?,h.1]
theorem cH.frz{w:World}{b base:Nat}{v:Value}{L:List Grp}(h:cH w b base v L):w.frozen? ⟨b,0,none⟩=false:=by simp[World.frozen?,h.1]
theorem cH.lt{w:World}{b base:Nat}{v:Value}{L:List Grp}(h:cH w b base v L):b<w.heap.size:=(Array.getElem?_eq_some_iff.1 h.1).1
theorem gP(b base n cap:Nat)(a:Option Addr)(L:List Grp)(w:World)(h:cH w b base (.slice a n cap) L) :
  Calls Tryz.prog 181 #[.pointer (some ⟨b,0,none⟩)] w fun e w'=>e = .returned (.int .i64 (n:Nat))/\w'=w:=by
 have c0:=h.cell;clear h;go_enter Tryz.func181,Tryz.ntmps181;go_wp2;go_ret;exact⟨rfl,rfl⟩
set_option maxRecDepth 100000 in
theorem ia(b base ob g n cap i j:Nat)(L:List Grp)(w:World)(hS:dz w ob L)(hn:L.length=n)(hm:n<=300)(h:cH w b base (.slice (some ⟨g,0,none⟩) n cap) L)(hi:i<n)(hj:j<n) :
  Calls Tryz.prog 257 #[.pointer (some ⟨b,0,none⟩),.int .i64 (i:Nat),.int .i64 (j:Nat)] w fun e w'=>e = .returned (.bool (aY (L.getD i g0) (L.getD j g0)))/\Below w.heap.size w w':=by
 have c0:=h.cell;obtain⟨a0,a1,a2,_,hg⟩:=h.2.at hn i hi;obtain⟨d0,d1,d2,_,_⟩:=h.2.at hn j hj;have hbw:b<w.heap.size:=World.block_lt_of_cell? w ⟨b,0,none⟩ c0;obtain⟨xa,xq,hxv⟩:=(hS (L.getD i g0) (eK L i (by omega))).form;obtain⟨ya,yq,hyv⟩:=(hS (L.getD j g0) (eK L j (by omega))).form;have hiI:(i:Int)<(n:Int):=by omega
 have hjI:(j:Int)<(n:Int):=by omega
 have hmI:(n:Int)<=300:=by omega
 rw[hxv]at a2;rw[hyv]at d2;clear h hn hm hi hj hxv hyv hS;generalize L.getD i g0=x at *
 generalize L.getD j g0=y at *
 obtain⟨xc,xf,xs,xv⟩:=x;obtain⟨yc,yf,ys,yv⟩:=y;simp only at a0 a1 a2 d0 d1 d2;generalize xs.length=xn at *
 generalize ys.length=yn at *
 go_enter Tryz.func257,Tryz.ntmps257;go_wp2_with fail
 go_region
 all_goals
  by_cases he:xc=yc
  · subst he;go_wp2;go_ret;exact⟨congrArg (fun x=>Ending.returned (.bool x)) (by simp[aY]),(((a0c _ _).alloc (a0a _) _).alloc (by simp) _).drew⟩
  ·
   have hne:(xc == yc)=false:=by simpa using he
   go_wp2;go_ret;exact⟨congrArg (fun x=>Ending.returned (.bool x)) (by simp[aY,he]),(((a0c _ _).alloc (a0a _) _).alloc (by simp) _).drew⟩
end Go.Proofs.YtbacpebljannfaaGreatDoor
namespace Go.Proofs.YtbacpebljannfaaGreatDoor
open Go.RowKit
theorem bq.ints{w w':World}{base:Nat}{v:Value}{l:List Int}(h:bq 3 w w')(ho:ak w base v l):ak w' base v l:=h.own ho
theorem bq.syms{w w':World}{ob:Nat}{l:List Grp}(h:bq 3 w w')(hs:dz w ob l):dz w' ob l:=fun g hg=>h.ints (hs g hg)
theorem dz.perm{w:World}{ob:Nat}{l m:List Grp}(h:dz w ob l)(hp:m.Perm l):dz w ob m:=fun g hg=>h g (hp.mem_iff.1 hg)
def bA(g:Nat)(w w':World):Prop:=bq 3 w w'/\w.heap.size<=w'.heap.size/\∀k,k<w.heap.size->k≠g->w'.heap[k]?=w.heap[k]?
theorem bA.refl(g:Nat)(w:World):bA g w w:=⟨bq.refl _ _,a0a _,fun _ _ _=>rfl⟩
theorem bA.trans{g:Nat}{w w1 w2:World}(h:bA g w w1)(k:bA g w1 w2):bA g w w2:=
 ⟨h.1.trans k.1,a0I h.2.1 k.2.1,fun j hj hg=>(k.2.2 j (a0f hj h.2.1) hg).trans (h.2.2 j hj hg)⟩
theorem bA.below{g:Nat}{w w':World}(h:Below w.heap.size w w'):bA g w w':=⟨bq.below h,h.size,fun j hj _=>h.block j hj⟩
theorem bA.syms{g:Nat}{w w':World}{ob:Nat}{l:List Grp}(h:bA g w w')(hs:dz w ob l):dz w' ob l:=h.1.syms hs
theorem bA.drew{g:Nat}{w w':World}(h:bA g w w'):bA g w w'.drew:=h
theorem bA.touch{t':TypeId}{w w':World}{g:Nat}{c:Array Value}{f:Nat×Nat}(hg:w.heap[g]?=some (.cells c t' f))(hne:3≠t')(ht:Touch (some ⟨g,0,none⟩) w w'):bA g w w':=
 ⟨bq.touch hg hne ht,Nat.le_of_eq ht.1.symm,fun j _ hj=>ht.2 j (fun g' e=>by simp only[a0n,a0z,a0Q]at e;omega)⟩
end Go.Proofs.YtbacpebljannfaaGreatDoor
namespace Go.Proofs.YtbacpebljannfaaGreatDoor
open Go.RowKit Corb
theorem y9(l:List Grp)(j:Nat)(x:Grp):(((aS l).set (j*3) (.int .i64 x.cnt)).set (j*3+1) (.int .i64 x.fst)).set (j*3+2) x.val=aS (l.set j x):=by
 induction l generalizing j with
 | nil=>simp[aS]
 | cons p l ih=>
  cases j with
  | zero=>simp[aS]
  | succ j=>
   rw[show(j+1)*3=j*3+1+1+1 by omega];simp only[aS,List.set_cons_succ];rw[ih j]
theorem cq.put{t:TypeId}{w:World}{base g cap n:Nat}{l:List Grp}(hn:l.length=n)(h:cq t w base (.slice (some ⟨g,0,none⟩) n cap) l)(j:Nat)(x:Grp) :
  cq t (((w.setCell ⟨g,j*3,none⟩ (.int .i64 x.cnt)).setCell ⟨g,j*3+1,none⟩ (.int .i64 x.fst)).setCell ⟨g,j*3+2,none⟩ x.val) base (.slice (some ⟨g,0,none⟩) n cap) (l.set j x):=by
 subst hn;have h1:=(a1O h (j*3) (.int .i64 x.cnt)).1;have h2:=(a1O h1 (j*3+1) (.int .i64 x.fst)).1;have h3:=(a1O h2 (j*3+2) x.val).1;rw[y9]at h3;show World.ownsRow _ _ _ _ _ (l.set j x).length _;rw[a18];exact h3
theorem cq.frozen{t:TypeId}{w:World}{base g cap n:Nat}{l:List Grp}(hn:l.length=n)(h:cq t w base (.slice (some ⟨g,0,none⟩) n cap) l)(j:Nat):w.frozen? ⟨g,j,none⟩=false:=by
 subst hn;exact a2w h j
theorem Touch.drew{a:Option Addr}{w w':World}(h:Touch a w w'):Touch a w w'.drew:=h
theorem cq.drew{t:TypeId}{w:World}{base:Nat}{v:Value}{l:List Grp}(h:cq t w base v l):cq t w.drew base v l:=h
theorem cH.drew{w:World}{b base:Nat}{v:Value}{L:List Grp}(h:cH w b base v L):cH w.drew b base v L:=⟨h.1,h.2.drew⟩
set_option maxRecDepth 100000 in
theorem lp(b base ob g n cap i j:Nat)(L:List Grp)(w:World)(hS:dz w ob L)(hn:L.length=n)(hm:n<=300)(h:cH w b base (.slice (some ⟨g,0,none⟩) n cap) L)(hbb:b<base)(hi:i<n)(hj:j<n) :
  Calls Tryz.prog 204 #[.pointer (some ⟨b,0,none⟩),.int .i64 (i:Nat),.int .i64 (j:Nat)] w fun e w'=>e = .returned (.tuple #[])/\cH w' b base (.slice (some ⟨g,0,none⟩) n cap) (cN L i j)/\Below b w w'/\bA g w w':=by
 have c0:=h.cell;have hgl:=(a0G h.2 g rfl).1;have hbg:b≠g:=by omega
 obtain⟨gc,hgc⟩:=BN (n:=n) (by have h2:=h.2;unfold cq at h2;rw[hn]at h2;exact h2) rfl;have HGC:=af hgc;clear hgc;obtain⟨a0,a1,a2,_,hg⟩:=h.2.at hn i hi;obtain⟨d0,d1,d2,_,_⟩:=h.2.at hn j hj;have f0:=h.2.frozen hn (i*3);have f1:=h.2.frozen hn (i*3+1);have f2:=h.2.frozen hn (i*3+2);have k0:=h.2.frozen hn (j*3);have k1:=h.2.frozen hn (j*3+1);have k2:=h.2.frozen hn (j*3+2);have hbw:b<w.heap.size:=World.block_lt_of_cell? w ⟨b,0,none⟩ c0;obtain⟨xa,xq,hxv⟩:=(hS (L.getD i g0) (eK L i (by omega))).form;obtain⟨ya,yq,hyv⟩:=(hS (L.getD j g0) (eK L j (by omega))).form;have hiI:(i:Int)<(n:Int):=by omega
 have hjI:(j:Int)<(n:Int):=by omega
 have hmI:(n:Int)<=300:=by omega
 rw[hxv]at a2;rw[hyv]at d2;have H:=af h;have Hn:=af hn;clear h hn hm hi hj hS;have HX:=af hxv;have HY:=af hyv;have hgb:g≠b:=fun e=>hbg e.symm;clear hxv hyv;generalize hx:L.getD i g0=x at *
 generalize hy:L.getD j g0=y at *
 obtain⟨xc,xf,xs,xv⟩:=x;obtain⟨yc,yf,ys,yv⟩:=y;simp only at a0 a1 a2 d0 d1 d2;generalize xs.length=xn at *
 generalize ys.length=yn at *
 have Hx:=af hx;have Hy:=af hy;clear hx hy;go_enter Tryz.func204,Tryz.ntmps204;go_wp2_with fail;have ex:Hid (L.getD i g0=⟨xc,xf,xs,.slice xa xn xq⟩):=by
  have e:xv = .slice xa xn xq:=ae HX;show L.getD i g0=_;rw[ae Hx,e]
 have ey:Hid (L.getD j g0=⟨yc,yf,ys,.slice ya yn yq⟩):=by
  have e:yv = .slice ya yn yq:=ae HY;show L.getD j g0=_;rw[ae Hy,e]
 have hT:=af (cq.put (by rw[a18];exact ae Hn) (cq.put (ae Hn) (ae H).2 i ⟨yc,yf,ys,.slice ya yn yq⟩) j ⟨xc,xf,xs,.slice xa xn xq⟩);have hTo:=af (((((((Touch.refl (some ⟨g,0,none⟩) w).set (o:=i*3) rfl (.int .i64 yc)).set (o:=i*3+1) rfl (.int .i64 yf)).set (o:=i*3+2) rfl (.slice ya yn yq)).set (o:=j*3) rfl (.int .i64 xc)).set (o:=j*3+1) rfl (.int .i64 xf)).set (o:=j*3+2) rfl (.slice xa xn xq));have hBe:=af ((ag (ag (ag (ag (ag (ag (a0c b w) (b:=g) (o:=i*3) (by omega) (.int .i64 yc)) (b:=g) (o:=i*3+1) (by omega) (.int .i64 yf)) (b:=g) (o:=i*3+2) (by omega) (.slice ya yn yq)) (b:=g) (o:=j*3) (by omega) (.int .i64 xc)) (b:=g) (o:=j*3+1) (by omega) (.int .i64 xf)) (b:=g) (o:=j*3+2) (by omega) (.slice xa xn xq)));have hKe:=af (bA.touch (ae HGC) (by decide) (ae hTo));have hCe:=af (((ae hTo).2 b (fun g' e=>by simp only[a0n,a0z,a0Q]at e;omega)).trans (ae H).1);have hAll:Hid (cH ((((((w.setCell ⟨g,i*3,none⟩ (.int .i64 yc)).setCell ⟨g,i*3+1,none⟩ (.int .i64 yf)).setCell ⟨g,i*3+2,none⟩ (.slice ya yn yq)).setCell ⟨g,j*3,none⟩ (.int .i64 xc)).setCell ⟨g,j*3+1,none⟩ (.int .i64 xf)).setCell ⟨g,j*3+2,none⟩ (.slice xa xn xq)) b base (.slice (some ⟨g,0,none⟩) n cap) ((L.set i ⟨yc,yf,ys,.slice ya yn yq⟩).set j ⟨xc,xf,xs,.slice xa xn xq⟩)):=⟨ae hCe,ae hT⟩;clear H;have hSw:Hid (cN L i j=(L.set i ⟨yc,yf,ys,.slice ya yn yq⟩).set j ⟨xc,xf,xs,.slice xa xn xq⟩):=by
  show cN L i j=_;unfold cN;rw[ae ex,ae ey]
 by_cases hij:i=j
 ·
  subst hij;have exy:=(ae ex).symm.trans (ae ey);simp only[Grp.mk.injEq,a0O]at exy;obtain⟨rfl,rfl,rfl,rfl,rfl,rfl⟩:=exy
  go_region
  all_goals
   go_wp2
   go_end0
   refine⟨rfl,?_,(ae hBe).drew,(ae hKe).drew⟩;rw[ae hSw];exact(ae hAll).drew
 ·
  have hji:¬ j=i:=fun e=>hij e.symm;have q1:¬ j*3=i*3+1:=by omega
  have q2:¬ j*3=i*3+2:=by omega
  have q3:¬ j*3+1=i*3:=by omega
  have q4:¬ j*3+1=i*3+2:=by omega
  have q5:¬ j*3+2=i*3:=by omega
  have q6:¬ j*3+2=i*3+1:=by omega
  have q7:¬ j*3=i*3:=by omega
  have q8:¬ j*3+1=i*3+1:=by omega
  have q9:¬ j*3+2=i*3+2:=by omega
  go_region
  all_goals
   go_wp2
   go_end0
   refine⟨rfl,?_,(ae hBe).drew,(ae hKe).drew⟩;rw[ae hSw];exact(ae hAll).drew
theorem Ea(a:Addr)(w:World):(method 398 227 (.pointer (some a)) "loop.example/corbel/impl.size").run Tryz.prog w = .ok (181,.pointer (some a)) w:=by kernel_rfl
theorem rp(a:Addr)(w:World):(method 398 227 (.pointer (some a)) "loop.example/corbel/impl.before").run Tryz.prog w = .ok (257,.pointer (some a)) w:=by kernel_rfl
theorem wt(a:Addr)(w:World):(method 398 227 (.pointer (some a)) "loop.example/corbel/impl.swap").run Tryz.prog w = .ok (204,.pointer (some a)) w:=by kernel_rfl
theorem cH.later{w w':World}{b base:Nat}{v:Value}{L:List Grp}(h:cH w b base v L)(hb:Below w.heap.size w w'):cH w' b base v L:=
 ⟨(hb.block b h.lt).trans h.1,h.2.later hb (a0a _)⟩
set_option maxRecDepth 100000 in
theorem ue(b g n cap p:Nat)(L:List Grp)(w:World)(hS:dz w (b+1) L)(hn:L.length=n)(hm:n<=300)(h:cH w b (b+1) (.slice (some ⟨g,0,none⟩) n cap) L)(hp:p<n)(hu:UpI L p) :
  Calls Tryz.prog 206 #[.iface 227 (.pointer (some ⟨b,0,none⟩)),.int .i64 (p:Nat)] w fun e w'=>e = .returned (.tuple #[])/\∃M:List Grp,M.Perm L/\HP M/\cH w' b (b+1) (.slice (some ⟨g,0,none⟩) n cap) M/\Below b w w'/\bA g w w':=by
 have m1:=rp ⟨b,0,none⟩;have m2:=wt ⟨b,0,none⟩;have hmI:(n:Int)<=300:=by omega
 have HS:=af hS;have HN:=af (a0b hn hm);have H0:=af (a0b h (a0b hp hu));clear hS hn hm h hp hu;go_enter Tryz.func206,Tryz.ntmps206;go_wp2_with fail
 go_loopw [1] (fun p wr=>∃(k:Nat) (M:List Grp),p = .int .i64 k/\k<n/\M.Perm L/\UpI M k/\cH wr b (b+1) (.slice (some ⟨g,0,none⟩) n cap) M/\Below b w wr/\bA g w wr) (fun p _=>(intOf p).toNat)
 case atStart=>exact⟨p,L,rfl,(ae H0).2.1,a2c _,(ae H0).2.2,(ae H0).1,a0c _ _,bA.refl _ _⟩
 case round=>
  obtain⟨k,M,rfl,hk,hM,hu,hh,hbel,hke⟩:=hrel;have hkI:(k:Int)<(n:Int):=by omega
  have hMn:M.length=n:=hM.length_eq.trans (ae HN).1;have HQ:=af (a0b hk (a0b hM (a0b hu (a0b hh (a0b hbel (a0b hke hMn))))));by_cases h0:k=0
  ·
   subst h0;clear hk hM hu hh hbel hke hMn;go_wp2
   go_end0
   obtain⟨hk,hM,hu,hh,hbel,hke,hMn⟩:=ae HQ;exact⟨rfl,M,hM,Fv hu (.inl rfl),hh,hbel,hke⟩
  ·
   have hsy:dz wr (b+1) M:=(hke.syms (ae HS)).perm hM;obtain⟨q,hq⟩:∃q,q=(k-1)/2:=⟨_,rfl⟩;have hqI:((k:Int)-1)/2=(q:Int):=by omega
   have hq0:(q:Int)<(n:Int):=by omega
   have h1I:(1:Int)<=(k:Int):=by omega
   have HB:=af (ia b (b+1) (b+1) g n cap k q M wr hsy hMn (ae HN).2 hh hk (by omega));have HQQ:=af hq;clear hk hM hu hh hbel hke hMn hq;cases hl:aY (M.getD k g0) (M.getD q g0)
   ·
    rw[hl]at HB;have HL:=af hl;clear hl;go_wp2_with fail;refine(ae HB).mono ?_;rintro e x1 ⟨rfl,hb1⟩;go_wp2
    go_end0
    obtain⟨hk,hM,hu,hh,hbel,hke,hMn⟩:=ae HQ;exact⟨rfl,M,hM,Fv hu (.inr (by rw[←ae HQQ];exact ae HL)),hh.later hb1,hbel.trans (hb1.mono (a0k (hh.lt))),hke.trans (bA.below hb1)⟩
   ·
    rw[hl]at HB;have HL:=af hl;clear hl;go_wp2_with fail;refine(ae HB).mono ?_;rintro e x1 ⟨rfl,hb1⟩;have HW:Hid (Calls Tryz.prog 204 #[.pointer (some ⟨b,0,none⟩),.int .i64 (k:Nat),.int .i64 (q:Nat)] x1 fun e w'=>e = .returned (.tuple #[])/\cH w' b (b+1) (.slice (some ⟨g,0,none⟩) n cap) (cN M k q)/\Below b x1 w'/\bA g x1 w'):=by
     obtain⟨hk,hM,hu,hh,hbel,hke,hMn⟩:=ae HQ;exact lp b (b+1) (b+1) g n cap k q M x1 (((hke.trans (bA.below hb1)).syms (ae HS)).perm hM) hMn (ae HN).2 (hh.later hb1) (a0j _) hk (by omega)
    go_wp2_with fail;refine(ae HW).mono ?_;rintro e x2 ⟨rfl,hh2,hb2,hk2⟩;go_wp2;go_roundw
    case rel=>
     obtain⟨hk,hM,hu,hh,hbel,hke,hMn⟩:=ae HQ;have hq:=ae HQQ;refine⟨q,cN M k q,by first|rfl|go_num,by omega,(fT (by omega) (by omega)).trans hM,?_,hh2,(hbel.trans (hb1.mono (a0k (hh.lt)))).trans hb2,(hke.trans (bA.below hb1)).trans hk2⟩;subst hq;exact GF hu (by omega) (by omega) (ae HL)
    case measure=>
     have hq:=ae HQQ;simp[intOf];omega
theorem uL{L:List Grp}{k c:Nat}(hc:(c=2*k+1/\(L.length<=2*k+2∨aY (L.getD (2*k+2) g0) (L.getD (2*k+1) g0)=false))∨(c=2*k+2/\aY (L.getD (2*k+2) g0) (L.getD (2*k+1) g0)=true)) :
  ∀i,0<i->i<L.length->(i-1)/2=k->aY (L.getD i g0) (L.getD c g0)=false:=by
 intro i i0 hi hp;have hi2:i=2*k+1∨i=2*k+2:=by omega
 rcases hc with⟨rfl,h|h⟩|⟨rfl,h⟩
 ·
  rcases hi2 with rfl|rfl
  · exact fj _
  · omega
 ·
  rcases hi2 with rfl|rfl
  · exact fj _
  · exact h
 ·
  rcases hi2 with rfl|rfl
  · exact mF h
  · exact fj _
set_option maxRecDepth 100000 in
theorem uf(b g n cap p:Nat)(L:List Grp)(w:World)(hS:dz w (b+1) L)(hn:L.length=n)(hm:n<=300)(h:cH w b (b+1) (.slice (some ⟨g,0,none⟩) n cap) L)(hp:p<=n)(hu:DnI L p) :
  Calls Tryz.prog 205 #[.iface 227 (.pointer (some ⟨b,0,none⟩)),.int .i64 (p:Nat)] w fun e w'=>e = .returned (.tuple #[])/\∃M:List Grp,M.Perm L/\HP M/\cH w' b (b+1) (.slice (some ⟨g,0,none⟩) n cap) M/\Below b w w'/\bA g w w':=by
 have m1:=rp ⟨b,0,none⟩;have m2:=wt ⟨b,0,none⟩;have m3:=Ea ⟨b,0,none⟩;have hmI:(n:Int)<=300:=by omega
 have HS:=af hS;have HN:=af (a0b hn hm);have H0:=af (a0b h (a0b hp hu));clear hS hn hm h hp hu;go_enter Tryz.func205,Tryz.ntmps205;go_wp2_with fail
 go_loopw [1,4] (fun p _ wr=>∃(k:Nat) (M:List Grp),p = .int .i64 k/\k<=n/\M.Perm L/\DnI M k/\cH wr b (b+1) (.slice (some ⟨g,0,none⟩) n cap) M/\Below b w wr/\bA g w wr) (fun p _ _=>n-(intOf p).toNat)
 case atStart=>exact⟨p,L,rfl,(ae H0).2.1,a2c _,(ae H0).2.2,(ae H0).1,a0c _ _,bA.refl _ _⟩
 case round=>
  obtain⟨k,M,rfl,hk,hM,hu,hh,hbel,hke⟩:=hrel;have hkI:(k:Int)<=(n:Int):=by omega
  have hMn:M.length=n:=hM.length_eq.trans (ae HN).1;have HQ:=af (a0b hk (a0b hM (a0b hu (a0b hh (a0b hbel (a0b hke hMn))))));have HZ:=af (gP b (b+1) n cap _ M wr hh);have hsy:dz wr (b+1) M:=(hke.syms (ae HS)).perm hM;obtain⟨c1,hc1⟩:∃q,q=2*k+1:=⟨_,rfl⟩;have hc1I:2*(k:Int)+1=(c1:Int):=by omega
  have HC1:=af hc1;by_cases h1:c1<n
  ·
   have h1I:(c1:Int)<(n:Int):=by omega
   obtain⟨c2,hc2⟩:∃q,q=2*k+2:=⟨_,rfl⟩;have hc2I:(c1:Int)+1=(c2:Int):=by omega
   have HC2:=af hc2;by_cases h2:c2<n
   ·
    have h2I:(c2:Int)<(n:Int):=by omega
    have HB:=af (ia b (b+1) (b+1) g n cap c2 c1 M wr hsy hMn (ae HN).2 hh h2 h1);clear hk hM hu hh hbel hke hMn hc1 hc2 h1 h2 hsy;cases hl:aY (M.getD c2 g0) (M.getD c1 g0)
    ·
     rw[hl]at HB;have HL:=af hl;clear hl;go_wp2_with fail;refine(ae HZ).mono ?_;rintro e y1 ⟨rfl,hy1⟩;rw[hy1];clear hy1 y1;go_wp2_with fail;refine(ae HZ).mono ?_;rintro e y1 ⟨rfl,hy1⟩;rw[hy1];clear hy1 y1;go_wp2_with fail;refine(ae HB).mono ?_;rintro e x1 ⟨rfl,hb1⟩;have HX:Hid (cH x1 b (b+1) (.slice (some ⟨g,0,none⟩) n cap) M/\Below b w x1/\bA g w x1/\c1<n/\0<c1/\(c1-1)/2=k/\(∀i,0<i->i<M.length->(i-1)/2=k->aY (M.getD i g0) (M.getD c1 g0)=false)):=by
      obtain⟨hk,hM,hu,hh,hbel,hke,hMn⟩:=ae HQ;refine⟨(hh.later hb1),(hbel.trans (hb1.mono (a0k (hh.lt)))),(hke.trans (bA.below hb1)),by omega,?_,?_,uL (k:=k) (.inl ⟨ae HC1,.inr (by rw[←ae HC1,←ae HC2];exact ae HL)⟩)⟩
      · have:=ae HC1;omega
      · have:=ae HC1;omega
     have HB2:Hid (Calls Tryz.prog 257 #[.pointer (some ⟨b,0,none⟩),.int .i64 (c1:Nat),.int .i64 (k:Nat)] x1 fun e w'=>e = .returned (.bool (aY (M.getD c1 g0) (M.getD k g0)))/\Below (x1).heap.size x1 w'):=by
      obtain⟨hk,hM,hu,hh,hbel,hke,hMn⟩:=ae HQ;obtain⟨xh,xb,xk,xc,xc0,xp,xm⟩:=ae HX;exact ia b (b+1) (b+1) g n cap c1 k M x1 ((xk.syms (ae HS)).perm hM) hMn (ae HN).2 xh xc (by omega)
     cases hl2:aY (M.getD c1 g0) (M.getD k g0)
     · rw[hl2]at HB2;have HL2:=af hl2;clear hl2;go_wp2_with fail;refine(ae HB2).mono ?_;rintro e x2 ⟨rfl,hb2⟩;go_wp2;refine a0v (a2X rfl _ _ _) rfl ?_;obtain⟨hk,hM,hu,hh,hbel,hke,hMn⟩:=ae HQ;obtain⟨xh,xb,xk,xc,xc0,xp,xm⟩:=ae HX;exact⟨rfl,M,hM,tT hu (fun c c0 hc hp=>gm (xm c c0 hc hp) (ae HL2)),xh.later hb2,xb.trans (hb2.mono (a0k (xh.lt))),xk.trans (bA.below hb2)⟩
     ·
      rw[hl2]at HB2;have HL2:=af hl2;clear hl2;go_wp2_with fail;refine(ae HB2).mono ?_;rintro e x2 ⟨rfl,hb2⟩;have HW:Hid (Calls Tryz.prog 204 #[.pointer (some ⟨b,0,none⟩),.int .i64 (c1:Nat),.int .i64 (k:Nat)] x2 fun e w'=>e = .returned (.tuple #[])/\cH w' b (b+1) (.slice (some ⟨g,0,none⟩) n cap) (cN M c1 k)/\Below b x2 w'/\bA g x2 w'):=by
       obtain⟨hk,hM,hu,hh,hbel,hke,hMn⟩:=ae HQ;obtain⟨xh,xb,xk,xc,xc0,xp,xm⟩:=ae HX;exact lp b (b+1) (b+1) g n cap c1 k M x2 (((xk.trans (bA.below hb2)).syms (ae HS)).perm hM) hMn (ae HN).2 (xh.later hb2) (a0j _) xc (by omega)
      go_wp2_with fail;refine(ae HW).mono ?_;rintro e x3 ⟨rfl,hh3,hb3,hk3⟩;go_wp2;go_roundw
      case rel=>
       obtain⟨hk,hM,hu,hh,hbel,hke,hMn⟩:=ae HQ;obtain⟨xh,xb,xk,xc,xc0,xp,xm⟩:=ae HX;exact⟨c1,cN M c1 k,rfl,by omega,(fT (by omega) (by omega)).trans hM,tU hu (by omega) (by omega) xc0 xp xm (ae HL2),hh3,(xb.trans (hb2.mono (a0k (xh.lt)))).trans hb3,(xk.trans (bA.below hb2)).trans hk3⟩
      case measure=>
       obtain⟨xh,xb,xk,xc,xc0,xp,xm⟩:=ae HX;simp[intOf];omega
    ·
     rw[hl]at HB;have HL:=af hl;clear hl;go_wp2_with fail;refine(ae HZ).mono ?_;rintro e y1 ⟨rfl,hy1⟩;rw[hy1];clear hy1 y1;go_wp2_with fail;refine(ae HZ).mono ?_;rintro e y1 ⟨rfl,hy1⟩;rw[hy1];clear hy1 y1;go_wp2_with fail;refine(ae HB).mono ?_;rintro e x1 ⟨rfl,hb1⟩;have HX:Hid (cH x1 b (b+1) (.slice (some ⟨g,0,none⟩) n cap) M/\Below b w x1/\bA g w x1/\c2<n/\0<c2/\(c2-1)/2=k/\(∀i,0<i->i<M.length->(i-1)/2=k->aY (M.getD i g0) (M.getD c2 g0)=false)):=by
      obtain⟨hk,hM,hu,hh,hbel,hke,hMn⟩:=ae HQ;refine⟨(hh.later hb1),(hbel.trans (hb1.mono (a0k (hh.lt)))),(hke.trans (bA.below hb1)),by omega,?_,?_,uL (k:=k) (.inr ⟨ae HC2,by rw[←ae HC1,←ae HC2];exact ae HL⟩)⟩
      · have:=ae HC2;omega
      · have:=ae HC2;omega
     have HB2:Hid (Calls Tryz.prog 257 #[.pointer (some ⟨b,0,none⟩),.int .i64 (c2:Nat),.int .i64 (k:Nat)] x1 fun e w'=>e = .returned (.bool (aY (M.getD c2 g0) (M.getD k g0)))/\Below (x1).heap.size x1 w'):=by
      obtain⟨hk,hM,hu,hh,hbel,hke,hMn⟩:=ae HQ;obtain⟨xh,xb,xk,xc,xc0,xp,xm⟩:=ae HX;exact ia b (b+1) (b+1) g n cap c2 k M x1 ((xk.syms (ae HS)).perm hM) hMn (ae HN).2 xh xc (by omega)
     cases hl2:aY (M.getD c2 g0) (M.getD k g0)
     · rw[hl2]at HB2;have HL2:=af hl2;clear hl2;go_wp2_with fail;refine(ae HB2).mono ?_;rintro e x2 ⟨rfl,hb2⟩;go_wp2;refine a0v (a2X rfl _ _ _) rfl ?_;obtain⟨hk,hM,hu,hh,hbel,hke,hMn⟩:=ae HQ;obtain⟨xh,xb,xk,xc,xc0,xp,xm⟩:=ae HX;exact⟨rfl,M,hM,tT hu (fun c c0 hc hp=>gm (xm c c0 hc hp) (ae HL2)),xh.later hb2,xb.trans (hb2.mono (a0k (xh.lt))),xk.trans (bA.below hb2)⟩
     ·
      rw[hl2]at HB2;have HL2:=af hl2;clear hl2;go_wp2_with fail;refine(ae HB2).mono ?_;rintro e x2 ⟨rfl,hb2⟩;have HW:Hid (Calls Tryz.prog 204 #[.pointer (some ⟨b,0,none⟩),.int .i64 (c2:Nat),.int .i64 (k:Nat)] x2 fun e w'=>e = .returned (.tuple #[])/\cH w' b (b+1) (.slice (some ⟨g,0,none⟩) n cap) (cN M c2 k)/\Below b x2 w'/\bA g x2 w'):=by
       obtain⟨hk,hM,hu,hh,hbel,hke,hMn⟩:=ae HQ;obtain⟨xh,xb,xk,xc,xc0,xp,xm⟩:=ae HX;exact lp b (b+1) (b+1) g n cap c2 k M x2 (((xk.trans (bA.below hb2)).syms (ae HS)).perm hM) hMn (ae HN).2 (xh.later hb2) (a0j _) xc (by omega)
      go_wp2_with fail;refine(ae HW).mono ?_;rintro e x3 ⟨rfl,hh3,hb3,hk3⟩;go_wp2;go_roundw
      case rel=>
       obtain⟨hk,hM,hu,hh,hbel,hke,hMn⟩:=ae HQ;obtain⟨xh,xb,xk,xc,xc0,xp,xm⟩:=ae HX;exact⟨c2,cN M c2 k,rfl,by omega,(fT (by omega) (by omega)).trans hM,tU hu (by omega) (by omega) xc0 xp xm (ae HL2),hh3,(xb.trans (hb2.mono (a0k (xh.lt)))).trans hb3,(xk.trans (bA.below hb2)).trans hk3⟩
      case measure=>
       obtain⟨xh,xb,xk,xc,xc0,xp,xm⟩:=ae HX;simp[intOf];omega
   ·
    have h2I:¬ (c2:Int)<(n:Int):=by omega
    have hnn:Hid (n<=c2):=by show n<=c2;omega
    clear hk hM hu hh hbel hke hMn hc1 hc2 h1 h2 hsy;go_wp2_with fail;refine(ae HZ).mono ?_;rintro e y1 ⟨rfl,hy1⟩;rw[hy1];clear hy1 y1;go_wp2_with fail;refine(ae HZ).mono ?_;rintro e y1 ⟨rfl,hy1⟩;rw[hy1];clear hy1 y1;have HX:Hid (cH wr b (b+1) (.slice (some ⟨g,0,none⟩) n cap) M/\Below b w wr/\bA g w wr/\c1<n/\0<c1/\(c1-1)/2=k/\(∀i,0<i->i<M.length->(i-1)/2=k->aY (M.getD i g0) (M.getD c1 g0)=false)):=by
     obtain⟨hk,hM,hu,hh,hbel,hke,hMn⟩:=ae HQ;refine⟨hh,hbel,hke,by omega,?_,?_,uL (k:=k) (.inl ⟨ae HC1,.inl (by rw[hMn,←ae HC2];exact ae hnn)⟩)⟩
     · have:=ae HC1;omega
     · have:=ae HC1;omega
    have HB2:Hid (Calls Tryz.prog 257 #[.pointer (some ⟨b,0,none⟩),.int .i64 (c1:Nat),.int .i64 (k:Nat)] wr fun e w'=>e = .returned (.bool (aY (M.getD c1 g0) (M.getD k g0)))/\Below (wr).heap.size wr w'):=by
     obtain⟨hk,hM,hu,hh,hbel,hke,hMn⟩:=ae HQ;obtain⟨xh,xb,xk,xc,xc0,xp,xm⟩:=ae HX;exact ia b (b+1) (b+1) g n cap c1 k M wr ((xk.syms (ae HS)).perm hM) hMn (ae HN).2 xh xc (by omega)
    cases hl2:aY (M.getD c1 g0) (M.getD k g0)
    · rw[hl2]at HB2;have HL2:=af hl2;clear hl2;go_wp2_with fail;refine(ae HB2).mono ?_;rintro e x2 ⟨rfl,hb2⟩;go_wp2;refine a0v (a2X rfl _ _ _) rfl ?_;obtain⟨hk,hM,hu,hh,hbel,hke,hMn⟩:=ae HQ;obtain⟨xh,xb,xk,xc,xc0,xp,xm⟩:=ae HX;exact⟨rfl,M,hM,tT hu (fun c c0 hc hp=>gm (xm c c0 hc hp) (ae HL2)),xh.later hb2,xb.trans (hb2.mono (a0k (xh.lt))),xk.trans (bA.below hb2)⟩
    ·
     rw[hl2]at HB2;have HL2:=af hl2;clear hl2;go_wp2_with fail;refine(ae HB2).mono ?_;rintro e x2 ⟨rfl,hb2⟩;have HW:Hid (Calls Tryz.prog 204 #[.pointer (some ⟨b,0,none⟩),.int .i64 (c1:Nat),.int .i64 (k:Nat)] x2 fun e w'=>e = .returned (.tuple #[])/\cH w' b (b+1) (.slice (some ⟨g,0,none⟩) n cap) (cN M c1 k)/\Below b x2 w'/\bA g x2 w'):=by
      obtain⟨hk,hM,hu,hh,hbel,hke,hMn⟩:=ae HQ;obtain⟨xh,xb,xk,xc,xc0,xp,xm⟩:=ae HX;exact lp b (b+1) (b+1) g n cap c1 k M x2 (((xk.trans (bA.below hb2)).syms (ae HS)).perm hM) hMn (ae HN).2 (xh.later hb2) (a0j _) xc (by omega)
     go_wp2_with fail;refine(ae HW).mono ?_;rintro e x3 ⟨rfl,hh3,hb3,hk3⟩;go_wp2;go_roundw
     case rel=>
      obtain⟨hk,hM,hu,hh,hbel,hke,hMn⟩:=ae HQ;obtain⟨xh,xb,xk,xc,xc0,xp,xm⟩:=ae HX;exact⟨c1,cN M c1 k,rfl,by omega,(fT (by omega) (by omega)).trans hM,tU hu (by omega) (by omega) xc0 xp xm (ae HL2),hh3,(xb.trans (hb2.mono (a0k (xh.lt)))).trans hb3,(xk.trans (bA.below hb2)).trans hk3⟩
     case measure=>
      obtain⟨xh,xb,xk,xc,xc0,xp,xm⟩:=ae HX;simp[intOf];omega
  ·
   have h1I:¬ (c1:Int)<(n:Int):=by omega
   have hnn:Hid (n<=c1):=by show n<=c1;omega
   clear hk hM hu hh hbel hke hMn hc1 h1 hsy;go_wp2_with fail;refine(ae HZ).mono ?_;rintro e y1 ⟨rfl,hy1⟩;rw[hy1];clear hy1 y1;go_wp2
   go_end0
   obtain⟨hk,hM,hu,hh,hbel,hke,hMn⟩:=ae HQ;have hc1:=ae HC1;have hnn':=ae hnn;exact⟨rfl,M,hM,tT hu (fun c c0 hc hp=>by omega),hh,hbel,hke⟩
theorem zo{w:World}{b:Nat}{v:Value}{t:TypeId}(h:w.heap[b]?=some (Obj.cells #[v] t))(u:Value):(w.setCell ⟨b,0,none⟩ u).heap[b]?=some (Obj.cells #[u] t):=by
 show(w.heap.modify b _)[b]?=_;rw[Array.getElem?_modify,a0d rfl,h];simp
theorem C3{w:World}{b:Nat}{v:Value}{t:TypeId}(h:w.heap[b]?=some (Obj.cells #[v] t)):w.cell? ⟨b,0,none⟩=some v:=by simp[World.cell?,h]
theorem FG{w:World}{b:Nat}{v:Value}{t:TypeId}(h:w.heap[b]?=some (Obj.cells #[v] t)):w.frozen? ⟨b,0,none⟩=false:=by simp[World.frozen?,h]
theorem Tryz.infoGrp:(Tryz.prog.info? 230).map (fun i=>(i.zero,i.size,i.bytes))=some (some (.agg #[.int .i64 0,.int .i64 0,.slice none 0 0]),3,40):=by kernel_rfl
theorem yk{w W x1:World}{b n:Nat}{v v':Value}{L:List Grp}{x:Grp}{o:Obj}(hn:L.length=n)(h:cH w b (b+1) v L)(hW:Below w.heap.size w W)(hk:bq 3 w W)(hown:x1.ownsRow (b+1) 230 3 v' (n+1) (aS L++[.int .i64 x.cnt,.int .i64 x.fst,x.val]))(hg0:(W.alloc o).drew.grownBy x1 v.ownBlock) :
  (∃g c,v' = .slice (some ⟨g,0,none⟩) (n+1) c)/\(x1.heap[b]?=some (Obj.cells #[v] 250))/\cH (x1.setCell ⟨b,0,none⟩ v') b (b+1) v' (L++[x])/\Below b w (x1.setCell ⟨b,0,none⟩ v')/\bq 3 w (x1.setCell ⟨b,0,none⟩ v'):=by
 have hg:(W.alloc o).grownBy x1 v.ownBlock:=⟨hg0.os,hg0.tape,hg0.output,hg0.size,hg0.block⟩;have hWs:=hW.size;have hlt:=h.lt;have h1:=h.later hW;have h2:cq 230 (W.alloc o) (b+1) v L:=a0p h1.2 _;have hbk:∀k,v.ownBlock=some k->b<k:=fun k e=>(a0G h2 k e).1;have hxb:x1.heap[b]?=some (Obj.cells #[v] 250):=by
  rw[hg.block b (by simp;omega) (fun e=>by have:=hbk b e.symm;omega),a1g W o b (by omega)];exact h1.1
 have hbel:Below b w x1:=(((hW.mono (a0k hlt)).alloc (by omega) o)).grown hg (by simp;omega) (fun k e=>a0k (hbk k e));have hke:bq 3 w x1:=(hk.alloc o).grown h2 (by decide) hg;subst hn;have hsn:=lX x hown;obtain⟨va,vc,e⟩:=hsn.formN (n:=L.length+1) (by simp);obtain⟨g,hga⟩:=(show cq 230 x1 (b+1) (.slice va (L.length+1) vc) (L++[x]) by rw[←e];exact hsn).somes (by simp);refine⟨⟨g,vc,by rw[e,hga]⟩,hxb,⟨zo hxb v',?_⟩,ag hbel (a0a _) _,hke.set hxb (by decide) _⟩;exact a19 hsn (a0j _) _
set_option maxRecDepth 100000 in
theorem vX(b n cap:Nat)(a:Option Addr)(L:List Grp)(x:Grp)(w:World)(hS:dz w (b+1) L)(hx:ak w (b+1) x.val x.syms)(hn:L.length=n)(hm:n<300)(h:cH w b (b+1) (.slice a n cap) L)(hp:HP L) :
  Calls Tryz.prog 183 #[.pointer (some ⟨b,0,none⟩),.agg #[.int .i64 x.cnt,.int .i64 x.fst,x.val]] w fun e w'=>e = .returned (.tuple #[])/\∃(M:List Grp) (g cap':Nat),M.Perm (L++[x])/\HP M/\cH w' b (b+1) (.slice (some ⟨g,0,none⟩) (n+1) cap') M/\Below b w w'/\bq 3 w w':=by
 obtain⟨i0,hi,hz0,hz1,hz2⟩:=a0x Tryz.infoGrp;have hmI:(n:Int)<300:=by omega
 have hlt:=h.lt;have c0:=h.cell;have f0:=h.frz;obtain⟨xa,xq,hxv⟩:=hx.form;have HS:=af hS;have HN:=af (a0b hn hm);have H0:=af (a0b h hp);have HX:=af (a0b hx hxv);obtain⟨xc,xf,xs,xv⟩:=x;simp only at hxv;subst hxv;generalize hxn:xs.length=xn at *
 have hlen1:Hid (n+1<=maxLen/\(n+1)*40<=140737488355328):=by show _/\_;unfold maxLen;omega
 have hR:Hid (World.ownsRow ((w.alloc (.cells #[.int .i64 xc,.int .i64 xf,.slice xa xn xq] 230)).alloc (.cells #[.int .i64 xc,.int .i64 xf,.slice xa xn xq] 230)).drew (b+1) 230 3 (.slice a n cap) n (aS L)):=by
  have h2:=h.2;unfold cq at h2;rw[hn]at h2;exact a0p (a0p h2 _) _
 have hNw:Hid (∀(j:Nat) (u:Value),[Value.int .i64 xc,.int .i64 xf,.slice xa xn xq][j]?=some u->World.cell? ((w.alloc (.cells #[.int .i64 xc,.int .i64 xf,.slice xa xn xq] 230)).alloc (.cells #[.int .i64 xc,.int .i64 xf,.slice xa xn xq] 230)).drew ((⟨w.heap.size+1,0,none⟩:Addr).add j)=some u):=lV _ _ _ _ _ _ (by simp);have hSz:Hid (b+1<=((w.alloc (.cells #[.int .i64 xc,.int .i64 xf,.slice xa xn xq] 230)).alloc (.cells #[.int .i64 xc,.int .i64 xf,.slice xa xn xq] 230)).drew.heap.size):=by show b+1<=((w.alloc (.cells #[.int .i64 xc,.int .i64 xf,.slice xa xn xq] 230)).alloc (.cells #[.int .i64 xc,.int .i64 xf,.slice xa xn xq] 230)).drew.heap.size;simp;omega
 clear hS hn hm h hp hx;go_enter Tryz.func183,Tryz.ntmps183;go_wp2_with fail
 go_region_law (refine bz rfl (.tmp 8) (.tmp 10) 248 rfl (b+1) 230 i0 (.agg #[.int .i64 0,.int .i64 0,.slice none 0 0]) 3 40 Tryz.underlying248 hi hz0 hz1 hz2 rfl (by decide) _ _ _ rfl (ae hR) ⟨w.heap.size+1,0,none⟩ 1 1 [.int .i64 xc,.int .i64 xf,.slice xa xn xq] rfl rfl (ae hNw) (lW _ _ _ _ _) (ae hlen1).1 (ae hlen1).2 (ae hSz) ?_;intro v' w' hown hgrow hnil;clear hnil;have HL:=af (yk (x:=⟨xc,xf,xs,.slice xa xn xq⟩) (ae HN).1 (ae H0).1 ((a0c _ _).alloc (a0a _) _) ((bq.refl _ _).alloc _) hown hgrow);obtain⟨⟨g',c',hv'⟩,HB,HH⟩:=(ae HL);subst hv';clear hown hgrow HL;have c1:=C3 HB;have f1:=FG HB;have HH':=af HH;clear HH HB)
 all_goals
  go_wp2_with fail;obtain⟨hh2,hb2,hk2⟩:=ae HH';have hsy2:=(hk2.syms (ae HS)).snoc (g:=⟨xc,xf,xs,.slice xa xn xq⟩) (hk2.ints (ae HX).1);have HZ:=af (gP b (b+1) (n+1) c' (some ⟨g',0,none⟩) _ _ hh2);have HR:=af (ue b g' (n+1) c' n _ _ hsy2 (by rw[a0l,(ae HN).1];rfl) (by have:=(ae HN).2;omega) hh2 (a0j _) (by have h1:=FX (ae H0).2 ⟨xc,xf,xs,.slice xa xn xq⟩;rw[(ae HN).1]at h1;exact h1));clear hh2 hb2 hk2 hsy2;refine(ae HZ).mono ?_;rintro e y1 ⟨rfl,hy1⟩;rw[hy1];clear hy1 y1;go_wp2_with fail;refine(ae HR).mono ?_;rintro e x3 ⟨rfl,M,hM,hHP,hh3,hb3,hk3⟩;go_wp2
  go_end0
  obtain⟨hh2,hb2,hk2⟩:=ae HH';exact⟨rfl,M,g',c',hM,hHP,hh3,hb2.trans hb3,hk2.trans hk3.1⟩
theorem FV(g n cap k:Nat)(hk:k<=cap)(hc:0<cap)(W:World):(Instr.slice 248 (.slice (some ⟨g,0,none⟩) n cap) none (some (.int .i64 (k:Int))) none).run Tryz.prog W = .ok (.slice (some ⟨g,0,none⟩) k cap) W:=by
 have h1:(k:Int)<=(cap:Int):=by omega
 have h2:¬ ((k:Int)<0):=by omega
 have hk':(cap == 0)=false:=by simp;omega
 go_simp
theorem Fq{w:World}{base g cap n:Nat}{l:List Grp}(hn:l.length=n+1)(h:cq 230 w base (.slice (some ⟨g,0,none⟩) (n+1) cap) l):cq 230 w base (.slice (some ⟨g,0,none⟩) n cap) (l.take n):=by
 have e:aS l=aS (l.take n)++aS (l.drop n):=by rw[←iW,a2b]
 have hl:(l.take n).length=n:=by rw[a0L];omega
 unfold cq at h ⊢;rw[hn,e]at h;rw[hl];exact ownsRow_pop (by rw[jW,hl]) h
theorem oL{w:World}{base size g k o n m cap:Nat}{e:TypeId}{xs:List Value}(h:w.ownsRow base e size (.slice (some ⟨g,0,none⟩) n cap) m xs)(hg:k≠g)(u:Value):(w.setCell ⟨k,o,none⟩ u).ownsRow base e size (.slice (some ⟨g,0,none⟩) n cap) m xs:=by
 refine⟨h.1,?_⟩;rcases h.2 with hn|⟨g1,cap,cur,e,hbg,hgg,rest⟩
 · exact .inl hn
 · refine .inr ⟨g1,cap,cur,e,hbg,?_,rest⟩;simp only[a0O,a0n,a0z,a0Q]at e;rw[a0u w ⟨k,o,none⟩ u g1 (by show g1≠k;omega)];exact hgg
theorem cH.setOther{w:World}{b base g k o n cap:Nat}{L:List Grp}(h:cH w b base (.slice (some ⟨g,0,none⟩) n cap) L)(hb:k≠b)(hg:k≠g)(u:Value):cH (w.setCell ⟨k,o,none⟩ u) b base (.slice (some ⟨g,0,none⟩) n cap) L:=
 ⟨(a0u w ⟨k,o,none⟩ u b (fun e=>hb e.symm)).trans h.1,oL h.2 hg u⟩
theorem pA{w:World}{b:Nat}{x y z:Value}{t:TypeId}(h:w.heap[b]?=some (Obj.cells #[x,y,z] t)):Three w b x y z:=
 ⟨by simp[World.cell?,h],by simp[World.cell?,h],by simp[World.cell?,h],by simp[World.frozen?,h],by simp[World.frozen?,h],by simp[World.frozen?,h],(Array.getElem?_eq_some_iff.1 h).1⟩
theorem ou(w:World)(o:Obj):(w.alloc o).heap[w.heap.size]?=some o:=Array.getElem?_push_size
set_option maxRecDepth 100000 in
theorem wY(b g N cap:Nat)(L:List Grp)(w:World)(hS:dz w (b+1) L)(hn:L.length=N+1)(hm:N<300)(h:cH w b (b+1) (.slice (some ⟨g,0,none⟩) (N+1) cap) L)(hp:HP L) :
  Calls Tryz.prog 182 #[.pointer (some ⟨b,0,none⟩)] w fun e w'=>e = .returned (.agg #[.int .i64 (L.getD 0 g0).cnt,.int .i64 (L.getD 0 g0).fst,(L.getD 0 g0).val])/\∃M:List Grp,(L.getD 0 g0 :: M).Perm L/\HP M/\cH w' b (b+1) (.slice (some ⟨g,0,none⟩) N cap) M/\Below b w w'/\bq 3 w w':=by
 have hmI:(N:Int)<300:=by omega
 have hlt:=h.lt;have hcap:=h.2.cap hn;have HS:=af hS;have HN:=af (a0b hn hm);have H0:=af (a0b h hp);have hB1:Below w.heap.size w (w.alloc (.cells #[.int .i64 0,.int .i64 0,.slice none 0 0] 230)):=(a0c _ _).alloc (a0a _) _;have HZ:=af (gP b (b+1) (N+1) cap (some ⟨g,0,none⟩) L _ (h.later hB1));have HW:=af (lp b (b+1) (b+1) g (N+1) cap 0 N L _ ((bA.below (g:=g) hB1).syms hS) hn (by omega) (h.later hB1) (a0j _) (by omega) (by omega));have hB1':=af hB1;clear hS hn h hp hB1;go_enter Tryz.func182,Tryz.ntmps182;go_wp2_with fail;refine(ae HZ).mono ?_;rintro e y1 ⟨rfl,hy1⟩;rw[hy1];clear hy1 y1;go_wp2_with fail;refine(ae HW).mono ?_;rintro e x1 ⟨rfl,hh1,hb1,hk1⟩;have hg1:=(a0G (ae H0).1.2 g rfl).2;have hlen1:(cN L 0 N).length=N+1:=by rw[fp];exact(ae HN).1
 obtain⟨c0,c1,c2,_,hgx⟩:=hh1.2.at hlen1 N (a0j _);rw[lT (by rw[(ae HN).1];exact a0j _)]at c0 c1 c2;have hA:=ae HS (L.getD 0 g0) (eK L 0 (by rw[(ae HN).1];exact Nat.succ_pos _));obtain⟨aa,ac,hav⟩:=hA.form;rw[hav]at c2;have hbc:=hh1.cell;have hbf:=hh1.frz;have hb2:=hh1.lt;have hbg:b≠g:=by have:=(a0G (ae H0).1.2 g rfl).1;omega
 have hx1s:w.heap.size<x1.heap.size:=by have:=hk1.2.1;simp at this;omega
 have hcut:=FV g (N+1) cap N (by omega) (by omega);have hcapI:(cap:Int)<=9223372036854775807:=by have:=hcap.2;unfold maxLen at this;omega
 have hcapI2:(N:Int)+1<=(cap:Int):=by have:=hcap.1;omega
 have hr0:x1.heap[w.heap.size]?=some (Obj.cells #[.int .i64 0,.int .i64 0,.slice none 0 0] 230):=by
  rw[hk1.2.2 w.heap.size (by simp) (by omega)];exact ou _ _
 have HX:=af (a0b hh1 (a0b hb1 (a0b hk1 (a0b hlen1 (a0b hav hr0)))));clear hh1 hb1 hk1 hlen1 hcap hgx hA hr0 hm HZ HW;generalize hAA:(L.getD 0 g0).cnt=Ac at *
 generalize hAF:(L.getD 0 g0).fst=Af at *
 generalize hAS:(L.getD 0 g0).syms.length=An at *
 have HAA:=af (a0b hAA (a0b hAF hAS));clear hAA hAF hAS hav;go_wp2_with fail;have HY:Hid (cH ((x1.setCell ⟨b,0,none⟩ (.slice (some ⟨g,0,none⟩) N cap)).alloc (.cells #[.int .i64 Ac,.int .i64 Af,.slice aa An ac] 230)) b (b+1) (.slice (some ⟨g,0,none⟩) N cap) ((cN L 0 N).take N) /\
   Below b w ((x1.setCell ⟨b,0,none⟩ (.slice (some ⟨g,0,none⟩) N cap)).alloc (.cells #[.int .i64 Ac,.int .i64 Af,.slice aa An ac] 230)) /\
   bq 3 w ((x1.setCell ⟨b,0,none⟩ (.slice (some ⟨g,0,none⟩) N cap)).alloc (.cells #[.int .i64 Ac,.int .i64 Af,.slice aa An ac] 230)) /\
   ((x1.setCell ⟨b,0,none⟩ (.slice (some ⟨g,0,none⟩) N cap)).alloc (.cells #[.int .i64 Ac,.int .i64 Af,.slice aa An ac] 230)).heap[w.heap.size]?=some (Obj.cells #[.int .i64 0,.int .i64 0,.slice none 0 0] 230) /\
   ((x1.setCell ⟨b,0,none⟩ (.slice (some ⟨g,0,none⟩) N cap)).alloc (.cells #[.int .i64 Ac,.int .i64 Af,.slice aa An ac] 230)).heap[x1.heap.size]?=some (Obj.cells #[.int .i64 Ac,.int .i64 Af,.slice aa An ac] 230)):=by
  obtain⟨hh1,hb1,hk1,hlen1,hav,hr0⟩:=ae HX;have hsz:(x1.setCell ⟨b,0,none⟩ (.slice (some ⟨g,0,none⟩) N cap)).heap.size=x1.heap.size:=by simp
  refine⟨⟨?_,?_⟩,?_,?_,?_,?_⟩
  · rw[a1g _ _ b (by rw[hsz];exact hb2)];exact zo hh1.1 _
  · exact a0p (a19 (Fq hlen1 hh1.2) (a0j _) _) _
  · exact(ag (((ae hB1').mono (a0k hlt)).trans hb1) (a0a _) _).alloc (by rw[hsz];omega) _
  · exact(((bq.below (ae hB1')).trans hk1.1).set hh1.1 (by decide) _).alloc _
  · rw[a1g _ _ w.heap.size (by rw[hsz];exact hx1s),a0u _ _ _ _ (by show w.heap.size≠b;omega)];exact hr0
  · rw[←hsz];exact ou _ _
 generalize (x1.setCell ⟨b,0,none⟩ (.slice (some ⟨g,0,none⟩) N cap)).alloc (.cells #[.int .i64 Ac,.int .i64 Af,.slice aa An ac] 230)=Y at *
 have HK:Hid (Calls Tryz.prog 205 #[.iface 227 (.pointer (some ⟨b,0,none⟩)),.int .i64 ((0:Nat):Int)] Y fun e w'=>e = .returned (.tuple #[])/\∃M:List Grp,M.Perm ((cN L 0 N).take N)/\HP M/\cH w' b (b+1) (.slice (some ⟨g,0,none⟩) N cap) M/\Below b Y w'/\bA g Y w'):=by
  obtain⟨hY1,hY2,hY3,hY4,hY5⟩:=ae HY;obtain⟨hn,hm⟩:=ae HN;have hsy:dz Y (b+1) ((cN L 0 N).take N):=fun x hx=>hY3.syms (ae HS) x ((fT (by omega) (by omega)).mem_iff.1 (a1S hx));exact uf b g N cap 0 _ Y hsy (by rw[a0L,fp];omega) (by omega) hY1 (a0m _) (by have h1:=GU (ae H0).2;rw[hn]at h1;exact h1)
 refine(ae HK).mono ?_;rintro e x5 ⟨rfl,M,hM,hHP,hh5,hb5,hk5⟩;have HF:Hid (cH x5 b (b+1) (.slice (some ⟨g,0,none⟩) N cap) M/\Below b w x5/\bq 3 w x5/\x5.heap[w.heap.size]?=some (Obj.cells #[.int .i64 0,.int .i64 0,.slice none 0 0] 230)/\M.Perm ((cN L 0 N).take N)/\HP M):=by
  obtain⟨hY1,hY2,hY3,hY4,hY5⟩:=ae HY;exact⟨hh5,hY2.trans hb5,hY3.trans hk5.1,(hk5.2.2 _ (de hY4) (by omega)).trans hY4,hM,hHP⟩
 have hT1:Three x5 w.heap.size _ _ _:=pA (ae HF).2.2.2.1;have hT2:Three x5 x1.heap.size (.int .i64 Ac) (.int .i64 Af) (.slice aa An ac):=by
  obtain⟨hY1,hY2,hY3,hY4,hY5⟩:=ae HY;exact pA ((hk5.2.2 _ (de hY5) (by omega)).trans hY5)
 clear hM hHP hh5 hb5 hk5 HK;obtain⟨p0,p1,p2,q0,q1,q2,hps⟩:=hT1;obtain⟨r0,r1,r2,s0,s1,s2,hrs⟩:=hT2;go_wp2_with fail;obtain⟨hh1,hb1,hk1,hlen1,hav,hr0⟩:=ae HX;obtain⟨fh,fb,fk,fr,fM,fP⟩:=ae HF;obtain⟨eA,eF,eS⟩:=ae HAA;have hTt:=(((Three.set0 ⟨p0,p1,p2,q0,q1,q2,hps⟩ (.int .i64 Ac)).set1 (.int .i64 Af)).set2 (.slice aa An ac));have hTo:=((((Touch.refl (some ⟨w.heap.size,0,none⟩) x5).set (o:=0) rfl (.int .i64 Ac)).set (o:=1) rfl (.int .i64 Af)).set (o:=2) rfl (.slice aa An ac));have hbel:=ag (ag (ag fb (b:=w.heap.size) (o:=0) (a0k hlt) (.int .i64 Ac)) (b:=w.heap.size) (o:=1) (a0k hlt) (.int .i64 Af)) (b:=w.heap.size) (o:=2) (a0k hlt) (.slice aa An ac);have hke:=fk.trans (bq.touch fr (by decide) hTo);have hhe:=((fh.setOther (k:=w.heap.size) (o:=0) (by omega) (by omega) (.int .i64 Ac)).setOther (k:=w.heap.size) (o:=1) (by omega) (by omega) (.int .i64 Af)).setOther (k:=w.heap.size) (o:=2) (by omega) (by omega) (.slice aa An ac);generalize ((x5.setCell ⟨w.heap.size,0,none⟩ (.int .i64 Ac)).setCell ⟨w.heap.size,1,none⟩ (.int .i64 Af)).setCell ⟨w.heap.size,2,none⟩ (.slice aa An ac)=Z at *
 obtain⟨t0,t1,t2,_,_,_,_⟩:=hTt;refine a0v (v:=.agg #[.int .i64 Ac,.int .i64 Af,.slice aa An ac]) (by simp[results,Tryz.results182,go_sem,t0,t1,t2]) rfl ⟨?_,M,?_,fP,hhe,hbel,hke⟩
 · rw[eA,eF,hav]
 · have hn:=(ae HN).1;have h1:=C6 (L:=L) (by omega);rw[hn]at h1;exact(fM.cons _).trans h1
theorem mS(l:List Int)(k:Nat):(az l k).length<=k:=by
 induction k with
 | zero=>simp[az]
 | succ k ih=>
  simp only[az]
  split
  · simp;omega
  · omega
set_option maxRecDepth 100000 in
theorem sl(a:Option Addr)(cap n:Nat)(l:List Int)(w:World)(hn:l.length=n)(h:aZ w a l)(hm:n<=300) :
  Calls Tryz.prog 180 #[.slice a n cap] w fun e w'=>e = .returned (.pointer (some ⟨w.heap.size,0,none⟩))/\∃(L:List Grp) (va:Option Addr) (vc:Nat),cH w' w.heap.size (w.heap.size+1) (.slice va L.length vc) L/\HP L/\(L.map bare).Perm (az l n)/\dz w' (w.heap.size+1) L/\Below w.heap.size w w':=by
 have hmI:(n:Int)<=300:=by omega
 have HN:=af (a0b hn hm);have hB0:Below w.heap.size w (w.alloc (.cells #[.slice none 0 0] 250)):=(a0c _ _).alloc (a0a _) _;have hH0:cH (w.alloc (.cells #[.slice none 0 0] 250)) w.heap.size (w.heap.size+1) (.slice none 0 0) []:=⟨ou _ _,a0Y _ _ _ _⟩;clear hn hm;go_enter Tryz.func180,Tryz.ntmps180;go_wp2_with fail
 go_loopw [4,5,10] (fun _ _ i wr=>∃(k:Nat) (L:List Grp) (va:Option Addr) (vc:Nat),k<=n/\i = .int .i64 k/\cH wr w.heap.size (w.heap.size+1) (.slice va L.length vc) L/\HP L/\(L.map bare).Perm (az l k)/\dz wr (w.heap.size+1) L/\Below w.heap.size w wr) (fun _ _ i _=>n-(intOf i).toNat)
 case atStart=>exact⟨0,[],none,0,a0m _,rfl,hH0,fun i _ hi=>by simp at hi,a2c _,wX _ _,hB0⟩
 case round=>
  obtain⟨k,L,va,vc,hk,rfl,hh,hp,hL,hs,hbel⟩:=hrel;clear hB0 hH0;by_cases hlt:k<n
  ·
   obtain⟨g,o,rfl,hg,hcc⟩:=(h.later hbel) (by rw[(ae HN).1];omega);have c0:=hcc k (by rw[(ae HN).1];exact hlt);have hlen:L.length<300:=by
    have h1:=hL.length_eq;rw[a0P]at h1;have h2:=mS l k;have:=(ae HN).2;omega
   have HQ:=af (a0b hk (a0b hh (a0b hp (a0b hL (a0b hs hbel)))));clear hcc;by_cases hy:0<l.getD k 0
   ·
    have hst:=af (rL hy);generalize l.getD k 0=y at *
    have hB1:Below wr.heap.size wr (wr.alloc (.cells #[.int .i64 (k:Int)] 3)):=(a0c _ _).alloc (a0a _) _;have hA:ak (wr.alloc (.cells #[.int .i64 (k:Int)] 3)) (w.heap.size+1) (.slice (some ⟨wr.heap.size,0,none⟩) 1 1) [(k:Int)]:=ak.one wr _ hh.lt _;have HLa:=af (vX w.heap.size L.length vc va L ⟨y,(k:Int),[(k:Int)],.slice (some ⟨wr.heap.size,0,none⟩) 1 1⟩ _ ((bq.below hB1).syms hs) hA rfl hlen (hh.later hB1) hp);have HB1:=af hB1;have HA:=af hA;clear hk hh hp hL hs hbel hA hB1 hlen;go_wp2_with fail;refine(ae HLa).mono ?_;rintro e x1 ⟨rfl,M,g',c',hM,hHP,hh1,hb1,hk1⟩;go_wp2;go_roundw
    case rel=>
     obtain⟨hk,hh,hp,hL,hs,hbel⟩:=ae HQ;have hlM:M.length=L.length+1:=by rw[hM.length_eq];simp
     refine⟨k+1,M,some ⟨g',0,none⟩,c',by omega,by go_num,by rw[hlM];exact hh1,hHP,?_,?_,(hbel.trans ((ae HB1).mono (a0k hh.lt))).trans hb1⟩
     · rw[ae hst];refine(hM.map bare).trans ?_;rw[a0J];exact hL.append_right _
     · exact((hk1.syms ((bq.below (ae HB1)).syms hs)).snoc (hk1.ints (ae HA))).perm hM
    case measure=>simp[intOf];omega
   ·
    have hst:=af (zX hy);generalize l.getD k 0=y at *
    clear hk hh hp hL hs hbel hlen;go_wp2;go_roundw
    case rel=>
     obtain⟨hk,hh,hp,hL,hs,hbel⟩:=ae HQ;exact⟨k+1,L,va,vc,by omega,by go_num,hh,hp,by rw[ae hst];exact hL,hs,hbel⟩
    case measure=>simp[intOf];omega
  ·
   obtain rfl:k=n:=by omega
   clear h;go_wp2;go_ret;exact⟨rfl,L,va,vc,hh,hp,hL,hs,hbel⟩
end Go.Proofs.YtbacpebljannfaaGreatDoor
namespace Go.Proofs.YtbacpebljannfaaGreatDoor
open Go.RowKit
theorem Dw{l:List Int}{j:Nat}{L M1 M2:List Grp}(hc:∀i,i<l.length->0<=l.getD i 0/\l.getD i 0<=100000)(hn:l.length<=300)(hj:j<(az l l.length).length∨j=0)(hL:(L.map bare).Perm (aw l j).1)(hp:HP L)(h2:1<L.length)(h1:(L.getD 0 g0 :: M1).Perm L)(hp1:HP M1)(h12:(M1.getD 0 g0 :: M2).Perm M1) :
  bf (aw l j).1=(L.getD 0 g0).syms++(M1.getD 0 g0).syms /\
  (∀(M3:List Grp) (v:Value),M3.Perm (M2++[⟨(L.getD 0 g0).cnt+(M1.getD 0 g0).cnt,if (M1.getD 0 g0).fst<(L.getD 0 g0).fst then(M1.getD 0 g0).fst else(L.getD 0 g0).fst,(L.getD 0 g0).syms++(M1.getD 0 g0).syms,v⟩])->(M3.map bare).Perm (aw l (j+1)).1) /\
  0<=(L.getD 0 g0).cnt/\0<=(M1.getD 0 g0).cnt/\(L.getD 0 g0).cnt+(M1.getD 0 g0).cnt<=30000000 /\
  ((L.getD 0 g0).syms++(M1.getD 0 g0).syms).length<=300/\0<(L.getD 0 g0).syms.length/\0<(M1.getD 0 g0).syms.length/\(∀x∈(L.getD 0 g0).syms++(M1.getD 0 g0).syms,0<=x/\x<(l.length:Int)):=by
 have hM1l:M1.length+1=L.length:=by have:=h1.length_eq;simpa using this
 obtain⟨hwf,hC,hS,hlen⟩:=bT l j hj;have hMl:(aw l j).1.length=L.length:=by rw[←hL.length_eq,a0P]
 have hnd:=(fJ l j hj).1;have hfi:=Dz l j hj;have htop:∀g∈L,aY g (L.getD 0 g0)=false:=by
  intro g hg;obtain⟨i,hi,rfl⟩:=a1W hg;have:=Dy hp i hi;have e:L.getD i g0=L[i]:=by simp[List.getD,hi]
  rw[e]at this;exact this
 have htop1:∀g∈M1,aY g (M1.getD 0 g0)=false:=by
  intro g hg;obtain⟨i,hi,rfl⟩:=a1W hg;have:=Dy hp1 i hi;have e:M1.getD i g0=M1[i]:=by simp[List.getD,hi]
  rw[e]at this;exact this
 obtain⟨e1,p1⟩:=tE hL h1.symm htop (by omega) hnd hfi;have hfr:pi (am (aw l j).1):=fun g hg=>hfi g (be _ g hg);obtain⟨e2,p2⟩:=tE p1 h12.symm htop1 (by omega) (AP (by omega) hnd) hfr;have htwo:=uK hwf (by omega:1<(aw l j).1.length);have ha:=hwf _ (bv (aw l j).1 (by omega));have hrl:=da (aw l j).1 (by omega);have hb:=hwf _ (be _ _ (bv (am (aw l j).1) (by omega)));have hst:=ju l 100000 (by omega) (fun i hi=>(hc i hi).2) l.length (a0a _);have hsy:bf (aw l j).1=(L.getD 0 g0).syms++(M1.getD 0 g0).syms:=by
  unfold bf;rw[←e1,←e2];rfl
 rw[←e1]at ha htwo;rw[←e2]at hb htwo;have hle:(100000:Int)*(l.length:Int)<=100000*300:=Int.mul_le_mul_of_nonneg_left (by omega) (by omega);refine⟨hsy,?_,ha.1,hb.1,?_,?_,ha.2.2.2.2,hb.2.2.2.2,?_⟩
 · intro M3 v hM3;have h3:=hM3.map bare;rw[a0J]at h3;refine h3.trans ?_;show List.Perm _ (stepG (aw l j).1);unfold stepG;rw[←e1,←e2];exact p2.append_right _
 · have h0:=htwo.1;have:(bare (L.getD 0 g0)).cnt=(L.getD 0 g0).cnt:=rfl;have:(bare (M1.getD 0 g0)).cnt=(M1.getD 0 g0).cnt:=rfl;omega
 · have h0:=htwo.2;rw[hsy]at h0;omega
 ·
  intro x hx;simp only[a0U]at hx;rcases hx with hx|hx
  · exact ha.2.2.2.1 x hx
  · exact hb.2.2.2.1 x hx
end Go.Proofs.YtbacpebljannfaaGreatDoor
namespace Go.Proofs.YtbacpebljannfaaGreatDoor
open Go.RowKit Corb
def gJ(l:List Int):Int:=if decide (l.length<=300)&&inC l then(us l:Nat)else -1
theorem Cm{l:List Int}(h:300<l.length):gJ l = -1:=by
 unfold gJ;rw[a0r (by omega)];rfl
theorem Cn{l:List Int}(h:inC l=false):gJ l = -1:=by
 unfold gJ;rw[h];simp
theorem lY{l:List Int}(h:l.length<=300)(h2:inC l=true):gJ l=(us l:Nat):=by
 unfold gJ;rw[a0s h,h2];rfl
set_option maxRecDepth 100000 in
theorem kE(a:Option Addr)(cap n:Nat)(l:List Int)(w:World)(hn:l.length=n)(h:aZ w a l)(hm:n<=1048576) :
  Calls Tryz.prog 141 #[.slice a n cap] w fun e w'=>e = .returned (.int .i64 (gJ l))/\w'=w:=by
 subst hn;have hmI:(l.length:Int)<=1048576:=by omega
 clear hm;by_cases h3:(l.length:Int)<=300
 ·
  go_enter Tryz.func141,Tryz.ntmps141;go_wp2_with fail
  go_loop [3,5,11] (fun n _ i=>∃k:Nat,k<=l.length/\i = .int .i64 k/\n = .int .i64 (us (l.take k):Nat)/\inC (l.take k)=true) (fun _ _ i=>l.length-(intOf i).toNat)
  case atStart=>exact⟨0,a0m _,rfl,rfl,rfl⟩
  case round=>
   obtain⟨k,hk,rfl,rfl,hin⟩:=hrel;have HK:=af hk;have HI:=af hin;clear hin;by_cases hlt:k<l.length
   ·
    obtain⟨g,o,rfl,hg,hc⟩:=h (by omega);have c0:=hc k hlt;have hst:=af (nX l k hlt);have hit:=af (DC l k hlt);have hig:=af (fun hb=>F1 (l:=l) (k:=k) hlt hb);have hub:=pF (l.take k);have hub':(us (l.take k):Int)<=300:=by
     have:(l.take k).length<=l.length:=by simp;omega
     omega
    clear hc hk h hub;generalize l.getD k 0=y at *
    generalize us (l.take k)=u at *
    by_cases hb:0<=y/\y<=100000
    ·
     obtain⟨hb0,hb1⟩:=hb;have hin2:Hid (inC (l.take (k+1))=true):=by
      show _=true;rw[ae hit,ae HI,aG.2 ⟨hb0,hb1⟩];rfl
     by_cases hy:0<y
     ·
      have hst':Hid (us (l.take (k+1))=u+1):=by have:=ae hst;rw[a0d hy]at this;exact this
      go_wp2
      go_round
      case rel=>exact⟨k+1,by omega,by go_num,by rw[ae hst'];go_num,ae hin2⟩
      case measure=>simp[intOf];omega
     ·
      have hst':Hid (us (l.take (k+1))=u):=by have:=ae hst;rw[a0e hy]at this;exact this
      go_wp2
      go_round
      case rel=>exact⟨k+1,by omega,by go_num,by rw[ae hst'],ae hin2⟩
      case measure=>simp[intOf];omega
    ·
     have hno:Hid (gJ l = -1):=Cn (ae hig (by
      cases hx:inB y 0 100000
      · rfl
      · exact absurd (aG.1 hx) hb))
     by_cases hy:y<0
     · go_wp2;go_ret;exact⟨aH (ae hno).symm,rfl⟩
     ·
      have hy2:¬ y<=100000:=by omega
      go_wp2;go_ret;exact⟨aH (ae hno).symm,rfl⟩
   ·
    have hlk:Hid (l.take k=l):=a0C (by omega);have hin2:Hid (inC l=true):=by show inC l=true;rw[←ae hlk];exact ae HI
    clear h;go_wp2;go_ret;exact⟨aH (by rw[lY (by omega) (ae hin2),ae hlk]),rfl⟩
 · have hno:=af (Cm (l:=l) (by omega));go_enter Tryz.func141,Tryz.ntmps141;clear h;go_wp2;go_ret;exact⟨aH (ae hno).symm,rfl⟩
def fR(x:Int):Int:=if x<=1 then x else 1
theorem we(x:Int)(w:World)(h0 : -1000000<=x)(h1:x<=1000000) :
  Calls Tryz.prog 143 #[.int .i64 x] w fun e w'=>e = .returned (.int .i64 (fR x))/\w'=w:=by
 by_cases h:x<=1
 ·
  have e:Hid (fR x=x):=by show fR x=x;simp[fR,h]
  go_enter Tryz.func143,Tryz.ntmps143;go_wp2;go_ret;exact⟨aH (ae e).symm,rfl⟩
 ·
  have e:Hid (fR x=1):=by show fR x=1;simp[fR,h]
  go_enter Tryz.func143,Tryz.ntmps143;go_wp2;go_ret;exact⟨aH (ae e).symm,rfl⟩
set_option maxRecDepth 100000 in
theorem vr(a:Option Addr)(cap n:Nat)(l:List Int)(w:World)(hn:l.length=n)(h:aZ w a l)(hm:n<=1048576)(hc:okC l) :
  Calls Tryz.prog 142 #[.slice a n cap,.func (.func 143) #[] #[]] w fun e w'=>∃v,e = .returned v/\ak w' w.heap.size v (l.map fR)/\Below w.heap.size w w':=by
 have hmI:(n:Int)<=1048576:=by omega
 have Hn:=af hn;have Hm:=af hm;have HC:=af hc;clear hn hm hc;obtain⟨i0,hi,hz0,hz1,hz2⟩:=a0x Tryz.infoInt;go_enter Tryz.func142,Tryz.ntmps142;go_wp2_with fail
 go_loopw [5,7,10] (fun o _ i wr=>∃k:Nat,k<=n/\i = .int .i64 k/\ak wr w.heap.size o ((l.take k).map fR)/\Below w.heap.size w wr) (fun _ _ i _=>n-(intOf i).toNat)
 case atStart=>exact⟨0,a0m _,rfl,a0Y _ _ _ _,a0c _ _⟩
 case round=>
  obtain⟨k,hk,rfl,hq,hbel⟩:=hrel;have hbs:=hbel.size;by_cases hlt:k<n
  ·
   obtain⟨g,o,rfl,hg,hcc⟩:=(h.later hbel) (by rw[ae Hn];omega);have c0:=hcc k (by rw[ae Hn];exact hlt);obtain⟨y0,y1⟩:=ae HC k (by rw[ae Hn];exact hlt);have hst:Hid ((l.take (k+1)).map fR=(l.take k).map fR++[fR (l.getD k 0)]):=by
    show _=_;rw[bX l k (by rw[ae Hn];exact hlt),a0J];rfl
   have hlk:Hid (((l.take k).map fR).length=k):=by show _=k;have:=ae Hn;simp;omega
   have Hk:=af hk;clear hcc hk h;generalize l.getD k 0=y at *
   have HP:=af (we y wr (by omega) (by omega));generalize fR y=R at *
   go_wp2_with fail;refine(ae HP).mono ?_;rintro e x1 ⟨rfl,hx1⟩;rw[hx1];clear hx1 x1;have hlen1:Hid (((l.take k).map fR).length+1<=maxLen/\(((l.take k).map fR).length+1)*8<=140737488355328):=by
    show _/\_;rw[ae hlk];have:=ae Hm;unfold maxLen;omega
   clear HP;go_wp2_with (at_builtin;refine a0A _ rfl _ _ 84 rfl w.heap.size 3 i0 (.int .i64 0) 1 8 a0h hi hz0 hz1 hz2 rfl (by decide) _ _ _ rfl (a0p hq _) ⟨wr.heap.size,0,none⟩ 1 1 [.int .i64 R] rfl rfl (cO _ _ rfl _ _) (eU _) (ae hlen1).1 (ae hlen1).2 (ay hbs _) ?_;intro v' x2 hown hgrow hnil;clear hnil);have hb2:=aF (v:=u5) hgrow hq (a0a _) hbs hbel;have hq2:=lJ hown;rw[←ae hst]at hq2;clear hown hgrow hq;go_wp2;go_roundw
   case rel=>exact⟨k+1,by have:=ae Hk;omega,by go_num,hq2,hb2⟩
   case measure=>simp[intOf];omega
  · have hlk2:l.take k=l:=a0C (by rw[ae Hn];omega);rw[hlk2]at hq;obtain⟨va,vc,rfl⟩:=hq.form;clear hlk2 h;go_wp2;go_ret;exact⟨_,rfl,hq,hbel⟩
end Go.Proofs.YtbacpebljannfaaGreatDoor
