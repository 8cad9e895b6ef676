/- Of what the proof is made: 16 texts, one behind the other. -/
import Derived.Test.YtbacpebljannfaaGreatDoorM14
import Derived.Test.YtbacpebljannfaaGreatDoorRb1
import Derived.Test.YtbacpebljannfaaGreatDoorM7
import Derived.BigRegion
import Derived.Test.YtbacpebljannfaaGreatDoorM2
set_option linter.unusedSimpArgs false
set_option maxHeartbeats 6400000
namespace Go.Proofs.YtbacpebljannfaaGreatDoor
open Go.RowKit
def sliceLen:Value->Nat
 | .slice _ n _=>n
 | _=>0
theorem sA{l:List Int}{k:Nat}(h:0<l.getD k 0):aB l (k+1)=aB l k++[⟨l.getD k 0,(k:Int),[(k:Int)],.slice none 0 0⟩]:=by simp only[aB];rw[a0d h]
theorem Bw{l:List Int}{k:Nat}(h:¬ 0<l.getD k 0):aB l (k+1)=aB l k:=by simp only[aB];rw[a0e h]
theorem mz(w:World)(x y z:Value)(t:TypeId)(g:Nat)(hg:w.heap.size=g):∀(j:Nat) (u:Value),[x,y,z][j]?=some u->(w.alloc (.cells #[x,y,z] t)).cell? ((⟨g,0,none⟩:Addr).add j)=some u:=by
 subst hg;intro j u hj
 match j,hj with
 | 0,hj=>simp at hj;subst hj;simp[Addr.add]
 | 1,hj=>simp at hj;subst hj;simp[Addr.add]
 | 2,hj=>simp at hj;subst hj;simp[Addr.add]
theorem mA(x y:Int)(a:Option Addr)(n c:Nat):∀u∈[Value.int .i64 x,Value.int .i64 y,Value.slice a n c],u.oneCell'=true:=by
 intro u hu;simp at hu;rcases hu with rfl|rfl|rfl<;>rfl
theorem mB{t:TypeId}{x:World}{base:Nat}{v:Value}{l:List Grp}(g:Grp)(h:x.ownsRow base t 3 v (l.length+1) (aU l++[.int .i64 g.cnt,.int .i64 g.fst,g.val])):cJ t x base v (l++[g]):=by
 show World.ownsRow _ _ _ _ _ (l++[g]).length _;rw[jt];simpa[aU]using h
theorem ak.one(w:World)(base:Nat)(hb:base<=w.heap.size)(x:Int):ak (w.alloc (.cells #[.int .i64 x] 3)) base (.slice (some ⟨w.heap.size,0,none⟩) 1 1) [x]:=
 a08 w #[.int .i64 x] 1 hb (by unfold maxLen;omega) rfl
theorem yo(w:World)(ob:Nat):dH w ob []:=fun g hg=>by simp at hg
theorem dH.snoc{w:World}{ob:Nat}{l:List Grp}{g:Grp}(h:dH w ob l)(hg:ak w ob g.val g.syms):dH w ob (l++[g]):=by
 intro x hx;simp only[a0X,a02]at hx;rcases hx with hx|rfl
 · exact h x hx
 · exact hg
theorem dH.grown{t:TypeId}{w w':World}{ob base:Nat}{v:Value}{l m:List Grp}(h:dH w ob l)(hr:cJ t w base v m)(ht:3≠t)(hg:w.grownBy w' v.ownBlock):dH w' ob l:=
 fun g hgm=>a1Y (h g hgm) hg (sN (h g hgm) hr ht)
theorem gt{t:TypeId}{w w':World}{ob base:Nat}{v u:Value}{l:List Int}{m:List Grp}(h:ak w ob u l)(hr:cJ t w base v m)(ht:3≠t)(hg:w.grownBy w' v.ownBlock):ak w' ob u l:=
 a1Y h hg (sN h hr ht)
theorem oD(w:World)(x y z:Value)(t:TypeId):Three (w.alloc (.cells #[x,y,z] t)) w.heap.size x y z:=⟨by simp,by simp,by simp,by simp,by simp,by simp,by simp⟩
theorem Three.later{w w':World}{b:Nat}{v0 v1 v2:Value}(h:Three w b v0 v1 v2)(hb:Below w.heap.size w w'):Three w' b v0 v1 v2:=h.kept (hb.mono h.2.2.2.2.2.2)
theorem cJ.mono{t:TypeId}{w:World}{base base':Nat}{v:Value}{l:List Grp}(h:cJ t w base v l)(hb:base'<=base):cJ t w base' v l:=
 ⟨h.1,h.2.imp id fun⟨g,c,u,e,hbg,r⟩=>⟨g,c,u,e,a0I hb hbg,r⟩⟩
theorem dH.sub{w:World}{ob:Nat}{l m:List Grp}(h:dH w ob l)(hs:∀g∈m,g∈l):dH w ob m:=fun g hg=>h g (hs g hg)
theorem jp{w w':World}{a:Option Addr}{base size n:Nat}{e:TypeId}{v:Value}{xs:List Value}(h:w.ownsRow base e size v n xs)(ht:Touch a w w')(hne:∀g,a=some ⟨g,0,none⟩->g<base):w'.ownsRow base e size v n xs:=by
 refine⟨h.1,?_⟩;rcases h.2 with hn|⟨g,cap,cur,rfl,hbg,hgg,rest⟩
 · exact .inl hn
 · refine .inr ⟨g,cap,cur,rfl,hbg,?_,rest⟩;rw[ht.2 g (fun g' e=>by have:=hne g' e;omega)];exact hgg
theorem eM{w w':World}{b:Nat}{p:Addr}(ht:Touch (some ⟨b,0,none⟩) w w')(hp:p.block≠b):w'.cell? p=w.cell? p:=
 World.cell?_of_block (ht.2 p.block (fun g e=>by simp only[a0j,a0y,a0Q]at e;omega))
theorem fA(b B:Nat)(h:b<B):∀g,(some ⟨b,0,none⟩:Option Addr)=some ⟨g,0,none⟩->g<B:=by
 intro g e;simp only[a0j,a0y,a0Q]at e;omega
set_option maxRecDepth 100000 in
theorem rD(a:Option Addr)(cap n:Nat)(l:List Int)(w:World)(hn:l.length=n)(h:be w a l)(hm:n<=300)(hc:∀i,i<l.length->0<=l.getD i 0/\l.getD i 0<=100000) :
  Calls Tryz.prog 169 #[.slice a n cap] w fun e w'=>e = .returned (.slice (some ⟨w.heap.size,0,none⟩) n n)/\ak w' w.heap.size (.slice (some ⟨w.heap.size,0,none⟩) n n) (bR l)/\Below w.heap.size w w':=by
 have hmI:(n:Int)<=300:=by omega
 obtain⟨i0,hi,hz0,hz1,hz2⟩:=a0w Tryz.infoInt;obtain⟨j0,hj,hy0,hy1,hy2⟩:=a0w Tryz.infoTree;have HN:=af hn;have HC:=af hc;have HM:=af hm;clear hc;go_enter Tryz.func169,Tryz.ntmps169;go_wp2_with (at_make;refine a1q _ rfl _ _ 84 rfl w.heap.size 3 i0 (.int .i64 0) 1 a0h hi hz0 hz1 .i64 .i64 _ _ n rfl rfl rfl rfl (by rw[hz2];omega) (by unfold maxLen;omega) (a0a _) ?_;intro w1 hown hgrow);have hp0:ak (w1.alloc (.cells #[] 243)) w.heap.size (.slice (some ⟨w.heap.size,0,none⟩) n n) (List.replicate l.length 0):=by
  rw[hn];exact(ay hown).later ((a0c w1.heap.size w1).alloc (a0a _) _) (a0a _)
 have hlt1:w.heap.size+1<=w1.heap.size:=(ay hown).below.2;have hb0:Below w.heap.size w (w1.alloc (.cells #[] 243)):=((a0c _ _).grown hgrow (a0a _) (fun k h=>by cases h)).alloc (by omega) _;have ht0:cJ 243 (w1.alloc (.cells #[] 243)) (w.heap.size+1) (.slice (some ⟨w1.heap.size,0,none⟩) 0 0) []:=a08 w1 #[] 0 hlt1 (by unfold maxLen;omega) rfl;clear hown hgrow hn hm
 go_loopw [4,5] (fun v i wr=>∃(k:Nat) (L:List Grp),k<=n/\i = .int .i64 k/\L.map bare=aB l k/\cJ 243 wr (w.heap.size+1) v L/\dH wr (w.heap.size+1) L/\ak wr w.heap.size (.slice (some ⟨w.heap.size,0,none⟩) n n) (List.replicate l.length 0)/\Below w.heap.size w wr) (fun _ i _=>n-(intOf i).toNat)
 case atStart=>exact⟨0,[],a0l _,rfl,rfl,ht0,yo _ _,hp0,hb0⟩
 case round=>
  obtain⟨k,L,hk,rfl,hL,ht,hs,hp,hbel⟩:=hrel;clear hp0 hb0 ht0;have HL:=af hL;have hbs:w.heap.size+1<=wr.heap.size:=hp.below.2;clear hL;by_cases hlt:k<n
  ·
   obtain⟨g,o,rfl,hg,hcc⟩:=(h.later hbel) (by rw[ae HN];omega);have c0:=hcc k (by rw[ae HN];exact hlt);have HK:=af hk;have hlenL:L.length<=300:=by
    have h1:(L.map bare).length=(aB l k).length:=by rw[ae HL]
    have h2:=(jT l 100000 (by omega) (fun i hi=>(ae HC i hi).2) k (by rw[ae HN];omega)).2.2;rw[a0P]at h1;have:=ae HM;omega
   clear hcc hk;by_cases hy:0<l.getD k 0
   ·
    have hst:=af (sA hy);generalize l.getD k 0=y at *
    have hA:ak (wr.alloc (.cells #[.int .i64 (k:Int)] 3)) (w.heap.size+1) (.slice (some ⟨wr.heap.size,0,none⟩) 1 1) [(k:Int)]:=ak.one wr _ hbs _;have hB1:Below wr.heap.size wr (wr.alloc (.cells #[.int .i64 (k:Int)] 3)):=(a0c _ _).alloc (a0a _) _;have hsz1:(wr.alloc (.cells #[.int .i64 (k:Int)] 3)).heap.size=wr.heap.size+1:=by simp
    have ht1:=ht.later hB1 (a0a _);have hs1:=hs.later hB1 (a0a _);have hp1:=hp.later hB1 (a0a _);have hbel1:=am hbel ((a0c wr.heap.size wr).alloc (a0a _) (.cells #[.int .i64 (k:Int)] 3));have HX:=af (a0b hA (a0b ht1 (a0b hs1 (a0b hp1 (a0b hbel1 hsz1)))));have hlen1:Hid (L.length+1<=maxLen/\(L.length+1)*40<=140737488355328):=by show _/\_;unfold maxLen;omega
    clear hA hB1 ht1 hs1 hp1 hbel1 ht hs hp hbel hsz1;go_wp2_with (at_builtin;refine a0B _ rfl _ _ 241 rfl (w.heap.size+1) 243 j0 (.agg #[.int .i64 0,.int .i64 0,.slice none 0 0]) 3 40 a2X hj hy0 hy1 hy2 rfl (by decide) _ _ _ rfl (a0o (ae HX).2.1 _) ⟨wr.heap.size+1,0,none⟩ 1 1 [.int .i64 y,.int .i64 (k:Int),.slice (some ⟨wr.heap.size,0,none⟩) 1 1] rfl rfl (mz _ _ _ _ _ _ (ae HX).2.2.2.2.2) (mA _ _ _ _ _) (ae hlen1).1 (ae hlen1).2 (az (by rw[(ae HX).2.2.2.2.2];omega) _) ?_;intro v' x3 hown hgrow hnil;clear hnil);obtain⟨hA,ht1,hs1,hp1,hbel1,hsz1⟩:=ae HX;have hAl:∀{B:Nat} {o:Obj},B=wr.heap.size+1->Below B (wr.alloc (.cells #[.int .i64 (k:Int)] 3)) ((wr.alloc (.cells #[.int .i64 (k:Int)] 3)).alloc o):=fun{B} {o} e=>(a0c _ _).alloc (by rw[hsz1];omega) _;have ht2:cJ 243 ((wr.alloc (.cells #[.int .i64 (k:Int)] 3)).alloc (.cells #[.int .i64 y,.int .i64 (k:Int),.slice (some ⟨wr.heap.size,0,none⟩) 1 1] 243)) (w.heap.size+1) u4 L:=a0o ht1 _;have hs3:=(hs1.later (hAl rfl) (by rw[hsz1];exact a0a _)).grown ht2 (by decide) hgrow;have hA3:=gt (hA.later (hAl rfl) (by rw[hsz1];exact a0a _)) ht2 (by decide) hgrow;have hp3:=gt (hp1.later (hAl rfl) (by rw[hsz1];exact a0a _)) ht2 (by decide) hgrow;have hb3:Below w.heap.size w x3:=aF (v:=u4) hgrow ht1 (by omega) (by rw[hsz1];omega) hbel1;have ht3:=mB ⟨y,(k:Int),[(k:Int)],.slice (some ⟨wr.heap.size,0,none⟩) 1 1⟩ hown;have hs4:=hs3.snoc (g:=⟨y,(k:Int),[(k:Int)],.slice (some ⟨wr.heap.size,0,none⟩) 1 1⟩) hA3;clear hown hgrow HX hA ht1 hs1 hp1 hbel1 hAl ht2 hs3 hA3;go_wp2;go_roundw
    case rel=>exact⟨k+1,L++[⟨y,(k:Int),[(k:Int)],.slice (some ⟨wr.heap.size,0,none⟩) 1 1⟩],by omega,by go_num,by rw[ae hst,a0K,ae HL];rfl,ht3,hs4,hp3,hb3⟩
    case measure=>simp[intOf];omega
   ·
    have hst:=af (Bw hy);generalize l.getD k 0=y at *
    go_wp2;go_roundw
    case rel=>exact⟨k+1,L,by omega,by go_num,by rw[ae hst];exact ae HL,ht,hs,hp,hbel⟩
    case measure=>simp[intOf];omega
  ·
   obtain rfl:k=n:=by omega
   have hseed:Hid (L.map bare=aB l l.length):=by show L.map bare=aB l l.length;rw[ae HN];exact ae HL
   have hU:Hid (L.length=(aB l l.length).length):=by show L.length=(aB l l.length).length;rw[←ae hseed,a0P]
   have hUb:L.length<=300:=by
    have h2:=(jT l 100000 (by omega) (fun i hi=>(ae HC i hi).2) l.length (a0a _)).2.2;have:=ae hU;have:=ae HM;have:=ae HN;omega
   have hwf:=af (Bz l l.length (a0a _));obtain⟨va,vc,rfl⟩:=ht.form;clear h;by_cases hone:L.length=1
   ·
    obtain⟨g,rfl⟩:=ht.somes (by omega);obtain⟨_,c1,_,_,_⟩:=ht.at rfl 0 (by omega);have hm0:=ae hwf ((aB l l.length).getD 0 g0) (ft _ 0 (by have:=ae hU;omega));have hf0:(L.getD 0 g0).fst=((aB l l.length).getD 0 g0).fst:=by rw[←ae hseed,me];rfl
    obtain⟨_,f0,f1,_,_⟩:=hm0;rw[←hf0,ae HN]at f1;rw[←hf0]at f0;have hres:Hid (bR l=(List.replicate l.length 0).set (L.getD 0 g0).fst.toNat 1):=by
     show bR l=_;unfold bR;rw[a0d (by rw[←ae hU];exact hone),hf0]
    generalize (L.getD 0 g0).fst=f at *
    obtain⟨q,rfl⟩:=a0r f0;rw[a0p]at hres;have hlenr:(List.replicate l.length (0:Int)).length=k:=by simp[ae HN]
    obtain⟨d0,e0,_,_⟩:=hp.at (j:=q) hlenr (by omega);have hput:=hp.put (j:=q) hlenr 1;have hbel2:=ag hbel (b:=w.heap.size) (o:=q) (a0a _) (.int .i64 1);rw[←ae hres]at hput;have HP:=af hput;have HB:=af hbel2;have c1':wr.cell? ⟨g,1,none⟩=some (.int .i64 (q:Int)):=by simpa using c1
    clear hput hbel2 hlenr hres hbel hp hs ht c1 hf0;rw[hone];generalize (List.replicate l.length (0:Int)).getD q 0=y at *
    go_wp2_with fail
    go_loopw [4,6,7,8,9,10,11] (fun v _ _ _ _ _ _ wq=>v = .slice (some ⟨g,0,none⟩) 1 vc/\wq=wr.setCell ⟨w.heap.size,q,none⟩ (.int .i64 1)) (fun _ _ _ _ _ _ _ _=>0)
    case atStart=>exact⟨rfl,rfl⟩
    case round=>
     obtain⟨rfl,hw⟩:=hrel;subst hw;go_wp2;go_ret;exact⟨rfl,ae HP,ae HB⟩
   ·
    have hne:((L.length:Int) == 1)=false:=by rw[a1s];omega
    have hfin:Hid (∀k,(aB l l.length).length-k<=1->(k<(aB l l.length).length∨k=0)->bR l=(ax l k).2):=by
     intro k h1 h2;unfold bR;have:=ae hU;rw[a0e (by omega)]
     congr 2;omega
    have HUB:=af hUb;clear hUb;have hp':ak wr w.heap.size (.slice (some ⟨w.heap.size,0,none⟩) k k) (ax l 0).2:=hp;have hL0:L.map bare=(ax l 0).1:=ae hseed;generalize hUe:(aB l l.length).length=U at *
    have HUE:=af hUe;clear hUe hwf hseed HL hp;go_wp2_with fail
    go_loopw [4,6,7,8,9,10,11] (fun v _ _ _ _ _ _ wq=>∃(j:Nat) (M:List Grp),(j<U∨j=0)/\M.map bare=(ax l j).1/\cJ 243 wq (w.heap.size+1) v M/\dH wq (w.heap.size+1) M/\ak wq w.heap.size (.slice (some ⟨w.heap.size,0,none⟩) k k) (ax l j).2/\Below w.heap.size w wq) (fun v _ _ _ _ _ _ _=>sliceLen v)
    case atStart=>exact⟨0,L,.inr rfl,hL0,ht,hs,hp',hbel⟩
    case round=>
     obtain⟨j,M,hj,hM,htm,hsm,hpm,hbm⟩:=hrel;clear ht hs hp' hbel hL0 hne hone;have hInv:=cf l j (by rw[ae HUE];exact hj);rw[←hM,ae HUE]at hInv;obtain⟨iw,ic,is,il⟩:=hInv;rw[a0P]at il;obtain⟨ma,mc,rfl⟩:=htm.form;have HM2:=af hM;have HJ:=af hj;clear hM hj;by_cases hgo:1<M.length
     ·
      have hgoI:(1:Int)<(M.length:Int):=by omega
      have hUB:=ae HUB;have hM300:M.length<=300:=by have:=ae hU;omega
      have hMI:(M.length:Int)<=300:=by omega
      have hw0:w.heap.size+1<=wr.heap.size:=hpm.below.2;have hq1:=dZ M (by omega);have iw':WFL k M:=by
       intro g hg;have h1:=iw (bare g) (a2p hg);rw[ae HN]at h1;exact h1
      have hwa:=iw' _ (bC M (by omega));have hrl:=dm M (by omega);have hwb:=iw' _ (bf M _ (bC (al M) (by omega)));have hq2:=dZ (al M) (by omega);have htot:fT M<=30000000:=by
       have h1:=(jT l 100000 (by omega) (fun i hi=>(ae HC i hi).2) l.length (a0a _)).1;have h2:fT (M.map bare)=fT M:=by simp[fT,Function.comp_def,bare]
       rw[h2]at ic;have:=ae HN;have h3:(100000:Int)*(l.length:Int)<=100000*300:=Int.mul_le_mul_of_nonneg_left (by omega) (by omega);omega
      have htwo:=vF iw' hgo;have HLe:=af (pO ma mc M.length (w.heap.size+1) M wr rfl htm (by omega) hM300);obtain⟨g,rfl⟩:=htm.somes (by omega);have hfm:Hid (aE M=M.getD (least M) g0):=rfl;have hrm:Hid (al M=M.eraseIdx (least M)):=rfl;have HQ:=af (a0b htm (a0b hsm (a0b hpm hbm)));have HFA:=af (a0b hwa (a0b hrl (a0b hwb (a0b hq2 (a0b htot htwo)))));have HGO:=af (a0b hgo (a0b hM300 (a0b hq1 (a0b hw0 il))));have HIW:=af iw';clear htm hsm hpm hbm ic is iw hwa hrl hwb hq2 htot htwo hgo hM300 hq1 hw0 il iw' hUB;go_wp2_with fail;refine(ae HLe).mono ?_;rintro e x1 ⟨rfl,hb1⟩;obtain⟨htm,hsm,hpm,hbm⟩:=ae HQ;obtain⟨hgo,hM300,hq1,hw0,il⟩:=ae HGO;obtain⟨hwa,hrl,hwb,hq2,htot,htwo⟩:=ae HFA;have ht1:=htm.later hb1 (a0a _);have hs1:=hsm.later hb1 (a0a _);have hp1:=hpm.later hb1 (a0a _);have hB1:=am hbm hb1;have hz1':=hb1.size;obtain⟨c0,c1,c2,_,hgx⟩:=ht1.at rfl (least M) hq1;rw[←ae hfm]at c0 c1 c2;have hvA:=hs1 _ (bC M (by omega));obtain⟨aa,ac,hav⟩:=hvA.form;obtain⟨ga,hga⟩:=(hav▸hvA).somes hwa.2.2.2.2;rw[hga]at hav;rw[hav]at c2 hvA;have hqI:((least M:Nat):Int)<(M.length:Int):=by omega
      have HLs:=af (rE (some ⟨g,0,none⟩) mc M.length (w.heap.size+1) (w.heap.size+1) (least M) M (x1.alloc (.cells #[.int .i64 (aE M).cnt,.int .i64 (aE M).fst,.slice (some ⟨ga,0,none⟩) (aE M).syms.length ac] 243)) rfl (ht1.later ((a0c x1.heap.size x1).alloc (a0a _) _) (a0a _)) (hs1.later ((a0c x1.heap.size x1).alloc (a0a _) _) (a0a _)) hq1 hM300);have HQ1:=af (a0b ht1 (a0b hs1 (a0b hp1 (a0b hB1 hvA))));have hgxI:=af hgx;have hq1w:w.heap.size+1<=x1.heap.size:=hp1.below.2;clear htm hsm hpm hbm HQ HLe ht1 hs1 hp1 hB1 hvA hav hwa hrl hwb hq2 htot htwo hgo hM300 hq1 hw0 il hga hgx hz1';generalize hA0:aE M=A at *
      have HA0:=af hA0;clear hA0;go_wp2_with fail;refine(ae HLs).mono ?_;rintro e x2 ⟨⟨v1,rfl,ht2⟩,hb2⟩;obtain⟨ht1,hs1,hp1,hB1,hvA⟩:=ae HQ1;obtain⟨hgo,hM300,hq1,hw0,il⟩:=ae HGO;obtain⟨hwa,hrl,hwb,hq2,htot,htwo⟩:=ae HFA;rw[←ae hrm]at ht2;have hba:Below x1.heap.size x1 (x1.alloc (.cells #[.int .i64 A.cnt,.int .i64 A.fst,.slice (some ⟨ga,0,none⟩) A.syms.length ac] 243)):=(a0c _ _).alloc (a0a _) _;have hb12:=am hba hb2;have hA2:=(oD x1 (.int .i64 A.cnt) (.int .i64 A.fst) (.slice (some ⟨ga,0,none⟩) A.syms.length ac) 243).later hb2;have hs2:=hs1.later hb12 (a0a _);have hp2:=hp1.later hb12 (a0a _);have hvA2:=hvA.later hb12 (a0a _);have hB2:=am hB1 hb12;have ht2':=ht2.mono (show w.heap.size+1<=_ by have:=hp1.below.2;have:=hba.size;omega);obtain⟨ra,rc,hrv⟩:=ht2'.form;subst hrv;obtain⟨g2,hg2⟩:=ht2'.somes (by omega);subst hg2;have hlr:(al M).length=M.length-1:=hrl;have HLe2:=af (pO (some ⟨g2,0,none⟩) rc (al M).length (w.heap.size+1) (al M) x2 rfl ht2' (by omega) (by omega));have hrI:((al M).length:Int)<=300:=by omega
      have HQ2:=af (a0b ht2' (a0b hs2 (a0b hp2 (a0b hB2 (a0b hvA2 hA2)))));clear ht1 hs1 hp1 hB1 hvA HQ1 HLs hba hb12 hA2 hs2 hp2 hvA2 hB2 ht2' ht2 hb2 c0 c1 c2 hqI hwa hrl hwb hq2 htot htwo hgo hM300 hq1 hw0 il hlr;go_wp2_with fail;refine(ae HLe2).mono ?_;rintro e x3 ⟨rfl,hb3⟩;obtain⟨ht2,hs2,hp2,hB2,hvA2,hA2⟩:=ae HQ2;obtain⟨hgo,hM300,hq1,hw0,il⟩:=ae HGO;obtain⟨hwa,hrl,hwb,hq2,htot,htwo⟩:=ae HFA;have ht3:=ht2.later hb3 (a0a _);have hs3:=hs2.later hb3 (a0a _);have hp3:=hp2.later hb3 (a0a _);have hvA3:=hvA2.later hb3 (a0a _);have hA3:=hA2.later hb3;have hB3:=am hB2 hb3;have hfm2:aE (al M)=(al M).getD (least (al M)) g0:=rfl;obtain⟨c0,c1,c2,_,hgx⟩:=ht3.at rfl (least (al M)) hq2;rw[←hfm2]at c0 c1 c2;have hvB:=hs3 _ (bf M _ (bC (al M) (by omega)));obtain⟨bb,bc,hbv⟩:=hvB.form;obtain⟨gb,hgb⟩:=(hbv▸hvB).somes hwb.2.2.2.2;rw[hgb]at hbv;rw[hbv]at c2 hvB;have hqI:((least (al M):Nat):Int)<((al M).length:Int):=by omega
      have HLs:=af (rE (some ⟨g2,0,none⟩) rc (al M).length (w.heap.size+1) (w.heap.size+1) (least (al M)) (al M) (x3.alloc (.cells #[.int .i64 (aE (al M)).cnt,.int .i64 (aE (al M)).fst,.slice (some ⟨gb,0,none⟩) (aE (al M)).syms.length bc] 243)) rfl (ht3.later ((a0c x3.heap.size x3).alloc (a0a _) _) (a0a _)) ((hs3.sub (bf M)).later ((a0c x3.heap.size x3).alloc (a0a _) _) (a0a _)) hq2 (by omega));have HQ3:=af (a0b ht3 (a0b hs3 (a0b hp3 (a0b hB3 (a0b hvA3 (a0b hA3 hvB))))));clear ht2 hs2 hp2 hB2 hvA2 hA2 HQ2 HLe2 ht3 hs3 hp3 hvA3 hA3 hB3 hvB hbv hb3 hwa hrl hwb hq2 htot htwo hgo hM300 hq1 hw0 il hgb hgx hfm2;generalize hB0:aE (al M)=Bg at *
      have HB0:=af hB0;clear hB0;go_wp2_with fail;refine(ae HLs).mono ?_;rintro e x4 ⟨⟨v2,rfl,ht4⟩,hb4⟩;obtain⟨ht3,hs3,hp3,hB3,hvA3,hA3,hvB⟩:=ae HQ3;obtain⟨hgo,hM300,hq1,hw0,il⟩:=ae HGO;obtain⟨hwa,hrl,hwb,hq2,htot,htwo⟩:=ae HFA;have hrm2:(al M).eraseIdx (least (al M))=al (al M):=rfl;rw[hrm2]at ht4;have hba:Below x3.heap.size x3 (x3.alloc (.cells #[.int .i64 Bg.cnt,.int .i64 Bg.fst,.slice (some ⟨gb,0,none⟩) Bg.syms.length bc] 243)):=(a0c _ _).alloc (a0a _) _;have hb34:=am hba hb4;have hBb4:=(oD x3 (.int .i64 Bg.cnt) (.int .i64 Bg.fst) (.slice (some ⟨gb,0,none⟩) Bg.syms.length bc) 243).later hb4;have hA4:=hA3.later hb34;have hs4:=hs3.later hb34 (a0a _);have hp4:=hp3.later hb34 (a0a _);have hvA4:=hvA3.later hb34 (a0a _);have hvB4:=hvB.later hb34 (a0a _);have hB4:=am hB3 hb34;have hw4:w.heap.size+1<=x4.heap.size:=hp4.below.2;have hq3w:w.heap.size+1<=x3.heap.size:=hp3.below.2;have ht4':=ht4.mono (show w.heap.size+1<=_ by have:=hp3.below.2;have:=hba.size;omega);have hrl2:=dm (al M) (by omega);obtain⟨ra,rc',hrv⟩:=ht4'.form;subst hrv;have hcA:Hid ((A.syms.map (Value.int .i64)).length=A.syms.length*1):=by show _=_;simp
      have hcB:Hid ((Bg.syms.map (Value.int .i64)).length=Bg.syms.length*1):=by show _=_;simp
      have hlA:A.syms.length+Bg.syms.length<=300:=by
       have h1:=htwo.2;have h2:(bg M).length=A.syms.length+Bg.syms.length:=by
        unfold bg;rw[a0m,ae HA0,ae HB0]
       have h3:=(cf l j (by rw[ae HUE];exact ae HJ)).2.2.1;have h4:ju (M.map bare)=ju M:=by simp[ju,Function.comp_def,bare]
       rw[←ae HM2,h4]at h3;have h5:=(jT l 100000 (by omega) (fun i hi=>(ae HC i hi).2) l.length (a0a _)).2.1;have:=ae HN;have:=ae HM;omega
      have HSA:Hid (∀W,Below x4.heap.size x4 W->∀j u,(A.syms.map (Value.int .i64))[j]?=some u->W.cell? ((⟨ga,0,none⟩:Addr).add j)=some u):=fun W hW=>a1V (hvA4.later hW (a0a _)) rfl;have HSB:Hid (∀W,Below x4.heap.size x4 W->∀j u,(Bg.syms.map (Value.int .i64))[j]?=some u->W.cell? ((⟨gb,0,none⟩:Addr).add j)=some u):=fun W hW=>a1V (hvB4.later hW (a0a _)) rfl;have HCC:∀W,Below x4.heap.size x4 W->W.cell? ⟨x1.heap.size,2,none⟩=some (.slice (some ⟨ga,0,none⟩) A.syms.length ac)/\W.cell? ⟨x3.heap.size,2,none⟩=some (.slice (some ⟨gb,0,none⟩) Bg.syms.length bc):=fun W hW=>⟨(hA4.later hW).2.2.1,(hBb4.later hW).2.2.1⟩;have hR0:World.ownsRow (x4.alloc (.cells #[] 3)).drew x4.heap.size 3 1 (.slice (some ⟨x4.heap.size,0,none⟩) 0 0) 0 []:=a08 x4 #[] 0 (a0a _) (by unfold maxLen;omega) rfl;have hBd:Below x4.heap.size x4 (x4.alloc (.cells #[] 3)).drew:=((a0c _ _).alloc (a0a _) _).drew;have hb1:Hid (0+A.syms.length<=maxLen/\(0+A.syms.length)*8<=140737488355328):=by show _/\_;unfold maxLen;omega
      have hb2:Hid (0+A.syms.length+Bg.syms.length<=maxLen/\(0+A.syms.length+Bg.syms.length)*8<=140737488355328):=by show _/\_;unfold maxLen;omega
      obtain⟨a0,a1,a2,_,_,_,abl⟩:=hA4;obtain⟨b0,b1,b2,_,_,_,bbl⟩:=hBb4;have HNE1:x1.heap.size≠w.heap.size:=by have:=hq1w;omega
      have HNE3:x3.heap.size≠w.heap.size:=by have:=hq3w;omega
      have hB4d:Below x4.heap.size x4 x4.drew:=(a0c _ _).drew;have hmin:Hid ((du A Bg).fst=if Bg.fst<A.fst then Bg.fst else A.fst):=rfl;have HLA:=af hlA;have HTT:=af (a0b htot (a0b htwo.1 (a0b hwa hwb)));have HRL:=af (a0b hrl2 (a0b hrl (a0b hgo (a0b hM300 il))));have HQ4:=af (a0b ht4' (a0b hs4 (a0b hp4 hB4)));clear ht3 hs3 hp3 hB3 hvA3 hA3 hvB HQ3 HLs hba hb34 hs4 hp4 hvA4 hvB4 hB4 ht4' ht4 hb4 c0 c1 c2 hqI hwa hrl hwb hq2 htot htwo hgo hM300 hq1 hw0 il hrl2 hlA hrm2;have hfst:∃F:Int,(du A Bg).fst=F:=⟨_,rfl⟩;obtain⟨F,hF⟩:=hfst;have HF:=af hF;clear hF;by_cases hlt2:Bg.fst<A.fst
      ·
       have hFe:Hid (Bg.fst=F):=by have:=ae hmin;rw[ae HF,a0d hlt2]at this;exact this.symm
       go_wp2_with fail
       go_region_held3 (fun W=>W.cell? ⟨x1.heap.size,2,none⟩=some (.slice (some ⟨ga,0,none⟩) A.syms.length ac)/\W.cell? ⟨x3.heap.size,2,none⟩=some (.slice (some ⟨gb,0,none⟩) Bg.syms.length bc)) (first|exact HCC _ hB4d|assumption|exact HCC _ hBd) (first
        | (refine bE rfl (.tmp 76) (.tmp 78) 84 rfl x4.heap.size 3 i0 (.int .i64 0) 1 8 a0h hi hz0 hz1 hz2 rfl (a2C 0) (.slice (some ⟨x4.heap.size,0,none⟩) 0 0) _ _ rfl hR0 ⟨ga,0,none⟩ A.syms.length ac (A.syms.map (Value.int .i64)) rfl (ae hcA) (ae HSA _ hBd) (a1b .i64 _) (ae hb1).1 (ae hb1).2 hBd.size ?_;intro v5 x5 hown5 hgrow5 hnil5;clear hnil5;have hB5:Below x4.heap.size x4 x5:=hBd.grown hgrow5 hBd.size (fun j hj=>(a0G hR0 j hj).1);have hC5:=HCC _ hB5)
        | (refine bE rfl (.tmp 79) (.tmp 81) 84 rfl x4.heap.size 3 i0 (.int .i64 0) 1 8 a0h hi hz0 hz1 hz2 rfl (a2C 0) v5 _ _ rfl hown5 ⟨gb,0,none⟩ Bg.syms.length bc (Bg.syms.map (Value.int .i64)) rfl (ae hcB) (ae HSB _ hB5) (a1b .i64 _) (ae hb2).1 (ae hb2).2 hB5.size ?_;intro v6 x6 hown6 hgrow6 hnil6;clear hnil6;have hB6:Below x4.heap.size x4 x6:=hB5.grown hgrow6 hB5.size (fun j hj=>(a0G hown5 j hj).1);have hC6:=HCC _ hB6))
       obtain⟨ht4,hs4,hp4,hB4⟩:=ae HQ4;have hw4:w.heap.size+1<=x4.heap.size:=hp4.below.2;have hsy:ak x6 x4.heap.size v6 (A.syms++Bg.syms):=by
        show World.ownsRow _ _ _ _ _ (A.syms++Bg.syms).length ((A.syms++Bg.syms).map (Value.int .i64));rw[a0m,a0K];simpa using hown6
       have hSl:Hid ((A.syms++Bg.syms).length<=300/\0<(A.syms++Bg.syms).length):=by
        show _/\_;rw[a0m];have:=ae HLA;have:=(ae HTT).2.2.1.2.2.2.2;omega
       have hSw:Hid (∀x∈A.syms++Bg.syms,0<=x/\x<(k:Int)):=by
        intro x hx;simp only[a0X]at hx;rcases hx with hx|hx
        · exact(ae HTT).2.2.1.2.2.2.1 x hx
        · exact(ae HTT).2.2.2.2.2.2.1 x hx
       have hSe:Hid (bg M=A.syms++Bg.syms):=by
        show bg M=_;unfold bg;rw[ae HA0,ae HB0]
       have hJs:Hid ((du A Bg).syms=A.syms++Bg.syms):=rfl;generalize A.syms++Bg.syms=S at *
       obtain⟨sv,sc,hvv⟩:=hsy.form;obtain⟨gs,hgs⟩:=(hvv▸hsy).somes (ae hSl).2;rw[hgs]at hvv;rw[hvv];rw[hvv]at hsy;have ht6:=ht4.later hB6 (a0a _);have hs6:=hs4.later hB6 (a0a _);have hp6:=hp4.later hB6 (a0a _);have hBB6:=am hB4 hB6;have hgsb:=hsy.below;have a0':=(hB6.cell (p:=⟨x1.heap.size,0,none⟩) abl).trans a0;have b0':=(hB6.cell (p:=⟨x3.heap.size,0,none⟩) bbl).trans b0;have hmx:=af (nV l (fun i hi=>(ae HC i hi).2) (by rw[ae HN];exact ae HM) j (by rw[ae HUE];exact ae HJ));have hjb:Hid ((j:Int)<=300):=by show(j:Int)<=300;have:=ae HJ;have:=ae hU;have:=ae HUB;omega
       have hx13:x1.heap.size≠w.heap.size/\x3.heap.size≠w.heap.size:=⟨HNE1,HNE3⟩;have HSY:=af hsy;have HT6:=af ht6;have HS6:=af hs6;have HX13:=af hx13;have HAB:=af (a0b a0' b0');have HGS:=af hgsb;have sI:(S.length:Int)<=300:=by have:=(ae hSl).1;omega
       clear hown5 hown6 hgrow5 hgrow6 hC5 hC6 hB5 ht4 hs4 hp4 hB4 ht6 hs6 hsy HCC HSA HSB hR0 hBd hB4d hvv hgs a0 a1 a2 b0 b1 b2 hx13 a0' b0' hgsb hcA hcB;go_wp2_with fail
       go_loopw [11] (fun i wq=>∃t:Nat,t<=S.length/\i = .int .i64 t/\ak wq w.heap.size (.slice (some ⟨w.heap.size,0,none⟩) k k) (bump (ax l j).2 (S.take t))/\Touch (some ⟨w.heap.size,0,none⟩) x6 wq/\Below w.heap.size w wq) (fun i _=>S.length-(intOf i).toNat)
       case atStart=>exact⟨0,a0l _,rfl,hp6,Touch.refl _ _,hBB6⟩
       case round=>
        obtain⟨t,ht,rfl,hpt,htch,hbt⟩:=hrel;clear hp6 hBB6;have hln:Hid ((bump (ax l j).2 (S.take t)).length=k):=by show(bump (ax l j).2 (S.take t)).length=k;rw[ll,dK,ae HN]
        have htk:Hid (t<=S.length):=ht;clear ht;by_cases hlt3:t<S.length
        ·
         have hsyt:=(ae HSY).touch htch (by intro g e;simp only[a0j,a0y,a0Q]at e;have:=hw4;omega);obtain⟨c0,_,_,_⟩:=hsyt.at rfl hlt3;have hx:=ae hSw (S.getD t 0) (by simp[List.getD,hlt3]);have hbt1:=af (oL (ax l j).2 S t hlt3);have hmx2:=af (nK (ae hmx) (S.take t));obtain⟨q,hq⟩:=a0r hx.1;rw[hq]at c0 hbt1;have hqk:q<k:=by omega
         obtain⟨d0,f0,_,_⟩:=hpt.at (ae hln) hqk;have hyb:=ae hmx2 q (by rw[ae hln];exact hqk);have hput:=hpt.put (j:=q) (ae hln) ((bump (ax l j).2 (S.take t)).getD q 0+1);have hst:Hid (bump (ax l j).2 (S.take (t+1))=(bump (ax l j).2 (S.take t)).set q ((bump (ax l j).2 (S.take t)).getD q 0+1)):=by
          show bump (ax l j).2 (S.take (t+1))=_;rw[ae hbt1];unfold eV;rw[a0p]
         have hyI:(bump (ax l j).2 (S.take t)).getD q 0<=100000:=by
          have h1:=hyb.2;have h2:(S.take t).length<=300:=by rw[a0L];have:=(ae hSl).1;omega
          have:=ae hjb;omega
         have hy0:=hyb.1;have hbt2:=ag hbt (b:=w.heap.size) (o:=q) (a0a _) (.int .i64 ((bump (ax l j).2 (S.take t)).getD q 0+1));have htch2:=htch.set (o:=q) rfl (.int .i64 ((bump (ax l j).2 (S.take t)).getD q 0+1));generalize (bump (ax l j).2 (S.take t)).getD q 0=y at *
         have HPUT:=af (a0b hput (a0b hbt2 htch2));have hqI:(q:Int)<(k:Int):=by omega
         have htI:(t:Int)<(S.length:Int):=by omega
         clear hput hbt2 htch2 hpt hsyt hbt htch hyb hx hq hqk;go_wp2_with fail
         go_region
         obtain⟨hput,hbt2,htch2⟩:=ae HPUT;rw[←ae hst]at hput;go_wp2;go_roundw
         case rel=>exact⟨t+1,by have:=ae htk;omega,by go_num,hput,htch2,hbt2.drew⟩
         case measure=>simp[intOf];omega
        ·
         have htS:S.take t=S:=a0F (by omega);rw[htS]at hpt;have htq:cJ 243 wr (w.heap.size+1) (.slice ra (al (al M)).length rc') (al (al M)):=jp (ae HT6) htch (fA _ _ (a0i _));have hsq:dH wr (w.heap.size+1) (al (al M)):=fun g hg=>(ae HS6 g (bf M _ (bf _ _ hg))).touch htch (fA _ _ (a0i _));have hvq:ak wr (w.heap.size+1) (.slice (some ⟨gs,0,none⟩) S.length sc) S:=((ae HSY).touch htch (fA _ _ (by omega))).mono hw4;have a0q:=(eM (p:=⟨x1.heap.size,0,none⟩) htch (ae HX13).1).trans (ae HAB).1;have b0q:=(eM (p:=⟨x3.heap.size,0,none⟩) htch (ae HX13).2).trans (ae HAB).2;have hnext:Hid ((ax l (j+1)).2=bump (ax l j).2 S):=by
          show(ax l (j+1)).2=_;simp only[ax];rw[←ae HM2,um,ae hSe]
         have hnext1:Hid ((ax l (j+1)).1=(al (al M)).map bare++[du A Bg]):=by
          show(ax l (j+1)).1=_;simp only[ax];rw[←ae HM2,uf,ae HA0,ae HB0]
         rw[←ae hnext]at hpt;obtain⟨hrl2,hrl,hgo,hM300,il⟩:=ae HRL;have hj1:Hid (j+1<U):=by show j+1<U;omega
         have hlr2:Hid ((al (al M)).length+1<M.length+0):=by show _<_;omega
         have hlen1:Hid ((al (al M)).length+1<=maxLen/\((al (al M)).length+1)*40<=140737488355328):=by show _/\_;unfold maxLen;omega
         have hcs:=ae HTT;have hcI:A.cnt+Bg.cnt<=30000000:=by have:=hcs.1;have:=hcs.2.1;omega
         have hcA0:=hcs.2.2.1.1;have hcB0:=hcs.2.2.2.1;have hbq:w.heap.size+1<=wr.heap.size:=hpt.below.2;have HPQ:=af (a0b htq (a0b hsq (a0b hvq (a0b hpt hbt))));have hgrp:Hid ((du A Bg).cnt=A.cnt+Bg.cnt):=rfl;clear hrl2 hrl hgo hM300 il htq hsq hvq hpt hbt htch htS hcs HTT HRL HT6 HS6 HSY HAB;rw[ae hFe];go_wp2_with (at_builtin;refine a0B _ rfl _ _ 241 rfl (w.heap.size+1) 243 j0 (.agg #[.int .i64 0,.int .i64 0,.slice none 0 0]) 3 40 a2X hj hy0 hy1 hy2 rfl (by decide) _ _ _ rfl (a0o (ae HPQ).1 _) ⟨wr.heap.size,0,none⟩ 1 1 [.int .i64 (A.cnt+Bg.cnt),.int .i64 F,.slice (some ⟨gs,0,none⟩) S.length sc] rfl rfl (mz _ _ _ _ _ _ rfl) (mA _ _ _ _ _) (ae hlen1).1 (ae hlen1).2 (az hbq _) ?_;intro v7 x7 hown7 hgrow7 hnil7;clear hnil7);obtain⟨htq,hsq,hvq,hpt,hbt⟩:=ae HPQ;have hal:Below wr.heap.size wr (wr.alloc (.cells #[.int .i64 (A.cnt+Bg.cnt),.int .i64 F,.slice (some ⟨gs,0,none⟩) S.length sc] 243)):=(a0c _ _).alloc (a0a _) _;have htq2:=htq.later hal (a0a _);have hs7:=(hsq.later hal (a0a _)).grown htq2 (by decide) hgrow7;have hv7:=gt (hvq.later hal (a0a _)) htq2 (by decide) hgrow7;have hp7:=gt (hpt.later hal (a0a _)) htq2 (by decide) hgrow7;have hb7:Below w.heap.size w x7:=aF (v:=.slice ra (al (al M)).length rc') hgrow7 htq (by omega) (by omega) hbt;have ht7:=mB ⟨A.cnt+Bg.cnt,F,S,.slice (some ⟨gs,0,none⟩) S.length sc⟩ hown7;have hs8:=hs7.snoc (g:=⟨A.cnt+Bg.cnt,F,S,.slice (some ⟨gs,0,none⟩) S.length sc⟩) hv7;have hbr:Hid ((al (al M)++[(⟨A.cnt+Bg.cnt,F,S,.slice (some ⟨gs,0,none⟩) S.length sc⟩:Grp)]).map bare=(ax l (j+1)).1):=by
          show _=(ax l (j+1)).1;rw[ae hnext1,a0K]
          congr 1
          have e:du A Bg=⟨A.cnt+Bg.cnt,F,S,.slice none 0 0⟩:=by
           rw[←ae HF,←ae hJs];rfl
          rw[e];rfl
         have hsl7:Hid (sliceLen v7<M.length):=by
          show sliceLen v7<M.length;obtain⟨fa,fc,hv⟩:=ht7.form;rw[hv];have:=ae hlr2;simp only[sliceLen,a0m,a07];omega
         clear hown7 hgrow7 hal htq2 hs7 hv7 htq hsq hvq hpt hbt HPQ;go_wp2;go_roundw
         case rel=>exact⟨j+1,_,.inl (ae hj1),ae hbr,ht7,hs8,hp7,hb7⟩
         case measure=>exact ae hsl7
      ·
       have hFe:Hid (A.fst=F):=by have:=ae hmin;rw[ae HF,a0e hlt2]at this;exact this.symm
       go_wp2_with fail
       go_region_held3 (fun W=>W.cell? ⟨x1.heap.size,2,none⟩=some (.slice (some ⟨ga,0,none⟩) A.syms.length ac)/\W.cell? ⟨x3.heap.size,2,none⟩=some (.slice (some ⟨gb,0,none⟩) Bg.syms.length bc)) (first|exact HCC _ hB4d|assumption|exact HCC _ hBd) (first
        | (refine bE rfl (.tmp 76) (.tmp 78) 84 rfl x4.heap.size 3 i0 (.int .i64 0) 1 8 a0h hi hz0 hz1 hz2 rfl (a2C 0) (.slice (some ⟨x4.heap.size,0,none⟩) 0 0) _ _ rfl hR0 ⟨ga,0,none⟩ A.syms.length ac (A.syms.map (Value.int .i64)) rfl (ae hcA) (ae HSA _ hBd) (a1b .i64 _) (ae hb1).1 (ae hb1).2 hBd.size ?_;intro v5 x5 hown5 hgrow5 hnil5;clear hnil5;have hB5:Below x4.heap.size x4 x5:=hBd.grown hgrow5 hBd.size (fun j hj=>(a0G hR0 j hj).1);have hC5:=HCC _ hB5)
        | (refine bE rfl (.tmp 79) (.tmp 81) 84 rfl x4.heap.size 3 i0 (.int .i64 0) 1 8 a0h hi hz0 hz1 hz2 rfl (a2C 0) v5 _ _ rfl hown5 ⟨gb,0,none⟩ Bg.syms.length bc (Bg.syms.map (Value.int .i64)) rfl (ae hcB) (ae HSB _ hB5) (a1b .i64 _) (ae hb2).1 (ae hb2).2 hB5.size ?_;intro v6 x6 hown6 hgrow6 hnil6;clear hnil6;have hB6:Below x4.heap.size x4 x6:=hB5.grown hgrow6 hB5.size (fun j hj=>(a0G hown5 j hj).1);have hC6:=HCC _ hB6))
       obtain⟨ht4,hs4,hp4,hB4⟩:=ae HQ4;have hw4:w.heap.size+1<=x4.heap.size:=hp4.below.2;have hsy:ak x6 x4.heap.size v6 (A.syms++Bg.syms):=by
        show World.ownsRow _ _ _ _ _ (A.syms++Bg.syms).length ((A.syms++Bg.syms).map (Value.int .i64));rw[a0m,a0K];simpa using hown6
       have hSl:Hid ((A.syms++Bg.syms).length<=300/\0<(A.syms++Bg.syms).length):=by
        show _/\_;rw[a0m];have:=ae HLA;have:=(ae HTT).2.2.1.2.2.2.2;omega
       have hSw:Hid (∀x∈A.syms++Bg.syms,0<=x/\x<(k:Int)):=by
        intro x hx;simp only[a0X]at hx;rcases hx with hx|hx
        · exact(ae HTT).2.2.1.2.2.2.1 x hx
        · exact(ae HTT).2.2.2.2.2.2.1 x hx
       have hSe:Hid (bg M=A.syms++Bg.syms):=by
        show bg M=_;unfold bg;rw[ae HA0,ae HB0]
       have hJs:Hid ((du A Bg).syms=A.syms++Bg.syms):=rfl;generalize A.syms++Bg.syms=S at *
       obtain⟨sv,sc,hvv⟩:=hsy.form;obtain⟨gs,hgs⟩:=(hvv▸hsy).somes (ae hSl).2;rw[hgs]at hvv;rw[hvv];rw[hvv]at hsy;have ht6:=ht4.later hB6 (a0a _);have hs6:=hs4.later hB6 (a0a _);have hp6:=hp4.later hB6 (a0a _);have hBB6:=am hB4 hB6;have hgsb:=hsy.below;have a0':=(hB6.cell (p:=⟨x1.heap.size,0,none⟩) abl).trans a0;have b0':=(hB6.cell (p:=⟨x3.heap.size,0,none⟩) bbl).trans b0;have hmx:=af (nV l (fun i hi=>(ae HC i hi).2) (by rw[ae HN];exact ae HM) j (by rw[ae HUE];exact ae HJ));have hjb:Hid ((j:Int)<=300):=by show(j:Int)<=300;have:=ae HJ;have:=ae hU;have:=ae HUB;omega
       have hx13:x1.heap.size≠w.heap.size/\x3.heap.size≠w.heap.size:=⟨HNE1,HNE3⟩;have HSY:=af hsy;have HT6:=af ht6;have HS6:=af hs6;have HX13:=af hx13;have HAB:=af (a0b a0' b0');have HGS:=af hgsb;have sI:(S.length:Int)<=300:=by have:=(ae hSl).1;omega
       clear hown5 hown6 hgrow5 hgrow6 hC5 hC6 hB5 ht4 hs4 hp4 hB4 ht6 hs6 hsy HCC HSA HSB hR0 hBd hB4d hvv hgs a0 a1 a2 b0 b1 b2 hx13 a0' b0' hgsb hcA hcB;go_wp2_with fail
       go_loopw [11] (fun i wq=>∃t:Nat,t<=S.length/\i = .int .i64 t/\ak wq w.heap.size (.slice (some ⟨w.heap.size,0,none⟩) k k) (bump (ax l j).2 (S.take t))/\Touch (some ⟨w.heap.size,0,none⟩) x6 wq/\Below w.heap.size w wq) (fun i _=>S.length-(intOf i).toNat)
       case atStart=>exact⟨0,a0l _,rfl,hp6,Touch.refl _ _,hBB6⟩
       case round=>
        obtain⟨t,ht,rfl,hpt,htch,hbt⟩:=hrel;clear hp6 hBB6;have hln:Hid ((bump (ax l j).2 (S.take t)).length=k):=by show(bump (ax l j).2 (S.take t)).length=k;rw[ll,dK,ae HN]
        have htk:Hid (t<=S.length):=ht;clear ht;by_cases hlt3:t<S.length
        ·
         have hsyt:=(ae HSY).touch htch (by intro g e;simp only[a0j,a0y,a0Q]at e;have:=hw4;omega);obtain⟨c0,_,_,_⟩:=hsyt.at rfl hlt3;have hx:=ae hSw (S.getD t 0) (by simp[List.getD,hlt3]);have hbt1:=af (oL (ax l j).2 S t hlt3);have hmx2:=af (nK (ae hmx) (S.take t));obtain⟨q,hq⟩:=a0r hx.1;rw[hq]at c0 hbt1;have hqk:q<k:=by omega
         obtain⟨d0,f0,_,_⟩:=hpt.at (ae hln) hqk;have hyb:=ae hmx2 q (by rw[ae hln];exact hqk);have hput:=hpt.put (j:=q) (ae hln) ((bump (ax l j).2 (S.take t)).getD q 0+1);have hst:Hid (bump (ax l j).2 (S.take (t+1))=(bump (ax l j).2 (S.take t)).set q ((bump (ax l j).2 (S.take t)).getD q 0+1)):=by
          show bump (ax l j).2 (S.take (t+1))=_;rw[ae hbt1];unfold eV;rw[a0p]
         have hyI:(bump (ax l j).2 (S.take t)).getD q 0<=100000:=by
          have h1:=hyb.2;have h2:(S.take t).length<=300:=by rw[a0L];have:=(ae hSl).1;omega
          have:=ae hjb;omega
         have hy0:=hyb.1;have hbt2:=ag hbt (b:=w.heap.size) (o:=q) (a0a _) (.int .i64 ((bump (ax l j).2 (S.take t)).getD q 0+1));have htch2:=htch.set (o:=q) rfl (.int .i64 ((bump (ax l j).2 (S.take t)).getD q 0+1));generalize (bump (ax l j).2 (S.take t)).getD q 0=y at *
         have HPUT:=af (a0b hput (a0b hbt2 htch2));have hqI:(q:Int)<(k:Int):=by omega
         have htI:(t:Int)<(S.length:Int):=by omega
         clear hput hbt2 htch2 hpt hsyt hbt htch hyb hx hq hqk;go_wp2_with fail
         go_region
         obtain⟨hput,hbt2,htch2⟩:=ae HPUT;rw[←ae hst]at hput;go_wp2;go_roundw
         case rel=>exact⟨t+1,by have:=ae htk;omega,by go_num,hput,htch2,hbt2.drew⟩
         case measure=>simp[intOf];omega
        ·
         have htS:S.take t=S:=a0F (by omega);rw[htS]at hpt;have htq:cJ 243 wr (w.heap.size+1) (.slice ra (al (al M)).length rc') (al (al M)):=jp (ae HT6) htch (fA _ _ (a0i _));have hsq:dH wr (w.heap.size+1) (al (al M)):=fun g hg=>(ae HS6 g (bf M _ (bf _ _ hg))).touch htch (fA _ _ (a0i _));have hvq:ak wr (w.heap.size+1) (.slice (some ⟨gs,0,none⟩) S.length sc) S:=((ae HSY).touch htch (fA _ _ (by omega))).mono hw4;have a0q:=(eM (p:=⟨x1.heap.size,0,none⟩) htch (ae HX13).1).trans (ae HAB).1;have b0q:=(eM (p:=⟨x3.heap.size,0,none⟩) htch (ae HX13).2).trans (ae HAB).2;have hnext:Hid ((ax l (j+1)).2=bump (ax l j).2 S):=by
          show(ax l (j+1)).2=_;simp only[ax];rw[←ae HM2,um,ae hSe]
         have hnext1:Hid ((ax l (j+1)).1=(al (al M)).map bare++[du A Bg]):=by
          show(ax l (j+1)).1=_;simp only[ax];rw[←ae HM2,uf,ae HA0,ae HB0]
         rw[←ae hnext]at hpt;obtain⟨hrl2,hrl,hgo,hM300,il⟩:=ae HRL;have hj1:Hid (j+1<U):=by show j+1<U;omega
         have hlr2:Hid ((al (al M)).length+1<M.length+0):=by show _<_;omega
         have hlen1:Hid ((al (al M)).length+1<=maxLen/\((al (al M)).length+1)*40<=140737488355328):=by show _/\_;unfold maxLen;omega
         have hcs:=ae HTT;have hcI:A.cnt+Bg.cnt<=30000000:=by have:=hcs.1;have:=hcs.2.1;omega
         have hcA0:=hcs.2.2.1.1;have hcB0:=hcs.2.2.2.1;have hbq:w.heap.size+1<=wr.heap.size:=hpt.below.2;have HPQ:=af (a0b htq (a0b hsq (a0b hvq (a0b hpt hbt))));have hgrp:Hid ((du A Bg).cnt=A.cnt+Bg.cnt):=rfl;clear hrl2 hrl hgo hM300 il htq hsq hvq hpt hbt htch htS hcs HTT HRL HT6 HS6 HSY HAB;rw[ae hFe];go_wp2_with (at_builtin;refine a0B _ rfl _ _ 241 rfl (w.heap.size+1) 243 j0 (.agg #[.int .i64 0,.int .i64 0,.slice none 0 0]) 3 40 a2X hj hy0 hy1 hy2 rfl (by decide) _ _ _ rfl (a0o (ae HPQ).1 _) ⟨wr.heap.size,0,none⟩ 1 1 [.int .i64 (A.cnt+Bg.cnt),.int .i64 F,.slice (some ⟨gs,0,none⟩) S.length sc] rfl rfl (mz _ _ _ _ _ _ rfl) (mA _ _ _ _ _) (ae hlen1).1 (ae hlen1).2 (az hbq _) ?_;intro v7 x7 hown7 hgrow7 hnil7;clear hnil7);obtain⟨htq,hsq,hvq,hpt,hbt⟩:=ae HPQ;have hal:Below wr.heap.size wr (wr.alloc (.cells #[.int .i64 (A.cnt+Bg.cnt),.int .i64 F,.slice (some ⟨gs,0,none⟩) S.length sc] 243)):=(a0c _ _).alloc (a0a _) _;have htq2:=htq.later hal (a0a _);have hs7:=(hsq.later hal (a0a _)).grown htq2 (by decide) hgrow7;have hv7:=gt (hvq.later hal (a0a _)) htq2 (by decide) hgrow7;have hp7:=gt (hpt.later hal (a0a _)) htq2 (by decide) hgrow7;have hb7:Below w.heap.size w x7:=aF (v:=.slice ra (al (al M)).length rc') hgrow7 htq (by omega) (by omega) hbt;have ht7:=mB ⟨A.cnt+Bg.cnt,F,S,.slice (some ⟨gs,0,none⟩) S.length sc⟩ hown7;have hs8:=hs7.snoc (g:=⟨A.cnt+Bg.cnt,F,S,.slice (some ⟨gs,0,none⟩) S.length sc⟩) hv7;have hbr:Hid ((al (al M)++[(⟨A.cnt+Bg.cnt,F,S,.slice (some ⟨gs,0,none⟩) S.length sc⟩:Grp)]).map bare=(ax l (j+1)).1):=by
          show _=(ax l (j+1)).1;rw[ae hnext1,a0K]
          congr 1
          have e:du A Bg=⟨A.cnt+Bg.cnt,F,S,.slice none 0 0⟩:=by
           rw[←ae HF,←ae hJs];rfl
          rw[e];rfl
         have hsl7:Hid (sliceLen v7<M.length):=by
          show sliceLen v7<M.length;obtain⟨fa,fc,hv⟩:=ht7.form;rw[hv];have:=ae hlr2;simp only[sliceLen,a0m,a07];omega
         clear hown7 hgrow7 hal htq2 hs7 hv7 htq hsq hvq hpt hbt HPQ;go_wp2;go_roundw
         case rel=>exact⟨j+1,_,.inl (ae hj1),ae hbr,ht7,hs8,hp7,hb7⟩
         case measure=>exact ae hsl7
     ·
      have hexit:=af (ae hfin j (by omega) (ae HJ));have hgoI:¬ (1:Int)<(M.length:Int):=by omega
      have HP:=af hpm;clear htm hsm hpm ic is;go_wp2;go_ret;exact⟨rfl,by rw[ae hexit];exact ae HP,hbm⟩
set_option maxRecDepth 100000 in
theorem zy(a:Option Addr)(cap n:Nat)(o:List Int)(w:World)(hn:o.length=n)(h:be w a o)(hm:n<=300) :
  Calls Tryz.prog 170 #[.slice a n cap] w fun e w'=>e = .returned (.int .i64 (bP o n))/\w'=w:=by
 subst hn;have hmI:(o.length:Int)<=300:=by omega
 clear hm;go_enter Tryz.func170,Tryz.ntmps170;go_wp2_with fail
 go_loop [3,4] (fun m i=>∃k:Nat,k<=o.length/\i = .int .i64 k/\m = .int .i64 (bP o k)) (fun _ i=>o.length-(intOf i).toNat)
 case atStart=>exact⟨0,a0l _,rfl,rfl⟩
 case round=>
  obtain⟨k,hk,rfl,rfl⟩:=hrel;have HK:=af hk;by_cases hlt:k<o.length
  ·
   obtain⟨g,f,rfl,hg,hc⟩:=h (by omega);have c0:=hc k hlt;have hst:Hid (bP o (k+1)=if bP o k<o.getD k 0 then o.getD k 0 else bP o k):=rfl;clear hc hk h;generalize o.getD k 0=y at *
   generalize bP o k=m at *
   by_cases hy:m<y
   ·
    have hst':Hid (bP o (k+1)=y):=by have:=ae hst;rw[a0d hy]at this;exact this
    go_wp2
    go_round
    case rel=>exact⟨k+1,by omega,by go_num,by rw[ae hst']⟩
    case measure=>simp[intOf];omega
   ·
    have hst':Hid (bP o (k+1)=m):=by have:=ae hst;rw[a0e hy]at this;exact this
    go_wp2
    go_round
    case rel=>exact⟨k+1,by omega,by go_num,by rw[ae hst']⟩
    case measure=>simp[intOf];omega
  ·
   obtain rfl:k=o.length:=by omega
   clear h;go_wp2;go_ret;exact⟨rfl,rfl⟩
def Al(w:World)(b n:Nat):Nat:=((List.range n).map (fun i=>(intOf ((w.cell? ⟨b,i,none⟩).getD (.int .i64 0))).toNat)).sum
theorem BC{w:World}{base b n c:Nat}{l:List Int}(hn:l.length=n)(h:ak w base (.slice (some ⟨b,0,none⟩) n c) l):Al w b n=iU l:=by
 unfold Al iU
 congr 1
 apply a2e
 · simp[hn]
 ·
  intro i h1 h2;have hi:i<n:=by simpa using h1
  have:=(h.at hn hi).1;simp only[List.getElem_map,List.getElem_range];rw[this];have e:l.getD i 0=l[i]:=by simp[List.getD,show i<l.length by omega]
  rw[e];rfl
theorem Ct(l:List Int)(j:Nat)(h:j<l.length):(bz (l.take j)++l.drop j).set j (gP (l.getD j 0))=bz (l.take (j+1))++l.drop (j+1):=by
 have hl:(bz (l.take j)).length=j:=by simp[bz];omega
 rw[List.set_append_right _ _ (by omega),hl,a3x,cn l j h];have h1:l.drop j=l[j] :: l.drop (j+1):=List.drop_eq_getElem_cons h;rw[h1,List.set_cons_zero];simp[bz]
theorem EM(l:List Int)(j:Nat)(h:j<l.length):(bz (l.take j)++l.drop j).getD j 0=l.getD j 0:=by
 have hl:(bz (l.take j)).length=j:=by simp[bz];omega
 simp only[List.getD];rw[List.getElem?_append_right (by omega),hl,a3x,List.getElem?_drop];simp
def okC(l:List Int):Prop:=∀i,i<l.length->0<=l.getD i 0/\l.getD i 0<=100000
theorem rZ{l:List Int}(h:okC l):okC (bz l):=by
 intro i hi;rw[d9]at hi;rw[oT l i hi];have:=h i hi;unfold gP;omega
theorem vt{l:List Int}(h:okC l):∀x∈l,0<=x:=by
 intro x hx;obtain⟨i,hi,rfl⟩:=a15 hx;have:=(h i hi).1;have e:l.getD i 0=l[i]:=by simp[List.getD,hi]
 rw[e]at this;exact this
def df(m:Int)(l:List Int):List Int:=nR m (iU l) l
set_option maxRecDepth 100000 in
theorem tL(a:Option Addr)(cap n mm:Nat)(l:List Int)(w:World)(hn:l.length=n)(h:be w a l)(h1:1<=n)(hm:n<=300)(hc:okC l)(hU:(aB l l.length).length<=p2 mm)(hmm:mm<=14) :
  Calls Tryz.prog 133 #[.slice a n cap,.int .i64 ((mm:Int)+1)] w fun e w'=>(∃v,e = .returned v/\ak w' w.heap.size v (df ((mm:Int)+1) l))/\Below w.heap.size w w':=by
 obtain⟨i0,hi,hz0,hz1,hz2⟩:=a0w Tryz.infoInt;obtain⟨g,o,rfl,hg,hcl⟩:=h (by omega);have hmI:(n:Int)<=300:=by omega
 have hmmI:(mm:Int)<=14:=by omega
 have HN:=af hn;have HC:=af hc;have HU:=af hU;have HM:=af (a0b h1 hm);have hB0:Below w.heap.size w (w.alloc (.cells #[] 3)):=(a0c _ _).alloc (a0a _) _;have hR0:World.ownsRow (w.alloc (.cells #[] 3)) w.heap.size 3 1 (.slice (some ⟨w.heap.size,0,none⟩) 0 0) 0 []:=a08 w #[] 0 (a0a _) (by unfold maxLen;omega) rfl;have hnews:Hid (∀j u,(l.map (Value.int .i64))[j]?=some u->(w.alloc (.cells #[] 3)).cell? ((⟨g,o,none⟩:Addr).add j)=some u):=by
  intro j u hj;have hjl:j<l.length:=by have:=(List.getElem?_eq_some_iff.1 hj).1;simpa using this
  have hadd:(⟨g,o,none⟩:Addr).add j=⟨g,o+j,none⟩:=by unfold Addr.add;split<;>simp_all
  rw[hadd,hB0.cell (p:=⟨g,o+j,none⟩) hg,hcl j hjl,←hj];simp[List.getD,hjl]
 have hll:Hid ((l.map (Value.int .i64)).length=n*1):=by show _=_;simp[hn]
 have hb1:Hid (0+n<=maxLen/\(0+n)*8<=140737488355328):=by show _/\_;unfold maxLen;omega
 clear hn hc hU h1 hm hcl hmm h;go_enter Tryz.func133,Tryz.ntmps133;go_wp2_with (at_builtin;refine a0B _ rfl _ _ 84 rfl w.heap.size 3 i0 (.int .i64 0) 1 8 a0h hi hz0 hz1 hz2 rfl (by decide) _ _ _ rfl hR0 ⟨g,o,none⟩ n cap (l.map (Value.int .i64)) rfl (ae hll) (ae hnews) (a1b .i64 _) (ae hb1).1 (ae hb1).2 hB0.size ?_;intro v1 x1 hown hgrow hnil;clear hnil);have hv1:ak x1 w.heap.size v1 l:=by
  show World.ownsRow _ _ _ _ _ l.length _;rw[ae HN];simpa using hown
 have hB1:Below w.heap.size w x1:=hB0.grown hgrow hB0.size (fun j hj=>(a0G hR0 j hj).1);obtain⟨va,vc,hvv⟩:=hv1.formN (ae HN);rw[hvv];rw[hvv]at hv1;refine(rD va vc n l x1 (ae HN) (hv1.rowN (ae HN)) (ae HM).2 (ae HC)).mono ?_;rintro e x2 ⟨rfl,ho2,hb2⟩;have hv2:=hv1.later hb2 (a0a _);have hB2:=am hB1 hb2;have hx12:w.heap.size<=x1.heap.size:=hB1.size;obtain⟨lb,hlb⟩:=hv1.somes (by rw[ae HN];exact(ae HM).1);subst hlb;have hlbx:=hv1.below;have HX:=af (a0b hx12 hlbx);clear hv1 hb2 hown hgrow hvv hR0 hB0 hlbx;go_wp2_with fail
 go_loopw [6,7] (fun v _ wr=>∃(cur:List Int) (f ob:Nat),cur.length=n/\okC cur/\(aB cur cur.length).length<=p2 mm/\iU cur<=f/\df ((mm:Int)+1) l=nR ((mm:Int)+1) f cur/\v = .slice (some ⟨ob,0,none⟩) n n/\lb<ob/\ak wr ob (.slice (some ⟨ob,0,none⟩) n n) (bR cur)/\ak wr w.heap.size (.slice (some ⟨lb,0,none⟩) n vc) cur/\Below w.heap.size w wr) (fun _ _ wr=>Al wr lb n)
 case atStart=>exact⟨l,iU l,x1.heap.size,ae HN,ae HC,ae HU,a0a _,rfl,rfl,(ae HX).2.2,ho2,hv2,hB2⟩
 case round=>
  obtain⟨cur,f,ob,hcn,hcok,hcU,hcf,hfit,rfl,hlo,hou,hcv,hbel⟩:=hrel;clear ho2 hv2 hB2;have hlenh:(bR cur).length=n:=(gQ cur).trans hcn;have HMo:=af (zy (some ⟨ob,0,none⟩) n n (bR cur) wr hlenh (hou.rowN hlenh) (ae HM).2);have hmost:Hid (fits (bR cur) ((mm:Int)+1)=decide (bP (bR cur) n<=(mm:Int)+1)):=by show _=_;unfold fits;rw[hlenh]
  have HQ:=af (a0b hcn (a0b hcok (a0b hcU (a0b hcf hfit))));have HO:=af (a0b hou (a0b hcv hbel));have HS:=af (BC hcn hcv);have hlo':=af hlo;clear hcn hcok hcU hcf hfit hlenh hlo;generalize bP (bR cur) n=mo at *
  by_cases hbig:(mm:Int)+1<mo
  ·
   have hnf:fits (bR cur) ((mm:Int)+1)=false:=by rw[ae hmost];exact a0s (by omega)
   obtain⟨hcn,hcok,hcU,hcf,hfit⟩:=ae HQ;have hex:=rY hcU hnf;have hsum:=(sF cur (vt hcok)).2 hex;have hf':∃f',f=f'+1:=⟨f-1,by omega⟩;obtain⟨f',hff⟩:=hf';have hfit2:Hid (df ((mm:Int)+1) l=nR ((mm:Int)+1) f' (bz cur)):=by
    show _=_;rw[hfit,hff];simp only[nR];rw[hnf];rfl
   have hcf2:Hid (iU (bz cur)<=f'):=by show _<=_;omega
   have HSL:=af hsum;have hcok2:=af (rZ hcok);have hcU2:Hid ((aB (bz cur) (bz cur).length).length<=p2 mm):=by show _<=_;rw[d9,pu cur (fun i hi=>(hcok i hi).1) _ (a0a _)];exact hcU
   have hcn2:Hid ((bz cur).length=n):=(d9 cur).trans hcn;clear hcn hcok hcU hcf hfit hex hsum hff;go_wp2_with fail;refine(ae HMo).mono ?_;rintro e x3 ⟨rfl,hx3⟩;subst hx3;obtain⟨hou,hcv,hbel⟩:=ae HO;have hc0:ak x3 w.heap.size (.slice (some ⟨lb,0,none⟩) n vc) (bz (cur.take 0)++cur.drop 0):=by simpa[bz]using hcv
   clear hou hcv;go_wp2_with fail
   go_loopw [7] (fun i wq=>∃t:Nat,t<=n/\i = .int .i64 t/\ak wq w.heap.size (.slice (some ⟨lb,0,none⟩) n vc) (bz (cur.take t)++cur.drop t)/\Below w.heap.size w wq) (fun i _=>n-(intOf i).toNat)
   case atStart=>exact⟨0,a0l _,rfl,hc0,hbel⟩
   case round=>
    obtain⟨t,ht,rfl,hct,hbt⟩:=hrel;clear hc0 hbel;obtain⟨hcn,hcok,_,_,_⟩:=ae HQ;have hln:Hid ((bz (cur.take t)++cur.drop t).length=n):=by show _=n;rw[a0m,d9,a0L,a1B];omega
    by_cases hlt:t<n
    ·
     have hput:=hct.put (j:=t) (ae hln) (gP (cur.getD t 0));rw[Ct cur t (by omega)]at hput;obtain⟨d0,f0,hbg,_⟩:=hct.at (ae hln) hlt;rw[EM cur t (by omega)]at d0;have hy:=hcok t (by omega);have hbt2:=ag hbt (b:=lb) (o:=t) hbg (.int .i64 (gP (cur.getD t 0)));unfold gP at hput hbt2;have HPUT:=af (a0b hput hbt2);have htI:(t:Int)<(n:Int):=by omega
     have Ht:=af ht;generalize cur.getD t 0=y at *
     obtain⟨y0,y1⟩:=hy;have e1:IntKind.i64.wrap ((y+1).tdiv 2)=(y+1)/2:=by rw[Int.tdiv_eq_ediv_of_nonneg (by omega)];simp[IntKind.wrap,IntKind.bits,IntKind.signed];omega
     clear hput hbt2 hct hbt hcn hcok ht hbg;go_wp2;go_roundw
     case rel=>exact⟨t+1,by have:=ae Ht;omega,by go_num,(ae HPUT).1,(ae HPUT).2⟩
     case measure=>simp[intOf];omega
    ·
     have htn:t=n:=by omega
     have hfull:bz (cur.take t)++cur.drop t=bz cur:=by rw[a0F (by omega),List.drop_of_length_le (by omega)];simp
     rw[hfull]at hct;have hle:=af (rD (some ⟨lb,0,none⟩) vc n (bz cur) wr (ae hcn2) (hct.rowN (ae hcn2)) (ae HM).2 (ae hcok2));have hlb2:=hct.below;have HCT:=af (a0b hct (a0b hbt hlb2));have htI:¬ (t:Int)<(n:Int):=by omega
     clear hct hbt hcn hcok hfull hlb2;go_wp2_with fail;refine(ae hle).mono ?_;rintro e x4 ⟨rfl,ho4,hb4⟩;obtain⟨hct,hbt,hlb2⟩:=ae HCT;have hc4:=hct.later hb4 (a0a _);have hB4:=am hbt hb4;have hms:Hid (Al x4 lb n<Al x3 lb n):=by
      show Al x4 lb n<Al x3 lb n;rw[BC (ae hcn2) hc4,ae HS];exact ae HSL
     clear hct hbt hb4;go_wp2;go_roundw
     case rel=>exact⟨bz cur,f',wr.heap.size,ae hcn2,ae hcok2,ae hcU2,ae hcf2,ae hfit2,rfl,hlb2.2,ho4,hc4,hB4⟩
     case measure=>exact ae hms
  ·
   have hnf:fits (bR cur) ((mm:Int)+1)=true:=by rw[ae hmost];exact a0t (by omega)
   have hres:Hid (df ((mm:Int)+1) l=bR cur):=by
    show _=_;rw[(ae HQ).2.2.2.2];cases f with
    | zero=>rfl
    | succ f=>simp only[nR];rw[hnf];rfl
   go_wp2_with fail;refine(ae HMo).mono ?_;rintro e x3 ⟨rfl,hx3⟩;subst hx3;obtain⟨hou,hcv,hbel⟩:=ae HO;have hbo:w.heap.size<=ob:=by have:=hcv.below.1;have:=ae hlo';omega
   go_wp2;go_ret;exact⟨⟨_,rfl,by rw[ae hres];exact hou.mono hbo⟩,hbel⟩
def inC(l:List Int):Bool:=l.all (fun b=>inB b 0 100000)
def tR(l:List Int)(m:Int):Bool:=decide (l.length<=300)&&inB m 1 15&&inC l&&inB (us l:Nat) 1 ((p2 m.toNat/2:Nat):Int)
def iX(l:List Int)(m:Int):List Int:=if tR l m then df m l else []
theorem EV(l:List Int)(k:Nat)(h:k<l.length):inC (l.take (k+1))=(inC (l.take k)&&inB (l.getD k 0) 0 100000):=by
 rw[cn l k h];simp[inC]
theorem Ij{l:List Int}{k:Nat}(h:k<l.length)(hn:inB (l.getD k 0) 0 100000=false):inC l=false:=by
 rcases hb:inC l with _|_
 · rfl
 · have:=a1j.1 hb (l.getD k 0) (by simp[List.getD,h]);rw[hn]at this;exact absurd this (by simp)
theorem JC{l:List Int}(h:inC l=true):okC l:=by
 intro i hi;have:=a1j.1 h (l.getD i 0) (by simp[List.getD,hi]);exact aG.1 this
theorem IM(l:List Int)(k:Nat)(hk:k<=l.length):(aB l k).length=us (l.take k):=by
 induction k with
 | zero=>rfl
 | succ k ih=>
  rw[oF l k (by omega),←ih (by omega)];simp only[aB]
  split
  · simp
  · rfl
theorem eJ(l:List Int):(aB l l.length).length=us l:=by
 rw[IM l _ (a0a _),a3z]
theorem vw(m:Nat):p2 (m+1)/2=p2 m:=by rw[i7];omega
theorem mY{x y:Grp}(h:aZ x y=true):aZ y x=false:=by
 simp only[aZ,a1f,a0n,a0z]at h;simp only[aZ,a20,a2E,a2F];omega
theorem gU{x y z:Grp}(h:aZ x y=false)(h2:aZ y z=false):aZ x z=false:=by
 simp only[aZ,a20,a2E,a2F]at h h2 ⊢;omega
theorem xo{x y z:Grp}(h:aZ x y=false)(h2:aZ z y=true):aZ x z=false:=by
 simp only[aZ,a1f,a0n,a0z]at h2;simp only[aZ,a20,a2E,a2F]at h ⊢;omega
theorem fN(x:Grp):aZ x x=false:=by
 simp only[aZ,a20,a2E,a2F];omega
def cV(L:List Grp)(i j:Nat):List Grp:=(L.set i (L.getD j g0)).set j (L.getD i g0)
theorem fR(L:List Grp)(i j:Nat):(cV L i j).length=L.length:=by simp[cV]
theorem uk{L:List Grp}{i j:Nat}(hi:i<L.length):(cV L i j).getD i g0=L.getD j g0:=by
 unfold cV;rw[List.getD_eq_getElem?_getD,List.getElem?_set];by_cases h:j=i
 · subst h;simp[hi]
 · rw[a0e h,List.getElem?_set_self hi];rfl
theorem mx{L:List Grp}{i j:Nat}(hj:j<L.length):(cV L i j).getD j g0=L.getD i g0:=by
 unfold cV;rw[List.getD_eq_getElem?_getD,List.getElem?_set_self (by simpa using hj)];rfl
theorem cZ{L:List Grp}{i j k:Nat}(h1:k≠i)(h2:k≠j):(cV L i j).getD k g0=L.getD k g0:=by
 unfold cV;rw[List.getD_eq_getElem?_getD,List.getElem?_set_ne (fun e=>h2 e.symm),List.getElem?_set_ne (fun e=>h1 e.symm),←List.getD_eq_getElem?_getD]
theorem set_perm(L:List Grp)(i:Nat)(x:Grp)(h:i<L.length):(L.getD i g0 :: L.set i x).Perm (x :: L):=by
 induction L generalizing i with
 | nil=>simp at h
 | cons g L ih=>
  cases i with
  | zero=>simp only[List.getD_cons_zero,List.set_cons_zero];exact a3v _ _ _
  | succ i=>
   simp only[a2m,List.set_cons_succ];have h1:=ih i (by simpa using h);exact(a3v _ _ _).trans ((h1.cons g).trans (a3v _ _ _))
theorem gx{L:List Grp}{i j:Nat}(hi:i<L.length)(hj:j<L.length):(cV L i j).Perm L:=by
 have h1:=set_perm L i (L.getD j g0) hi;have h2:=set_perm (L.set i (L.getD j g0)) j (L.getD i g0) (by simpa using hj);have e:(L.set i (L.getD j g0)).getD j g0=L.getD j g0:=by
  rw[List.getD_eq_getElem?_getD,List.getElem?_set];by_cases hij:i=j
  · subst hij;simp[hi]
  · rw[a0e hij,←List.getD_eq_getElem?_getD]
 rw[e]at h2;exact(h2.trans h1).cons_inv
def HP(L:List Grp):Prop:=∀i,0<i->i<L.length->aZ (L.getD i g0) (L.getD ((i-1)/2) g0)=false
def UpI(L:List Grp)(k:Nat):Prop:=
 (∀i,0<i->i<L.length->i≠k->aZ (L.getD i g0) (L.getD ((i-1)/2) g0)=false) /\
 (∀i,0<i->i<L.length->(i-1)/2=k->0<k->aZ (L.getD i g0) (L.getD ((k-1)/2) g0)=false)
def DnI(L:List Grp)(k:Nat):Prop:=
 (∀i,0<i->i<L.length->(i-1)/2≠k->aZ (L.getD i g0) (L.getD ((i-1)/2) g0)=false) /\
 (∀i,0<i->i<L.length->(i-1)/2=k->0<k->aZ (L.getD i g0) (L.getD ((k-1)/2) g0)=false)
theorem GK{L:List Grp}{k:Nat}(h:UpI L k)(hk:k=0∨aZ (L.getD k g0) (L.getD ((k-1)/2) g0)=false):HP L:=by
 intro i h0 hi;by_cases e:i=k
 ·
  subst e;rcases hk with hk|hk
  · omega
  · exact hk
 · exact h.1 i h0 hi e
theorem I4{L:List Grp}{k:Nat}(h:UpI L k)(h0:0<k)(hk:k<L.length)(hl:aZ (L.getD k g0) (L.getD ((k-1)/2) g0)=true):UpI (cV L k ((k-1)/2)) ((k-1)/2):=by
 have hq:(k-1)/2<k:=by omega
 have hqn:(k-1)/2<L.length:=by omega
 have sk:=uk (L:=L) (j:=(k-1)/2) hk;have sq:=mx (L:=L) (i:=k) hqn;refine⟨?_,?_⟩
 ·
  intro i i0 hi hiq;rw[fR]at hi;by_cases e:i=k
  · subst e;rw[sk,sq];exact mY hl
  ·
   rw[cZ e hiq];by_cases p:(i-1)/2=(k-1)/2
   · rw[p,sq];have:=h.1 i i0 hi e;rw[p]at this;exact xo this hl
   ·
    by_cases p2:(i-1)/2=k
    · rw[p2,sk];exact h.2 i i0 hi p2 h0
    · rw[cZ p2 p];exact h.1 i i0 hi e
 ·
  intro i i0 hi hp hq0;rw[fR]at hi;have hpp:((k-1)/2-1)/2<(k-1)/2:=by omega
  rw[cZ (k:=((k-1)/2-1)/2) (by omega) (by omega)];have hqq:=h.1 ((k-1)/2) hq0 hqn (by omega);by_cases e:i=k
  · subst e;rw[sk];exact hqq
  · rw[cZ e (by omega)];have:=h.1 i i0 hi e;rw[hp]at this;exact gU this hqq
theorem uK{L:List Grp}{k:Nat}(h:DnI L k)(hk:∀c,0<c->c<L.length->(c-1)/2=k->aZ (L.getD c g0) (L.getD k g0)=false):HP L:=by
 intro i h0 hi;by_cases e:(i-1)/2=k
 · rw[e];exact hk i h0 hi e
 · exact h.1 i h0 hi e
theorem uL{L:List Grp}{k c:Nat}(h:DnI L k)(hk:k<L.length)(hc:c<L.length)(hc0:0<c)(hp:(c-1)/2=k)(hm:∀i,0<i->i<L.length->(i-1)/2=k->aZ (L.getD i g0) (L.getD c g0)=false)(hl:aZ (L.getD c g0) (L.getD k g0)=true):DnI (cV L c k) c:=by
 have hkc:k<c:=by omega
 have sc:=uk (L:=L) (j:=k) hc;have sk:=mx (L:=L) (i:=c) hk;refine⟨?_,?_⟩
 ·
  intro i i0 hi hip;rw[fR]at hi;by_cases e:i=c
  · subst e;rw[hp,sc,sk];exact mY hl
  ·
   by_cases p:(i-1)/2=k
   · rw[p,sk,cZ e (by omega)];exact hm i i0 hi p
   ·
    rw[cZ hip p];by_cases e2:i=k
    · subst e2;rw[sk];exact h.2 c hc0 hc hp i0
    · rw[cZ e e2];exact h.1 i i0 hi p
 · intro i i0 hi hip _;rw[fR]at hi;rw[hp,sk,cZ (by omega) (by omega)];have:=h.1 i i0 hi (by omega);rw[hip]at this;exact this
theorem ET{L:List Grp}(h:HP L):∀i,i<L.length->aZ (L.getD i g0) (L.getD 0 g0)=false:=by
 intro i;induction i using Nat.strongRecOn with
 | ind i ih=>
  intro hi;by_cases e:i=0
  · subst e;exact fN _
  · exact gU (h i (by omega) hi) (ih ((i-1)/2) (by omega) (by omega))
theorem Ie{L:List Grp}(h:HP L)(g:Grp):UpI (L++[g]) L.length:=by
 refine⟨?_,?_⟩
 ·
  intro i i0 hi hn;have hi':i<L.length:=by simp at hi;omega
  have e1:∀k,k<L.length->(L++[g]).getD k g0=L.getD k g0:=by
   intro k hk;rw[List.getD_eq_getElem?_getD,List.getElem?_append_left hk,←List.getD_eq_getElem?_getD]
  rw[e1 i hi',e1 _ (by omega)];exact h i i0 hi'
 · intro i i0 hi hp _;simp at hi;omega
theorem re(L:List Grp)(m k:Nat)(h:k<m):(L.take m).getD k g0=L.getD k g0:=by
 rw[List.getD_eq_getElem?_getD,List.getElem?_take_of_lt h,←List.getD_eq_getElem?_getD]
theorem Jl{L:List Grp}(h:HP L):DnI ((cV L 0 (L.length-1)).take (L.length-1)) 0:=by
 refine⟨?_,fun i _ _ _ h0=>absurd h0 (Nat.lt_irrefl 0)⟩;intro i i0 hi hp;have hi':i<L.length-1:=by rw[a0L,fR]at hi;omega
 rw[re _ _ _ hi',re _ _ _ (by omega),cZ (by omega) (by omega),cZ hp (by omega)];exact h i i0 (by omega)
theorem Ap(L:List Grp)(n:Nat)(h:L.length=n+1):L=L.take n++[L.getD n g0]:=by
 have e:L.take (n+1)=L:=a0F (by omega);have h2:L.take (n+1)=L.take n++[L.getD n g0]:=by
  rw[a1d (by omega)]
  congr 2
  simp[List.getD,h]
 rw[e]at h2;exact h2
theorem Ep{L:List Grp}(h:0<L.length):(L.getD 0 g0 :: (cV L 0 (L.length-1)).take (L.length-1)).Perm L:=by
 have h1:=gx (L:=L) (i:=0) (j:=L.length-1) h (by omega);have h2:=Ap (cV L 0 (L.length-1)) (L.length-1) (by rw[fR];omega);rw[mx (by omega)]at h2;have h3:(L.getD 0 g0 :: (cV L 0 (L.length-1)).take (L.length-1)).Perm ((cV L 0 (L.length-1)).take (L.length-1)++[L.getD 0 g0]):=(List.perm_append_singleton _ _).symm;rw[←h2]at h3;exact h3.trans h1
theorem xg(L:List Grp)(k j:Nat)(hj:j<=k):aZ (L.getD j g0) (L.getD (bS L k) g0)=false:=by
 induction k with
 | zero=>
  obtain rfl:j=0:=by omega
  exact fN _
 | succ k ih=>
  simp only[bS];cases hl:aZ (L.getD (k+1) g0) (L.getD (bS L k) g0)
  ·
   simp only[a1l,a1m];by_cases e:j=k+1
   · subst e;exact hl
   · exact ih (by omega)
  ·
   simp only[a0Z];by_cases e:j=k+1
   · subst e;exact fN _
   · exact xo (ih (by omega)) hl
theorem zf(M:List Grp)(g:Grp)(hg:g∈M):aZ g (aE M)=false:=by
 obtain⟨i,hi,rfl⟩:=a15 hg;have:=xg M (M.length-1) i (by omega);have e:M.getD i g0=M[i]:=by simp[List.getD,hi]
 rw[e]at this;exact this
def pI(M:List Grp):Prop:=∀g∈M,g.fst∈g.syms
theorem Gf(l:List Int)(k:Nat):pI (aB l k):=by
 induction k with
 | zero=>intro g hg;simp[aB]at hg
 | succ k ih=>
  simp only[aB]
  split
  ·
   intro g hg;simp only[a0X,a02]at hg;rcases hg with hg|rfl
   · exact ih g hg
   · simp
  · exact ih
theorem Gt{M:List Grp}(h:pI M)(hl:1<M.length):pI (stepG M):=by
 have hr:=dm M (by omega);intro g hg;simp only[stepG,a0X,a02]at hg;rcases hg with hg|rfl
 · exact h g (bf M _ (bf _ _ hg))
 ·
  have ha:=h _ (bC M (by omega));have hb:=h _ (bf M _ (bC (al M) (by omega)));simp only[du,a0X]
  split
  · exact .inr hb
  · exact .inl ha
theorem EU(l:List Int)(k:Nat)(hk:k<(aB l l.length).length∨k=0):pI (ax l k).1:=by
 induction k with
 | zero=>exact Gf l _
 | succ k ih=>
  have hlen:1<(ax l k).1.length:=by have:=(cf l k (by omega)).2.2.2;omega
  exact Gt (ih (by omega)) hlen
theorem Gc{M:List Grp}(hn:(br M).Nodup)(hf:pI M){x y:Grp}(hx:x∈M)(hy:y∈M)(e:x.fst=y.fst):x=y:=by
 induction M with
 | nil=>cases hx
 | cons g M ih=>
  have hs:br (g :: M)=g.syms++br M:=by simp[br]
  rw[hs,a3w]at hn;obtain⟨_,n2,n3⟩:=hn;have hfM:pI M:=fun z hz=>hf z (by simp[hz]);have hin:∀z∈M,z.fst∈br M:=fun z hz=>List.mem_flatMap.2 ⟨z,hz,hfM z hz⟩;have hfg:g.fst∈g.syms:=hf g (by simp);simp only[a06]at hx hy;rcases hx with rfl|hx
  ·
   rcases hy with rfl|hy
   · rfl
   · exact absurd e (n3 _ hfg _ (hin y hy))
  ·
   rcases hy with rfl|hy
   · exact absurd e.symm (n3 _ hfg _ (hin x hx))
   · exact ih n2 hfM hx hy
theorem CX{x y:Grp}(h:aZ x y=false)(h2:aZ y x=false):x.fst=y.fst:=by
 simp only[aZ,a20,a2E,a2F]at h h2;omega
theorem ux{L M:List Grp}{a:Grp}{L1:List Grp}(hp:(L.map bare).Perm M)(hL:L.Perm (a :: L1))(hmin:∀g∈L,aZ g a=false)(h0:0<L.length)(hn:(br M).Nodup)(hf:pI M):bare a=aE M/\(L1.map bare).Perm (al M):=by
 have hl:0<M.length:=by rw[←hp.length_eq,a0P];exact h0
 have ha:a∈L:=hL.mem_iff.2 (by simp);have haM:bare a∈M:=hp.mem_iff.1 (a2p ha);have hfM:=bC M hl;obtain⟨c,hc,hce⟩:=a2z.1 (hp.mem_iff.2 hfM);have h1:aZ (aE M) (bare a)=false:=by rw[←hce,rN];exact hmin c hc
 have h2:=zf M (bare a) haM;have e:bare a=aE M:=Gc hn hf haM hfM (CX h2 h1);refine⟨e,?_⟩;have h3:(bare a :: L1.map bare).Perm M:=by
  have:=(hL.map bare).symm.trans hp;simpa using this
 have h4:=h3.trans (kB M hl).symm;rw[e]at h4;exact h4.cons_inv
theorem Cn{M:List Grp}(hl:0<M.length)(hn:(br M).Nodup):(br (al M)).Nodup:=by
 have h1:=oS (kB M hl);have h2:=h1.nodup_iff.2 hn;have e:br (aE M :: al M)=(aE M).syms++br (al M):=by simp[br]
 rw[e,a3w]at h2;exact h2.2.1
theorem Dl{α:Type}(f:α->Nat){A B:List α}(h:A.Perm B):(A.map f).sum=(B.map f).sum:=by
 induction h with
 | nil=>rfl
 | cons x _ ih=>simp only[a0C,a0R];omega
 | swap x y l=>simp only[a0C,a0R];omega
 | trans _ _ h1 h2=>omega
def pE:Nat->List Grp->Int
 | 0,_=>0
 | n+1,M=>if 1<M.length then(aE M).cnt+(aE (al M)).cnt+pE n (stepG M)else 0
theorem iD{l:List Int}{k:Nat}(h:0<l.getD k 0):aB l (k+1)=aB l k++[⟨l.getD k 0,(k:Int),[(k:Int)],.slice none 0 0⟩]:=by simp only[aB];rw[a0d h]
theorem lO{l:List Int}{k:Nat}(h:¬ 0<l.getD k 0):aB l (k+1)=aB l k:=by simp only[aB];rw[a0e h]
def krR(l:List Int)(len:Nat->Nat)(D:Nat):Nat->Nat
 | 0=>0
 | n+1=>krR l len D n+(if 0<l.getD n 0 then 2 ^ (D-len n)else 0)
theorem oy(l:List Int)(k:Nat):∀g∈aB l k,0<=g.cnt/\∃i:Nat,g.fst=(i:Int)/\i<k/\0<l.getD i 0/\g.cnt=l.getD i 0/\g.syms=[(i:Int)]:=by
 induction k with
 | zero=>intro g hg;simp[aB]at hg
 | succ k ih=>
  intro g hg;by_cases hp:0<l.getD k 0
  ·
   rw[iD hp]at hg;simp only[a0X,a02]at hg;rcases hg with hg|rfl
   · obtain⟨h1,i,h2,h3,h4⟩:=ih g hg;exact⟨h1,i,h2,by omega,h4⟩
   · exact⟨by simp only;omega,k,rfl,by omega,hp,rfl,rfl⟩
  · rw[lO hp]at hg;obtain⟨h1,i,h2,h3,h4⟩:=ih g hg;exact⟨h1,i,h2,by omega,h4⟩
theorem sT(l:List Int)(len:Nat->Nat)(D k:Nat):((br (aB l k)).map fun s=>2 ^ (D-len s.toNat)).sum=krR l len D k:=by
 induction k with
 | zero=>rfl
 | succ k ih=>
  simp only[krR];by_cases h:0<l.getD k 0
  · rw[a0d h,←ih,iD h];simp[br]
  · rw[a0e h,←ih,lO h];simp
theorem wy(l:List Int)(k:Nat)(x:Int):x∈br (aB l k)<->∃i:Nat,x=(i:Int)/\i<k/\0<l.getD i 0:=by
 constructor
 · intro h;obtain⟨g,hg,hx⟩:=List.mem_flatMap.1 h;obtain⟨_,i,h1,h2,h3,_,h5⟩:=oy l k g hg;rw[h5]at hx;simp only[a02]at hx;exact⟨i,hx,h2,h3⟩
 ·
  rintro⟨i,rfl,hi,hp⟩;induction k with
  | zero=>omega
  | succ k ih=>
   by_cases e:i=k
   · subst e;rw[iD hp];simp[br]
   ·
    have:=ih (by omega);by_cases h:0<l.getD k 0
    · rw[iD h];simp only[br,a2D,a0X];exact .inl this
    · rw[lO h];exact this
/-! What holds behind so many steps. -/
def js(l s:List Int):Int:=(s.map fun x=>l.getD x.toNat 0).sum
theorem mM(l a b:List Int):js l (a++b)=js l a+js l b:=by simp[js]
theorem AV(l:List Int)(k:Nat)(hk:k<(aB l l.length).length∨k=0):∀g∈(ax l k).1,g.cnt=js l g.syms:=by
 induction k with
 | zero=>
  intro g hg;obtain⟨_,i,h1,h2,h3,h4,h5⟩:=oy l l.length g hg;rw[h4,h5];simp[js]
 | succ k ih=>
  have hlen:1<(ax l k).1.length:=by have:=(cf l k (by omega)).2.2.2;omega
  have hr:=dm (ax l k).1 (by omega);have ih':=ih (by omega);intro g hg;have hg':g∈stepG (ax l k).1:=hg;simp only[stepG,a0X,a02]at hg';rcases hg' with hg'|rfl
  · exact ih' g (bf _ _ (bf _ _ hg'))
  · simp only[du];rw[mM,ih' _ (bC _ (by omega)),ih' _ (bf _ _ (bC (al _) (by omega)))]
def nQ(l o:List Int):Nat->Int
 | 0=>0
 | n+1=>nQ l o n+l.getD n 0*o.getD n 0
theorem Cc(l o:List Int)(s:Int)(h0:0<=s)(n:Nat)(hn:n<=o.length):nQ l (eV o s) n=nQ l o n+(if s<(n:Int)then l.getD s.toNat 0 else 0):=by
 induction n with
 | zero=>simp only[nQ];rw[a0e (by omega)];rfl
 | succ n ih=>
  simp only[nQ];rw[ih (by omega),tf o s n h0 (by omega)];by_cases e:s=(n:Int)
  · subst e;rw[a0e (by omega),a0d rfl,a0d (by omega),Int.mul_add,Int.mul_one,a0p];omega
  ·
   rw[a0e e,Int.add_zero];by_cases h:s<(n:Int)
   · rw[a0d h,a0d (by omega)];omega
   · rw[a0e h,a0e (by omega)];omega
theorem Ew(l s:List Int)(n:Nat):∀(o:List Int),n<=o.length->(∀x∈s,0<=x/\x<(n:Int))->nQ l (bump o s) n=nQ l o n+js l s:=by
 induction s with
 | nil=>intro o _ _;simp[bump,js]
 | cons x s ih=>
  intro o hn hs;show nQ l (bump (eV o x) s) n=_;rw[ih (eV o x) (by rw[lX];exact hn) (fun y hy=>hs y (by simp[hy])),Cc l o x (hs x (by simp)).1 n hn,a0d (hs x (by simp)).2];simp only[js,a0C,a0R];omega
theorem Ex(l:List Int)(m n:Nat):nQ l (List.replicate m 0) n=0:=by
 induction n with
 | zero=>rfl
 | succ n ih=>
  simp only[nQ];rw[ih];have:(List.replicate m (0:Int)).getD n 0=0:=by
   rw[List.getD_eq_getElem?_getD,List.getElem?_replicate]
   split<;>rfl
  rw[this];omega
theorem Ig(l:List Int)(k:Nat)(hk:k<(aB l l.length).length∨k=0):nQ l (ax l k).2 l.length+pE ((aB l l.length).length-1-k) (ax l k).1=pE ((aB l l.length).length-1) (aB l l.length):=by
 induction k with
 | zero=>
  show nQ l (List.replicate l.length 0) l.length+pE _ (aB l l.length)=_;rw[Ex,Int.zero_add,Nat.sub_zero]
 | succ k ih=>
  have ih':=ih (by omega);have hlen:1<(ax l k).1.length:=by have:=(cf l k (by omega)).2.2.2;omega
  have hr:=dm (ax l k).1 (by omega);obtain⟨m,hm⟩:∃m,(aB l l.length).length-1-k=m+1:=⟨(aB l l.length).length-1-k-1,by omega⟩;have hm2:(aB l l.length).length-1-(k+1)=m:=by omega
  rw[hm]at ih';rw[hm2];simp only[pE]at ih';rw[a0d hlen]at ih';have hsy:∀x∈bg (ax l k).1,0<=x/\x<(l.length:Int):=by
   intro x hx;have hf:=(gn l k (by omega)).2;exact hf x ((iP _ hlen).mem_iff.1 (by simp[hx]))
  have h1:=Ew l (bg (ax l k).1) l.length (ax l k).2 (by rw[dK];exact a0a _) hsy;have h2:=AV l k (by omega) _ (bC (ax l k).1 (by omega));have h3:=AV l k (by omega) _ (bf _ _ (bC (al (ax l k).1) (by omega)));have h4:js l (bg (ax l k).1)=(aE (ax l k).1).cnt+(aE (al (ax l k).1)).cnt:=by
   unfold bg;rw[mM,←h2,←h3]
  show nQ l (bump (ax l k).2 (bg (ax l k).1)) l.length+pE m (stepG (ax l k).1)=_;rw[h1,h4];omega
def mW(o s:List Int)(D:Nat):Nat:=(s.map fun x=>2 ^ (D-(o.getD x.toNat 0).toNat)).sum
theorem wQ(o a b:List Int)(D:Nat):mW o (a++b) D=mW o a D+mW o b D:=by simp[mW]
theorem Cx{o o' s:List Int}{D:Nat}(h:∀x∈s,o'.getD x.toNat 0=o.getD x.toNat 0):mW o' s D=mW o s D:=by
 unfold mW
 congr 1
 apply List.map_congr_left;intro x hx;rw[h x hx]
theorem Cw{o o' s:List Int}{D:Nat}(h:∀x∈s,0<=o.getD x.toNat 0/\o.getD x.toNat 0<(D:Int)/\o'.getD x.toNat 0=o.getD x.toNat 0+1):2*mW o' s D=mW o s D:=by
 induction s with
 | nil=>rfl
 | cons x s ih=>
  have ih':=ih (fun y hy=>h y (by simp[hy]));obtain⟨h1,h2,h3⟩:=h x (by simp);simp only[mW,a0C,a0R]at ih' ⊢;rw[h3];obtain⟨d,hd⟩:∃d,D-(o.getD x.toNat 0).toNat=d+1:=⟨D-(o.getD x.toNat 0).toNat-1,by omega⟩;have hd2:D-(o.getD x.toNat 0+1).toNat=d:=by omega
  rw[hd,hd2,a1y];omega
theorem Ih(l:List Int)(D:Nat)(hD:(aB l l.length).length<=D)(k:Nat)(hk:k<(aB l l.length).length∨k=0):∀g∈(ax l k).1,mW (ax l k).2 g.syms D=2 ^ D:=by
 induction k with
 | zero=>
  intro g hg;obtain⟨_,i,h1,h2,h3,h4,h5⟩:=oy l l.length g hg;rw[h5];show mW (List.replicate l.length 0) [(i:Int)] D=2 ^ D;simp[mW,List.getD,h2]
 | succ k ih=>
  have hlen:1<(ax l k).1.length:=by have:=(cf l k (by omega)).2.2.2;omega
  have hr:=dm (ax l k).1 (by omega);have ih':=ih (by omega);have hfl:=gn l k (by omega);obtain⟨hnd,hdis⟩:=iO hlen hfl.1;have hdep:=ko l k (by omega);have hin:∀x∈bg (ax l k).1,0<=x/\x<(l.length:Int):=fun x hx=>hfl.2 x ((iP _ hlen).mem_iff.1 (by simp[hx]));have hget:=fun(x:Int) (h0:0<=x) (h1:x<(l.length:Int))=>lk (ax l k).2 (bg (ax l k).1) x.toNat hnd (fun y hy=>(hin y hy).1) (by rw[dK];omega);intro g hg;show mW (bump (ax l k).2 (bg (ax l k).1)) g.syms D=2 ^ D;have hg':g∈stepG (ax l k).1:=hg;simp only[stepG,a0X,a02]at hg';rcases hg' with hg'|rfl
  ·
   rw[Cx (o:=(ax l k).2)]
   · exact ih' g (bf _ _ (bf _ _ hg'))
   · intro x hx;have hxf:x∈br (ax l k).1:=List.mem_flatMap.2 ⟨g,bf _ _ (bf _ _ hg'),hx⟩;obtain⟨x0,x1⟩:=hfl.2 x hxf;rw[hget x x0 x1,a22 x0,a0e (hdis g hg' x hx),Int.add_zero]
  ·
   have hj:(du (aE (ax l k).1) (aE (al (ax l k).1))).syms=bg (ax l k).1:=rfl;rw[hj];have hha:=Cw (o:=(ax l k).2) (o':=bump (ax l k).2 (bg (ax l k).1)) (s:=bg (ax l k).1) (D:=D) (by
    intro x hx;obtain⟨x0,x1⟩:=hin x hx;have hd:=hdep x.toNat (by rw[dK];omega);refine⟨hd.1,by omega,?_⟩;rw[hget x x0 x1,a22 x0,a0d hx])
   have h2:mW (ax l k).2 (bg (ax l k).1) D=2 ^ D+2 ^ D:=by
    unfold bg;rw[wQ,ih' _ (bC _ (by omega)),ih' _ (bf _ _ (bC (al _) (by omega)))]
   omega
end Go.Proofs.YtbacpebljannfaaGreatDoor
namespace Go.Proofs.YtbacpebljannfaaGreatDoor
open Go.RowKit Corb
def cQ(w:World)(b base:Nat)(v:Value)(L:List Grp):Prop:=w.heap[b]?=some (Obj.cells #[v] 250)/\cJ 230 w base v L
theorem cQ.cell{w:World}{b base:Nat}{v:Value}{L:List Grp}(h:cQ w b base v L):w.cell? ⟨b,0,none⟩=some v:=by simp[World.cell?,h.1]
theorem cQ.frz{w:World}{b base:Nat}{v:Value}{L:List Grp}(h:cQ w b base v L):w.frozen? ⟨b,0,none⟩=false:=by simp[World.frozen?,h.1]
theorem cQ.lt{w:World}{b base:Nat}{v:Value}{L:List Grp}(h:cQ w b base v L):b<w.heap.size:=(Array.getElem?_eq_some_iff.1 h.1).1
theorem iz(b base n cap:Nat)(a:Option Addr)(L:List Grp)(w:World)(h:cQ w b base (.slice a n cap) L) :
  Calls Tryz.prog 181 #[.pointer (some ⟨b,0,none⟩)] w fun e w'=>e = .returned (.int .i64 (n:Nat))/\w'=w:=by
 have c0:=h.cell;clear h;go_enter Tryz.func181,Tryz.ntmps181;go_wp2;go_ret;exact⟨rfl,rfl⟩
set_option maxRecDepth 100000 in
theorem iG(b base ob g n cap i j:Nat)(L:List Grp)(w:World)(hS:dH w ob L)(hn:L.length=n)(hm:n<=300)(h:cQ w b base (.slice (some ⟨g,0,none⟩) n cap) L)(hi:i<n)(hj:j<n) :
  Calls Tryz.prog 257 #[.pointer (some ⟨b,0,none⟩),.int .i64 (i:Nat),.int .i64 (j:Nat)] w fun e w'=>e = .returned (.bool (aZ (L.getD i g0) (L.getD j g0)))/\Below w.heap.size w w':=by
 have c0:=h.cell;obtain⟨a0,a1,a2,_,hg⟩:=h.2.at hn i hi;obtain⟨d0,d1,d2,_,_⟩:=h.2.at hn j hj;have hbw:b<w.heap.size:=World.block_lt_of_cell? w ⟨b,0,none⟩ c0;obtain⟨xa,xq,hxv⟩:=(hS (L.getD i g0) (ft L i (by omega))).form;obtain⟨ya,yq,hyv⟩:=(hS (L.getD j g0) (ft L j (by omega))).form;have hiI:(i:Int)<(n:Int):=by omega
 have hjI:(j:Int)<(n:Int):=by omega
 have hmI:(n:Int)<=300:=by omega
 rw[hxv]at a2;rw[hyv]at d2;clear h hn hm hi hj hxv hyv hS;generalize L.getD i g0=x at *
 generalize L.getD j g0=y at *
 obtain⟨xc,xf,xs,xv⟩:=x;obtain⟨yc,yf,ys,yv⟩:=y;simp only at a0 a1 a2 d0 d1 d2;generalize xs.length=xn at *
 generalize ys.length=yn at *
 go_enter Tryz.func257,Tryz.ntmps257;go_wp2_with fail
 go_region
 all_goals
  by_cases he:xc=yc
  · subst he;go_wp2;go_ret;exact⟨congrArg (fun x=>Ending.returned (.bool x)) (by simp[aZ]),(((a0c _ _).alloc (a0a _) _).alloc (by simp) _).drew⟩
  ·
   have hne:(xc == yc)=false:=by simpa using he
   go_wp2;go_ret;exact⟨congrArg (fun x=>Ending.returned (.bool x)) (by simp[aZ,he]),(((a0c _ _).alloc (a0a _) _).alloc (by simp) _).drew⟩
end Go.Proofs.YtbacpebljannfaaGreatDoor
namespace Go.Proofs.YtbacpebljannfaaGreatDoor
open Go.RowKit
theorem bw.ints{w w':World}{base:Nat}{v:Value}{l:List Int}(h:bw 3 w w')(ho:ak w base v l):ak w' base v l:=h.own ho
theorem bw.syms{w w':World}{ob:Nat}{l:List Grp}(h:bw 3 w w')(hs:dH w ob l):dH w' ob l:=fun g hg=>h.ints (hs g hg)
theorem dH.perm{w:World}{ob:Nat}{l m:List Grp}(h:dH w ob l)(hp:m.Perm l):dH w ob m:=fun g hg=>h g (hp.mem_iff.1 hg)
def bF(g:Nat)(w w':World):Prop:=bw 3 w w'/\w.heap.size<=w'.heap.size/\∀k,k<w.heap.size->k≠g->w'.heap[k]?=w.heap[k]?
theorem bF.refl(g:Nat)(w:World):bF g w w:=⟨bw.refl _ _,a0a _,fun _ _ _=>rfl⟩
theorem bF.trans{g:Nat}{w w1 w2:World}(h:bF g w w1)(k:bF g w1 w2):bF g w w2:=
 ⟨h.1.trans k.1,a0I h.2.1 k.2.1,fun j hj hg=>(k.2.2 j (a0g hj h.2.1) hg).trans (h.2.2 j hj hg)⟩
theorem bF.below{g:Nat}{w w':World}(h:Below w.heap.size w w'):bF g w w':=⟨bw.below h,h.size,fun j hj _=>h.block j hj⟩
theorem bF.syms{g:Nat}{w w':World}{ob:Nat}{l:List Grp}(h:bF g w w')(hs:dH w ob l):dH w' ob l:=h.1.syms hs
theorem bF.drew{g:Nat}{w w':World}(h:bF g w w'):bF g w w'.drew:=h
theorem bF.touch{t':TypeId}{w w':World}{g:Nat}{c:Array Value}{f:Nat×Nat}(hg:w.heap[g]?=some (.cells c t' f))(hne:3≠t')(ht:Touch (some ⟨g,0,none⟩) w w'):bF g w w':=
 ⟨bw.touch hg hne ht,Nat.le_of_eq ht.1.symm,fun j _ hj=>ht.2 j (fun g' e=>by simp only[a0j,a0y,a0Q]at e;omega)⟩
end Go.Proofs.YtbacpebljannfaaGreatDoor
namespace Go.Proofs.YtbacpebljannfaaGreatDoor
open Go.RowKit Corb
theorem As(l:List Grp)(j:Nat)(x:Grp):(((aU l).set (j*3) (.int .i64 x.cnt)).set (j*3+1) (.int .i64 x.fst)).set (j*3+2) x.val=aU (l.set j x):=by
 induction l generalizing j with
 | nil=>simp[aU]
 | cons p l ih=>
  cases j with
  | zero=>simp[aU]
  | succ j=>
   rw[show(j+1)*3=j*3+1+1+1 by omega];simp only[aU,List.set_cons_succ];rw[ih j]
theorem cJ.put{t:TypeId}{w:World}{base g cap n:Nat}{l:List Grp}(hn:l.length=n)(h:cJ t w base (.slice (some ⟨g,0,none⟩) n cap) l)(j:Nat)(x:Grp) :
  cJ t (((w.setCell ⟨g,j*3,none⟩ (.int .i64 x.cnt)).setCell ⟨g,j*3+1,none⟩ (.int .i64 x.fst)).setCell ⟨g,j*3+2,none⟩ x.val) base (.slice (some ⟨g,0,none⟩) n cap) (l.set j x):=by
 subst hn;have h1:=(a1X h (j*3) (.int .i64 x.cnt)).1;have h2:=(a1X h1 (j*3+1) (.int .i64 x.fst)).1;have h3:=(a1X h2 (j*3+2) x.val).1;rw[As]at h3;show World.ownsRow _ _ _ _ _ (l.set j x).length _;rw[a1J];exact h3
theorem cJ.frozen{t:TypeId}{w:World}{base g cap n:Nat}{l:List Grp}(hn:l.length=n)(h:cJ t w base (.slice (some ⟨g,0,none⟩) n cap) l)(j:Nat):w.frozen? ⟨g,j,none⟩=false:=by
 subst hn;exact a2y h j
theorem Touch.drew{a:Option Addr}{w w':World}(h:Touch a w w'):Touch a w w'.drew:=h
theorem cJ.drew{t:TypeId}{w:World}{base:Nat}{v:Value}{l:List Grp}(h:cJ t w base v l):cJ t w.drew base v l:=h
theorem cQ.drew{w:World}{b base:Nat}{v:Value}{L:List Grp}(h:cQ w b base v L):cQ w.drew b base v L:=⟨h.1,h.2.drew⟩
set_option maxRecDepth 100000 in
theorem lP(b base ob g n cap i j:Nat)(L:List Grp)(w:World)(hS:dH w ob L)(hn:L.length=n)(hm:n<=300)(h:cQ w b base (.slice (some ⟨g,0,none⟩) n cap) L)(hbb:b<base)(hi:i<n)(hj:j<n) :
  Calls Tryz.prog 204 #[.pointer (some ⟨b,0,none⟩),.int .i64 (i:Nat),.int .i64 (j:Nat)] w fun e w'=>e = .returned (.tuple #[])/\cQ w' b base (.slice (some ⟨g,0,none⟩) n cap) (cV L i j)/\Below b w w'/\bF g w w':=by
 have c0:=h.cell;have hgl:=(a0G h.2 g rfl).1;have hbg:b≠g:=by omega
 obtain⟨gc,hgc⟩:=Dr (n:=n) (by have h2:=h.2;unfold cJ at h2;rw[hn]at h2;exact h2) rfl;have HGC:=af hgc;clear hgc;obtain⟨a0,a1,a2,_,hg⟩:=h.2.at hn i hi;obtain⟨d0,d1,d2,_,_⟩:=h.2.at hn j hj;have f0:=h.2.frozen hn (i*3);have f1:=h.2.frozen hn (i*3+1);have f2:=h.2.frozen hn (i*3+2);have k0:=h.2.frozen hn (j*3);have k1:=h.2.frozen hn (j*3+1);have k2:=h.2.frozen hn (j*3+2);have hbw:b<w.heap.size:=World.block_lt_of_cell? w ⟨b,0,none⟩ c0;obtain⟨xa,xq,hxv⟩:=(hS (L.getD i g0) (ft L i (by omega))).form;obtain⟨ya,yq,hyv⟩:=(hS (L.getD j g0) (ft L j (by omega))).form;have hiI:(i:Int)<(n:Int):=by omega
 have hjI:(j:Int)<(n:Int):=by omega
 have hmI:(n:Int)<=300:=by omega
 rw[hxv]at a2;rw[hyv]at d2;have H:=af h;have Hn:=af hn;clear h hn hm hi hj hS;have HX:=af hxv;have HY:=af hyv;have hgb:g≠b:=fun e=>hbg e.symm;clear hxv hyv;generalize hx:L.getD i g0=x at *
 generalize hy:L.getD j g0=y at *
 obtain⟨xc,xf,xs,xv⟩:=x;obtain⟨yc,yf,ys,yv⟩:=y;simp only at a0 a1 a2 d0 d1 d2;generalize xs.length=xn at *
 generalize ys.length=yn at *
 have Hx:=af hx;have Hy:=af hy;clear hx hy;go_enter Tryz.func204,Tryz.ntmps204;go_wp2_with fail;have ex:Hid (L.getD i g0=⟨xc,xf,xs,.slice xa xn xq⟩):=by
  have e:xv = .slice xa xn xq:=ae HX;show L.getD i g0=_;rw[ae Hx,e]
 have ey:Hid (L.getD j g0=⟨yc,yf,ys,.slice ya yn yq⟩):=by
  have e:yv = .slice ya yn yq:=ae HY;show L.getD j g0=_;rw[ae Hy,e]
 have hT:=af (cJ.put (by rw[a1J];exact ae Hn) (cJ.put (ae Hn) (ae H).2 i ⟨yc,yf,ys,.slice ya yn yq⟩) j ⟨xc,xf,xs,.slice xa xn xq⟩);have hTo:=af (((((((Touch.refl (some ⟨g,0,none⟩) w).set (o:=i*3) rfl (.int .i64 yc)).set (o:=i*3+1) rfl (.int .i64 yf)).set (o:=i*3+2) rfl (.slice ya yn yq)).set (o:=j*3) rfl (.int .i64 xc)).set (o:=j*3+1) rfl (.int .i64 xf)).set (o:=j*3+2) rfl (.slice xa xn xq));have hBe:=af ((ag (ag (ag (ag (ag (ag (a0c b w) (b:=g) (o:=i*3) (by omega) (.int .i64 yc)) (b:=g) (o:=i*3+1) (by omega) (.int .i64 yf)) (b:=g) (o:=i*3+2) (by omega) (.slice ya yn yq)) (b:=g) (o:=j*3) (by omega) (.int .i64 xc)) (b:=g) (o:=j*3+1) (by omega) (.int .i64 xf)) (b:=g) (o:=j*3+2) (by omega) (.slice xa xn xq)));have hKe:=af (bF.touch (ae HGC) (by decide) (ae hTo));have hCe:=af (((ae hTo).2 b (fun g' e=>by simp only[a0j,a0y,a0Q]at e;omega)).trans (ae H).1);have hAll:Hid (cQ ((((((w.setCell ⟨g,i*3,none⟩ (.int .i64 yc)).setCell ⟨g,i*3+1,none⟩ (.int .i64 yf)).setCell ⟨g,i*3+2,none⟩ (.slice ya yn yq)).setCell ⟨g,j*3,none⟩ (.int .i64 xc)).setCell ⟨g,j*3+1,none⟩ (.int .i64 xf)).setCell ⟨g,j*3+2,none⟩ (.slice xa xn xq)) b base (.slice (some ⟨g,0,none⟩) n cap) ((L.set i ⟨yc,yf,ys,.slice ya yn yq⟩).set j ⟨xc,xf,xs,.slice xa xn xq⟩)):=⟨ae hCe,ae hT⟩;clear H;have hSw:Hid (cV L i j=(L.set i ⟨yc,yf,ys,.slice ya yn yq⟩).set j ⟨xc,xf,xs,.slice xa xn xq⟩):=by
  show cV L i j=_;unfold cV;rw[ae ex,ae ey]
 by_cases hij:i=j
 ·
  subst hij;have exy:=(ae ex).symm.trans (ae ey);simp only[Grp.mk.injEq,a0N]at exy;obtain⟨rfl,rfl,rfl,rfl,rfl,rfl⟩:=exy
  go_region
  all_goals
   go_wp2
   go_end0
   refine⟨rfl,?_,(ae hBe).drew,(ae hKe).drew⟩;rw[ae hSw];exact(ae hAll).drew
 ·
  have hji:¬ j=i:=fun e=>hij e.symm;have q1:¬ j*3=i*3+1:=by omega
  have q2:¬ j*3=i*3+2:=by omega
  have q3:¬ j*3+1=i*3:=by omega
  have q4:¬ j*3+1=i*3+2:=by omega
  have q5:¬ j*3+2=i*3:=by omega
  have q6:¬ j*3+2=i*3+1:=by omega
  have q7:¬ j*3=i*3:=by omega
  have q8:¬ j*3+1=i*3+1:=by omega
  have q9:¬ j*3+2=i*3+2:=by omega
  go_region
  all_goals
   go_wp2
   go_end0
   refine⟨rfl,?_,(ae hBe).drew,(ae hKe).drew⟩;rw[ae hSw];exact(ae hAll).drew
theorem Fy(a:Addr)(w:World):(method 398 227 (.pointer (some a)) "loop.example/corbel/impl.size").run Tryz.prog w = .ok (181,.pointer (some a)) w:=by kernel_rfl
theorem rV(a:Addr)(w:World):(method 398 227 (.pointer (some a)) "loop.example/corbel/impl.before").run Tryz.prog w = .ok (257,.pointer (some a)) w:=by kernel_rfl
theorem xE(a:Addr)(w:World):(method 398 227 (.pointer (some a)) "loop.example/corbel/impl.swap").run Tryz.prog w = .ok (204,.pointer (some a)) w:=by kernel_rfl
theorem cQ.later{w w':World}{b base:Nat}{v:Value}{L:List Grp}(h:cQ w b base v L)(hb:Below w.heap.size w w'):cQ w' b base v L:=
 ⟨(hb.block b h.lt).trans h.1,h.2.later hb (a0a _)⟩
set_option maxRecDepth 100000 in
theorem uW(b g n cap p:Nat)(L:List Grp)(w:World)(hS:dH w (b+1) L)(hn:L.length=n)(hm:n<=300)(h:cQ w b (b+1) (.slice (some ⟨g,0,none⟩) n cap) L)(hp:p<n)(hu:UpI L p) :
  Calls Tryz.prog 206 #[.iface 227 (.pointer (some ⟨b,0,none⟩)),.int .i64 (p:Nat)] w fun e w'=>e = .returned (.tuple #[])/\∃M:List Grp,M.Perm L/\HP M/\cQ w' b (b+1) (.slice (some ⟨g,0,none⟩) n cap) M/\Below b w w'/\bF g w w':=by
 have m1:=rV ⟨b,0,none⟩;have m2:=xE ⟨b,0,none⟩;have hmI:(n:Int)<=300:=by omega
 have HS:=af hS;have HN:=af (a0b hn hm);have H0:=af (a0b h (a0b hp hu));clear hS hn hm h hp hu;go_enter Tryz.func206,Tryz.ntmps206;go_wp2_with fail
 go_loopw [1] (fun p wr=>∃(k:Nat) (M:List Grp),p = .int .i64 k/\k<n/\M.Perm L/\UpI M k/\cQ wr b (b+1) (.slice (some ⟨g,0,none⟩) n cap) M/\Below b w wr/\bF g w wr) (fun p _=>(intOf p).toNat)
 case atStart=>exact⟨p,L,rfl,(ae H0).2.1,a2g _,(ae H0).2.2,(ae H0).1,a0c _ _,bF.refl _ _⟩
 case round=>
  obtain⟨k,M,rfl,hk,hM,hu,hh,hbel,hke⟩:=hrel;have hkI:(k:Int)<(n:Int):=by omega
  have hMn:M.length=n:=hM.length_eq.trans (ae HN).1;have HQ:=af (a0b hk (a0b hM (a0b hu (a0b hh (a0b hbel (a0b hke hMn))))));by_cases h0:k=0
  ·
   subst h0;clear hk hM hu hh hbel hke hMn;go_wp2
   go_end0
   obtain⟨hk,hM,hu,hh,hbel,hke,hMn⟩:=ae HQ;exact⟨rfl,M,hM,GK hu (.inl rfl),hh,hbel,hke⟩
  ·
   have hsy:dH wr (b+1) M:=(hke.syms (ae HS)).perm hM;obtain⟨q,hq⟩:∃q,q=(k-1)/2:=⟨_,rfl⟩;have hqI:((k:Int)-1)/2=(q:Int):=by omega
   have hq0:(q:Int)<(n:Int):=by omega
   have h1I:(1:Int)<=(k:Int):=by omega
   have HB:=af (iG b (b+1) (b+1) g n cap k q M wr hsy hMn (ae HN).2 hh hk (by omega));have HQQ:=af hq;clear hk hM hu hh hbel hke hMn hq;cases hl:aZ (M.getD k g0) (M.getD q g0)
   ·
    rw[hl]at HB;have HL:=af hl;clear hl;go_wp2_with fail;refine(ae HB).mono ?_;rintro e x1 ⟨rfl,hb1⟩;go_wp2
    go_end0
    obtain⟨hk,hM,hu,hh,hbel,hke,hMn⟩:=ae HQ;exact⟨rfl,M,hM,GK hu (.inr (by rw[←ae HQQ];exact ae HL)),hh.later hb1,hbel.trans (hb1.mono (a0x (hh.lt))),hke.trans (bF.below hb1)⟩
   ·
    rw[hl]at HB;have HL:=af hl;clear hl;go_wp2_with fail;refine(ae HB).mono ?_;rintro e x1 ⟨rfl,hb1⟩;have HW:Hid (Calls Tryz.prog 204 #[.pointer (some ⟨b,0,none⟩),.int .i64 (k:Nat),.int .i64 (q:Nat)] x1 fun e w'=>e = .returned (.tuple #[])/\cQ w' b (b+1) (.slice (some ⟨g,0,none⟩) n cap) (cV M k q)/\Below b x1 w'/\bF g x1 w'):=by
     obtain⟨hk,hM,hu,hh,hbel,hke,hMn⟩:=ae HQ;exact lP b (b+1) (b+1) g n cap k q M x1 (((hke.trans (bF.below hb1)).syms (ae HS)).perm hM) hMn (ae HN).2 (hh.later hb1) (a0i _) hk (by omega)
    go_wp2_with fail;refine(ae HW).mono ?_;rintro e x2 ⟨rfl,hh2,hb2,hk2⟩;go_wp2;go_roundw
    case rel=>
     obtain⟨hk,hM,hu,hh,hbel,hke,hMn⟩:=ae HQ;have hq:=ae HQQ;refine⟨q,cV M k q,by first|rfl|go_num,by omega,(gx (by omega) (by omega)).trans hM,?_,hh2,(hbel.trans (hb1.mono (a0x (hh.lt)))).trans hb2,(hke.trans (bF.below hb1)).trans hk2⟩;subst hq;exact I4 hu (by omega) (by omega) (ae HL)
    case measure=>
     have hq:=ae HQQ;simp[intOf];omega
theorem vG{L:List Grp}{k c:Nat}(hc:(c=2*k+1/\(L.length<=2*k+2∨aZ (L.getD (2*k+2) g0) (L.getD (2*k+1) g0)=false))∨(c=2*k+2/\aZ (L.getD (2*k+2) g0) (L.getD (2*k+1) g0)=true)) :
  ∀i,0<i->i<L.length->(i-1)/2=k->aZ (L.getD i g0) (L.getD c g0)=false:=by
 intro i i0 hi hp;have hi2:i=2*k+1∨i=2*k+2:=by omega
 rcases hc with⟨rfl,h|h⟩|⟨rfl,h⟩
 ·
  rcases hi2 with rfl|rfl
  · exact fN _
  · omega
 ·
  rcases hi2 with rfl|rfl
  · exact fN _
  · exact h
 ·
  rcases hi2 with rfl|rfl
  · exact mY h
  · exact fN _
set_option maxRecDepth 100000 in
theorem uX(b g n cap p:Nat)(L:List Grp)(w:World)(hS:dH w (b+1) L)(hn:L.length=n)(hm:n<=300)(h:cQ w b (b+1) (.slice (some ⟨g,0,none⟩) n cap) L)(hp:p<=n)(hu:DnI L p) :
  Calls Tryz.prog 205 #[.iface 227 (.pointer (some ⟨b,0,none⟩)),.int .i64 (p:Nat)] w fun e w'=>e = .returned (.tuple #[])/\∃M:List Grp,M.Perm L/\HP M/\cQ w' b (b+1) (.slice (some ⟨g,0,none⟩) n cap) M/\Below b w w'/\bF g w w':=by
 have m1:=rV ⟨b,0,none⟩;have m2:=xE ⟨b,0,none⟩;have m3:=Fy ⟨b,0,none⟩;have hmI:(n:Int)<=300:=by omega
 have HS:=af hS;have HN:=af (a0b hn hm);have H0:=af (a0b h (a0b hp hu));clear hS hn hm h hp hu;go_enter Tryz.func205,Tryz.ntmps205;go_wp2_with fail
 go_loopw [1,4] (fun p _ wr=>∃(k:Nat) (M:List Grp),p = .int .i64 k/\k<=n/\M.Perm L/\DnI M k/\cQ wr b (b+1) (.slice (some ⟨g,0,none⟩) n cap) M/\Below b w wr/\bF g w wr) (fun p _ _=>n-(intOf p).toNat)
 case atStart=>exact⟨p,L,rfl,(ae H0).2.1,a2g _,(ae H0).2.2,(ae H0).1,a0c _ _,bF.refl _ _⟩
 case round=>
  obtain⟨k,M,rfl,hk,hM,hu,hh,hbel,hke⟩:=hrel;have hkI:(k:Int)<=(n:Int):=by omega
  have hMn:M.length=n:=hM.length_eq.trans (ae HN).1;have HQ:=af (a0b hk (a0b hM (a0b hu (a0b hh (a0b hbel (a0b hke hMn))))));have HZ:=af (iz b (b+1) n cap _ M wr hh);have hsy:dH wr (b+1) M:=(hke.syms (ae HS)).perm hM;obtain⟨c1,hc1⟩:∃q,q=2*k+1:=⟨_,rfl⟩;have hc1I:2*(k:Int)+1=(c1:Int):=by omega
  have HC1:=af hc1;by_cases h1:c1<n
  ·
   have h1I:(c1:Int)<(n:Int):=by omega
   obtain⟨c2,hc2⟩:∃q,q=2*k+2:=⟨_,rfl⟩;have hc2I:(c1:Int)+1=(c2:Int):=by omega
   have HC2:=af hc2;by_cases h2:c2<n
   ·
    have h2I:(c2:Int)<(n:Int):=by omega
    have HB:=af (iG b (b+1) (b+1) g n cap c2 c1 M wr hsy hMn (ae HN).2 hh h2 h1);clear hk hM hu hh hbel hke hMn hc1 hc2 h1 h2 hsy;cases hl:aZ (M.getD c2 g0) (M.getD c1 g0)
    ·
     rw[hl]at HB;have HL:=af hl;clear hl;go_wp2_with fail;refine(ae HZ).mono ?_;rintro e y1 ⟨rfl,hy1⟩;rw[hy1];clear hy1 y1;go_wp2_with fail;refine(ae HZ).mono ?_;rintro e y1 ⟨rfl,hy1⟩;rw[hy1];clear hy1 y1;go_wp2_with fail;refine(ae HB).mono ?_;rintro e x1 ⟨rfl,hb1⟩;have HX:Hid (cQ x1 b (b+1) (.slice (some ⟨g,0,none⟩) n cap) M/\Below b w x1/\bF g w x1/\c1<n/\0<c1/\(c1-1)/2=k/\(∀i,0<i->i<M.length->(i-1)/2=k->aZ (M.getD i g0) (M.getD c1 g0)=false)):=by
      obtain⟨hk,hM,hu,hh,hbel,hke,hMn⟩:=ae HQ;refine⟨(hh.later hb1),(hbel.trans (hb1.mono (a0x (hh.lt)))),(hke.trans (bF.below hb1)),by omega,?_,?_,vG (k:=k) (.inl ⟨ae HC1,.inr (by rw[←ae HC1,←ae HC2];exact ae HL)⟩)⟩
      · have:=ae HC1;omega
      · have:=ae HC1;omega
     have HB2:Hid (Calls Tryz.prog 257 #[.pointer (some ⟨b,0,none⟩),.int .i64 (c1:Nat),.int .i64 (k:Nat)] x1 fun e w'=>e = .returned (.bool (aZ (M.getD c1 g0) (M.getD k g0)))/\Below (x1).heap.size x1 w'):=by
      obtain⟨hk,hM,hu,hh,hbel,hke,hMn⟩:=ae HQ;obtain⟨xh,xb,xk,xc,xc0,xp,xm⟩:=ae HX;exact iG b (b+1) (b+1) g n cap c1 k M x1 ((xk.syms (ae HS)).perm hM) hMn (ae HN).2 xh xc (by omega)
     cases hl2:aZ (M.getD c1 g0) (M.getD k g0)
     · rw[hl2]at HB2;have HL2:=af hl2;clear hl2;go_wp2_with fail;refine(ae HB2).mono ?_;rintro e x2 ⟨rfl,hb2⟩;go_wp2;refine a0u (a23 rfl _ _ _) rfl ?_;obtain⟨hk,hM,hu,hh,hbel,hke,hMn⟩:=ae HQ;obtain⟨xh,xb,xk,xc,xc0,xp,xm⟩:=ae HX;exact⟨rfl,M,hM,uK hu (fun c c0 hc hp=>gU (xm c c0 hc hp) (ae HL2)),xh.later hb2,xb.trans (hb2.mono (a0x (xh.lt))),xk.trans (bF.below hb2)⟩
     ·
      rw[hl2]at HB2;have HL2:=af hl2;clear hl2;go_wp2_with fail;refine(ae HB2).mono ?_;rintro e x2 ⟨rfl,hb2⟩;have HW:Hid (Calls Tryz.prog 204 #[.pointer (some ⟨b,0,none⟩),.int .i64 (c1:Nat),.int .i64 (k:Nat)] x2 fun e w'=>e = .returned (.tuple #[])/\cQ w' b (b+1) (.slice (some ⟨g,0,none⟩) n cap) (cV M c1 k)/\Below b x2 w'/\bF g x2 w'):=by
       obtain⟨hk,hM,hu,hh,hbel,hke,hMn⟩:=ae HQ;obtain⟨xh,xb,xk,xc,xc0,xp,xm⟩:=ae HX;exact lP b (b+1) (b+1) g n cap c1 k M x2 (((xk.trans (bF.below hb2)).syms (ae HS)).perm hM) hMn (ae HN).2 (xh.later hb2) (a0i _) xc (by omega)
      go_wp2_with fail;refine(ae HW).mono ?_;rintro e x3 ⟨rfl,hh3,hb3,hk3⟩;go_wp2;go_roundw
      case rel=>
       obtain⟨hk,hM,hu,hh,hbel,hke,hMn⟩:=ae HQ;obtain⟨xh,xb,xk,xc,xc0,xp,xm⟩:=ae HX;exact⟨c1,cV M c1 k,rfl,by omega,(gx (by omega) (by omega)).trans hM,uL hu (by omega) (by omega) xc0 xp xm (ae HL2),hh3,(xb.trans (hb2.mono (a0x (xh.lt)))).trans hb3,(xk.trans (bF.below hb2)).trans hk3⟩
      case measure=>
       obtain⟨xh,xb,xk,xc,xc0,xp,xm⟩:=ae HX;simp[intOf];omega
    ·
     rw[hl]at HB;have HL:=af hl;clear hl;go_wp2_with fail;refine(ae HZ).mono ?_;rintro e y1 ⟨rfl,hy1⟩;rw[hy1];clear hy1 y1;go_wp2_with fail;refine(ae HZ).mono ?_;rintro e y1 ⟨rfl,hy1⟩;rw[hy1];clear hy1 y1;go_wp2_with fail;refine(ae HB).mono ?_;rintro e x1 ⟨rfl,hb1⟩;have HX:Hid (cQ x1 b (b+1) (.slice (some ⟨g,0,none⟩) n cap) M/\Below b w x1/\bF g w x1/\c2<n/\0<c2/\(c2-1)/2=k/\(∀i,0<i->i<M.length->(i-1)/2=k->aZ (M.getD i g0) (M.getD c2 g0)=false)):=by
      obtain⟨hk,hM,hu,hh,hbel,hke,hMn⟩:=ae HQ;refine⟨(hh.later hb1),(hbel.trans (hb1.mono (a0x (hh.lt)))),(hke.trans (bF.below hb1)),by omega,?_,?_,vG (k:=k) (.inr ⟨ae HC2,by rw[←ae HC1,←ae HC2];exact ae HL⟩)⟩
      · have:=ae HC2;omega
      · have:=ae HC2;omega
     have HB2:Hid (Calls Tryz.prog 257 #[.pointer (some ⟨b,0,none⟩),.int .i64 (c2:Nat),.int .i64 (k:Nat)] x1 fun e w'=>e = .returned (.bool (aZ (M.getD c2 g0) (M.getD k g0)))/\Below (x1).heap.size x1 w'):=by
      obtain⟨hk,hM,hu,hh,hbel,hke,hMn⟩:=ae HQ;obtain⟨xh,xb,xk,xc,xc0,xp,xm⟩:=ae HX;exact iG b (b+1) (b+1) g n cap c2 k M x1 ((xk.syms (ae HS)).perm hM) hMn (ae HN).2 xh xc (by omega)
     cases hl2:aZ (M.getD c2 g0) (M.getD k g0)
     · rw[hl2]at HB2;have HL2:=af hl2;clear hl2;go_wp2_with fail;refine(ae HB2).mono ?_;rintro e x2 ⟨rfl,hb2⟩;go_wp2;refine a0u (a23 rfl _ _ _) rfl ?_;obtain⟨hk,hM,hu,hh,hbel,hke,hMn⟩:=ae HQ;obtain⟨xh,xb,xk,xc,xc0,xp,xm⟩:=ae HX;exact⟨rfl,M,hM,uK hu (fun c c0 hc hp=>gU (xm c c0 hc hp) (ae HL2)),xh.later hb2,xb.trans (hb2.mono (a0x (xh.lt))),xk.trans (bF.below hb2)⟩
     ·
      rw[hl2]at HB2;have HL2:=af hl2;clear hl2;go_wp2_with fail;refine(ae HB2).mono ?_;rintro e x2 ⟨rfl,hb2⟩;have HW:Hid (Calls Tryz.prog 204 #[.pointer (some ⟨b,0,none⟩),.int .i64 (c2:Nat),.int .i64 (k:Nat)] x2 fun e w'=>e = .returned (.tuple #[])/\cQ w' b (b+1) (.slice (some ⟨g,0,none⟩) n cap) (cV M c2 k)/\Below b x2 w'/\bF g x2 w'):=by
       obtain⟨hk,hM,hu,hh,hbel,hke,hMn⟩:=ae HQ;obtain⟨xh,xb,xk,xc,xc0,xp,xm⟩:=ae HX;exact lP b (b+1) (b+1) g n cap c2 k M x2 (((xk.trans (bF.below hb2)).syms (ae HS)).perm hM) hMn (ae HN).2 (xh.later hb2) (a0i _) xc (by omega)
      go_wp2_with fail;refine(ae HW).mono ?_;rintro e x3 ⟨rfl,hh3,hb3,hk3⟩;go_wp2;go_roundw
      case rel=>
       obtain⟨hk,hM,hu,hh,hbel,hke,hMn⟩:=ae HQ;obtain⟨xh,xb,xk,xc,xc0,xp,xm⟩:=ae HX;exact⟨c2,cV M c2 k,rfl,by omega,(gx (by omega) (by omega)).trans hM,uL hu (by omega) (by omega) xc0 xp xm (ae HL2),hh3,(xb.trans (hb2.mono (a0x (xh.lt)))).trans hb3,(xk.trans (bF.below hb2)).trans hk3⟩
      case measure=>
       obtain⟨xh,xb,xk,xc,xc0,xp,xm⟩:=ae HX;simp[intOf];omega
   ·
    have h2I:¬ (c2:Int)<(n:Int):=by omega
    have hnn:Hid (n<=c2):=by show n<=c2;omega
    clear hk hM hu hh hbel hke hMn hc1 hc2 h1 h2 hsy;go_wp2_with fail;refine(ae HZ).mono ?_;rintro e y1 ⟨rfl,hy1⟩;rw[hy1];clear hy1 y1;go_wp2_with fail;refine(ae HZ).mono ?_;rintro e y1 ⟨rfl,hy1⟩;rw[hy1];clear hy1 y1;have HX:Hid (cQ wr b (b+1) (.slice (some ⟨g,0,none⟩) n cap) M/\Below b w wr/\bF g w wr/\c1<n/\0<c1/\(c1-1)/2=k/\(∀i,0<i->i<M.length->(i-1)/2=k->aZ (M.getD i g0) (M.getD c1 g0)=false)):=by
     obtain⟨hk,hM,hu,hh,hbel,hke,hMn⟩:=ae HQ;refine⟨hh,hbel,hke,by omega,?_,?_,vG (k:=k) (.inl ⟨ae HC1,.inl (by rw[hMn,←ae HC2];exact ae hnn)⟩)⟩
     · have:=ae HC1;omega
     · have:=ae HC1;omega
    have HB2:Hid (Calls Tryz.prog 257 #[.pointer (some ⟨b,0,none⟩),.int .i64 (c1:Nat),.int .i64 (k:Nat)] wr fun e w'=>e = .returned (.bool (aZ (M.getD c1 g0) (M.getD k g0)))/\Below (wr).heap.size wr w'):=by
     obtain⟨hk,hM,hu,hh,hbel,hke,hMn⟩:=ae HQ;obtain⟨xh,xb,xk,xc,xc0,xp,xm⟩:=ae HX;exact iG b (b+1) (b+1) g n cap c1 k M wr ((xk.syms (ae HS)).perm hM) hMn (ae HN).2 xh xc (by omega)
    cases hl2:aZ (M.getD c1 g0) (M.getD k g0)
    · rw[hl2]at HB2;have HL2:=af hl2;clear hl2;go_wp2_with fail;refine(ae HB2).mono ?_;rintro e x2 ⟨rfl,hb2⟩;go_wp2;refine a0u (a23 rfl _ _ _) rfl ?_;obtain⟨hk,hM,hu,hh,hbel,hke,hMn⟩:=ae HQ;obtain⟨xh,xb,xk,xc,xc0,xp,xm⟩:=ae HX;exact⟨rfl,M,hM,uK hu (fun c c0 hc hp=>gU (xm c c0 hc hp) (ae HL2)),xh.later hb2,xb.trans (hb2.mono (a0x (xh.lt))),xk.trans (bF.below hb2)⟩
    ·
     rw[hl2]at HB2;have HL2:=af hl2;clear hl2;go_wp2_with fail;refine(ae HB2).mono ?_;rintro e x2 ⟨rfl,hb2⟩;have HW:Hid (Calls Tryz.prog 204 #[.pointer (some ⟨b,0,none⟩),.int .i64 (c1:Nat),.int .i64 (k:Nat)] x2 fun e w'=>e = .returned (.tuple #[])/\cQ w' b (b+1) (.slice (some ⟨g,0,none⟩) n cap) (cV M c1 k)/\Below b x2 w'/\bF g x2 w'):=by
      obtain⟨hk,hM,hu,hh,hbel,hke,hMn⟩:=ae HQ;obtain⟨xh,xb,xk,xc,xc0,xp,xm⟩:=ae HX;exact lP b (b+1) (b+1) g n cap c1 k M x2 (((xk.trans (bF.below hb2)).syms (ae HS)).perm hM) hMn (ae HN).2 (xh.later hb2) (a0i _) xc (by omega)
     go_wp2_with fail;refine(ae HW).mono ?_;rintro e x3 ⟨rfl,hh3,hb3,hk3⟩;go_wp2;go_roundw
     case rel=>
      obtain⟨hk,hM,hu,hh,hbel,hke,hMn⟩:=ae HQ;obtain⟨xh,xb,xk,xc,xc0,xp,xm⟩:=ae HX;exact⟨c1,cV M c1 k,rfl,by omega,(gx (by omega) (by omega)).trans hM,uL hu (by omega) (by omega) xc0 xp xm (ae HL2),hh3,(xb.trans (hb2.mono (a0x (xh.lt)))).trans hb3,(xk.trans (bF.below hb2)).trans hk3⟩
     case measure=>
      obtain⟨xh,xb,xk,xc,xc0,xp,xm⟩:=ae HX;simp[intOf];omega
  ·
   have h1I:¬ (c1:Int)<(n:Int):=by omega
   have hnn:Hid (n<=c1):=by show n<=c1;omega
   clear hk hM hu hh hbel hke hMn hc1 h1 hsy;go_wp2_with fail;refine(ae HZ).mono ?_;rintro e y1 ⟨rfl,hy1⟩;rw[hy1];clear hy1 y1;go_wp2
   go_end0
   obtain⟨hk,hM,hu,hh,hbel,hke,hMn⟩:=ae HQ;have hc1:=ae HC1;have hnn':=ae hnn;exact⟨rfl,M,hM,uK hu (fun c c0 hc hp=>by omega),hh,hbel,hke⟩
theorem AJ{w:World}{b:Nat}{v:Value}{t:TypeId}(h:w.heap[b]?=some (Obj.cells #[v] t))(u:Value):(w.setCell ⟨b,0,none⟩ u).heap[b]?=some (Obj.cells #[u] t):=by
 show(w.heap.modify b _)[b]?=_;rw[Array.getElem?_modify,a0d rfl,h];simp
theorem Eo{w:World}{b:Nat}{v:Value}{t:TypeId}(h:w.heap[b]?=some (Obj.cells #[v] t)):w.cell? ⟨b,0,none⟩=some v:=by simp[World.cell?,h]
theorem G0{w:World}{b:Nat}{v:Value}{t:TypeId}(h:w.heap[b]?=some (Obj.cells #[v] t)):w.frozen? ⟨b,0,none⟩=false:=by simp[World.frozen?,h]
theorem Tryz.infoGrp:(Tryz.prog.info? 230).map (fun i=>(i.zero,i.size,i.bytes))=some (some (.agg #[.int .i64 0,.int .i64 0,.slice none 0 0]),3,40):=by kernel_rfl
theorem zB{w W x1:World}{b n:Nat}{v v':Value}{L:List Grp}{x:Grp}{o:Obj}(hn:L.length=n)(h:cQ w b (b+1) v L)(hW:Below w.heap.size w W)(hk:bw 3 w W)(hown:x1.ownsRow (b+1) 230 3 v' (n+1) (aU L++[.int .i64 x.cnt,.int .i64 x.fst,x.val]))(hg0:(W.alloc o).drew.grownBy x1 v.ownBlock) :
  (∃g c,v' = .slice (some ⟨g,0,none⟩) (n+1) c)/\(x1.heap[b]?=some (Obj.cells #[v] 250))/\cQ (x1.setCell ⟨b,0,none⟩ v') b (b+1) v' (L++[x])/\Below b w (x1.setCell ⟨b,0,none⟩ v')/\bw 3 w (x1.setCell ⟨b,0,none⟩ v'):=by
 have hg:(W.alloc o).grownBy x1 v.ownBlock:=⟨hg0.os,hg0.tape,hg0.output,hg0.size,hg0.block⟩;have hWs:=hW.size;have hlt:=h.lt;have h1:=h.later hW;have h2:cJ 230 (W.alloc o) (b+1) v L:=a0o h1.2 _;have hbk:∀k,v.ownBlock=some k->b<k:=fun k e=>(a0G h2 k e).1;have hxb:x1.heap[b]?=some (Obj.cells #[v] 250):=by
  rw[hg.block b (by simp;omega) (fun e=>by have:=hbk b e.symm;omega),a1h W o b (by omega)];exact h1.1
 have hbel:Below b w x1:=(((hW.mono (a0x hlt)).alloc (by omega) o)).grown hg (by simp;omega) (fun k e=>a0x (hbk k e));have hke:bw 3 w x1:=(hk.alloc o).grown h2 (by decide) hg;subst hn;have hsn:=mB x hown;obtain⟨va,vc,e⟩:=hsn.formN (n:=L.length+1) (by simp);obtain⟨g,hga⟩:=(show cJ 230 x1 (b+1) (.slice va (L.length+1) vc) (L++[x]) by rw[←e];exact hsn).somes (by simp);refine⟨⟨g,vc,by rw[e,hga]⟩,hxb,⟨AJ hxb v',?_⟩,ag hbel (a0a _) _,hke.set hxb (by decide) _⟩;exact a2f hsn (a0i _) _
set_option maxRecDepth 100000 in
theorem w8(b n cap:Nat)(a:Option Addr)(L:List Grp)(x:Grp)(w:World)(hS:dH w (b+1) L)(hx:ak w (b+1) x.val x.syms)(hn:L.length=n)(hm:n<300)(h:cQ w b (b+1) (.slice a n cap) L)(hp:HP L) :
  Calls Tryz.prog 183 #[.pointer (some ⟨b,0,none⟩),.agg #[.int .i64 x.cnt,.int .i64 x.fst,x.val]] w fun e w'=>e = .returned (.tuple #[])/\∃(M:List Grp) (g cap':Nat),M.Perm (L++[x])/\HP M/\cQ w' b (b+1) (.slice (some ⟨g,0,none⟩) (n+1) cap') M/\Below b w w'/\bw 3 w w':=by
 obtain⟨i0,hi,hz0,hz1,hz2⟩:=a0w Tryz.infoGrp;have hmI:(n:Int)<300:=by omega
 have hlt:=h.lt;have c0:=h.cell;have f0:=h.frz;obtain⟨xa,xq,hxv⟩:=hx.form;have HS:=af hS;have HN:=af (a0b hn hm);have H0:=af (a0b h hp);have HX:=af (a0b hx hxv);obtain⟨xc,xf,xs,xv⟩:=x;simp only at hxv;subst hxv;generalize hxn:xs.length=xn at *
 have hlen1:Hid (n+1<=maxLen/\(n+1)*40<=140737488355328):=by show _/\_;unfold maxLen;omega
 have hR:Hid (World.ownsRow ((w.alloc (.cells #[.int .i64 xc,.int .i64 xf,.slice xa xn xq] 230)).alloc (.cells #[.int .i64 xc,.int .i64 xf,.slice xa xn xq] 230)).drew (b+1) 230 3 (.slice a n cap) n (aU L)):=by
  have h2:=h.2;unfold cJ at h2;rw[hn]at h2;exact a0o (a0o h2 _) _
 have hNw:Hid (∀(j:Nat) (u:Value),[Value.int .i64 xc,.int .i64 xf,.slice xa xn xq][j]?=some u->World.cell? ((w.alloc (.cells #[.int .i64 xc,.int .i64 xf,.slice xa xn xq] 230)).alloc (.cells #[.int .i64 xc,.int .i64 xf,.slice xa xn xq] 230)).drew ((⟨w.heap.size+1,0,none⟩:Addr).add j)=some u):=mz _ _ _ _ _ _ (by simp);have hSz:Hid (b+1<=((w.alloc (.cells #[.int .i64 xc,.int .i64 xf,.slice xa xn xq] 230)).alloc (.cells #[.int .i64 xc,.int .i64 xf,.slice xa xn xq] 230)).drew.heap.size):=by show b+1<=((w.alloc (.cells #[.int .i64 xc,.int .i64 xf,.slice xa xn xq] 230)).alloc (.cells #[.int .i64 xc,.int .i64 xf,.slice xa xn xq] 230)).drew.heap.size;simp;omega
 clear hS hn hm h hp hx;go_enter Tryz.func183,Tryz.ntmps183;go_wp2_with fail
 go_region_law (refine bE rfl (.tmp 8) (.tmp 10) 248 rfl (b+1) 230 i0 (.agg #[.int .i64 0,.int .i64 0,.slice none 0 0]) 3 40 Tryz.underlying248 hi hz0 hz1 hz2 rfl (by decide) _ _ _ rfl (ae hR) ⟨w.heap.size+1,0,none⟩ 1 1 [.int .i64 xc,.int .i64 xf,.slice xa xn xq] rfl rfl (ae hNw) (mA _ _ _ _ _) (ae hlen1).1 (ae hlen1).2 (ae hSz) ?_;intro v' w' hown hgrow hnil;clear hnil;have HL:=af (zB (x:=⟨xc,xf,xs,.slice xa xn xq⟩) (ae HN).1 (ae H0).1 ((a0c _ _).alloc (a0a _) _) ((bw.refl _ _).alloc _) hown hgrow);obtain⟨⟨g',c',hv'⟩,HB,HH⟩:=(ae HL);subst hv';clear hown hgrow HL;have c1:=Eo HB;have f1:=G0 HB;have HH':=af HH;clear HH HB)
 all_goals
  go_wp2_with fail;obtain⟨hh2,hb2,hk2⟩:=ae HH';have hsy2:=(hk2.syms (ae HS)).snoc (g:=⟨xc,xf,xs,.slice xa xn xq⟩) (hk2.ints (ae HX).1);have HZ:=af (iz b (b+1) (n+1) c' (some ⟨g',0,none⟩) _ _ hh2);have HR:=af (uW b g' (n+1) c' n _ _ hsy2 (by rw[a0m,(ae HN).1];rfl) (by have:=(ae HN).2;omega) hh2 (a0i _) (by have h1:=Ie (ae H0).2 ⟨xc,xf,xs,.slice xa xn xq⟩;rw[(ae HN).1]at h1;exact h1));clear hh2 hb2 hk2 hsy2;refine(ae HZ).mono ?_;rintro e y1 ⟨rfl,hy1⟩;rw[hy1];clear hy1 y1;go_wp2_with fail;refine(ae HR).mono ?_;rintro e x3 ⟨rfl,M,hM,hHP,hh3,hb3,hk3⟩;go_wp2
  go_end0
  obtain⟨hh2,hb2,hk2⟩:=ae HH';exact⟨rfl,M,g',c',hM,hHP,hh3,hb2.trans hb3,hk2.trans hk3.1⟩
theorem Ib(g n cap k:Nat)(hk:k<=cap)(hc:0<cap)(W:World):(Instr.slice 248 (.slice (some ⟨g,0,none⟩) n cap) none (some (.int .i64 (k:Int))) none).run Tryz.prog W = .ok (.slice (some ⟨g,0,none⟩) k cap) W:=by
 have h1:(k:Int)<=(cap:Int):=by omega
 have h2:¬ ((k:Int)<0):=by omega
 have hk':(cap == 0)=false:=by simp;omega
 go_simp
theorem GG{w:World}{base g cap n:Nat}{l:List Grp}(hn:l.length=n+1)(h:cJ 230 w base (.slice (some ⟨g,0,none⟩) (n+1) cap) l):cJ 230 w base (.slice (some ⟨g,0,none⟩) n cap) (l.take n):=by
 have e:aU l=aU (l.take n)++aU (l.drop n):=by rw[←jt,a2B]
 have hl:(l.take n).length=n:=by rw[a0L];omega
 unfold cJ at h ⊢;rw[hn,e]at h;rw[hl];exact ownsRow_pop (by rw[kE,hl]) h
theorem pn{w:World}{base size g k o n m cap:Nat}{e:TypeId}{xs:List Value}(h:w.ownsRow base e size (.slice (some ⟨g,0,none⟩) n cap) m xs)(hg:k≠g)(u:Value):(w.setCell ⟨k,o,none⟩ u).ownsRow base e size (.slice (some ⟨g,0,none⟩) n cap) m xs:=by
 refine⟨h.1,?_⟩;rcases h.2 with hn|⟨g1,cap,cur,e,hbg,hgg,rest⟩
 · exact .inl hn
 · refine .inr ⟨g1,cap,cur,e,hbg,?_,rest⟩;simp only[a0N,a0j,a0y,a0Q]at e;rw[a0O w ⟨k,o,none⟩ u g1 (by show g1≠k;omega)];exact hgg
theorem cQ.setOther{w:World}{b base g k o n cap:Nat}{L:List Grp}(h:cQ w b base (.slice (some ⟨g,0,none⟩) n cap) L)(hb:k≠b)(hg:k≠g)(u:Value):cQ (w.setCell ⟨k,o,none⟩ u) b base (.slice (some ⟨g,0,none⟩) n cap) L:=
 ⟨(a0O w ⟨k,o,none⟩ u b (fun e=>hb e.symm)).trans h.1,pn h.2 hg u⟩
theorem qb{w:World}{b:Nat}{x y z:Value}{t:TypeId}(h:w.heap[b]?=some (Obj.cells #[x,y,z] t)):Three w b x y z:=
 ⟨by simp[World.cell?,h],by simp[World.cell?,h],by simp[World.cell?,h],by simp[World.frozen?,h],by simp[World.frozen?,h],by simp[World.frozen?,h],(Array.getElem?_eq_some_iff.1 h).1⟩
theorem oU(w:World)(o:Obj):(w.alloc o).heap[w.heap.size]?=some o:=Array.getElem?_push_size
set_option maxRecDepth 100000 in
theorem yr(b g N cap:Nat)(L:List Grp)(w:World)(hS:dH w (b+1) L)(hn:L.length=N+1)(hm:N<300)(h:cQ w b (b+1) (.slice (some ⟨g,0,none⟩) (N+1) cap) L)(hp:HP L) :
  Calls Tryz.prog 182 #[.pointer (some ⟨b,0,none⟩)] w fun e w'=>e = .returned (.agg #[.int .i64 (L.getD 0 g0).cnt,.int .i64 (L.getD 0 g0).fst,(L.getD 0 g0).val])/\∃M:List Grp,(L.getD 0 g0 :: M).Perm L/\HP M/\cQ w' b (b+1) (.slice (some ⟨g,0,none⟩) N cap) M/\Below b w w'/\bw 3 w w':=by
 have hmI:(N:Int)<300:=by omega
 have hlt:=h.lt;have hcap:=h.2.cap hn;have HS:=af hS;have HN:=af (a0b hn hm);have H0:=af (a0b h hp);have hB1:Below w.heap.size w (w.alloc (.cells #[.int .i64 0,.int .i64 0,.slice none 0 0] 230)):=(a0c _ _).alloc (a0a _) _;have HZ:=af (iz b (b+1) (N+1) cap (some ⟨g,0,none⟩) L _ (h.later hB1));have HW:=af (lP b (b+1) (b+1) g (N+1) cap 0 N L _ ((bF.below (g:=g) hB1).syms hS) hn (by omega) (h.later hB1) (a0i _) (by omega) (by omega));have hB1':=af hB1;clear hS hn h hp hB1;go_enter Tryz.func182,Tryz.ntmps182;go_wp2_with fail;refine(ae HZ).mono ?_;rintro e y1 ⟨rfl,hy1⟩;rw[hy1];clear hy1 y1;go_wp2_with fail;refine(ae HW).mono ?_;rintro e x1 ⟨rfl,hh1,hb1,hk1⟩;have hg1:=(a0G (ae H0).1.2 g rfl).2;have hlen1:(cV L 0 N).length=N+1:=by rw[fR];exact(ae HN).1
 obtain⟨c0,c1,c2,_,hgx⟩:=hh1.2.at hlen1 N (a0i _);rw[mx (by rw[(ae HN).1];exact a0i _)]at c0 c1 c2;have hA:=ae HS (L.getD 0 g0) (ft L 0 (by rw[(ae HN).1];exact Nat.succ_pos _));obtain⟨aa,ac,hav⟩:=hA.form;rw[hav]at c2;have hbc:=hh1.cell;have hbf:=hh1.frz;have hb2:=hh1.lt;have hbg:b≠g:=by have:=(a0G (ae H0).1.2 g rfl).1;omega
 have hx1s:w.heap.size<x1.heap.size:=by have:=hk1.2.1;simp at this;omega
 have hcut:=Ib g (N+1) cap N (by omega) (by omega);have hcapI:(cap:Int)<=9223372036854775807:=by have:=hcap.2;unfold maxLen at this;omega
 have hcapI2:(N:Int)+1<=(cap:Int):=by have:=hcap.1;omega
 have hr0:x1.heap[w.heap.size]?=some (Obj.cells #[.int .i64 0,.int .i64 0,.slice none 0 0] 230):=by
  rw[hk1.2.2 w.heap.size (by simp) (by omega)];exact oU _ _
 have HX:=af (a0b hh1 (a0b hb1 (a0b hk1 (a0b hlen1 (a0b hav hr0)))));clear hh1 hb1 hk1 hlen1 hcap hgx hA hr0 hm HZ HW;generalize hAA:(L.getD 0 g0).cnt=Ac at *
 generalize hAF:(L.getD 0 g0).fst=Af at *
 generalize hAS:(L.getD 0 g0).syms.length=An at *
 have HAA:=af (a0b hAA (a0b hAF hAS));clear hAA hAF hAS hav;go_wp2_with fail;have HY:Hid (cQ ((x1.setCell ⟨b,0,none⟩ (.slice (some ⟨g,0,none⟩) N cap)).alloc (.cells #[.int .i64 Ac,.int .i64 Af,.slice aa An ac] 230)) b (b+1) (.slice (some ⟨g,0,none⟩) N cap) ((cV L 0 N).take N) /\
   Below b w ((x1.setCell ⟨b,0,none⟩ (.slice (some ⟨g,0,none⟩) N cap)).alloc (.cells #[.int .i64 Ac,.int .i64 Af,.slice aa An ac] 230)) /\
   bw 3 w ((x1.setCell ⟨b,0,none⟩ (.slice (some ⟨g,0,none⟩) N cap)).alloc (.cells #[.int .i64 Ac,.int .i64 Af,.slice aa An ac] 230)) /\
   ((x1.setCell ⟨b,0,none⟩ (.slice (some ⟨g,0,none⟩) N cap)).alloc (.cells #[.int .i64 Ac,.int .i64 Af,.slice aa An ac] 230)).heap[w.heap.size]?=some (Obj.cells #[.int .i64 0,.int .i64 0,.slice none 0 0] 230) /\
   ((x1.setCell ⟨b,0,none⟩ (.slice (some ⟨g,0,none⟩) N cap)).alloc (.cells #[.int .i64 Ac,.int .i64 Af,.slice aa An ac] 230)).heap[x1.heap.size]?=some (Obj.cells #[.int .i64 Ac,.int .i64 Af,.slice aa An ac] 230)):=by
  obtain⟨hh1,hb1,hk1,hlen1,hav,hr0⟩:=ae HX;have hsz:(x1.setCell ⟨b,0,none⟩ (.slice (some ⟨g,0,none⟩) N cap)).heap.size=x1.heap.size:=by simp
  refine⟨⟨?_,?_⟩,?_,?_,?_,?_⟩
  · rw[a1h _ _ b (by rw[hsz];exact hb2)];exact AJ hh1.1 _
  · exact a0o (a2f (GG hlen1 hh1.2) (a0i _) _) _
  · exact(ag (((ae hB1').mono (a0x hlt)).trans hb1) (a0a _) _).alloc (by rw[hsz];omega) _
  · exact(((bw.below (ae hB1')).trans hk1.1).set hh1.1 (by decide) _).alloc _
  · rw[a1h _ _ w.heap.size (by rw[hsz];exact hx1s),a0O _ _ _ _ (by show w.heap.size≠b;omega)];exact hr0
  · rw[←hsz];exact oU _ _
 generalize (x1.setCell ⟨b,0,none⟩ (.slice (some ⟨g,0,none⟩) N cap)).alloc (.cells #[.int .i64 Ac,.int .i64 Af,.slice aa An ac] 230)=Y at *
 have HK:Hid (Calls Tryz.prog 205 #[.iface 227 (.pointer (some ⟨b,0,none⟩)),.int .i64 ((0:Nat):Int)] Y fun e w'=>e = .returned (.tuple #[])/\∃M:List Grp,M.Perm ((cV L 0 N).take N)/\HP M/\cQ w' b (b+1) (.slice (some ⟨g,0,none⟩) N cap) M/\Below b Y w'/\bF g Y w'):=by
  obtain⟨hY1,hY2,hY3,hY4,hY5⟩:=ae HY;obtain⟨hn,hm⟩:=ae HN;have hsy:dH Y (b+1) ((cV L 0 N).take N):=fun x hx=>hY3.syms (ae HS) x ((gx (by omega) (by omega)).mem_iff.1 (a12 hx));exact uX b g N cap 0 _ Y hsy (by rw[a0L,fR];omega) (by omega) hY1 (a0l _) (by have h1:=Jl (ae H0).2;rw[hn]at h1;exact h1)
 refine(ae HK).mono ?_;rintro e x5 ⟨rfl,M,hM,hHP,hh5,hb5,hk5⟩;have HF:Hid (cQ x5 b (b+1) (.slice (some ⟨g,0,none⟩) N cap) M/\Below b w x5/\bw 3 w x5/\x5.heap[w.heap.size]?=some (Obj.cells #[.int .i64 0,.int .i64 0,.slice none 0 0] 230)/\M.Perm ((cV L 0 N).take N)/\HP M):=by
  obtain⟨hY1,hY2,hY3,hY4,hY5⟩:=ae HY;exact⟨hh5,hY2.trans hb5,hY3.trans hk5.1,(hk5.2.2 _ (dr hY4) (by omega)).trans hY4,hM,hHP⟩
 have hT1:Three x5 w.heap.size _ _ _:=qb (ae HF).2.2.2.1;have hT2:Three x5 x1.heap.size (.int .i64 Ac) (.int .i64 Af) (.slice aa An ac):=by
  obtain⟨hY1,hY2,hY3,hY4,hY5⟩:=ae HY;exact qb ((hk5.2.2 _ (dr hY5) (by omega)).trans hY5)
 clear hM hHP hh5 hb5 hk5 HK;obtain⟨p0,p1,p2,q0,q1,q2,hps⟩:=hT1;obtain⟨r0,r1,r2,s0,s1,s2,hrs⟩:=hT2;go_wp2_with fail;obtain⟨hh1,hb1,hk1,hlen1,hav,hr0⟩:=ae HX;obtain⟨fh,fb,fk,fr,fM,fP⟩:=ae HF;obtain⟨eA,eF,eS⟩:=ae HAA;have hTt:=(((Three.set0 ⟨p0,p1,p2,q0,q1,q2,hps⟩ (.int .i64 Ac)).set1 (.int .i64 Af)).set2 (.slice aa An ac));have hTo:=((((Touch.refl (some ⟨w.heap.size,0,none⟩) x5).set (o:=0) rfl (.int .i64 Ac)).set (o:=1) rfl (.int .i64 Af)).set (o:=2) rfl (.slice aa An ac));have hbel:=ag (ag (ag fb (b:=w.heap.size) (o:=0) (a0x hlt) (.int .i64 Ac)) (b:=w.heap.size) (o:=1) (a0x hlt) (.int .i64 Af)) (b:=w.heap.size) (o:=2) (a0x hlt) (.slice aa An ac);have hke:=fk.trans (bw.touch fr (by decide) hTo);have hhe:=((fh.setOther (k:=w.heap.size) (o:=0) (by omega) (by omega) (.int .i64 Ac)).setOther (k:=w.heap.size) (o:=1) (by omega) (by omega) (.int .i64 Af)).setOther (k:=w.heap.size) (o:=2) (by omega) (by omega) (.slice aa An ac);generalize ((x5.setCell ⟨w.heap.size,0,none⟩ (.int .i64 Ac)).setCell ⟨w.heap.size,1,none⟩ (.int .i64 Af)).setCell ⟨w.heap.size,2,none⟩ (.slice aa An ac)=Z at *
 obtain⟨t0,t1,t2,_,_,_,_⟩:=hTt;refine a0u (v:=.agg #[.int .i64 Ac,.int .i64 Af,.slice aa An ac]) (by simp[results,Tryz.results182,go_sem,t0,t1,t2]) rfl ⟨?_,M,?_,fP,hhe,hbel,hke⟩
 · rw[eA,eF,hav]
 · have hn:=(ae HN).1;have h1:=Ep (L:=L) (by omega);rw[hn]at h1;exact(fM.cons _).trans h1
theorem np(l:List Int)(k:Nat):(aB l k).length<=k:=by
 induction k with
 | zero=>simp[aB]
 | succ k ih=>
  simp only[aB]
  split
  · simp;omega
  · omega
set_option maxRecDepth 100000 in
theorem tc(a:Option Addr)(cap n:Nat)(l:List Int)(w:World)(hn:l.length=n)(h:be w a l)(hm:n<=300) :
  Calls Tryz.prog 180 #[.slice a n cap] w fun e w'=>e = .returned (.pointer (some ⟨w.heap.size,0,none⟩))/\∃(L:List Grp) (va:Option Addr) (vc:Nat),cQ w' w.heap.size (w.heap.size+1) (.slice va L.length vc) L/\HP L/\(L.map bare).Perm (aB l n)/\dH w' (w.heap.size+1) L/\Below w.heap.size w w':=by
 have hmI:(n:Int)<=300:=by omega
 have HN:=af (a0b hn hm);have hB0:Below w.heap.size w (w.alloc (.cells #[.slice none 0 0] 250)):=(a0c _ _).alloc (a0a _) _;have hH0:cQ (w.alloc (.cells #[.slice none 0 0] 250)) w.heap.size (w.heap.size+1) (.slice none 0 0) []:=⟨oU _ _,a00 _ _ _ _⟩;clear hn hm;go_enter Tryz.func180,Tryz.ntmps180;go_wp2_with fail
 go_loopw [4,5,10] (fun _ _ i wr=>∃(k:Nat) (L:List Grp) (va:Option Addr) (vc:Nat),k<=n/\i = .int .i64 k/\cQ wr w.heap.size (w.heap.size+1) (.slice va L.length vc) L/\HP L/\(L.map bare).Perm (aB l k)/\dH wr (w.heap.size+1) L/\Below w.heap.size w wr) (fun _ _ i _=>n-(intOf i).toNat)
 case atStart=>exact⟨0,[],none,0,a0l _,rfl,hH0,fun i _ hi=>by simp at hi,a2g _,yo _ _,hB0⟩
 case round=>
  obtain⟨k,L,va,vc,hk,rfl,hh,hp,hL,hs,hbel⟩:=hrel;clear hB0 hH0;by_cases hlt:k<n
  ·
   obtain⟨g,o,rfl,hg,hcc⟩:=(h.later hbel) (by rw[(ae HN).1];omega);have c0:=hcc k (by rw[(ae HN).1];exact hlt);have hlen:L.length<300:=by
    have h1:=hL.length_eq;rw[a0P]at h1;have h2:=np l k;have:=(ae HN).2;omega
   have HQ:=af (a0b hk (a0b hh (a0b hp (a0b hL (a0b hs hbel)))));clear hcc;by_cases hy:0<l.getD k 0
   ·
    have hst:=af (sA hy);generalize l.getD k 0=y at *
    have hB1:Below wr.heap.size wr (wr.alloc (.cells #[.int .i64 (k:Int)] 3)):=(a0c _ _).alloc (a0a _) _;have hA:ak (wr.alloc (.cells #[.int .i64 (k:Int)] 3)) (w.heap.size+1) (.slice (some ⟨wr.heap.size,0,none⟩) 1 1) [(k:Int)]:=ak.one wr _ hh.lt _;have HLa:=af (w8 w.heap.size L.length vc va L ⟨y,(k:Int),[(k:Int)],.slice (some ⟨wr.heap.size,0,none⟩) 1 1⟩ _ ((bw.below hB1).syms hs) hA rfl hlen (hh.later hB1) hp);have HB1:=af hB1;have HA:=af hA;clear hk hh hp hL hs hbel hA hB1 hlen;go_wp2_with fail;refine(ae HLa).mono ?_;rintro e x1 ⟨rfl,M,g',c',hM,hHP,hh1,hb1,hk1⟩;go_wp2;go_roundw
    case rel=>
     obtain⟨hk,hh,hp,hL,hs,hbel⟩:=ae HQ;have hlM:M.length=L.length+1:=by rw[hM.length_eq];simp
     refine⟨k+1,M,some ⟨g',0,none⟩,c',by omega,by go_num,by rw[hlM];exact hh1,hHP,?_,?_,(hbel.trans ((ae HB1).mono (a0x hh.lt))).trans hb1⟩
     · rw[ae hst];refine(hM.map bare).trans ?_;rw[a0K];exact hL.append_right _
     · exact((hk1.syms ((bw.below (ae HB1)).syms hs)).snoc (hk1.ints (ae HA))).perm hM
    case measure=>simp[intOf];omega
   ·
    have hst:=af (Bw hy);generalize l.getD k 0=y at *
    clear hk hh hp hL hs hbel hlen;go_wp2;go_roundw
    case rel=>
     obtain⟨hk,hh,hp,hL,hs,hbel⟩:=ae HQ;exact⟨k+1,L,va,vc,by omega,by go_num,hh,hp,by rw[ae hst];exact hL,hs,hbel⟩
    case measure=>simp[intOf];omega
  ·
   obtain rfl:k=n:=by omega
   clear h;go_wp2;go_ret;exact⟨rfl,L,va,vc,hh,hp,hL,hs,hbel⟩
end Go.Proofs.YtbacpebljannfaaGreatDoor
namespace Go.Proofs.YtbacpebljannfaaGreatDoor
open Go.RowKit
theorem ER{l:List Int}{j:Nat}{L M1 M2:List Grp}(hc:∀i,i<l.length->0<=l.getD i 0/\l.getD i 0<=100000)(hn:l.length<=300)(hj:j<(aB l l.length).length∨j=0)(hL:(L.map bare).Perm (ax l j).1)(hp:HP L)(h2:1<L.length)(h1:(L.getD 0 g0 :: M1).Perm L)(hp1:HP M1)(h12:(M1.getD 0 g0 :: M2).Perm M1) :
  bg (ax l j).1=(L.getD 0 g0).syms++(M1.getD 0 g0).syms /\
  (∀(M3:List Grp) (v:Value),M3.Perm (M2++[⟨(L.getD 0 g0).cnt+(M1.getD 0 g0).cnt,if (M1.getD 0 g0).fst<(L.getD 0 g0).fst then(M1.getD 0 g0).fst else(L.getD 0 g0).fst,(L.getD 0 g0).syms++(M1.getD 0 g0).syms,v⟩])->(M3.map bare).Perm (ax l (j+1)).1) /\
  0<=(L.getD 0 g0).cnt/\0<=(M1.getD 0 g0).cnt/\(L.getD 0 g0).cnt+(M1.getD 0 g0).cnt<=30000000 /\
  ((L.getD 0 g0).syms++(M1.getD 0 g0).syms).length<=300/\0<(L.getD 0 g0).syms.length/\0<(M1.getD 0 g0).syms.length/\(∀x∈(L.getD 0 g0).syms++(M1.getD 0 g0).syms,0<=x/\x<(l.length:Int)):=by
 have hM1l:M1.length+1=L.length:=by have:=h1.length_eq;simpa using this
 obtain⟨hwf,hC,hS,hlen⟩:=cf l j hj;have hMl:(ax l j).1.length=L.length:=by rw[←hL.length_eq,a0P]
 have hnd:=(gn l j hj).1;have hfi:=EU l j hj;have htop:∀g∈L,aZ g (L.getD 0 g0)=false:=by
  intro g hg;obtain⟨i,hi,rfl⟩:=a15 hg;have:=ET hp i hi;have e:L.getD i g0=L[i]:=by simp[List.getD,hi]
  rw[e]at this;exact this
 have htop1:∀g∈M1,aZ g (M1.getD 0 g0)=false:=by
  intro g hg;obtain⟨i,hi,rfl⟩:=a15 hg;have:=ET hp1 i hi;have e:M1.getD i g0=M1[i]:=by simp[List.getD,hi]
  rw[e]at this;exact this
 obtain⟨e1,p1⟩:=ux hL h1.symm htop (by omega) hnd hfi;have hfr:pI (al (ax l j).1):=fun g hg=>hfi g (bf _ g hg);obtain⟨e2,p2⟩:=ux p1 h12.symm htop1 (by omega) (Cn (by omega) hnd) hfr;have htwo:=vF hwf (by omega:1<(ax l j).1.length);have ha:=hwf _ (bC (ax l j).1 (by omega));have hrl:=dm (ax l j).1 (by omega);have hb:=hwf _ (bf _ _ (bC (al (ax l j).1) (by omega)));have hst:=jT l 100000 (by omega) (fun i hi=>(hc i hi).2) l.length (a0a _);have hsy:bg (ax l j).1=(L.getD 0 g0).syms++(M1.getD 0 g0).syms:=by
  unfold bg;rw[←e1,←e2];rfl
 rw[←e1]at ha htwo;rw[←e2]at hb htwo;have hle:(100000:Int)*(l.length:Int)<=100000*300:=Int.mul_le_mul_of_nonneg_left (by omega) (by omega);refine⟨hsy,?_,ha.1,hb.1,?_,?_,ha.2.2.2.2,hb.2.2.2.2,?_⟩
 · intro M3 v hM3;have h3:=hM3.map bare;rw[a0K]at h3;refine h3.trans ?_;show List.Perm _ (stepG (ax l j).1);unfold stepG;rw[←e1,←e2];exact p2.append_right _
 · have h0:=htwo.1;have:(bare (L.getD 0 g0)).cnt=(L.getD 0 g0).cnt:=rfl;have:(bare (M1.getD 0 g0)).cnt=(M1.getD 0 g0).cnt:=rfl;omega
 · have h0:=htwo.2;rw[hsy]at h0;omega
 ·
  intro x hx;simp only[a0X]at hx;rcases hx with hx|hx
  · exact ha.2.2.2.1 x hx
  · exact hb.2.2.2.1 x hx
end Go.Proofs.YtbacpebljannfaaGreatDoor
namespace Go.Proofs.YtbacpebljannfaaGreatDoor
open Go.RowKit Corb
def ir(l:List Int):Int:=if decide (l.length<=300)&&inC l then(us l:Nat)else -1
theorem DZ{l:List Int}(h:300<l.length):ir l = -1:=by
 unfold ir;rw[a0s (by omega)];rfl
theorem D2{l:List Int}(h:inC l=false):ir l = -1:=by
 unfold ir;rw[h];simp
theorem mC{l:List Int}(h:l.length<=300)(h2:inC l=true):ir l=(us l:Nat):=by
 unfold ir;rw[a0t h,h2];rfl
set_option maxRecDepth 100000 in
theorem ln(a:Option Addr)(cap n:Nat)(l:List Int)(w:World)(hn:l.length=n)(h:be w a l)(hm:n<=1048576) :
  Calls Tryz.prog 141 #[.slice a n cap] w fun e w'=>e = .returned (.int .i64 (ir l))/\w'=w:=by
 subst hn;have hmI:(l.length:Int)<=1048576:=by omega
 clear hm;by_cases h3:(l.length:Int)<=300
 ·
  go_enter Tryz.func141,Tryz.ntmps141;go_wp2_with fail
  go_loop [3,5,11] (fun n _ i=>∃k:Nat,k<=l.length/\i = .int .i64 k/\n = .int .i64 (us (l.take k):Nat)/\inC (l.take k)=true) (fun _ _ i=>l.length-(intOf i).toNat)
  case atStart=>exact⟨0,a0l _,rfl,rfl,rfl⟩
  case round=>
   obtain⟨k,hk,rfl,rfl,hin⟩:=hrel;have HK:=af hk;have HI:=af hin;clear hin;by_cases hlt:k<l.length
   ·
    obtain⟨g,o,rfl,hg,hc⟩:=h (by omega);have c0:=hc k hlt;have hst:=af (oF l k hlt);have hit:=af (EV l k hlt);have hig:=af (fun hb=>Ij (l:=l) (k:=k) hlt hb);have hub:=qh (l.take k);have hub':(us (l.take k):Int)<=300:=by
     have:(l.take k).length<=l.length:=by simp;omega
     omega
    clear hc hk h hub;generalize l.getD k 0=y at *
    generalize us (l.take k)=u at *
    by_cases hb:0<=y/\y<=100000
    ·
     obtain⟨hb0,hb1⟩:=hb;have hin2:Hid (inC (l.take (k+1))=true):=by
      show _=true;rw[ae hit,ae HI,aG.2 ⟨hb0,hb1⟩];rfl
     by_cases hy:0<y
     ·
      have hst':Hid (us (l.take (k+1))=u+1):=by have:=ae hst;rw[a0d hy]at this;exact this
      go_wp2
      go_round
      case rel=>exact⟨k+1,by omega,by go_num,by rw[ae hst'];go_num,ae hin2⟩
      case measure=>simp[intOf];omega
     ·
      have hst':Hid (us (l.take (k+1))=u):=by have:=ae hst;rw[a0e hy]at this;exact this
      go_wp2
      go_round
      case rel=>exact⟨k+1,by omega,by go_num,by rw[ae hst'],ae hin2⟩
      case measure=>simp[intOf];omega
    ·
     have hno:Hid (ir l = -1):=D2 (ae hig (by
      cases hx:inB y 0 100000
      · rfl
      · exact absurd (aG.1 hx) hb))
     by_cases hy:y<0
     · go_wp2;go_ret;exact⟨aH (ae hno).symm,rfl⟩
     ·
      have hy2:¬ y<=100000:=by omega
      go_wp2;go_ret;exact⟨aH (ae hno).symm,rfl⟩
   ·
    have hlk:Hid (l.take k=l):=a0F (by omega);have hin2:Hid (inC l=true):=by show inC l=true;rw[←ae hlk];exact ae HI
    clear h;go_wp2;go_ret;exact⟨aH (by rw[mC (by omega) (ae hin2),ae hlk]),rfl⟩
 · have hno:=af (DZ (l:=l) (by omega));go_enter Tryz.func141,Tryz.ntmps141;clear h;go_wp2;go_ret;exact⟨aH (ae hno).symm,rfl⟩
def gu(x:Int):Int:=if x<=1 then x else 1
theorem xl(x:Int)(w:World)(h0 : -1000000<=x)(h1:x<=1000000) :
  Calls Tryz.prog 143 #[.int .i64 x] w fun e w'=>e = .returned (.int .i64 (gu x))/\w'=w:=by
 by_cases h:x<=1
 ·
  have e:Hid (gu x=x):=by show gu x=x;simp[gu,h]
  go_enter Tryz.func143,Tryz.ntmps143;go_wp2;go_ret;exact⟨aH (ae e).symm,rfl⟩
 ·
  have e:Hid (gu x=1):=by show gu x=1;simp[gu,h]
  go_enter Tryz.func143,Tryz.ntmps143;go_wp2;go_ret;exact⟨aH (ae e).symm,rfl⟩
set_option maxRecDepth 100000 in
theorem wn(a:Option Addr)(cap n:Nat)(l:List Int)(w:World)(hn:l.length=n)(h:be w a l)(hm:n<=1048576)(hc:okC l) :
  Calls Tryz.prog 142 #[.slice a n cap,.func (.func 143) #[] #[]] w fun e w'=>∃v,e = .returned v/\ak w' w.heap.size v (l.map gu)/\Below w.heap.size w w':=by
 have hmI:(n:Int)<=1048576:=by omega
 have Hn:=af hn;have Hm:=af hm;have HC:=af hc;clear hn hm hc;obtain⟨i0,hi,hz0,hz1,hz2⟩:=a0w Tryz.infoInt;go_enter Tryz.func142,Tryz.ntmps142;go_wp2_with fail
 go_loopw [5,7,10] (fun o _ i wr=>∃k:Nat,k<=n/\i = .int .i64 k/\ak wr w.heap.size o ((l.take k).map gu)/\Below w.heap.size w wr) (fun _ _ i _=>n-(intOf i).toNat)
 case atStart=>exact⟨0,a0l _,rfl,a00 _ _ _ _,a0c _ _⟩
 case round=>
  obtain⟨k,hk,rfl,hq,hbel⟩:=hrel;have hbs:=hbel.size;by_cases hlt:k<n
  ·
   obtain⟨g,o,rfl,hg,hcc⟩:=(h.later hbel) (by rw[ae Hn];omega);have c0:=hcc k (by rw[ae Hn];exact hlt);obtain⟨y0,y1⟩:=ae HC k (by rw[ae Hn];exact hlt);have hst:Hid ((l.take (k+1)).map gu=(l.take k).map gu++[gu (l.getD k 0)]):=by
    show _=_;rw[cn l k (by rw[ae Hn];exact hlt),a0K];rfl
   have hlk:Hid (((l.take k).map gu).length=k):=by show _=k;have:=ae Hn;simp;omega
   have Hk:=af hk;clear hcc hk h;generalize l.getD k 0=y at *
   have HP:=af (xl y wr (by omega) (by omega));generalize gu y=R at *
   go_wp2_with fail;refine(ae HP).mono ?_;rintro e x1 ⟨rfl,hx1⟩;rw[hx1];clear hx1 x1;have hlen1:Hid (((l.take k).map gu).length+1<=maxLen/\(((l.take k).map gu).length+1)*8<=140737488355328):=by
    show _/\_;rw[ae hlk];have:=ae Hm;unfold maxLen;omega
   clear HP;go_wp2_with (at_builtin;refine a0B _ rfl _ _ 84 rfl w.heap.size 3 i0 (.int .i64 0) 1 8 a0h hi hz0 hz1 hz2 rfl (by decide) _ _ _ rfl (a0o hq _) ⟨wr.heap.size,0,none⟩ 1 1 [.int .i64 R] rfl rfl (cX _ _ rfl _ _) (fC _) (ae hlen1).1 (ae hlen1).2 (az hbs _) ?_;intro v' x2 hown hgrow hnil;clear hnil);have hb2:=aF (v:=u5) hgrow hq (a0a _) hbs hbel;have hq2:=mg hown;rw[←ae hst]at hq2;clear hown hgrow hq;go_wp2;go_roundw
   case rel=>exact⟨k+1,by have:=ae Hk;omega,by go_num,hq2,hb2⟩
   case measure=>simp[intOf];omega
  · have hlk2:l.take k=l:=a0F (by rw[ae Hn];omega);rw[hlk2]at hq;obtain⟨va,vc,rfl⟩:=hq.form;clear hlk2 h;go_wp2;go_ret;exact⟨_,rfl,hq,hbel⟩
end Go.Proofs.YtbacpebljannfaaGreatDoor
