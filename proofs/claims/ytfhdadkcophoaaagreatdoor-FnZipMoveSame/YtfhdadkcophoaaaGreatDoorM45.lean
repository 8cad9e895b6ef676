/- Of what the proof is made: 2 texts, one behind the other. -/
import Derived.Test.YtfhdadkcophoaaaGreatDoorM42
import Derived.Test.YtfhdadkcophoaaaGreatDoorM41
import Derived.Test.YtfhdadkcophoaaaGreatDoorM29
import Derived.Test.YtfhdadkcophoaaaGreatDoorM44
set_option linter.unusedSimpArgs false
set_option linter.unusedVariables false
set_option maxHeartbeats 3200000
namespace Go.Proofs.YtfhdadkcophoaaaGreatDoor
open Go.RowKit Corb
set_option maxRecDepth 100000
theorem iy{α:Type}{T:TypeId}{c:Nat}{f:α->List Value}{w w':World}{base b:Nat}{v:Value}{l:List α}(h:aQ T c f w base v l)(hk:Kn b w w')(hb:b<base):aQ T c f w' base v l:=by
 refine⟨h.1,?_⟩;rcases h.2 with hn|⟨g,cap,cur,rfl,hbg,hgg,rest⟩
 · exact .inl hn
 · have hlt:=(Array.getElem?_eq_some_iff.1 hgg).1;refine .inr ⟨g,cap,cur,rfl,hbg,?_,rest⟩;rw[hk.2.1 g hlt (by omega)];exact hgg
theorem te{b:Nat}{w w':World}(h:Below w.heap.size w w')(hb:b<w.heap.size):Kn b w w':=⟨h.mono (a0u hb),fun k hk _=>h.block k hk,h.size⟩
theorem rV{l:List En}(h:aY l=true)(i:Nat)(hi:i<l.length):(l.getD i default).n.size<=43/\(l.getD i default).t.size<=300:=by
 have:=ck (n:=(l.getD i default).n) (t:=(l.getD i default).t) ((da h).1 i hi);exact⟨this.1,this.2.1⟩
def fN(j:Nat):ByteArray:=(⟨#[102]⟩:ByteArray)++⟨(Lib.decDigits j).toArray⟩
def fM(j:Nat):ByteArray:=⟨#[102,UInt8.ofNat (48+j)]⟩
theorem Mm{j:Nat}(h:j<6):fN j=fM j:=by
 unfold fN fM;rw[Lib.decDigits,dif_pos (by omega)];rfl
theorem Lx:∀j,j<6->gB (fM j).data.toList=true/\(∀v∈cU,bf v.data.toList (fM j).data.toList=false)/\∀i,i<j->bf (fM i).data.toList (fM j).data.toList=false:=by decide +kernel
def EL(l:List En):Prop:=aY l=true/\∀e∈l,e.n∈cU
def BO(l:List En):Prop:=aY l=true/\∀e∈l,e.n∈cU∨∃j,j<l.length/\e.n=fM j
theorem LL:EL []:=⟨rfl,fun e he=>by cases he⟩
theorem Kd{l:List En}{e:En}(h:EL l)(hr:aH l e=0)(he:e.n∈cU):EL (l++[e]):=
 ⟨(eK h.1 e).2 hr,fun f hf=>by
  rcases a0S.1 hf with hf|hf
  · exact h.2 f hf
  · rw[a0T.1 hf];exact he⟩
theorem K8{l:List En}(h:EL l):BO l:=⟨h.1,fun e he=>.inl (h.2 e he)⟩
theorem JN{l:List En}{n:Nat}(hn:l.length=n)(h:BO l)(h6:n<6){y mo d hh mi s:Int}(hs:bL y mo d hh mi s=true):BO (l++[⟨fN n,y,mo,d,hh,mi,s,⟨#[]⟩⟩]):=by
 subst hn;obtain⟨f1,f2,f3⟩:=Lx l.length h6;rw[Mm h6];refine⟨(eK h.1 _).2 ?_,fun e he=>?_⟩
 ·
  have hE:fe ⟨fM l.length,y,mo,d,hh,mi,s,⟨#[]⟩⟩=true:=by
   show(gB (fM l.length).data.toList&&(bL y mo d hh mi s&&decide ((⟨#[]⟩:ByteArray).size<=300)))=true;rw[f1,hs];rfl
  have hA:gk l (fM l.length)=false:=(ET _ _).2 fun e he=>by
   rcases h.2 e he with h1|⟨j,hj,h1⟩
   · exact f2 _ h1
   · rw[h1];exact f3 j hj
  unfold aH;rw[a0d hE];show(if gk l (fM l.length)=true then(3:Int)else _)=0;rw[hA,a0e (by decide),a0e (by omega)]
 ·
  rw[a0i];rcases a0S.1 he with he|he
  ·
   rcases h.2 e he with h1|⟨j,hj,h1⟩
   · exact .inl h1
   · exact .inr ⟨j,by omega,h1⟩
  · rw[a0T.1 he];exact .inr ⟨l.length,by simp,rfl⟩
theorem wL(B b m:Nat)(w:World)(h:Rd w B b m)(hm:m<=60000) :
  Calls Tryz.prog 66 #[.pointer (some ⟨b,0,none⟩)] w fun e w'=>(∃v l,e = .returned v/\dC w' w.heap.size v l/\BO l)/\Rd w' B b (m+300)/\Kn b w w':=by
 obtain⟨i0,hi,hz0,hz1,hz2⟩:=a0r Tryz.infoEnt;have hlt:=h.lt;have R0:Hid (Rd (w.alloc (.cells #[] 26)) B b m):=h.alloc _;have O0:Hid (dC (w.alloc (.cells #[] 26)) w.heap.size (.slice (some ⟨w.heap.size,0,none⟩) 0 0) []):=a1a w #[] 0 (a0a _) (by unfold maxLen;omega) rfl;have K0:Hid (Kn b w (w.alloc (.cells #[] 26))):=dZ w _ hlt;have HBd:Hid (∀x,x<=40->x<=maxLen/\x*80<=140737488355328):=fun x hx=>by unfold maxLen;omega
 clear h;go_enter Tryz.func66,Tryz.ntmps66;go_wp2_with fail;refine(br B b m _ _ (ae R0) (by omega) (by omega) (by omega)).mono ?_;rintro e w1 ⟨r,rfl,r0,r1,hrd1,hon1⟩;obtain⟨n0,rfl⟩:=a0s r0;have O1:=af (iy (ae O0) hon1.kn hlt);have K1:=af ((ae K0).trans hon1.kn);have R1:=af hrd1;have hn4:n0<=4:=by omega
 clear R0 O0 K0 hrd1 hon1 r0 r1;go_wp2_with fail
 go_loopw [3,4] (fun v i wr=>∃(l:List En) (k:Nat),i = .int .i64 k/\k<=4/\l.length+k<=4/\dC wr w.heap.size v l/\EL l/\Rd wr B b (m+1+(4-k)*60)/\Kn b w wr) (fun _ i _=>(intOf i).toNat)
 case atStart=>exact⟨[],n0,rfl,hn4,by simpa using hn4,ae O1,LL,(ae R1).mono (by omega),ae K1⟩
 case round=>
  obtain⟨l,k,rfl,hk,hlk,ho,hT,hrd,hkn⟩:=hrel;clear O1 K1 R1;obtain⟨n,hn⟩:∃n,l.length=n:=⟨_,rfl⟩;obtain⟨g,cap,rfl,hcap,_⟩:=aQ.formN hn ho;have hkI:(k:Int)<=4:=by omega
  have HX:=af (a0c ho (a0c hT (a0c hrd (a0c hkn (a0c hn hlk)))));have hltr:=hrd.lt;clear ho hT hrd hkn hn hlk;by_cases hp:0<k
  ·
   have hpI:(0:Int)<(k:Int):=by omega
   go_wp2_with fail;refine(lQ B b _ _ (ae HX).2.2.1 (by omega)).mono ?_;rintro e w2 ⟨nm,y,mo,d,h,mi,s,t,rfl,⟨hnm,ht⟩,hrd2,hkn2⟩;have HX2:=af (a0c (iy (ae HX).1 hkn2 hlt) (a0c hrd2 ((ae HX).2.2.2.1.trans hkn2)));have hlt2:=hrd2.lt;have HNM:=af hnm;have HC:=af (Di _ l ⟨nm,y,mo,d,h,mi,s,t⟩ _ w2 (ae HX2).1 (by have:=ae HX;omega) (fun i hi=>by have:=rV (ae HX).2.1.1 i hi;omega) (by have:=uS (a0S.2 (.inr hnm));show nm.size<=_;omega) (by show(t.size:Int)<=_;omega));clear hrd2 hkn2 hnm ht;generalize hE:(⟨nm,y,mo,d,h,mi,s,t⟩:En)=en at HC;go_wp2_with fail;have hE':Value.agg #[.string nm,.int .i64 y,.int .i64 mo,.int .i64 d,.int .i64 h,.int .i64 mi,.int .i64 s,.string t] = .agg #[.string en.n,.int .i64 en.y,.int .i64 en.mo,.int .i64 en.d,.int .i64 en.h,.int .i64 en.mi,.int .i64 en.s,.string en.t]:=by rw[←hE]
   rw[hE'];have HN2:Hid (en.n∈cU):=by show _∈_;rw[←hE];exact ae HNM
   clear hE hE' HNM;refine(ae HC).mono ?_;rintro f w3 ⟨⟨v3,rfl,hv3,hv3n⟩,hb3⟩;have k3:=te hb3 hlt2;have HR3:=af (a0c ((ae HX2).2.1.kept (hb3.mono hlt2)) ((ae HX2).2.2.trans k3));by_cases hr:aH l en=0
   ·
    have HO3:=af (aQ.mono (hv3 hr) (ae HX2).2.2.2.2);have HL3:=af (Kd (ae HX).2.1 hr (ae HN2));have HLn:Hid ((l++[en]).length+(k-1)<=4):=by show _<=_;have:=ae HX;simp;omega
    clear hv3 hv3n hb3 k3 HC HX2 HN2 hr;go_wp2_with fail;go_roundw
    case rel=>exact⟨l++[en],k-1,by go_num,by omega,ae HLn,ae HO3,ae HL3,(ae HR3).1.mono (by omega),(ae HR3).2⟩
    case measure=>simp[intOf];omega
   ·
    have HO3:=af (iy (ae HX2).1 k3 hlt);have hv:=hv3n hr;clear hv3 hv3n hb3 k3 HC HX2 HN2 hr;rw[hv];clear hv;go_wp2_with fail;go_roundw
    case rel=>exact⟨l,k-1,by go_num,by omega,by have:=ae HX;omega,ae HO3,(ae HX).2.1,(ae HR3).1.mono (by omega),(ae HR3).2⟩
    case measure=>simp[intOf];omega
  ·
   have hpI:¬ (0:Int)<(k:Int):=by omega
   go_wp2_with fail;refine(br B b _ 24 _ (ae HX).2.2.1 (by omega) (by omega) (by omega)).mono ?_;rintro e w4 ⟨r,rfl,r0,r1,hrd4,hon4⟩;have HX4:=af (a0c (iy (ae HX).1 hon4.kn hlt) (a0c hrd4 ((ae HX).2.2.2.1.trans hon4.kn)));have hnI:(n:Int)<=4:=by have:=ae HX;omega
   have HLs:=af (a0c (ae HX).2.1 (ae HX).2.2.2.2.1);clear hrd4 hon4 HX;by_cases hr:r=0
   ·
    subst hr;go_wp2_with fail
    go_loopw [3,5] (fun v i wr=>∃(l:List En) (n:Nat),l.length=n/\i = .int .i64 n/\n<=6/\dC wr w.heap.size v l/\BO l/\Rd wr B b (m+242+n*6)/\Kn b w wr) (fun _ i _=>6-(intOf i).toNat)
    case atStart=>exact⟨l,n,(ae HLs).2,rfl,by omega,(ae HX4).1,K8 (ae HLs).1,(ae HX4).2.1.mono (by omega),(ae HX4).2.2⟩
    case round=>
     clear HX4 HLs hnI hkI hcap;obtain⟨l,n,hn,rfl,h6,ho,hF,hrd,hkn⟩:=hrel;obtain⟨g,cap,rfl,hcap,_⟩:=aQ.formN hn ho;have HX:=af (a0c ho (a0c hF (a0c hrd (a0c hkn hn))));have hltr:=hrd.lt;clear ho hF hrd hkn hn;by_cases h5:n<6
     ·
      have h5I:(n:Int)<6:=by omega
      have HD:=af (Dh n (by omega) wr);go_wp2_with fail;refine(ae HD).mono ?_;rintro e w5 ⟨rfl,hb5⟩;have k5:=te hb5 hltr;have HX5:=af (a0c (iy (ae HX).1 k5 hlt) (a0c ((ae HX).2.2.1.kept (hb5.mono hltr)) ((ae HX).2.2.2.1.trans k5)));have hdl:¬ (9223372036854775807:Nat)<(⟨#[102]⟩:ByteArray).size+(⟨(Lib.decDigits n).toArray⟩:ByteArray).size:=by
       rw[Lib.decDigits,dif_pos (by omega)];show ¬ (9223372036854775807:Nat)<1+1;decide
      have hfN:(⟨#[102]⟩:ByteArray)++⟨(Lib.decDigits n).toArray⟩=fN n:=rfl;have HDl:=af hdl;clear hb5 k5 HD hdl;generalize (⟨(Lib.decDigits n).toArray⟩:ByteArray)=dg at *
      have hdl:=ae HDl;clear HDl;go_wp2_with fail;refine(lR B b _ _ (ae HX5).2.1 (by omega)).mono ?_;rintro e w6 ⟨y,mo,d,h,mi,s,rfl,⟨_,hst⟩,hrd6,hkb6⟩;have k6:=m8 hkb6;have O6:=iy (ae HX5).1 k6 hlt;have hlt6:=hrd6.lt;have HFS:=af (JN (ae HX).2.2.2.2 (ae HX).2.1 h5 hst);generalize fN n=nm at *
      have HO6:=af (a0m (aQ.own (ae HX).2.2.2.2 O6) (.cells #[.string nm,.int .i64 y,.int .i64 mo,.int .i64 d,.int .i64 h,.int .i64 mi,.int .i64 s,.string ⟨#[]⟩] 26));have HN6:=af (jZ (az w6 #[.string nm,.int .i64 y,.int .i64 mo,.int .i64 d,.int .i64 h,.int .i64 mi,.int .i64 s,.string ⟨#[]⟩] 26));have HR6:=af (a0c (hrd6.alloc (.cells #[.string nm,.int .i64 y,.int .i64 mo,.int .i64 d,.int .i64 h,.int .i64 mi,.int .i64 s,.string ⟨#[]⟩] 26)) (((ae HX5).2.2.trans k6).trans (dZ w6 (.cells #[.string nm,.int .i64 y,.int .i64 mo,.int .i64 d,.int .i64 h,.int .i64 mi,.int .i64 s,.string ⟨#[]⟩] 26) hlt6)));have HLn:Hid (l.length=n):=(ae HX).2.2.2.2;have HS6:Hid (w.heap.size<=w6.heap.size):=((ae HX5).2.2.trans k6).2.2;clear O6 k6 hkb6 hrd6 hst HX5 HX hfN hdl;go_wp2_with (at_builtin;refine a0F _ rfl _ _ 30 rfl w.heap.size 26 i0 (.agg #[.string ⟨#[]⟩,.int .i64 0,.int .i64 0,.int .i64 0,.int .i64 0,.int .i64 0,.int .i64 0,.string ⟨#[]⟩]) 8 80 a1i hi hz0 hz1 hz2 rfl (by decide) _ n (l.flatMap bp) rfl (ae HO6) ⟨w6.heap.size,0,none⟩ 1 1 (bp ⟨nm,y,mo,d,h,mi,s,⟨#[]⟩⟩) rfl rfl (ae HN6) (eW _) (ae HBd _ (by omega)).1 (ae HBd _ (by omega)).2 (ay (ae HS6) _) ?_;intro v7 w7 hown hgrow hnil);have O7:Hid (dC w7 w.heap.size v7 (l++[⟨nm,y,mo,d,h,mi,s,⟨#[]⟩⟩])):=aQ.snoc (ae HLn) hown;have R7:=af ((ae HR6).1.grown hgrow (fun k e=>a0g hlt (a0C (ae HO6) k e).1));have K7:Hid (Kn b w w7):=wK (ae HR6).2 hgrow (fun k e=>(a0C (ae HO6) k e).1) hlt;have HL7:Hid ((l++[(⟨nm,y,mo,d,h,mi,s,⟨#[]⟩⟩:En)]).length=n+1):=by show _=_;rw[a0i,ae HLn];rfl
      clear hown hgrow hnil HO6 HN6 HR6;go_wp2_with fail;go_roundw
      case rel=>exact⟨_,n+1,ae HL7,by go_num,by omega,ae O7,ae HFS,(ae R7).mono (by omega),ae K7⟩
      case measure=>simp[intOf];omega
     ·
      have h5I:¬ (n:Int)<6:=by omega
      go_wp2;go_ret;exact⟨⟨_,rfl,_,(ae HX).1,(ae HX).2.1⟩,(ae HX).2.2.1.mono (by omega),(ae HX).2.2.2.1⟩
   ·
    have hrI:(r == 0)=false:=by simpa using hr
    go_wp2;go_ret;exact⟨⟨_,_,rfl,(ae HX4).1,K8 (ae HLs).1⟩,(ae HX4).2.1.mono (by omega),(ae HX4).2.2⟩
def NmE(l:List En):Prop:=∀e∈l,e.n∈fT++cU∨∃j,j<6/\e.n=fM j
theorem Kh{l:List En}{e:En}(h:NmE l)(he:e.n∈fT++cU):NmE (l++[e]):=fun f hf=>by
 rcases a0S.1 hf with hf|hf
 · exact h f hf
 · rw[a0T.1 hf];exact .inl he
theorem Mp{l:List En}(h:BO l):NmE l:=fun e he=>by
 rcases h.2 e he with h1|⟨j,hj,h1⟩
 · exact .inl (a0S.2 (.inr h1))
 · exact .inr ⟨j,by have:=(da h.1).2;omega,h1⟩
def sD(l:List En):Prop:=∀i,i<l.length->(l.getD i default).n.size<=100/\(l.getD i default).t.size<=400
theorem pM{l:List En}{n:Nat}(hn:l.length=n)(h:sD l):∀i,i<n->(l.getD i default).n.size<=1048576/\((l.getD i default).t.size:Int)<=9223372036854775807:=fun i hi=>by
 have:=h i (by omega);omega
theorem Ej{l:List En}{e:En}(h:sD l)(h1:e.n.size<=100)(h2:e.t.size<=400):sD (l++[e]):=fun i hi=>by
 by_cases hl:i<l.length
 · rw[show(l++[e]).getD i default=l.getD i default by simp[List.getD,List.getElem?_append_left hl]];exact h i hl
 ·
  have:i=l.length:=by simp at hi;omega
  subst this;rw[show(l++[e]).getD l.length default=e by simp[List.getD]];exact⟨h1,h2⟩
theorem EI{l:List En}(h:aY l=true):sD l:=fun i hi=>by have:=rV h i hi;omega
theorem qM(B b m:Nat)(w:World)(h:Rd w B b m)(hm:m<=50000) :
  Calls Tryz.prog 37 #[.pointer (some ⟨b,0,none⟩)] w fun e w'=>(∃v l,e = .returned v/\dC w' w.heap.size v l/\l.length<=7/\sD l/\NmE l)/\Below b w w':=by
 obtain⟨i0,hi,hz0,hz1,hz2⟩:=a0r Tryz.infoEnt;have hlt:=h.lt;have HBd:Hid (∀x,x<=40->x<=maxLen/\x*80<=140737488355328):=fun x hx=>by unfold maxLen;omega
 have HL:=af (wL B b m w h (by omega));clear h;go_enter Tryz.func37,Tryz.ntmps37;go_wp2_with fail;refine(ae HL).mono ?_;rintro e w1 ⟨⟨v,l,rfl,ho,hz⟩,hrd1,hkn1⟩;obtain⟨n,hn⟩:∃n,l.length=n:=⟨_,rfl⟩;obtain⟨g,cap,rfl,hcap,_⟩:=aQ.formN hn ho;have hn6:n<=6:=by have:=(da hz.1).2;omega
 have HX:=af (a0c ho (a0c hrd1 (a0c hkn1 (a0c hn (a0c (EI hz.1) (Mp hz))))));clear ho hrd1 hkn1 hn hz HL;go_wp2_with fail;refine(br B b _ 8 _ (ae HX).2.1 (by omega) (by omega) (by omega)).mono ?_;rintro e w2 ⟨r,rfl,r0,r1,hrd2,hon2⟩;have HX2:=af (a0c (iy (ae HX).1 hon2.kn hlt) (a0c hrd2 ((ae HX).2.2.1.trans hon2.kn)));have HN:=af (ae HX).2.2.2;clear hrd2 hon2 HX;by_cases hr:r=0
 · subst hr;go_wp2_with fail;refine(jc B b _ _ (ae HX2).2.1 (by omega)).mono ?_;rintro e w3 ⟨nm,y,mo,d,h,mi,s,t,rfl,⟨hnm,ht⟩,hrd3,hkn3⟩;have O3:=iy (ae HX2).1 hkn3 hlt;have K3:=(ae HX2).2.2.trans hkn3;have HO6:=af (a0m (aQ.own (ae HN).1 O3) (.cells #[.string nm,.int .i64 y,.int .i64 mo,.int .i64 d,.int .i64 h,.int .i64 mi,.int .i64 s,.string t] 26));have HN6:=af (jZ (az w3 #[.string nm,.int .i64 y,.int .i64 mo,.int .i64 d,.int .i64 h,.int .i64 mi,.int .i64 s,.string t] 26));have HB6:=af (K3.1.alloc (a0D (a0u hlt) K3.2.2) (.cells #[.string nm,.int .i64 y,.int .i64 mo,.int .i64 d,.int .i64 h,.int .i64 mi,.int .i64 s,.string t] 26));have HS6:=af K3.2.2;have HT6:=af (Ej (e:=⟨nm,y,mo,d,h,mi,s,t⟩) (ae HN).2.1 (uS hnm) ht);have HM6:=af (Kh (e:=⟨nm,y,mo,d,h,mi,s,t⟩) (ae HN).2.2 hnm);clear O3 K3 hkn3 hrd3 HX2 hnm ht;go_wp2_with (at_builtin;refine a0F _ rfl _ _ 30 rfl w.heap.size 26 i0 (.agg #[.string ⟨#[]⟩,.int .i64 0,.int .i64 0,.int .i64 0,.int .i64 0,.int .i64 0,.int .i64 0,.string ⟨#[]⟩]) 8 80 a1i hi hz0 hz1 hz2 rfl (by decide) _ n (l.flatMap bp) rfl (ae HO6) ⟨w3.heap.size,0,none⟩ 1 1 (bp ⟨nm,y,mo,d,h,mi,s,t⟩) rfl rfl (ae HN6) (eW _) (ae HBd _ (by omega)).1 (ae HBd _ (by omega)).2 (ay (ae HS6) _) ?_;intro v7 w7 hown hgrow hnil);have O7:Hid (dC w7 w.heap.size v7 (l++[⟨nm,y,mo,d,h,mi,s,t⟩])):=aQ.snoc (ae HN).1 hown;have HB7:=af ((ae HB6).grown hgrow (by have:=ae HS6;simp;omega) (fun k e=>by have:=(a0C (ae HO6) k e).1;omega));clear hown hgrow hnil HO6 HN6 HB6;go_wp2;go_ret;exact⟨⟨_,_,rfl,ae O7,by rw[a0i,(ae HN).1];simp;omega,ae HT6,ae HM6⟩,ae HB7⟩
 ·
  have hrI:(r == 0)=false:=by simpa using hr
  go_wp2;go_ret;exact⟨⟨_,_,rfl,(ae HX2).1,by have:=(ae HN).1;omega,(ae HN).2⟩,(ae HX2).2.2.1⟩
theorem fR(a:Option Addr)(len cap:Nat)(z:Nat->Int)(w:World)(h:Src w a len z)(hc:len<=cap)(hm:len<=maxLen) :
  Calls Tryz.prog 16 #[.slice a len cap] w fun e w'=>(∃v l,e = .returned v/\dC w' w.heap.size v l/\l.length<=7/\sD l/\NmE l)/\Below w.heap.size w w':=by
 go_enter Tryz.func16,Tryz.ntmps16;go_wp2_with fail;refine(qO a len cap z _ h hc hm).mono ?_;rintro e w1 ⟨rfl,hrd,hbel,hsz⟩;go_wp2_with fail;refine(qM _ _ 0 _ hrd (by omega)).mono ?_;rintro e w2 ⟨⟨v,l,rfl,ho,h7,hT,hM⟩,hbel2⟩;go_wp2;go_ret;exact⟨⟨v,l,rfl,aQ.mono ho hbel.size,h7,hT,hM⟩,hbel.trans hbel2⟩
end Go.Proofs.YtfhdadkcophoaaaGreatDoor
