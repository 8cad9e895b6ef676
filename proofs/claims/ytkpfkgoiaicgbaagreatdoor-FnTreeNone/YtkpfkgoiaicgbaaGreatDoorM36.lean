/- Of what the proof is made: 2 texts, one behind the other. -/
import Derived.Test.YtkpfkgoiaicgbaaGreatDoorM32
import Derived.Test.YtkpfkgoiaicgbaaGreatDoorM33
import Derived.Test.YtkpfkgoiaicgbaaGreatDoorM8
import Derived.Test.YtkpfkgoiaicgbaaGreatDoorM9
import Derived.Test.YtkpfkgoiaicgbaaGreatDoorM30
set_option linter.unusedSimpArgs false
set_option linter.unusedVariables false
set_option maxHeartbeats 1600000
namespace Go.Proofs.YtkpfkgoiaicgbaaGreatDoor
open Go.RowKit
set_option maxRecDepth 100000
theorem fN{w w':World}{base b:Nat}{v:Value}{l:List Fl}(h:gO w base v l)(hk:Kn b w w')(hb:b<base):gO w' base v l:=by
 refine⟨h.1,?_⟩;rcases h.2 with hn|⟨g,cap,cur,rfl,hbg,hgg,rest⟩
 · exact .inl hn
 · have hlt:=(Array.getElem?_eq_some_iff.1 hgg).1;refine .inr ⟨g,cap,cur,rfl,hbg,?_,rest⟩;rw[hk.2.1 g hlt (by omega)];exact hgg
theorem li{w:World}{base n:Nat}{v:Value}{l:List Fl}(hn:l.length=n)(h:gO w base v l)(hv:v ≠ .slice none 0 0):∃g cap,v = .slice (some ⟨g,0,none⟩) n cap/\n<=cap:=by
 subst hn;rcases h.2 with⟨e,_⟩|⟨g,cap,cur,e,_,_,h1,_⟩
 · exact absurd e hv
 · exact⟨g,cap,e,h1⟩
theorem ii{l:List Fl}{n:Nat}(h:eM l)(hn:l.length=n):nT l n:=fun i hi=>by
 have hin:l.getD i default∈l:=by simp[List.getD,show i<l.length by omega]
 have:=h _ hin;unfold pA;omega
theorem wS{b:Nat}{w w':World}(h:Below w.heap.size w w')(hb:b<w.heap.size):Kn b w w':=⟨h.mono (Nat.le_of_lt hb),fun k hk _=>h.block k hk,h.size⟩
theorem KB:∀v∈iw,v.size<=1000:=by decide
theorem Ky:∀v∈nv++iw,v.size<=1000:=by decide
def NmF(l:List Fl):Prop:=∀e∈l,e.p∈nv++iw
theorem L9{l:List Fl}{nm:ByteArray}(tx:ByteArray)(h:NmF l)(hn:nm∈iw):NmF (bq l ⟨nm,tx⟩):=fun e he=>by
 rcases rP he with rfl|he
 · exact List.mem_append.2 (.inr hn)
 · exact h e he
theorem wU(B b m:Nat)(w:World)(h:Rd w B b m)(hm:m<=70000) :
  Calls Tryz.prog 32 #[.pointer (some ⟨b,0,none⟩)] w fun e w'=>(∃v l,e = .returned v/\l.length<=4/\gO w' (b+1) v l/\v ≠ .slice none 0 0/\eM l/\NmF l)/\Rd w' B b (m+300)/\Kn b w w':=by
 have hlt:=h.lt;have R0:Hid (Rd (w.alloc (.cells #[] 39)) B b m):=h.alloc _;have O0:Hid (gO (w.alloc (.cells #[] 39)) (b+1) (.slice (some ⟨w.heap.size,0,none⟩) 0 0) []):=World.ownsRow_lit w #[] 0 hlt (by unfold maxLen;omega) rfl;have K0:Hid (Kn b w (w.alloc (.cells #[] 39))):=g8 w _ hlt;clear h;go_enter Tryz.func32,Tryz.ntmps32;go_wp2_with fail;refine(dL B b m _ _ (ae R0) (by omega) (by omega) (by omega)).mono ?_;rintro e w1 ⟨r,rfl,r0,r1,hrd1,hon1⟩;obtain⟨n0,rfl⟩:=Int.eq_ofNat_of_zero_le r0;have O1:=af (fN (ae O0) hon1.kn (Nat.lt_succ_self _));have K1:=af ((ae K0).trans hon1.kn);have R1:=af hrd1;have hn4:n0<=4:=by omega
 clear R0 O0 K0 hrd1 hon1 r0 r1;go_wp2_with fail
 go_loopw [3,4,5] (fun v i _ wr=>∃(l:List Fl) (k:Nat),i = .int .i64 k/\k<=4/\l.length+k<=4/\gO wr (b+1) v l/\v ≠ .slice none 0 0/\(eM l/\NmF l)/\Rd wr B b (m+1+(4-k)*60)/\Kn b w wr) (fun _ i _ _=>(intOf i).toNat)
 case atStart=>exact⟨[],n0,rfl,hn4,by simpa using hn4,ae O1,by simp,⟨fun e he=>by simp at he,fun e he=>by simp at he⟩,(ae R1).mono (by omega),ae K1⟩
 case round=>
  obtain⟨l,k,rfl,hk,hlk,ho,hv,hT,hrd,hkn⟩:=hrel;clear O1 K1 R1;obtain⟨n,hn⟩:∃n,l.length=n:=⟨_,rfl⟩;obtain⟨g,cap,rfl,hcap⟩:=li hn ho hv;have hkI:(k:Int)<=4:=by omega
  have HX:=af (And.intro ho (And.intro hT (And.intro hrd (And.intro hkn (And.intro hn hlk)))));have hltr:=hrd.lt;clear ho hT hrd hkn hn hlk hv;by_cases hp:0<k
  ·
   have hpI:(0:Int)<(k:Int):=by omega
   go_wp2_with fail;refine(pa B b _ _ (ae HX).2.2.1 (by omega)).mono ?_;rintro e w2 ⟨nm,hnm,rfl,hrd2,hkn2⟩;have hnt:=KB nm hnm;have HX2:=af (And.intro (fN (ae HX).1 hkn2 (Nat.lt_succ_self _)) (And.intro hrd2 ((ae HX).2.2.2.1.trans hkn2)));have HNm:=af hnm;clear hrd2 hkn2 hnm;go_wp2_with fail;refine(nh B b _ _ (ae HX2).2.1 (by omega)).mono ?_;rintro e w3 ⟨⟨tx,rfl,htx⟩,hrd3,hkn3⟩;have HX3:=af (And.intro (fN (ae HX2).1 hkn3 (Nat.lt_succ_self _)) (And.intro hrd3 ((ae HX2).2.2.trans hkn3)));have hlt3:=hrd3.lt;clear hrd3 hkn3 HX2;have hO3:=(ae HX3).1;rw[←(ae HX).2.2.2.2.1]at hO3;have HC:=af (wT g cap n l nm tx w3 (ae HX).2.2.2.2.1 (xO hO3) (by have:=ae HX;omega) hcap (ae HX).2.1.1 hnt (by omega));clear hO3;go_wp2_with fail;refine(ae HC).mono ?_;rintro e w4 ⟨⟨v4,l4,rfl,hl4,ho4,hv4,hT4,hP4⟩,hb4⟩;have hN4:NmF l4:=hP4▸L9 tx (ae HX).2.1.2 (ae HNm);obtain⟨n4,hn4'⟩:∃n4,l4.length=n4:=⟨_,rfl⟩;obtain⟨g4,cap4,rfl,hcap4⟩:=li hn4' ho4 hv4;have k4:=wS hb4 hlt3;have HX4:=af (And.intro (be.mono ho4 hlt3) (And.intro (fN (ae HX3).1 k4 (Nat.lt_succ_self _)) (And.intro ((ae HX3).2.1.kept (hb4.mono hlt3)) (And.intro ((ae HX3).2.2.trans k4) (And.intro (And.intro hT4 hN4) (And.intro hn4' hl4))))));have HT:=af (kJ (some ⟨g4,0,none⟩) cap4 l4 n4 hn4' w4 (kb hn4' ho4) (by have:=ae HX;omega) (ii hT4 hn4'));have hlt4:b<w4.heap.size:=(ae HX4).2.2.1.lt;clear ho4 hv4 hT4 hP4 hN4 hb4 k4 HC HX3 HNm hn4' hl4;go_wp2_with fail;refine(ae HT).mono ?_;rintro e w5 ⟨rfl,hb5⟩;have k5:=wS hb5 hlt4;have HX5:=af (And.intro (fN (ae HX4).1 k5 (Nat.lt_succ_self _)) (And.intro (fN (ae HX4).2.1 k5 (Nat.lt_succ_self _)) (And.intro ((ae HX4).2.2.1.kept (hb5.mono hlt4)) ((ae HX4).2.2.2.1.trans k5))));have HX6:=af (ae HX4).2.2.2.2;clear hb5 k5 HX4 HT;cases hB:dh l4
   ·
    go_wp2_with fail;go_roundw
    case rel=>exact⟨l,k-1,by go_num,by omega,by have:=ae HX;omega,(ae HX5).2.1,by simp,(ae HX).2.1,(ae HX5).2.2.1.mono (by omega),(ae HX5).2.2.2⟩
    case measure=>simp[intOf];omega
   ·
    go_wp2_with fail;go_roundw
    case rel=>exact⟨l4,k-1,by go_num,by omega,by have:=ae HX;have:=ae HX6;omega,(ae HX5).1,by simp,(ae HX6).1,(ae HX5).2.2.1.mono (by omega),(ae HX5).2.2.2⟩
    case measure=>simp[intOf];omega
  ·
   have hpI:¬ (0:Int)<(k:Int):=by omega
   go_wp2;go_ret;refine⟨⟨_,rfl,l,?_,(ae HX).1,?_,(ae HX).2.1⟩,(ae HX).2.2.1.mono (by omega),(ae HX).2.2.2.1⟩
   · have:=ae HX;omega
   · simp
theorem Dc{W:World}{g:Nat}{l:List Fl}(h:sy W g l):∀j u,(l.flatMap aI)[j]?=some u->W.cell? ((⟨g,0,none⟩:Addr).add j)=some u:=by
 intro j u hj;have hlt:j<(l.flatMap aI).length:=(List.getElem?_eq_some_iff.1 hj).1;rw[cO cR]at hlt;have e:(⟨g,0,none⟩:Addr).add j=⟨g,j,none⟩:=by unfold Addr.add;split<;>simp_all
 rw[e,h.2 _ hlt,hj]
theorem Rd.grownF{w w':World}{B b m n:Nat}{v:Value}{xs:List Value}(h:Rd w B b m)(ho:w.ownsRow (b+1) 39 2 v n xs)(hg:w.grownBy w' v.ownBlock):Rd w' B b m:=h.grown hg (fun k e=>(World.ownsRow.lt ho k e).1)
theorem rf(B b m:Nat)(w:World)(h:Rd w B b m)(hm:m<=60000) :
  Calls Tryz.prog 11 #[.pointer (some ⟨b,0,none⟩)] w fun e w'=>(∃v l,e = .returned v/\l.length<=5/\gO w' (b+1) v l/\v ≠ .slice none 0 0/\eM l/\NmF l)/\Below b w w'/\∃M,M<=m+3000/\Rd w' B b M:=by
 obtain⟨i0,hi,hz0,hz1,hz2⟩:=info_parts Tryz.infoFile;have hlt:=h.lt;have R0:Hid (Rd (w.alloc (.cells #[] 39)) B b m):=h.alloc _;have O0:Hid (gO (w.alloc (.cells #[] 39)) (b+1) (.slice (some ⟨w.heap.size,0,none⟩) 0 0) []):=World.ownsRow_lit w #[] 0 hlt (by unfold maxLen;omega) rfl;have K0:Hid (Kn b w (w.alloc (.cells #[] 39))):=g8 w _ hlt;have HBd:Hid (∀x,x<=40->x<=maxLen/\x*32<=140737488355328):=fun x hx=>by unfold maxLen;omega
 clear h;go_enter Tryz.func11,Tryz.ntmps11;go_wp2_with fail;refine(wU B b m _ (ae R0) (by omega)).mono ?_;rintro e w1 ⟨⟨v1,l,rfl,hl4,ho1,hv1,hT1⟩,hrd1,hkn1⟩;obtain⟨n,hn⟩:∃n,l.length=n:=⟨_,rfl⟩;obtain⟨g,cap,rfl,hcap⟩:=li hn ho1 hv1;have O1:=af (fN (ae O0) hkn1 (Nat.lt_succ_self _));have hFB:sy w1 g l:=by
  have:=ho1;rw[←hn]at this;exact xO this
 have HF:=af (Dc hFB);have HL:Hid ((l.flatMap aI).length=n*2):=by show _=_;rw[cO cR,hn]
 have hlt1:=hrd1.lt;have HX:=af (And.intro hrd1 (And.intro ((ae K0).trans hkn1) (And.intro hT1 (And.intro hn hl4))));have hn4:n<=4:=by omega
 clear hrd1 hkn1 R0 O0 K0 ho1 hFB hT1 hn hl4 hv1;go_wp2_with (at_builtin;refine wpList_append_own _ rfl _ _ 23 rfl (b+1) 39 i0 (.agg #[.string ⟨#[]⟩,.string ⟨#[]⟩]) 2 32 Tryz.underlying23 hi hz0 hz1 hz2 rfl (by decide) _ 0 [] rfl (ae O1) ⟨g,0,none⟩ n cap (l.flatMap aI) rfl (ae HL) (ae HF) (bu _) (ae HBd _ (by omega)).1 (ae HBd _ (by omega)).2 hlt1 ?_;intro v2 w2 hown hgrow hnil);have hv2:v2 ≠ .slice none 0 0:=fun e=>by have:=(hnil.1 e).1;cases this
 have O2:Hid (gO w2 (b+1) v2 l):=by
  show World.ownsRow _ _ _ _ _ l.length _;rw[(ae HX).2.2.2.1];simpa using hown
 have HR2:=af ((ae HX).1.grownF (ae O1) hgrow);have HB2:Hid (Below b w w2):=(ae HX).2.1.1.grown hgrow (Nat.le_of_lt hlt1) (fun k e=>by have:=(World.ownsRow.lt (ae O1) k e).1;omega);clear hown hgrow hnil O1 HF HL;go_wp2_with fail;refine(dL B b (m+300) _ _ (ae HR2) (by omega) (by omega) (by omega)).mono ?_;rintro e w3 ⟨r,rfl,r0,r1,hrd3,hon3⟩;have O3:=af (fN (ae O2) hon3.kn (Nat.lt_succ_self _));have HX3:=af (And.intro hrd3 ((ae HB2).trans hon3.1));clear hrd3 hon3 O2 HR2 HB2;by_cases hr:r=0
 ·
  subst hr;go_wp2_with fail;refine(re B b _ _ (ae HX3).1 (by omega)).mono ?_;rintro e w4 ⟨nm,hnm,rfl,hrd4,hkn4⟩;have hnt:=Ky nm hnm;have HX4:=af (And.intro (fN (ae O3) hkn4 (Nat.lt_succ_self _)) (And.intro hrd4 ((ae HX3).2.trans hkn4.1)));have HNm:=af hnm;clear hrd4 hkn4 hnm;go_wp2_with fail;refine(pQ B b _ _ (ae HX4).2.1 (by omega)).mono ?_;rintro e w5 ⟨⟨tx,rfl,htx⟩,hrd5,hkn5⟩;have O5:=fN (ae HX4).1 hkn5 (Nat.lt_succ_self _);have hlt5:=hrd5.lt;have HB5:=af ((ae HX4).2.2.trans hkn5.1);have O6:=af (World.ownsRow.alloc (be.own (ae HX).2.2.2.1 O5) (.cells #[.string nm,.string tx] 39));have N6:=af (dp.new w5 (b+1) hlt5 nm tx 39).news;have HR5:=af (hrd5.alloc (.cells #[.string nm,.string tx] 39));clear hrd5 hkn5 HX4 O5;go_wp2_with (at_builtin;refine wpList_append_own _ rfl _ _ 23 rfl (b+1) 39 i0 (.agg #[.string ⟨#[]⟩,.string ⟨#[]⟩]) 2 32 Tryz.underlying23 hi hz0 hz1 hz2 rfl (by decide) v2 n (l.flatMap aI) rfl (ae O6) ⟨w5.heap.size,0,none⟩ 1 1 (aI ⟨nm,tx⟩) rfl rfl (ae N6) (db _) (ae HBd _ (by omega)).1 (ae HBd _ (by omega)).2 (aB hlt5 _) ?_;intro v7 w7 hown hgrow hnil);have hv7:v7 ≠ .slice none 0 0:=fun e=>hv2 (hnil.1 e).1;have O7:Hid (gO w7 (b+1) v7 (l++[⟨nm,tx⟩])):=be.snoc (ae HX).2.2.2.1 hown;have HB7:Hid (Below b w w7):=((ae HB5).alloc (Nat.le_of_lt hlt5) _).grown hgrow (by simp;omega) (fun k e=>by have:=(World.ownsRow.lt (ae O6) k e).1;omega);have HR7:=af ((ae HR5).grownF (ae O6) hgrow);clear hown hgrow hnil O6 N6 HB5 HR5;go_wp2;go_ret;refine⟨⟨v7,l++[⟨nm,tx⟩],rfl,?_,ae O7,hv7,(ae HX).2.2.1.1.app ?_,fun e he=>(List.mem_append.1 he).elim ((ae HX).2.2.1.2 e) fun h=>(by rcases List.mem_singleton.1 h with rfl;exact ae HNm)⟩,ae HB7,_,?_,ae HR7⟩
  · rw[List.length_append,(ae HX).2.2.2.1];simp;omega
  · intro e he;rcases List.mem_singleton.1 he with rfl;exact⟨hnt,by simp;omega⟩
  · omega
 ·
  have hrI:(r == 0)=false:=by simpa using hr
  go_wp2;go_ret;refine⟨⟨v2,l,rfl,?_,ae O3,hv2,(ae HX).2.2.1⟩,(ae HX3).2,_,?_,(ae HX3).1⟩
  · have:=ae HX;omega
  · omega
theorem pK(a:Option Addr)(len cap:Nat)(z:Nat->Int)(w:World)(h:Src w a len z)(hc:len<=cap)(hm:len<=maxLen) :
  Calls Tryz.prog 4 #[.slice a len cap] w fun e w'=>(∃v l,e = .returned v/\l.length<=5/\gO w' w.heap.size v l/\v ≠ .slice none 0 0/\eM l/\NmF l)/\Below w.heap.size w w':=by
 go_enter Tryz.func4,Tryz.ntmps4;go_wp2_with fail;refine(zO a len cap z _ h hc hm).mono ?_;rintro e w1 ⟨rfl,hrd,hbel,hsz⟩;go_wp2_with fail;refine(rf _ _ 0 _ hrd (by omega)).mono ?_;rintro e w2 ⟨⟨v,l,rfl,h5,ho,hv,hT,hNm⟩,hbel2,_⟩;go_wp2;go_ret;exact⟨⟨v,l,rfl,h5,be.mono ho (Nat.le_succ _),hv,hT,hNm⟩,hbel.trans hbel2⟩
end Go.Proofs.YtkpfkgoiaicgbaaGreatDoor
