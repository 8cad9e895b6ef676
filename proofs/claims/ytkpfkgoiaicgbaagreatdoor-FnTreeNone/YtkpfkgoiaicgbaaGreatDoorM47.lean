/- Of what the proof is made: 2 texts, one behind the other. -/
import Derived.Test.YtkpfkgoiaicgbaaGreatDoorM46
import Derived.Test.YtkpfkgoiaicgbaaGreatDoorM3
import Derived.Test.YtkpfkgoiaicgbaaGreatDoorM43
import Derived.Test.YtkpfkgoiaicgbaaGreatDoorM6
import Derived.Test.YtkpfkgoiaicgbaaGreatDoorM27
import Derived.Test.YtkpfkgoiaicgbaaGreatDoorM33
import Derived.Test.YtkpfkgoiaicgbaaGreatDoorM44
set_option linter.unusedSimpArgs false
set_option linter.unusedVariables false
set_option maxHeartbeats 6400000
namespace Go.Proofs.YtkpfkgoiaicgbaaGreatDoor
open Go.RowKit Corb
set_option maxRecDepth 100000
theorem DZ:f8 (⟨#[110,111,98,111,100,121]⟩:ByteArray).data.toList=true:=by decide
theorem C0:eu 1980 1 1 0 0 0=true:=by decide
theorem AQ:(aH []).1++(aH []).2++dY 0 (aH []).2.size (aH []).1.size=im []:=by
 rw[im,if_pos (by decide)];rfl
theorem pU(a:Option Addr)(cap n:Nat)(l:List Fl)(hn:l.length=n)(m:Int)(w:World)(h:mM w a l)(hl:n<=5)(hcap:(n:Int)<=(cap:Int))(hs:nT l n)(ht:dh l=true)(hnm:NmF l)
  (hm:w.cell? ⟨2,0,none⟩=some (.int .i64 m)) :
  Calls Tryz.prog 9 #[.slice a n cap,.string ⟨#[110,111,98,111,100,121]⟩,.agg #[.int .i64 1980,.int .i64 1,.int .i64 1,.int .i64 0,.int .i64 0,.int .i64 0]] w fun e w'=>e = .returned (.tuple #[.string (im []),.int .i64 0])/\Below w.heap.size w w':=by
 have hso:=af (ul ht);have hnI:(n:Int)<=5:=by omega
 have CT:=af (fun W (hb:Below w.heap.size w W)=>fe a cap l n hn m W (h.later hb) (by omega) hcap hs ((hb.cell (p:=⟨2,0,none⟩) (World.block_lt_of_cell? _ _ hm)).trans hm));have CN:=af (fun W (hb:Below w.heap.size w W)=>gX ⟨#[110,111,98,111,100,121]⟩ m W (by decide) ((hb.cell (p:=⟨2,0,none⟩) (World.block_lt_of_cell? _ _ hm)).trans hm));have CS:=af (fun W=>bK 1980 1 1 0 0 0 W);rw[ht]at CT;rw[DZ]at CN;rw[C0]at CS;have HR:=af (fun W (hb:Below w.heap.size w W)=>h.later hb);have Hn:=af hn;have HNm:=af hnm;have e0:((⟨#[110,111,98,111,100,121]⟩:ByteArray).toList == (⟨#[]⟩:ByteArray).toList)=false:=by rw[Lib.toList_data,Lib.toList_data];rfl
 have e1:((⟨#[110,111,98,111,100,121]⟩:ByteArray).toList == ([]:List UInt8))=false:=by rw[Lib.toList_data];rfl
 have hA:=af ((Below.refl w.heap.size w).alloc (Nat.le_refl _) (.cells #[.int .i64 1980,.int .i64 1,.int .i64 1,.int .i64 0,.int .i64 0,.int .i64 0] 32));have P:=af (aS w #[.int .i64 1980,.int .i64 1,.int .i64 1,.int .i64 0,.int .i64 0,.int .i64 0] 32);clear h hm hs ht hnm hn;go_enter Tryz.func9,Tryz.ntmps9;go_wp2_with fail;obtain⟨sb,hsb⟩:∃sb,w.heap.size=sb:=⟨_,rfl⟩;obtain⟨W0,hW0⟩:∃y,w.alloc (.cells #[.int .i64 1980,.int .i64 1,.int .i64 1,.int .i64 0,.int .i64 0,.int .i64 0] 32)=y:=⟨_,rfl⟩;rw[hW0]at hA P;rw[hW0,hsb];rw[hsb]at P;have HSb:=af hsb;clear hW0 hsb;refine(ae CT _ (ae hA)).mono ?_;rintro e w1 ⟨rfl,hb1⟩;have HB1:=af (aj (ae hA) hb1);have P1:=af ((ae P).later hb1 (ae P).1);clear hb1 P hA;go_wp2_with fail;refine(ae CN _ (ae HB1)).mono ?_;rintro e w2 ⟨rfl,hb2⟩;have HB2:=af (aj (ae HB1) hb2);have P2:=af ((ae P1).later hb2 (ae P1).1);clear hb2 P1 HB1;have c0:=(ae P2).cell 0 _ rfl;have c1:=(ae P2).cell 1 _ rfl;have c2:=(ae P2).cell 2 _ rfl;have c3:=(ae P2).cell 3 _ rfl;have c4:=(ae P2).cell 4 _ rfl;have c5:=(ae P2).cell 5 _ rfl;go_wp2_with fail;refine(ae CS _).mono ?_;rintro e w3 ⟨rfl,hb3⟩;have HB3:=af (aj (ae HB2) hb3);have P3:=af ((ae P2).later hb3 (ae P2).1);clear hb3 P2 HB2 c0 c1 c2 c3 c4 c5;go_wp2_with fail;refine(Ad w3).mono ?_;rintro e w4 ⟨⟨b,rfl,hp4⟩,hb4⟩;have HK4:=af hb4;have HP4:=af hp4;clear hb4 hp4;go_wp2_with fail
 go_loopw [10,32] (fun _ i wr=>∃k:Nat,k<=n/\i = .int .i64 k/\lO wr w3.heap.size b (l.take k)/\Below w3.heap.size w3 wr) (fun _ i _=>n-(intOf i).toNat)
 case atStart=>exact⟨0,Nat.zero_le _,rfl,ae HP4,ae HK4⟩
 case round=>
  obtain⟨k,hk,rfl,hp,hbel⟩:=hrel;by_cases hlt:k<n
  ·
   have hltI:(k:Int)<(n:Int):=by omega
   obtain⟨g,o,rfl,hg,hcc⟩:=ae HR _ (aj (ae HB3) hbel) (by have:=ae Hn;omega);obtain⟨q0,q1⟩:=hcc k (by have:=ae Hn;omega);have hst:=af (ez l default k (by have:=ae Hn;omega));have hlk:Hid ((l.take k).length=k):=by show _=_;have:=ae Hn;simp;omega
   have hput:Hid (bq (l.take k) (l.getD k default)=l.take (k+1)):=by
    show _=_;have e1:=lp (ae hso) (k+1);rw[ae hst,List.foldl_append,lp (ae hso) k]at e1;rw[ae hst];simpa using e1
   have hsk:=af (show fS (l.take k)from List.Pairwise.sublist (List.take_sublist k l) (ae hso));have Hk:=af hk;clear hcc hk;generalize l.getD k default=en at *
   obtain⟨ep,et⟩:=en;have hA:Below wr.heap.size wr (wr.alloc (.cells #[.string ep,.string et] 39)):=(Below.refl _ _).alloc (Nat.le_refl _) _;have hp1:=hp.later hA (Nat.le_refl _);have hsz:=hbel.size;have PW:=((ae P3).later hbel (ae P3).1).later hA ((ae P3).later hbel (ae P3).1).1;have c0:=PW.cell 0 _ rfl;have c1:=PW.cell 1 _ rfl;have c2:=PW.cell 2 _ rfl;have c3:=PW.cell 3 _ rfl;have c4:=PW.cell 4 _ rfl;have c5:=PW.cell 5 _ rfl;have HM1:=af (xx b (l.take k) ep 1980 1 1 0 0 0 et w3.heap.size _ hp1 (ae hsk) (by have:=ae hlk;omega) (by simp;omega));have HA:=af (hbel.trans (hA.mono hbel.size));clear hA hp1 hp hbel PW;go_wp2_with fail;refine(ae HM1).mono ?_;rintro e x5 ⟨rfl,hp5,hb5⟩;rw[ae hput]at hp5;have HP5:=af hp5;have HB5:=af ((ae HA).trans hb5);clear hp5 hb5 HM1 c0 c1 c2 c3 c4 c5;go_wp2_with fail;go_roundw
   case rel=>exact⟨k+1,by have:=ae Hk;omega,by go_num,ae HP5,ae HB5⟩
   case measure=>simp[intOf];omega
  ·
   have hltI:¬ (k:Int)<(n:Int):=by omega
   have hkn:l.take k=l:=List.take_of_length_le (by rw[ae Hn];omega);rw[hkn]at hp;have HW:=af (yO b w3.heap.size l wr hp (by have:=ae Hn;omega) (ae HNm));have HB6:=af (aj (ae HB3) hbel);clear hp hbel hkn P3 HP4 HK4 HB3;go_wp2_with fail;refine(ae HW).mono ?_;rintro e w6 ⟨rfl,rfl⟩;clear HW;go_wp2_with fail;refine(rL _).mono ?_;rintro e w7 ⟨rfl,hb7⟩;have HB7:=af (aj (ae HB6) hb7);clear hb7;go_wp2_with fail;refine(pE _ 0 0 [] w7 rfl (fun h=>absurd h (by omega)) (by omega) (fun i hi=>absurd hi (by omega))).mono ?_;rintro e w8 ⟨rfl,hb8⟩;have HB8:=af (aj (ae HB7) hb8);rw[AQ];clear hb8;go_wp2
   go_ret2
   exact⟨rfl,ae HB8⟩
theorem Jy:eK (im [])=some []:=Jw (by decide)
theorem EC{l:List Fl}(h:dh l=true):iC l (im [])=(l,0):=by
 have h8:=yF h;unfold iC;rw[Jy];simp only[Option.isSome_some,Option.getD_some,true_and];rw[if_pos h,show fX l []=l from rfl,if_neg (by omega),if_pos h]
theorem pN(a:Option Addr)(len cap:Nat)(zs:List Int)(m:Int)(w:World)(w0:Fc .u8 w a len cap zs)(hm:w.cell? ⟨2,0,none⟩=some (.int .i64 m))(hg:pG w)(hO:dk w) :
  Calls Tryz.prog 3 #[.slice a len cap] w fun e w'=>e = .returned (.bool true)/\Below w.heap.size w w':=by
 obtain⟨⟨z,hsrc⟩,hc,hlen⟩:=Mk w0;have HDr:=af (pK a len cap z w hsrc hc hlen);have CW:=af (fun W (hb:Below w.heap.size w W)=>And.intro ((hb.cell (p:=⟨2,0,none⟩) (World.block_lt_of_cell? _ _ hm)).trans hm) (And.intro (hg.later hb) (hO.later hb)));unfold maxLen at hlen;clear w0 hsrc hm hg hO;by_cases hl:(len:Int)<=1048576
 ·
  go_enter Tryz.func3,Tryz.ntmps3;go_wp2_with fail;refine(ae HDr).mono ?_;rintro e w1 ⟨⟨v,l,rfl,h5,ho,hv,hT,hNm⟩,hb1⟩;obtain⟨n,hn⟩:∃n,l.length=n:=⟨_,rfl⟩;obtain⟨g,tc,rfl,hcap⟩:=li hn ho hv;rw[hn]at h5;have HB1:=af hb1;have HN:=af hn;have HTy:=af hT;have HNm:=af hNm;have HRow:=af (fun W (hW:Below w1.heap.size w1 W)=>(kb hn ho).later hW);have hnI:(n:Int)<=5:=by omega
  have hcI:(n:Int)<=(tc:Int):=by omega
  have hS:=AR [];have CI:=af (fun W (hW:Below w1.heap.size w1 W)=>fe (some ⟨g,0,none⟩) tc l n hn m W (ae HRow W hW) (by omega) (by omega) (ii hT hn) (ae CW W (aj (ae HB1) hW)).1);have CS:=af (fun W (hW:Below w1.heap.size w1 W)=>kJ (some ⟨g,0,none⟩) tc l n hn W (ae HRow W hW) (by omega) (ii hT hn));have CT:=af (fun W (hW:Below w1.heap.size w1 W)=>ox (some ⟨g,0,none⟩) tc n l (im []) hn m W (ae HRow W hW) (by omega) (by omega) (ii hT hn) (by omega) (ae CW W (aj (ae HB1) hW)).1 (ae CW W (aj (ae HB1) hW)).2.1 (ae CW W (aj (ae HB1) hW)).2.2);have CP:=af (fun W (hW:Below w1.heap.size w1 W)=>qR none 0 [] 0 rfl m W (fun h=>absurd h (by simp)) (by omega) (by omega) (fun i hi=>absurd hi (by omega)) (ae CW W (aj (ae HB1) hW)).1 (ae CW W (aj (ae HB1) hW)).2.1 (ae CW W (aj (ae HB1) hW)).2.2);clear hb1 HDr hlen hc ho hv hT h5 hn hNm hS;generalize htb:dh l=tb at *
  go_wp2_with fail;refine(ae CI w1 (Below.refl _ _)).mono ?_;rintro e w2 ⟨rfl,hb2⟩;have HB2:=af hb2;clear hb2;go_wp2_with fail;refine(ae CS w2 (ae HB2)).mono ?_;rintro e w3 ⟨rfl,hb3⟩;have HB3:=af (aj (ae HB2) hb3);clear hb3 HB2;cases tb
  · go_wp2_with fail;refine(ae CS w3 (ae HB3)).mono ?_;rintro e w4 ⟨rfl,hb4⟩;have HB4:=af (aj (ae HB1) (aj (ae HB3) hb4));clear hb4;go_wp2;go_ret;exact⟨rfl,ae HB4⟩
  ·
   have CZ:=af (fun W (hW:Below w1.heap.size w1 W)=>pU (some ⟨g,0,none⟩) tc n l (ae HN) m W (ae HRow W hW) (by omega) (by omega) (ii (ae HTy) (ae HN)) htb (ae HNm) (ae CW W (aj (ae HB1) hW)).1);rw[EC htb]at CT;clear htb CI CS HTy HNm;generalize im []=S at *
   have hSS:(S.toList == S.toList)=true:=by simp
   go_wp2_with fail;refine(ae CP w3 (ae HB3)).mono ?_;rintro e w4 ⟨rfl,hb4⟩;have HB4:=af (aj (ae HB3) hb4);clear hb4 HB3;go_wp2_with fail;refine(ae CT w4 (ae HB4)).mono ?_;rintro e w5 ⟨⟨v,rfl,ho5⟩,hb5⟩;obtain⟨xa,xc,rfl,_,_⟩:=be.formN (ae HN) ho5;have HB5:=af (aj (ae HB4) hb5);have HX5:=af (fun W (hW:Below w5.heap.size w5 W)=>(kb (ae HN) ho5).later hW);clear hb5 HB4 ho5 CT;go_wp2_with fail;refine(ae CZ w5 (ae HB5)).mono ?_;rintro e w6 ⟨rfl,hb6⟩;have HK6:=af hb6;have HB6:=af (aj (ae HB5) hb6);clear hb6 HB5 CZ;go_wp2_with fail;refine(vR _ _ _ _ n l _ (ae HN) (ae HX5 _ (ae HK6)) (ae HRow _ (ae HB6)) (by omega)).mono ?_;rintro e w7 ⟨rfl,hb7⟩;have HB7:=af (aj (ae HB6) hb7);clear hb7 HB6 HK6;go_wp2_with fail;refine(ae CP w7 (ae HB7)).mono ?_;rintro e w8 ⟨rfl,hb8⟩;have HB8:=af (aj (ae HB1) (aj (ae HB7) hb8));clear hb8;go_wp2;go_ret;exact⟨by simp,ae HB8⟩
 · go_enter Tryz.func3,Tryz.ntmps3;go_wp2;go_ret;exact⟨rfl,Below.refl _ _⟩
end Go.Proofs.YtkpfkgoiaicgbaaGreatDoor
