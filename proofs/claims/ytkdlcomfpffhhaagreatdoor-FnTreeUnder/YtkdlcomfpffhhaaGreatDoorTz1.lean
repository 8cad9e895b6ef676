/- Of what the proof is made. -/
import Derived.Test.YtkdlcomfpffhhaaGreatDoorM45
import Derived.Test.YtkdlcomfpffhhaaGreatDoorM44
import Derived.Lib.ItoaNum
import Derived.Lib.IndexMore
import Derived.Deep.RegionHeld
import Derived.Laws.AppendOwnNone
import Derived.Lib.QuietBelow
import Derived.Test.YtkdlcomfpffhhaaGreatDoorM43
import Derived.Test.YtkdlcomfpffhhaaGreatDoorM3
import Derived.Test.YtkdlcomfpffhhaaGreatDoorM27
import Derived.Test.YtkdlcomfpffhhaaGreatDoorM2
import Derived.Deep.RegionHeld3
import Derived.Deep.QuietTactic
import Derived.BigQuiet
import Derived.Test.YtkdlcomfpffhhaaGreatDoorM8
import Derived.Test.YtkdlcomfpffhhaaGreatDoorM17
import Derived.Deep.RegionWith
import Derived.Test.YtkdlcomfpffhhaaGreatDoorM47
import Derived.Test.YtkdlcomfpffhhaaGreatDoorM32
import Derived.Test.YtkdlcomfpffhhaaGreatDoorM33
import Derived.Test.YtkdlcomfpffhhaaGreatDoorM6
import Derived.Test.YtkdlcomfpffhhaaGreatDoorM26
import Derived.Test.YtkdlcomfpffhhaaGreatDoorM34
import Derived.Test.YtkdlcomfpffhhaaGreatDoorM37
import Derived.Test.YtkdlcomfpffhhaaGreatDoorM35
import Derived.Test.YtkdlcomfpffhhaaGreatDoorM38
import Derived.Test.YtkdlcomfpffhhaaGreatDoorM7
set_option linter.unusedSimpArgs false
set_option linter.unusedVariables false
namespace Go.Proofs.YtkdlcomfpffhhaaGreatDoor
open Corb
open Go.Lib (decDigits)
set_option maxRecDepth 100000
def MK(b:UInt8):Bool:=decide (48<=b.toNat)&&decide (b.toNat<=57)
def ML(l:List UInt8):Prop:=l≠[]/\(∀b∈l,MK b=true)/\¬ (1<l.length/\l.head?=some 48)
instance (l:List UInt8):Decidable (ML l):=inferInstanceAs (Decidable (_/\_/\_))
end Go.Proofs.YtkdlcomfpffhhaaGreatDoor
set_option linter.unusedSimpArgs false
set_option linter.unusedVariables false
namespace Go.Proofs.YtkdlcomfpffhhaaGreatDoor
open Go.RowKit Corb
set_option maxRecDepth 100000
def fM(j:Nat):ByteArray:=⟨#[102,UInt8.ofNat (48+j)]⟩
end Go.Proofs.YtkdlcomfpffhhaaGreatDoor
set_option linter.unusedSimpArgs false
set_option linter.unusedVariables false
set_option maxHeartbeats 6400000
namespace Go.Proofs.YtkdlcomfpffhhaaGreatDoor
open Go.RowKit Corb
set_option maxRecDepth 100000
theorem Ma(a:ByteArray):di a.data.toList (a++(⟨#[47,120]⟩:ByteArray)).data.toList=true:=by
 unfold di;rw[a3t];refine⟨[120],?_⟩;simp
theorem Ms(a:ByteArray):a≠a++(⟨#[47,120]⟩:ByteArray):=by
 intro e;have:=congrArg ByteArray.size e;rw[a0D]at this;have:(⟨#[47,120]⟩:ByteArray).size=2:=rfl;omega
theorem Aw{l:List Fl}{f:Fl}(hf:f∈l)(e:En)(he:e.n=f.p++⟨#[47,120]⟩):dh (dJ l [e])=false:=by
 have h1:f∈dJ l [e]:=Dj hf fun x hx=>by rcases a01.1 hx with rfl;rw[he];exact Ms _
 have h2:enF e∈dJ l [e]:=Kz _ _;obtain⟨i,hi,ei⟩:=List.mem_iff_getElem.1 h1;obtain⟨k,hk,ek⟩:=List.mem_iff_getElem.1 h2;have pi:pA (dJ l [e]) i=f.p:=by unfold pA;simp[List.getD,hi,ei]
 have pk:pA (dJ l [e]) k=f.p++⟨#[47,120]⟩:=by unfold pA;simp[List.getD,hk,ek];exact he
 have hfr:mP (dJ l [e]) i=false:=wl hk (by rw[pi,pk];exact Ma _);refine BP hi ?_;unfold km;rw[hfr];simp
theorem Av{l:List Fl}(ht:dh l=true){f:Fl}(hf:f∈l)(e:En)(he:e.n=f.p++⟨#[47,120]⟩) :
  (gz [e]=⟨#[]⟩/\gp l (gz [e])=([],1))∨((gz [e]).toList≠[]/\∃c,c≠0/\gp l (gz [e])=(l,c)):=by
 by_cases hb:eK [e]=true
 ·
  right;have hz:=Jj hb;refine⟨fun h=>?_,?_⟩
  · have h0:gz [e]=⟨#[]⟩:=a2x (Array.toList_inj.1 (by rw[a06]at h;exact h));rw[h0,yD (fun h=>absurd h.1 (by decide))]at hz;cases hz
  ·
   have hu:=Aw hf e he;unfold gp;rw[hz];simp only[Option.isSome_some,a1K,a1v];rw[a0d ht]
   split
   · exact⟨4,by decide,rfl⟩
   · rw[a0e (by rw[hu];decide)];exact⟨3,by decide,rfl⟩
 ·
  left;have h0:gz [e]=⟨#[]⟩:=by simp[gz,hb]
  refine⟨h0,?_⟩;rw[h0];unfold gp;rw[yD (fun h=>absurd h.1 (by decide))];rfl
def enX(p:ByteArray):En:={ n:=p++⟨#[47,120]⟩,y:=2000,mo:=1,d:=1,h:=0,mi:=0,s:=0,t:=⟨#[]⟩ }
theorem LR{W:World}{g:Nat}{e:En}(h:Blk W g (ut e)):lF W (some ⟨g,0,none⟩) [e]:=by
 intro _;refine⟨g,0,rfl,h.1,fun i hi=>?_⟩;obtain rfl:i=0:=by simp at hi;omega
 exact Lc fun j hj=>(by
  have h1:=h.cell j ((ut e)[j]'hj) (List.getElem?_eq_getElem hj);rw[show(0+0*8+j)=j by omega,h1];exact(List.getElem?_eq_getElem (l:=ut e) hj).symm)
theorem nU(a:Option Addr)(len cap:Nat)(zs:List Int)(m:Int)(w:World)(w0:ET .u8 w a len cap zs)(hm:w.cell? ⟨2,0,none⟩=some (.int .i64 m))(hg:pq w)(hO:dk w) :
  Calls Tryz.prog 3 #[.slice a len cap] w fun e w'=>e = .returned (.bool true)/\Below w.heap.size w w':=by
 obtain⟨⟨z,hsrc⟩,hc,hlen⟩:=L2 w0;have HDr:=af (qm a len cap z w hsrc hc hlen);have CW:=af (fun W (hb:Below w.heap.size w W)=>a0b ((hb.cell (p:=⟨2,0,none⟩) (World.block_lt_of_cell? _ _ hm)).trans hm) (a0b (hg.later hb) (hO.later hb)));unfold maxLen at hlen;clear w0 hsrc hm hg hO;by_cases hl:(len:Int)<=1048576
 ·
  go_enter Tryz.func3,Tryz.ntmps3;go_wp2_with fail;refine(ae HDr).mono ?_;rintro e w1 ⟨⟨v,l,rfl,h5,ho,hv,hT⟩,hb1⟩;obtain⟨n,hn⟩:∃n,l.length=n:=⟨_,rfl⟩;obtain⟨g,tc,rfl,hcap⟩:=lf hn ho hv;rw[hn]at h5;have HB1:=af hb1;have HN:=af hn;have HTy:=af hT;have HO1:=af (fun W (hW:Below w1.heap.size w1 W)=>aY.later ho hW (a0a _));have HRow:=af (fun W (hW:Below w1.heap.size w1 W)=>(jZ hn ho).later hW);have hnI:(n:Int)<=5:=by omega
  have hcI:(n:Int)<=(tc:Int):=by omega
  have CI:=af (fun W (hW:Below w1.heap.size w1 W)=>gV (some ⟨g,0,none⟩) tc l n hn m W (ae HRow W hW) (by omega) (by omega) (jt hT hn) (ae CW W (aj (ae HB1) hW)).1);have CS:=af (fun W (hW:Below w1.heap.size w1 W)=>kF (some ⟨g,0,none⟩) tc l n hn W (ae HRow W hW) (by omega) (jt hT hn));have CT:=af (fun W (hW:Below w1.heap.size w1 W) (S:ByteArray) (hS:S.size<=4000)=>og (some ⟨g,0,none⟩) tc n l S hn m W (ae HRow W hW) (by omega) (by omega) (jt hT hn) (by omega) (ae CW W (aj (ae HB1) hW)).1 (ae CW W (aj (ae HB1) hW)).2.1 (ae CW W (aj (ae HB1) hW)).2.2);clear hb1 HDr hlen hc ho hv hT h5 hn;generalize htb:dh l=tb at *
  go_wp2_with fail;refine(ae CI w1 (a0c _ _)).mono ?_;rintro e w2 ⟨rfl,hb2⟩;have HB2:=af hb2;clear hb2;go_wp2_with fail;refine(ae CS w2 (ae HB2)).mono ?_;rintro e w3 ⟨rfl,hb3⟩;have HB3:=af (aj (ae HB2) hb3);clear hb3 HB2;cases tb
  · go_wp2_with fail;refine(ae CS w3 (ae HB3)).mono ?_;rintro e w4 ⟨rfl,hb4⟩;have HB4:=af (aj (ae HB1) (aj (ae HB3) hb4));clear hb4;go_wp2;go_ret;exact⟨rfl,ae HB4⟩
  ·
   have HU:=af (fun k (hk:k<n)=>Av htb (f:=l.getD k default) (by have:=ae HN;simp[List.getD,show k<l.length by omega]) (enX (l.getD k default).p) rfl);clear htb CI CS;go_wp2_with fail
   go_loopw [5,6,7,8] (fun i _ _ _ wr=>∃k:Nat,k<=n/\i = .int .i64 k/\Below w1.heap.size w1 wr) (fun i _ _ _ _=>n-(intOf i).toNat)
   case atStart=>exact⟨0,a0h _,rfl,ae HB3⟩
   case round=>
    obtain⟨k,hk,rfl,hbr⟩:=hrel;have HBr:=af hbr;clear hbr HB3;by_cases hlt:k<n
    ·
     have hltI:(k:Int)<(n:Int):=by omega
     have HK:=af hlt;obtain⟨c0,-⟩:=AZ (ae HN) (ae HO1 _ (ae HBr)) k hlt;have hps:=(ae HTy (l.getD k default) (by have:=ae HN;simp[List.getD,show k<l.length by omega])).1;have hu:=ae HU k hlt;have hzs:=AC [enX (l.getD k default).p];have P:=af (aR wr #[.string ((l.getD k default).p++⟨#[47,120]⟩),.int .i64 2000,.int .i64 1,.int .i64 1,.int .i64 0,.int .i64 0,.int .i64 0,.string ⟨#[]⟩] 32);have HBA:=af ((ae HBr).alloc (ae HBr).size (.cells #[.string ((l.getD k default).p++⟨#[47,120]⟩),.int .i64 2000,.int .i64 1,.int .i64 1,.int .i64 0,.int .i64 0,.int .i64 0,.string ⟨#[]⟩] 32));have hns:((l.getD k default).p++(⟨#[47,120]⟩:ByteArray)).size<=1048576:=by rw[a0D];have:(⟨#[47,120]⟩:ByteArray).size=2:=rfl;omega
     have hadd:¬ (9223372036854775807:Nat)<(l.getD k default).p.size+(⟨#[47,120]⟩:ByteArray).size:=by have:(⟨#[47,120]⟩:ByteArray).size=2:=rfl;omega
     have CP:=af (qE (some ⟨wr.heap.size,0,none⟩) 1 [enX (l.getD k default).p] 1 rfl m _ (LR (e:=enX (l.getD k default).p) (ae P)) (by omega) (by omega) (fun i hi=>by obtain rfl:i=0:=(by omega);exact⟨hns,by show((⟨#[]⟩:ByteArray).size:Int)<=_;decide⟩) (ae CW _ (aj (ae HB1) (ae HBA))).1 (ae CW _ (aj (ae HB1) (ae HBA))).2.1 (ae CW _ (aj (ae HB1) (ae HBA))).2.2);generalize gz [enX (l.getD k default).p]=S at *
     have HU1:=af hu;have HZs:=af hzs;clear hlt hk HU hu hzs hns P HTy HBr;generalize l.getD k default=f at *
     go_wp2_with fail;refine(ae CP).mono ?_;rintro e w5 ⟨rfl,hb5⟩;have HB5:=af (aj (ae HBA) hb5);clear hb5 CP HBA c0 hps hadd;have CT5:=af (ae CT w5 (ae HB5) S (ae HZs));rcases ae HU1 with⟨hS0,hte⟩|⟨hSn,c,hc,hte⟩
     ·
      subst hS0;rw[hte]at CT5;clear HU1 hte HZs;go_wp2_with fail;refine(ae CT5).mono ?_;rintro e w6 ⟨⟨v,rfl,ho6⟩,hb6⟩;obtain⟨xa,xc,rfl,_,_⟩:=aY.formN (n:=0) rfl ho6;have HB6:=af (aj (ae HB5) hb6);clear ho6 hb6 CT5;go_wp2_with fail;go_roundw
      case rel=>exact⟨k+1,by have:=ae HK;omega,by go_num,ae HB6⟩
      case measure=>have:=ae HK;simp[intOf];omega
     ·
      rw[hte]at CT5;have hc1:(c == 0)=false:=by simpa using hc
      have b1:(S.toList == ([]:List UInt8))=false:=by simpa using hSn
      have b2:(S.toList == (⟨#[]⟩:ByteArray).toList)=false:=by rw[show(⟨#[]⟩:ByteArray).toList=[]from a06 _];exact b1
      clear HU1 hte HZs;go_wp2_with fail;refine(ae CT5).mono ?_;rintro e w6 ⟨⟨v,rfl,ho6⟩,hb6⟩;obtain⟨xa,xc,rfl,_,_⟩:=aY.formN (ae HN) ho6;have HB6:=af (aj (ae HB5) hb6);have HR6:=af (jZ (ae HN) ho6);clear ho6 hb6 CT5;go_wp2_with fail;refine(vF _ _ _ _ n l _ (ae HN) (ae HR6) (ae HRow _ (ae HB6)) (by omega)).mono ?_;rintro e w7 ⟨rfl,hb7⟩;have HB7:=af (aj (ae HB6) hb7);clear hb7;go_wp2_with fail;go_roundw
      case rel=>exact⟨k+1,by have:=ae HK;omega,by go_num,ae HB7⟩
      case measure=>have:=ae HK;simp[intOf];omega
    ·
     have hltI:¬ (k:Int)<(n:Int):=by omega
     have HB5:=af (aj (ae HB1) (ae HBr));go_wp2;go_ret;exact⟨rfl,ae HB5⟩
 · go_enter Tryz.func3,Tryz.ntmps3;go_wp2;go_ret;exact⟨rfl,a0c _ _⟩
end Go.Proofs.YtkdlcomfpffhhaaGreatDoor
