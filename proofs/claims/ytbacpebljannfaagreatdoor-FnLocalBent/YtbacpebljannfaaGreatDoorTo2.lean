/- Contracts of the model's tokens of a text, over this seat's program. -/
import Derived.Test.YtbacpebljannfaaGreatDoorTo1
import Derived.Test.YtbacpebljannfaaGreatDoorM9
import Derived.Test.YtbacpebljannfaaGreatDoorM5
set_option linter.unusedSimpArgs false
set_option maxHeartbeats 6400000
namespace Go.Proofs.YtbacpebljannfaaGreatDoor
open Go.RowKit
theorem su{L:List UInt8}{p k:Nat}(h:(bh L p k).1<agN L p (k+1)):bh L p (k+1)=(agN L p (k+1),k+1):=by simp only[bh];rw[a0d h]
theorem uS{L:List UInt8}{p k:Nat}(h:¬ (bh L p k).1<agN L p (k+1)):bh L p (k+1)=bh L p k:=by simp only[bh];rw[a0e h]
set_option maxRecDepth 100000 in
theorem nB(s:ByteArray)(w:World)(hs:s.size<=100000) :
  Calls Tryz.prog 128 #[.string s] w fun e w'=>∃v,e = .returned v/\dJ w' w.heap.size v (bE s.data.toList 0)/\Below w.heap.size w w':=by
 obtain⟨i0,hi,hz0,hz1,hz2⟩:=a0x Tryz.infoTok;have hsI:(s.size:Int)<=100000:=by omega
 have HS:=af hs;have hL:=af (fA s);have hl0:dJ (w.alloc (.cells #[] 215)) w.heap.size (.slice (some ⟨w.heap.size,0,none⟩) 0 0) []:=dJ.lit _ _ (a0a _);have hb0:Below w.heap.size w (w.alloc (.cells #[] 215)):=(a0c _ _).alloc (a0a _) _;clear hs;go_enter Tryz.func128,Tryz.ntmps128;go_wp2_with fail
 go_loopw [3,4,5,6,7,8] (fun v i _ _ _ _ wr=>∃(p:Nat) (D:List Tk),p<=s.size/\i = .int .i64 p/\dJ wr w.heap.size v D/\D++bE s.data.toList p=bE s.data.toList 0/\D.length<=p/\Below w.heap.size w wr) (fun _ i _ _ _ _ _=>s.size-(intOf i).toNat)
 case atStart=>exact⟨0,[],a0m _,rfl,hl0,rfl,a0a _,hb0⟩
 case round=>
  obtain⟨p,D,hp,rfl,hq,hD,hDl,hbel⟩:=hrel;clear hl0 hb0;obtain⟨va,vc,rfl⟩:=hq.form;by_cases hlt:p<s.size
  ·
   have hltI:(p:Int)<(s.size:Int):=by omega
   have HQ:=af (a0b hq (a0b hD (a0b hDl (a0b hbel hp))));clear hq hD hDl hbel hp;go_wp2_with fail
   go_loopw [5,6,7,8] (fun lo fa ba _ wq=>∃k:Nat,k<=min p 250/\ba = .int .i64 ((k:Int)+1)/\lo = .int .i64 ((bh s.data.toList p k).1:Nat)/\fa = .int .i64 ((bh s.data.toList p k).2:Nat)/\Below wr.heap.size wr wq) (fun _ _ ba _ _=>252-(intOf ba).toNat)
   case atStart=>exact⟨0,a0m _,rfl,rfl,rfl,a0c _ _⟩
   case round=>
    obtain⟨k,hk,rfl,rfl,rfl,hbq⟩:=hrel;have hbd:=(kp s.data.toList p k).1;have HK:=af hk;have hbI:((bh s.data.toList p k).1:Int)<=60:=by omega
    obtain⟨b,hb⟩:∃b:Nat,k+1=b:=⟨_,rfl⟩;have hbbI:(k:Int)+1=(b:Int):=by omega
    have HB:=af hb;by_cases h250:(b:Int)<=250
    ·
     by_cases hbp:(b:Int)<=(p:Int)
     ·
      have HA:=af (vQ s p b wr (by have:=ae HS;omega) (by omega) (by omega) (by omega));have hyes:=af (fun h=>su (L:=s.data.toList) (p:=p) (k:=k) h);have hno:=af (fun h=>uS (L:=s.data.toList) (p:=p) (k:=k) h);have hag:=xB s.data.toList p b;have hagI:(agN s.data.toList p b:Int)<=60:=by omega
      rw[hb]at hyes hno;clear hk hbd hb hag;generalize bh s.data.toList p k=B at *
      obtain⟨B1,B2⟩:=B;simp only at hbI hyes hno ⊢;generalize agN s.data.toList p b=A at *
      by_cases hc:B1<A
      ·
       have hcI:(B1:Int)<(A:Int):=by omega
       have e1:=af (ae hyes hc);clear hyes hno hc;go_wp2_with fail;refine(ae HA).mono ?_;rintro e x1 ⟨rfl,hb1⟩;go_wp2;go_roundw
       case rel=>exact⟨k+1,by have:=ae HB;omega,by have:=ae HB;go_num,by have:=ae HB;rw[this,ae e1],by have:=ae HB;rw[this,ae e1],al hbq hb1⟩
       case measure=>simp[intOf];omega
      ·
       have hcI:¬ (B1:Int)<(A:Int):=by omega
       have e1:=af (ae hno hc);clear hyes hno hc;go_wp2_with fail;refine(ae HA).mono ?_;rintro e x1 ⟨rfl,hb1⟩;go_wp2;go_roundw
       case rel=>exact⟨k+1,by have:=ae HB;omega,by have:=ae HB;go_num,by have:=ae HB;rw[this,ae e1],by have:=ae HB;rw[this,ae e1],al hbq hb1⟩
       case measure=>simp[intOf];omega
     ·
      have hbp':¬ (b:Int)<=(p:Int):=hbp;have hkm:Hid (k=min p 250):=by show k=min p 250;have:=ae HK;have:=ae HB;omega
      have hst:=af (iq (L:=s.data.toList) (p:=p) (by rw[ae hL];exact hlt));have hsi:=af (uH (L:=s.data.toList) (p:=p) (by rw[ae hL];exact hlt));have htk:Hid (er s.data.toList p=if (bh s.data.toList p k).1<3 then(((s.data.toList.getD p 0).toNat:Int),0,0)else(0,((bh s.data.toList p k).1:Int),((bh s.data.toList p k).2:Int))):=by show _=_;unfold er;rw[ae hkm]
      have hsz:Hid (gz s.data.toList p=if (bh s.data.toList p k).1<3 then 1 else(bh s.data.toList p k).1):=by show _=_;unfold gz;rw[ae hkm]
      have hgx:=af (mV s p hlt);have hx256:(s[p].toNat:Int)<256:=by have:=a2a s[p];omega
      have hq':=af ((ae HQ).1.later hbq (a0a _));have hB':=af (al (ae HQ).2.2.2.1 hbq);have hbs:=(ae hB').size;have bd:Hid (D.length+1<=maxLen/\(D.length+1)*24<=140737488355328):=by show _/\_;have:=(ae HQ).2.2.1;have:=ae HS;unfold maxLen;omega
      clear hk hbd hb;generalize bh s.data.toList p k=B at *
      obtain⟨B1,B2⟩:=B;simp only at hbI htk hsz ⊢;by_cases hc:B1<3
      ·
       have hcI:(B1:Int)<3:=by omega
       have e1:Hid (er s.data.toList p=((s[p].toNat:Int),0,0)):=by show _=_;rw[ae htk,a0d hc,ae hgx]
       have e2:Hid (gz s.data.toList p=1):=by show _=_;rw[ae hsz,a0d hc]
       clear hc htk hsz;go_wp2_with (at_builtin;refine a0A _ rfl _ _ 171 rfl w.heap.size 215 i0 (.agg #[.int .i64 0,.int .i64 0,.int .i64 0]) 3 24 a3j hi hz0 hz1 hz2 rfl (by decide) _ _ _ rfl (a0p (ae hq') _) ⟨wr.heap.size,0,none⟩ 1 1 [.int .i64 (s[p].toNat:Int),.int .i64 0,.int .i64 0] rfl rfl (ui _ _ _ _ _ _ rfl) (uj _ _ _) (ae bd).1 (ae bd).2 (ay hbs _) ?_;intro v' x2 hown hgrow hnil;clear hnil);have hb2:=aF (v:=.slice va D.length vc) hgrow (ae hq') (a0a _) hbs (ae hB');have hq2:=lL rfl hown;rw[←ae e1]at hq2;clear hown hgrow;go_wp2;go_roundw
       case rel=>
        obtain⟨_,hD,hDl,_,hp⟩:=ae HQ;have h1:=ae hsi;have h2:=ae e2;rw[h2,ae hL]at h1;refine⟨p+1,D++[er s.data.toList p],h1,by go_num,hq2,?_,by rw[a0l,a1b];omega,hb2⟩;rw[←hD,ae hst,h2,a0W];rfl
       case measure=>simp[intOf];omega
      ·
       have hcI:¬ (B1:Int)<3:=by omega
       have e1:Hid (er s.data.toList p=(0,(B1:Int),(B2:Int))):=by show _=_;rw[ae htk,a0e hc]
       have e2:Hid (gz s.data.toList p=B1):=by show _=_;rw[ae hsz,a0e hc]
       have Hc:=af hc;clear hc htk hsz;go_wp2_with (at_builtin;refine a0A _ rfl _ _ 171 rfl w.heap.size 215 i0 (.agg #[.int .i64 0,.int .i64 0,.int .i64 0]) 3 24 a3j hi hz0 hz1 hz2 rfl (by decide) _ _ _ rfl (a0p (ae hq') _) ⟨wr.heap.size,0,none⟩ 1 1 [.int .i64 0,.int .i64 (B1:Int),.int .i64 (B2:Int)] rfl rfl (ui _ _ _ _ _ _ rfl) (uj _ _ _) (ae bd).1 (ae bd).2 (ay hbs _) ?_;intro v' x2 hown hgrow hnil;clear hnil);have hb2:=aF (v:=.slice va D.length vc) hgrow (ae hq') (a0a _) hbs (ae hB');have hq2:=lL rfl hown;rw[←ae e1]at hq2;clear hown hgrow;go_wp2;go_roundw
       case rel=>
        obtain⟨_,hD,hDl,_,hp⟩:=ae HQ;have h1:=ae hsi;have h2:=ae e2;have h3:=ae Hc;rw[h2,ae hL]at h1;refine⟨p+B1,D++[er s.data.toList p],h1,by go_num,hq2,?_,by rw[a0l,a1b];omega,hb2⟩;rw[←hD,ae hst,h2,a0W];rfl
       case measure=>have h3:=ae Hc;simp[intOf];omega
    ·
     have h250':¬ (b:Int)<=250:=h250;have hkm:Hid (k=min p 250):=by show k=min p 250;have:=ae HK;have:=ae HB;omega
     have hst:=af (iq (L:=s.data.toList) (p:=p) (by rw[ae hL];exact hlt));have hsi:=af (uH (L:=s.data.toList) (p:=p) (by rw[ae hL];exact hlt));have htk:Hid (er s.data.toList p=if (bh s.data.toList p k).1<3 then(((s.data.toList.getD p 0).toNat:Int),0,0)else(0,((bh s.data.toList p k).1:Int),((bh s.data.toList p k).2:Int))):=by show _=_;unfold er;rw[ae hkm]
     have hsz:Hid (gz s.data.toList p=if (bh s.data.toList p k).1<3 then 1 else(bh s.data.toList p k).1):=by show _=_;unfold gz;rw[ae hkm]
     have hgx:=af (mV s p hlt);have hx256:(s[p].toNat:Int)<256:=by have:=a2a s[p];omega
     have hq':=af ((ae HQ).1.later hbq (a0a _));have hB':=af (al (ae HQ).2.2.2.1 hbq);have hbs:=(ae hB').size;have bd:Hid (D.length+1<=maxLen/\(D.length+1)*24<=140737488355328):=by show _/\_;have:=(ae HQ).2.2.1;have:=ae HS;unfold maxLen;omega
     clear hk hbd hb;generalize bh s.data.toList p k=B at *
     obtain⟨B1,B2⟩:=B;simp only at hbI htk hsz ⊢;by_cases hc:B1<3
     ·
      have hcI:(B1:Int)<3:=by omega
      have e1:Hid (er s.data.toList p=((s[p].toNat:Int),0,0)):=by show _=_;rw[ae htk,a0d hc,ae hgx]
      have e2:Hid (gz s.data.toList p=1):=by show _=_;rw[ae hsz,a0d hc]
      clear hc htk hsz;go_wp2_with (at_builtin;refine a0A _ rfl _ _ 171 rfl w.heap.size 215 i0 (.agg #[.int .i64 0,.int .i64 0,.int .i64 0]) 3 24 a3j hi hz0 hz1 hz2 rfl (by decide) _ _ _ rfl (a0p (ae hq') _) ⟨wr.heap.size,0,none⟩ 1 1 [.int .i64 (s[p].toNat:Int),.int .i64 0,.int .i64 0] rfl rfl (ui _ _ _ _ _ _ rfl) (uj _ _ _) (ae bd).1 (ae bd).2 (ay hbs _) ?_;intro v' x2 hown hgrow hnil;clear hnil);have hb2:=aF (v:=.slice va D.length vc) hgrow (ae hq') (a0a _) hbs (ae hB');have hq2:=lL rfl hown;rw[←ae e1]at hq2;clear hown hgrow;go_wp2;go_roundw
      case rel=>
       obtain⟨_,hD,hDl,_,hp⟩:=ae HQ;have h1:=ae hsi;have h2:=ae e2;rw[h2,ae hL]at h1;refine⟨p+1,D++[er s.data.toList p],h1,by go_num,hq2,?_,by rw[a0l,a1b];omega,hb2⟩;rw[←hD,ae hst,h2,a0W];rfl
      case measure=>simp[intOf];omega
     ·
      have hcI:¬ (B1:Int)<3:=by omega
      have e1:Hid (er s.data.toList p=(0,(B1:Int),(B2:Int))):=by show _=_;rw[ae htk,a0e hc]
      have e2:Hid (gz s.data.toList p=B1):=by show _=_;rw[ae hsz,a0e hc]
      have Hc:=af hc;clear hc htk hsz;go_wp2_with (at_builtin;refine a0A _ rfl _ _ 171 rfl w.heap.size 215 i0 (.agg #[.int .i64 0,.int .i64 0,.int .i64 0]) 3 24 a3j hi hz0 hz1 hz2 rfl (by decide) _ _ _ rfl (a0p (ae hq') _) ⟨wr.heap.size,0,none⟩ 1 1 [.int .i64 0,.int .i64 (B1:Int),.int .i64 (B2:Int)] rfl rfl (ui _ _ _ _ _ _ rfl) (uj _ _ _) (ae bd).1 (ae bd).2 (ay hbs _) ?_;intro v' x2 hown hgrow hnil;clear hnil);have hb2:=aF (v:=.slice va D.length vc) hgrow (ae hq') (a0a _) hbs (ae hB');have hq2:=lL rfl hown;rw[←ae e1]at hq2;clear hown hgrow;go_wp2;go_roundw
      case rel=>
       obtain⟨_,hD,hDl,_,hp⟩:=ae HQ;have h1:=ae hsi;have h2:=ae e2;have h3:=ae Hc;rw[h2,ae hL]at h1;refine⟨p+B1,D++[er s.data.toList p],h1,by go_num,hq2,?_,by rw[a0l,a1b];omega,hb2⟩;rw[←hD,ae hst,h2,a0W];rfl
      case measure=>have h3:=ae Hc;simp[intOf];omega
  ·
   have hltI:¬ (p:Int)<(s.size:Int):=by omega
   have e0:bE s.data.toList p=[]:=gX (by rw[ae hL];exact hlt);rw[e0,a1l]at hD;have HD:=af hD;clear hD e0;go_wp2;go_ret;exact⟨_,rfl,by rw[←ae HD];exact hq,hbel⟩
end Go.Proofs.YtbacpebljannfaaGreatDoor
