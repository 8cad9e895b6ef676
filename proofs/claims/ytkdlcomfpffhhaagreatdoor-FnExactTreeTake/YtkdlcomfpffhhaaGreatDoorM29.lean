/- Of what the proof is made: 3 texts, one behind the other. -/
import Derived.Test.YtkdlcomfpffhhaaGreatDoorM26
import Derived.Test.YtkdlcomfpffhhaaGreatDoorM24
import Derived.Lib.QuietBelow
import Derived.Laws.Cover1
import Derived.BigQuiet
import Derived.Deep.RegionWith
namespace Go.Proofs.YtkdlcomfpffhhaaGreatDoor
open Go.RowKit
def FSmall (l:List Fl) (n:Nat):Prop:=∀ i,i<n→(pA l i).size≤1048576∧((l.getD i default).t.size:Int)≤9223372036854775807
theorem fbox {w w1:World} {x y:Value} {t:TypeId} (hb:Below (w.alloc (.cells #[x,y] t)).heap.size (w.alloc (.cells #[x,y] t)) w1):w1.cell? ⟨w.heap.size,0,none⟩=some x∧w1.cell? ⟨w.heap.size,1,none⟩=some y∧w.heap.size<w1.heap.size∧Below w.heap.size w w1:=by
 have hz:w.heap.size<(w.alloc (.cells #[x,y] t)).heap.size:=by simp
 exact ⟨(hb.cell (p:=⟨w.heap.size,0,none⟩) hz).trans (by simp),(hb.cell (p:=⟨w.heap.size,1,none⟩) hz).trans (by simp),Nat.lt_of_lt_of_le hz hb.size,((Below.refl _ _).alloc (Nat.le_refl _) _).trans (hb.mono (by simp))⟩
set_option maxHeartbeats 4000000 in
theorem implTreeOk_any (a:Option Addr) (cap:Nat) (l:List Fl) (n:Nat) (hn:l.length=n) (m:Int) (w:World) (h:FRow w a l) (hl:(n:Int)≤1048576) (hcap:(n:Int)≤(cap:Int)) (hs:FSmall l n)
  (hm:w.cell? ⟨2,0,none⟩=some (.int .i64 m)) :
  Calls Tryz.prog 7 #[.slice a n cap] w fun e w'=>e = .returned (.bool (treeB l))∧Below w.heap.size w w':=by
 have HS:=hide hs
 have HR:=hide h
 have HTN:=hide (fun i (hi:i<l.length)=>@treeI_no l i hi)
 have HTY:=hide (@treeI_yes l)
 have HON:=hide (fun i j (hj:j<i)=>@oneI_no l i j hj)
 have HOY:=hide (fun i=>@oneI_yes l i)
 have HSelf:Hid (∀ i,selfT l i=(nameB (pA l i).data.toList&&decide ((l.getD i default).t.size≤300))):=fun _=>rfl
 have HSN:Hid (∀ i,selfT l i=false→oneQ l i=false):=fun i e=>by show oneQ l i=false; unfold oneQ; rw [e]; rfl
 have HPair:Hid (∀ i j,pairI l i j=((ltP (pA l j) (pA l i) || (pA l j).toList == (pA l i).toList)&&!clashL (pA l j).data.toList (pA l i).data.toList)):=fun _ _=>rfl
 rw [hn] at HTN HTY
 have HN:=hide hn
 have CM:=hide (fun W (hb:Below w.heap.size w W)=>(hb.cell (p:=⟨2,0,none⟩) (World.block_lt_of_cell? _ _ hm)).trans hm)
 clear h hs hn hm
 by_cases h8:(n:Int)≤8
 ·
  go_enter Tryz.func7,Tryz.ntmps7
  go_wp2_with fail
  go_loopw [3,4,6,12] (fun _ _ _ i wr=>∃ k:Nat,k≤n∧i = .int .i64 k∧(∀ j,j<k→oneQ l j=true)∧Below w.heap.size w wr) (fun _ _ _ i _=>n-(intOf i).toNat)
  case atStart=>exact ⟨0,Nat.zero_le _,rfl,fun j hj=>absurd hj (by omega),Below.refl _ _⟩
  case round=>
   obtain ⟨k,hk,rfl,hall,hbel⟩:=hrel
   have HALL:=hide hall
   have HBel:=hide hbel
   clear hall hbel
   by_cases hkn:k<n
   ·
    have hkI:(k:Int)<(n:Int):=by omega
    have hkc:(k:Int)≤(cap:Int):=by omega
    obtain ⟨g,o,rfl,hg,hc⟩:=(unhide HR).later (unhide HBel) (by have:=unhide HN; omega)
    obtain ⟨c0,c1⟩:=hc k (by have:=unhide HN; omega)
    have HKN:=hide hkn
    have HSk:=hide (unhide HS k hkn)
    have HTk:=hide (unhide HTN k hkn)
    have HSelfk:=hide (unhide HSelf k)
    have HSNk:=hide (unhide HSN k)
    have HONk:=hide (unhide HON k)
    have HOYk:=hide (unhide HOY k)
    have HNX:Hid (oneQ l k=true→∀ j,j<k+1→oneQ l j=true):=by
     intro e j hj
     by_cases hjk:j=k
     ·
      rw [hjk]; exact e
     ·
      exact unhide HALL j (by omega)
    have HCl:=hide (fun j (hj:j<n) W=>namesClash_any (pA l j) (pA l k) W (by have:=(unhide HS j hj).1; omega) (by have:=(unhide HS k hkn).1; omega))
    have HNm:Hid (∀ W,Below w.heap.size w W→∀ j,j<n→FlAt W g (o+j*2) (l.getD j default)):=by
     intro W hW j hj
     exact ((unhide HR).later hW).at j (by have:=unhide HN; omega)
    have HPk:=hide (unhide HPair k)
    have e0:(l.getD k default).p=pA l k:=rfl
    rw [e0] at c0
    have htI:=(unhide HSk).2
    clear hc hk HALL hkn e0
    generalize hT:(l.getD k default).t=T at *
    generalize hP:pA l k=P at *
    clear hT hP
    go_wp2_with fail
    refine (implNameOk_any P m _ (unhide HSk).1 (unhide CM _ ((unhide HBel).alloc (unhide HBel).size _))).mono ?_
    rintro e x1 ⟨rfl,hb1⟩
    obtain ⟨b0,b1,hbz,hb2⟩:=fbox hb1
    have HB1:=hide (bnext (unhide HBel) hb2)
    clear hb1 hb2
    generalize wr.heap.size=B at *
    cases hnm:nameB P.data.toList
    ·
     have HP:=hide (unhide HTk (unhide HSNk (by rw [unhide HSelfk,hnm]; rfl)))
     go_wp2
     go_ret
     exact ⟨ret_bool (unhide HP).symm,unhide HB1⟩
    ·
     by_cases h300:(T.size:Int)≤300
     ·
      have HSelfT:Hid (selfT l k=true):=by show selfT l k=true; rw [unhide HSelfk,hnm]; simp; omega
      go_wp2_with fail
      go_loopw [6,31] (fun _ q wq=>∃ r:Nat,r≤k∧q = .int .i64 r∧(∀ j,j<r→pairI l k j=true)∧wq.cell? ⟨B,0,none⟩=some (.string P)∧B<wq.heap.size∧Below w.heap.size w wq) (fun _ q _=>k-(intOf q).toNat)
      case atStart=>exact ⟨0,Nat.zero_le _,rfl,fun j hj=>absurd hj (by omega),b0,hbz,unhide HB1⟩
      case round=>
       obtain ⟨r,hr,rfl,hfr,d0,dz,hbq⟩:=hrel
       have HFR:=hide hfr
       have HBQ:=hide hbq
       clear hfr hbq b0 b1 hbz
       by_cases hrk:r<k
       ·
        have hrI:(r:Int)<(k:Int):=by omega
        obtain ⟨p0,p1⟩:=unhide HNm _ (unhide HBQ) r (by have:=unhide HKN; omega)
        have HClr:=hide (unhide HCl r (by have:=unhide HKN; omega))
        have HPr:=hide (unhide HPk r)
        have HOr:=hide (unhide HONk r hrk)
        have HRK:=hide hrk
        have HFX:Hid (pairI l k r=true→∀ j,j<r+1→pairI l k j=true):=by
         intro e j hj
         by_cases hjm:j=r
         ·
          rw [hjm]; exact e
         ·
          exact unhide HFR j (by omega)
        have e1:(l.getD r default).p=pA l r:=rfl
        rw [e1] at p0
        clear hr HFR e1
        generalize pA l r=R at *
        generalize (l.getD r default).t=U at *
        clear c0 c1
        have HB3:=hide ((unhide HBQ).alloc (unhide HBQ).size (.cells #[.string R,.string U] 28))
        have dA:(wr.alloc (.cells #[.string R,.string U] 28)).cell? ⟨B,0,none⟩=some (.string P):=by rw [World.cell?_alloc_past _ _ _ dz]; exact d0
        have dB:B<(wr.alloc (.cells #[.string R,.string U] 28)).heap.size:=by simp; omega
        have HD:=hide (And.intro dA dB)
        clear dA dB
        cases h1:Op.bytesLess R.toList P.toList
        ·
         by_cases h2:R.toList=P.toList
         ·
          have h2b:(R.toList == P.toList)=true:=by simpa using h2
          have HC:Hid (clashL R.data.toList P.data.toList=true):=by
           show clashL R.data.toList P.data.toList=true
           unfold clashL
           rw [list_of_ba.1 h2]; simp
          have HP:=hide (unhide HTk (unhide HOr (by rw [unhide HPr,unhide HC]; simp)))
          clear h2
          go_wp2_with fail
          refine (unhide HClr _).mono ?_
          rintro e x2 ⟨rfl,hb3⟩
          rw [hb3,unhide HC]
          clear hb3
          go_wp2
          go_ret
          exact ⟨ret_bool (unhide HP).symm,unhide HB3⟩
         ·
          have h2b:(R.toList == P.toList)=false:=by simpa using h2
          have HP:=hide (unhide HTk (unhide HOr (by rw [unhide HPr]; unfold ltP; rw [h1,h2b]; rfl)))
          go_wp2
          go_ret
          exact ⟨ret_bool (unhide HP).symm,unhide HB3⟩
        ·
         have HL:Hid (ltP R P=true):=h1
         go_wp2_with fail
         refine (unhide HClr _).mono ?_
         rintro e x2 ⟨rfl,hb3⟩
         rw [hb3]
         clear hb3
         cases hcl:clashL R.data.toList P.data.toList
         ·
          have HX:=hide (unhide HFX (by rw [unhide HPr,unhide HL,hcl]; rfl))
          go_wp2
          go_roundw
          case rel=>exact ⟨r+1,by have:=unhide HRK; omega,by go_num,unhide HX,(unhide HD).1,(unhide HD).2,unhide HB3⟩
          case measure=>have:=unhide HRK; simp [intOf]; omega
         ·
          have HP:=hide (unhide HTk (unhide HOr (by rw [unhide HPr,hcl]; simp)))
          go_wp2
          go_ret
          exact ⟨ret_bool (unhide HP).symm,unhide HB3⟩
       ·
        obtain rfl:r=k:=by omega
        have HX:=hide (unhide HNX ((unhide HOYk (unhide HFR)).trans (unhide HSelfT)))
        go_wp2
        go_roundw
        case rel=>exact ⟨r+1,by have:=unhide HKN; omega,by go_num,unhide HX,unhide HBQ⟩
        case measure=>have:=unhide HKN; simp [intOf]; omega
     ·
      have h300':¬ T.size≤300:=by omega
      have HP:=hide (unhide HTk (unhide HSNk (by rw [unhide HSelfk,hnm]; simp; omega)))
      go_wp2
      go_ret
      exact ⟨ret_bool (unhide HP).symm,unhide HB1⟩
   ·
    obtain rfl:k=n:=by omega
    have HP:=hide (unhide HTY (unhide HALL))
    go_wp2
    go_ret
    exact ⟨ret_bool (by rw [unhide HP]; simp; omega),unhide HBel⟩
 ·
  have HP:Hid (treeB l=false):=by
   show treeB l=false
   unfold treeB
   rw [unhide HN]
   have:decide (n≤8)=false:=by simp; omega
   rw [this]; simp
  go_enter Tryz.func7,Tryz.ntmps7
  go_wp2
  go_ret
  exact ⟨ret_bool (unhide HP).symm,Below.refl _ _⟩
set_option maxRecDepth 100000 in
set_option maxHeartbeats 1000000 in
theorem specTreeOk_any (a:Option Addr) (cap:Nat) (l:List Fl) (n:Nat) (hn:l.length=n) (w:World) (h:FRow w a l) (hl:(n:Int)≤1048576) (hs:FSmall l n) :
  Calls Tryz.prog 8 #[.slice a n cap] w fun e w'=>e = .returned (.bool (treeB l))∧Below w.heap.size w w':=by
 have hmix:Tryz.prog.follows .mixedOrders=true:=by kernel_rfl
 have HS:=hide hs
 have HR:=hide h
 have HTN:=hide (fun i (hi:i<l.length)=>@tree_no l i hi)
 have HTY:=hide (@tree_yes l)
 have HFN:=hide (fun i k (hk:k<l.length)=>@freeT_no l i k hk)
 have HFY:=hide (fun i=>@freeT_yes l i)
 rw [hn] at HTN HTY HFN HFY
 have HOne:Hid (∀ i,oneT l i=((nameB (pA l i).data.toList&&decide ((l.getD i default).t.size≤300))&&(upT l i&&freeT l i))):=fun _=>rfl
 have HUp0:Hid (upT l 0=true):=rfl
 have HUp1:Hid (∀ k' k,k=k'+1→upT l k=ltP (pA l k') (pA l k)):=by
  intro k' k e
  subst e
  simp [upT]
 have HN:=hide hn
 clear h hs hn
 go_enter Tryz.func8,Tryz.ntmps8
 go_wp2_with fail
 go_loopw [3,4] (fun i _ wr=>∃ k:Nat,k≤n∧i = .int .i64 k∧(∀ j,j<k→oneT l j=true)∧Below w.heap.size w wr) (fun i _ _=>n-(intOf i).toNat)
 case atStart=>exact ⟨0,Nat.zero_le _,rfl,fun j hj=>absurd hj (by omega),Below.refl _ _⟩
 case round=>
  obtain ⟨k,hk,rfl,hall,hbel⟩:=hrel
  have HALL:=hide hall
  have HBel:=hide hbel
  clear hall hbel
  by_cases hkn:k<n
  ·
   have hkI:(k:Int)<(n:Int):=by omega
   obtain ⟨g,o,rfl,hg,hc⟩:=(unhide HR).later (unhide HBel) (by have:=unhide HN; omega)
   have HKN:=hide hkn
   have HNm:Hid (∀ W,Below w.heap.size w W→∀ j,j<n→FlAt W g (o+j*2) (l.getD j default)):=by
    intro W hW j hj
    exact ((unhide HR).later hW).at j (by have:=unhide HN; omega)
   have HPS:=hide (unhide HS k hkn).1
   have HTk:=hide (unhide HTN k hkn)
   have HOk:=hide (unhide HOne k)
   have HFNk:=hide (unhide HFN k)
   have HFYk:=hide (unhide HFY k)
   have HUn:=hide (fun j (hj:j<n) W=>l7Under_any (pA l k) (pA l j) W (by have:=(unhide HS k hkn).1; omega) (by have:=(unhide HS j hj).1; omega))
   have HNX:Hid (oneT l k=true→∀ j,j<k+1→oneT l j=true):=by
    intro e j hj
    by_cases hjk:j=k
    ·
     rw [hjk]; exact e
    ·
     exact unhide HALL j (by omega)
   have htI:=(unhide HS k hkn).2
   have ck:=cell_regrown (show wr.cell? ⟨g,o+k*2,none⟩=some (.string (pA l k)) from (unhide HNm wr (unhide HBel) k hkn).1)
   have ct:=cell_regrown (unhide HNm wr (unhide HBel) k hkn).2
   have cN:=fun d os=>Calls.regrown_of (w:=wr) (d:=d) (os:=os) (specNameOk_any (pA l k) _ (unhide HPS))
   clear hc hk HALL hkn HPS
   generalize hT:(l.getD k default).t=T at *
   generalize hP:pA l k=P at *
   have HPP:=hide hP
   clear hT hP
   cases hnm:nameB P.data.toList
   ·
    have HP:=hide (unhide HTk (by rw [unhide HOk,hnm]; rfl))
    rw [hnm] at cN
    go_wp2_with fail
    refine wp_region_quiet_below hmix (by kernel_rfl) ?_
    repeat (first | go_big_quiet_step (exact cN _ _) | quiet_step (exact cN _ _))
    refine wpQuiet_nil ?_
    intro zw hw'
    obtain ⟨⟨dq,osq⟩,hw2⟩:=hw'
    have HZ:=below_regrown wr dq osq
    rw [←hw2] at HZ
    have BZ:=hide (bnext (unhide HBel) HZ)
    clear hw2 HZ ck ct cN
    go_wp2
    go_ret
    exact ⟨ret_bool (unhide HP).symm,unhide BZ⟩
   ·
    rw [hnm] at cN
    by_cases h300:(T.size:Int)≤300
    ·
     have d300:decide ((300:Int)<(T.size:Int))=false:=by simp; omega
     have HSelf:Hid ((nameB P.data.toList&&decide (T.size≤300))=true):=by
      show _=true
      rw [hnm]; simp; omega
     have HOk2:Hid (oneT l k=(upT l k&&freeT l k)):=by
      show oneT l k=_
      rw [unhide HOk,unhide HSelf]; rfl
     clear HOk HSelf
     by_cases hk0:k=0
     ·
      have HUp:Hid (upT l k=true):=by rw [hk0]; exact unhide HUp0
      have hz:¬ (0:Int)<(k:Int):=by omega
      have hzd:decide ((0:Int)<(k:Int))=false:=by simp; omega
      have hzn:decide (0<k)=false:=by simp; omega
      clear hk0
      go_wp2_with fail
      refine wp_region_quiet_below hmix (by kernel_rfl) ?_
      repeat (first | go_big_quiet_step (exact cN _ _) | quiet_step (exact cN _ _))
      refine wpQuiet_nil ?_
      intro zw hw'
      obtain ⟨⟨dq,osq⟩,hw2⟩:=hw'
      have HZ:=below_regrown wr dq osq
      rw [←hw2] at HZ
      have BZ:=hide (bnext (unhide HBel) HZ)
      clear hw2 HZ ck ct cN
      go_wp2_with fail
      go_loopw [4] (fun q wr=>∃ m:Nat,m≤n∧q = .int .i64 m∧(∀ j,j<m→undL P.data.toList (pA l j).data.toList=false)∧Below w.heap.size w wr) (fun q _=>n-(intOf q).toNat)
      case atStart=>exact ⟨0,Nat.zero_le _,rfl,fun j hj=>absurd hj (by omega),unhide BZ⟩
      case round=>
       obtain ⟨m,hm,rfl,hfr,hbel⟩:=hrel
       have HFR:=hide hfr
       have HB2:=hide hbel
       clear hfr hbel
       by_cases hmn:m<n
       ·
        have hmI:(m:Int)<(n:Int):=by omega
        have d0:=(unhide HNm _ (unhide HB2) k (unhide HKN)).1
        rw [show (l.getD k default).p=P from unhide HPP] at d0
        have d1:=(unhide HNm _ (unhide HB2) m hmn).1
        rw [show (l.getD m default).p=pA l m from rfl] at d1
        have HU1:=hide (unhide HUn m hmn)
        have HFm:=hide (unhide HFNk m hmn)
        have HMN:=hide hmn
        have HFX:Hid (undL P.data.toList (pA l m).data.toList=false→∀ j,j<m+1→undL P.data.toList (pA l j).data.toList=false):=by
         intro e j hj
         by_cases hjm:j=m
         ·
          rw [hjm]; exact e
         ·
          exact unhide HFR j (by omega)
        clear hm HFR
        cases hu:undL P.data.toList (pA l m).data.toList
        ·
         have HX:=hide (unhide HFX hu)
         rw [hu] at HU1
         go_wp2_with fail
         go_quiet ((go_at_call 28; exact Calls.quiet_of_same (unhide HU1 _)))
         go_wp2
         go_roundw
         case rel=>exact ⟨m+1,by have:=unhide HMN; omega,by go_num,unhide HX,below_drewN (unhide HB2) _⟩
         case measure=>have:=unhide HMN; simp [intOf]; omega
        ·
         have HP:=hide (unhide HTk (by rw [unhide HOk2,unhide HFm hu]; simp))
         rw [hu] at HU1
         go_wp2_with fail
         go_quiet ((go_at_call 28; exact Calls.quiet_of_same (unhide HU1 _)))
         go_wp2
         go_ret
         exact ⟨ret_bool (unhide HP).symm,below_drewN (unhide HB2) _⟩
       ·
        obtain rfl:m=n:=by omega
        have HX:=hide (unhide HNX (by rw [unhide HOk2,unhide HUp,unhide HFYk (unhide HFR)]; rfl))
        go_wp2
        go_roundw
        case rel=>exact ⟨k+1,by have:=unhide HKN; omega,by go_num,unhide HX,unhide HB2⟩
        case measure=>have:=unhide HKN; simp [intOf]; omega
     ·
      obtain ⟨k',hk'⟩:∃ k',k=k'+1:=⟨k-1,by omega⟩
      have hz:(0:Int)<(k:Int):=by omega
      have hzn:decide (0<k)=true:=by simp; omega
      have hkm:(k:Int)-1=(k':Int):=by omega
      have hkmI:(k':Int)<(n:Int):=by omega
      have HUk:=hide ((unhide HUp1) k' k hk')
      rw [unhide HPP] at HUk
      have cq:=cell_regrown (show wr.cell? ⟨g,o+k'*2,none⟩=some (.string (pA l k')) from (unhide HNm wr (unhide HBel) k' (by have:=unhide HKN; omega)).1)
      clear hk0 hk'
      generalize pA l k'=Q at *
      cases hlt:Op.bytesLess Q.toList P.toList
      ·
       have HP:=hide (unhide HTk (by rw [unhide HOk2,unhide HUk]; unfold ltP; rw [hlt]; rfl))
       go_wp2_with fail
       refine wp_region_quiet_below hmix (by kernel_rfl) ?_
       repeat (first | go_big_quiet_step (exact cN _ _) | quiet_step (exact cN _ _))
       refine wpQuiet_nil ?_
       intro zw hw'
       obtain ⟨⟨dq,osq⟩,hw2⟩:=hw'
       have HZ:=below_regrown wr dq osq
       rw [←hw2] at HZ
       have BZ:=hide (bnext (unhide HBel) HZ)
       clear hw2 HZ ck ct cN cq
       go_wp2
       go_ret
       exact ⟨ret_bool (unhide HP).symm,unhide BZ⟩
      ·
       have HUp:Hid (upT l k=true):=by show upT l k=true; rw [unhide HUk]; exact hlt
       go_wp2_with fail
       refine wp_region_quiet_below hmix (by kernel_rfl) ?_
       repeat (first | go_big_quiet_step (exact cN _ _) | quiet_step (exact cN _ _))
       refine wpQuiet_nil ?_
       intro zw hw'
       obtain ⟨⟨dq,osq⟩,hw2⟩:=hw'
       have HZ:=below_regrown wr dq osq
       rw [←hw2] at HZ
       have BZ:=hide (bnext (unhide HBel) HZ)
       clear hw2 HZ ck ct cN cq
       clear hkm hkmI hlt
       go_wp2_with fail
       go_loopw [4] (fun q wr=>∃ m:Nat,m≤n∧q = .int .i64 m∧(∀ j,j<m→undL P.data.toList (pA l j).data.toList=false)∧Below w.heap.size w wr) (fun q _=>n-(intOf q).toNat)
       case atStart=>exact ⟨0,Nat.zero_le _,rfl,fun j hj=>absurd hj (by omega),unhide BZ⟩
       case round=>
        obtain ⟨m,hm,rfl,hfr,hbel⟩:=hrel
        have HFR:=hide hfr
        have HB2:=hide hbel
        clear hfr hbel
        by_cases hmn:m<n
        ·
         have hmI:(m:Int)<(n:Int):=by omega
         have d0:=(unhide HNm _ (unhide HB2) k (unhide HKN)).1
         rw [show (l.getD k default).p=P from unhide HPP] at d0
         have d1:=(unhide HNm _ (unhide HB2) m hmn).1
         rw [show (l.getD m default).p=pA l m from rfl] at d1
         have HU1:=hide (unhide HUn m hmn)
         have HFm:=hide (unhide HFNk m hmn)
         have HMN:=hide hmn
         have HFX:Hid (undL P.data.toList (pA l m).data.toList=false→∀ j,j<m+1→undL P.data.toList (pA l j).data.toList=false):=by
          intro e j hj
          by_cases hjm:j=m
          ·
           rw [hjm]; exact e
          ·
           exact unhide HFR j (by omega)
         clear hm HFR
         cases hu:undL P.data.toList (pA l m).data.toList
         ·
          have HX:=hide (unhide HFX hu)
          rw [hu] at HU1
          go_wp2_with fail
          go_quiet ((go_at_call 28; exact Calls.quiet_of_same (unhide HU1 _)))
          go_wp2
          go_roundw
          case rel=>exact ⟨m+1,by have:=unhide HMN; omega,by go_num,unhide HX,below_drewN (unhide HB2) _⟩
          case measure=>have:=unhide HMN; simp [intOf]; omega
         ·
          have HP:=hide (unhide HTk (by rw [unhide HOk2,unhide HFm hu]; simp))
          rw [hu] at HU1
          go_wp2_with fail
          go_quiet ((go_at_call 28; exact Calls.quiet_of_same (unhide HU1 _)))
          go_wp2
          go_ret
          exact ⟨ret_bool (unhide HP).symm,below_drewN (unhide HB2) _⟩
        ·
         obtain rfl:m=n:=by omega
         have HX:=hide (unhide HNX (by rw [unhide HOk2,unhide HUp,unhide HFYk (unhide HFR)]; rfl))
         go_wp2
         go_roundw
         case rel=>exact ⟨k+1,by have:=unhide HKN; omega,by go_num,unhide HX,unhide HB2⟩
         case measure=>have:=unhide HKN; simp [intOf]; omega
    ·
     have d300:decide ((300:Int)<(T.size:Int))=true:=by simp; omega
     have HP:=hide (unhide HTk (by rw [unhide HOk,hnm]; simp; omega))
     go_wp2_with fail
     refine wp_region_quiet_below hmix (by kernel_rfl) ?_
     repeat (first | go_big_quiet_step (exact cN _ _) | quiet_step (exact cN _ _))
     refine wpQuiet_nil ?_
     intro zw hw'
     obtain ⟨⟨dq,osq⟩,hw2⟩:=hw'
     have HZ:=below_regrown wr dq osq
     rw [←hw2] at HZ
     have BZ:=hide (bnext (unhide HBel) HZ)
     clear hw2 HZ ck ct cN
     go_wp2
     go_ret
     exact ⟨ret_bool (unhide HP).symm,unhide BZ⟩
  ·
   obtain rfl:k=n:=by omega
   have HP:=hide (unhide HTY (unhide HALL))
   go_wp2
   go_ret
   exact ⟨ret_bool (by rw [unhide HP]; simp; omega),unhide HBel⟩
theorem toFile_any (p t:ByteArray) (w:World) :
  Calls Tryz.prog 41 #[.agg #[.string p,.string t]] w fun e w'=>e = .returned (.agg #[.string p,.string t])∧Below w.heap.size w w':=by
 go_enter Tryz.func41,Tryz.ntmps41
 go_wp2
 exact bodyPost_ret (v:=.agg #[.string p,.string t]) (by simp [results,Tryz.results41,go_sem]) rfl ⟨rfl,(((Below.refl _ _).alloc (Nat.le_refl _) _).alloc (by simp) _).alloc (by simp; omega) _⟩
set_option maxRecDepth 100000 in
set_option maxHeartbeats 4000000 in
theorem toFileS_any (a:Option Addr) (cap n:Nat) (l:List Fl) (w:World) (hn:l.length=n) (h:FRow w a l) (hm:n≤1048576) :
  Calls Tryz.prog 14 #[.slice a n cap] w fun e w'=>e = .returned (.slice (some ⟨w.heap.size,0,none⟩) n n)∧FOwn w' w.heap.size (.slice (some ⟨w.heap.size,0,none⟩) n n) l∧Below w.heap.size w w':=by
 have hm':(n:Int)≤1048576:=by omega
 obtain ⟨i0,hi,hz0,hz1,hz2⟩:=info_parts Tryz.infoFile
 have Hn:=hide hn
 have HH:=hide h
 clear h
 go_enter Tryz.func14,Tryz.ntmps14
 go_wp2_with (at_make; refine wpList_make_full _ rfl _ _ 23 rfl w.heap.size 28 i0 (.agg #[.string ⟨#[]⟩,.string ⟨#[]⟩]) 2 Tryz.underlying23 hi hz0 hz1 .i64 .i64 _ _ n rfl rfl rfl rfl (by rw [hz2]; omega) (by unfold maxLen; omega) (Nat.le_refl _) ?_; intro w1 hown hgrow)
 have hp0:FOwn w1 w.heap.size (.slice (some ⟨w.heap.size,0,none⟩) n n) (l.take 0++List.replicate (l.length-0) default):=by
  have:=made_own encF_len (by omega) (default:Fl) hown
  simpa [hn] using this
 have hb0:Below w.heap.size w w1:=(Below.refl _ _).grown hgrow (Nat.le_refl _) (fun k h=>by cases h)
 clear hown hgrow hi hz0 hz1 hz2 hm hn
 go_loopw [4] (fun i wr=>∃ k:Nat,k≤n∧i = .int .i64 k∧FOwn wr w.heap.size (.slice (some ⟨w.heap.size,0,none⟩) n n) (l.take k++List.replicate (l.length-k) default)∧Below w.heap.size w wr) (fun i _=>n-(intOf i).toNat)
 case atStart=>exact ⟨0,Nat.zero_le _,rfl,hp0,hb0⟩
 case round=>
  obtain ⟨k,hk,rfl,hp,hbel⟩:=hrel
  clear hp0 hb0
  have hlen:Hid ((l.take k++List.replicate (l.length-k) default).length=n):=by
   show _=n
   have:=unhide Hn
   simp; omega
  by_cases hlt:k<n
  ·
   obtain ⟨g,o,rfl,hg,hc⟩:=((unhide HH).later hbel) (by rw [unhide Hn]; omega)
   obtain ⟨c0,c1⟩:=hc k (by rw [unhide Hn]; exact hlt)
   have hst:=hide (copyG_step l default k (by rw [unhide Hn]; exact hlt))
   have hpl:=hp.below.2
   have HP:=hide (And.intro hp (And.intro hbel hk))
   clear hc hp hbel hk
   generalize hx:l.getD k default=t at *
   clear hx
   obtain ⟨n0,t0⟩:=t
   simp only at c0 c1
   go_wp2_with fail
   refine (toFile_any n0 t0 _).mono ?_
   rintro e x1 ⟨rfl,hb1⟩
   obtain ⟨hp,hbel,hk⟩:=unhide HP
   have hp1:=hp.later hb1 (Nat.le_refl _)
   have hbel1:=bnext hbel hb1
   obtain ⟨d0,d1⟩:=fown_at (unhide hlen) hp1 k hlt
   obtain ⟨f0,f1⟩:=fown_froz (unhide hlen) hp1 k hlt
   have hput:=GOwn.put encF_len (unhide hlen) hp1 k hlt ⟨n0,t0⟩
   rw [unhide hst] at hput
   have hB:=below_many hbel1 (Nat.le_refl _) (encF ⟨n0,t0⟩) (k*2)
   have HPut:=hide (And.intro hput hB)
   clear hput hB hp hbel hk hp1 hbel1 hb1
   generalize ((l.take k++List.replicate (l.length-k) default).getD k default)=y0 at *
   go_wp2
   go_roundw
   case rel=>exact ⟨k+1,by have:=(unhide HP).2.2; omega,by go_num,(unhide HPut).1,(unhide HPut).2⟩
   case measure=>simp [intOf]; omega
  ·
   have hkl:k=n:=by omega
   have e:l.take k++List.replicate (l.length-k) default=l:=by
    have:=unhide Hn
    rw [List.take_of_length_le (by omega),show l.length-k=0 by omega]; simp
   rw [e] at hp
   clear e hlen
   go_wp2
   go_ret
   exact ⟨rfl,hp,hbel⟩
theorem szFileL_any (n t:ByteArray) (L:Int) (w:World) (hn:(n.size:Int)≤9223372036854775807) (ht:(t.size:Int)≤9223372036854775807) (h0:0≤L) (h1:L≤1048576) :
  Calls Tryz.prog 38 #[.agg #[.string n,.string t],.int .i64 L] w fun e w'=>(∃ k:Int,e = .returned (.int .i64 k) ∧ -1≤k∧k≤L∧(0≤k→(n.size:Int)≤1048576))∧Below w.heap.size w w':=by
 by_cases e1:L-(n.size:Int)<0
 ·
  go_enter Tryz.func38,Tryz.ntmps38
  go_wp2
  go_ret
  exact ⟨⟨-1,rfl,by omega,by omega,fun h=>absurd h (by omega)⟩,(Below.refl _ _).alloc (Nat.le_refl _) _⟩
 ·
  by_cases e2:L-(n.size:Int)-(t.size:Int)<0
  ·
   go_enter Tryz.func38,Tryz.ntmps38
   go_wp2
   go_ret
   exact ⟨⟨-1,rfl,by omega,by omega,fun h=>absurd h (by omega)⟩,(Below.refl _ _).alloc (Nat.le_refl _) _⟩
  ·
   go_enter Tryz.func38,Tryz.ntmps38
   go_wp2
   go_ret
   exact ⟨⟨_,rfl,by omega,by omega,fun _=>by omega⟩,(Below.refl _ _).alloc (Nat.le_refl _) _⟩
def FAny (l:List Fl) (n:Nat):Prop:=∀ i,i<n→((l.getD i default).p.size:Int)≤9223372036854775807∧((l.getD i default).t.size:Int)≤9223372036854775807
set_option maxHeartbeats 1600000 in
theorem szFileS_any (a:Option Addr) (cap n:Nat) (l:List Fl) (w:World) (hn:l.length=n) (h:FRow w a l) (hm:(n:Int)≤9223372036854775807) (hs:FAny l n) :
  Calls Tryz.prog 12 #[.slice a n cap,.int .i64 1048576] w fun e w'=>(∃ k:Int,e = .returned (.int .i64 k) ∧ -1≤k∧k≤1048576∧(0≤k→(n:Int)≤1048576∧∀ i,i<n→(l.getD i default).p.size≤1048576))∧Below w.heap.size w w':=by
 have Hn:=hide hn
 have HH:=hide h
 have HS:=hide hs
 clear hn h hs
 by_cases e1:(1048576:Int)-(n:Int)<0
 ·
  go_enter Tryz.func12,Tryz.ntmps12
  go_wp2
  go_ret
  exact ⟨⟨-1,rfl,by omega,by omega,fun h=>absurd h (by omega)⟩,Below.refl _ _⟩
 ·
  go_enter Tryz.func12,Tryz.ntmps12
  go_wp2_with fail
  go_loopw [1,5] (fun L i wr=>∃ (k:Nat) (r:Int),k≤n∧i = .int .i64 k∧L = .int .i64 r∧0≤r∧r≤1048576∧(∀ j,j<k→(l.getD j default).p.size≤1048576)∧Below w.heap.size w wr) (fun _ i _=>n-(intOf i).toNat)
  case atStart=>exact ⟨0,_,Nat.zero_le _,rfl,rfl,by omega,by omega,fun j hj=>absurd hj (by omega),Below.refl _ _⟩
  case round=>
   obtain ⟨k,r,hk,rfl,rfl,r0,r1,hall,hbel⟩:=hrel
   have HK:=hide hk
   have HA:=hide hall
   have HB:=hide hbel
   clear hall hk
   by_cases hlt:k<n
   ·
    obtain ⟨g,o,rfl,hg,hc⟩:=((unhide HH).later hbel) (by rw [unhide Hn]; omega)
    obtain ⟨c0,c1⟩:=hc k (by rw [unhide Hn]; exact hlt)
    obtain ⟨s0,s1⟩:=unhide HS k hlt
    have HNX:Hid ((l.getD k default).p.size≤1048576→∀ j,j<k+1→(l.getD j default).p.size≤1048576):=by
     intro e j hj
     by_cases hjk:j=k
     ·
      rw [hjk]; exact e
     ·
      exact unhide HA j (by omega)
    clear hc hbel
    generalize l.getD k default=t at *
    obtain ⟨n0,t0⟩:=t
    simp only at c0 c1 s0 s1
    go_wp2_with fail
    refine (szFileL_any n0 t0 r _ s0 s1 r0 r1).mono ?_
    rintro e x1 ⟨⟨q,rfl,q0,q1,q2⟩,hb1⟩
    have HB1:=hide (bnext (unhide HB) hb1)
    have HQ:=hide q2
    clear hb1 q2 c0 c1
    by_cases hq:q<0
    ·
     go_wp2
     go_ret
     exact ⟨⟨-1,rfl,by omega,by omega,fun h=>absurd h (by omega)⟩,unhide HB1⟩
    ·
     go_wp2
     go_roundw
     case rel=>exact ⟨k+1,q,by omega,by go_num,rfl,by omega,by omega,unhide HNX (by have:=unhide HQ (by omega); show n0.size≤_; omega),unhide HB1⟩
     case measure=>simp [intOf]; omega
   ·
    obtain rfl:k=n:=by have:=unhide HK; omega
    go_wp2
    go_ret
    exact ⟨⟨r,rfl,by omega,by omega,fun _=>⟨by omega,unhide HA⟩⟩,unhide HB⟩
theorem eqFile_same (p t:ByteArray) (w:World) :
  Calls Tryz.prog 42 #[.agg #[.string p,.string t],.agg #[.string p,.string t]] w fun e w'=>e = .returned (.bool true)∧Below w.heap.size w w':=by
 go_enter Tryz.func42,Tryz.ntmps42
 go_wp2
 go_ret
 exact ⟨rfl,((Below.refl _ _).alloc (Nat.le_refl _) _).alloc (by simp) _⟩
set_option maxHeartbeats 1600000 in
theorem eqFileS_same (a b:Option Addr) (c d n:Nat) (l:List Fl) (w:World) (hn:l.length=n) (ha:FRow w a l) (hb:FRow w b l) (hl:n≤2000000) :
  Calls Tryz.prog 15 #[.slice a n c,.slice b n d] w fun e w'=>e = .returned (.bool true)∧Below w.heap.size w w':=by
 subst hn
 have hlI:(l.length:Int)≤2000000:=by omega
 have HA:=hide ha
 have HB:=hide hb
 clear hl ha hb
 go_enter Tryz.func15,Tryz.ntmps15
 go_wp2_with fail
 go_loopw [5] (fun i wr=>∃ k:Nat,k≤l.length∧i = .int .i64 k∧Below w.heap.size w wr) (fun i _=>l.length-(intOf i).toNat)
 case atStart=>exact ⟨0,Nat.zero_le _,rfl,Below.refl _ _⟩
 case round=>
  obtain ⟨k,hk,rfl,hbel⟩:=hrel
  have HK:=hide hk
  by_cases hlt:k<l.length
  ·
   obtain ⟨g,o,rfl,hg,hc⟩:=((unhide HA).later hbel) (by omega)
   obtain ⟨g',o',rfl,hg',hc'⟩:=((unhide HB).later hbel) (by omega)
   obtain ⟨c0,c1⟩:=hc k hlt
   obtain ⟨d0,d1⟩:=hc' k hlt
   have HBel:=hide hbel
   clear hc hc' hk hbel
   generalize hx:l.getD k default=t at *
   clear hx
   obtain ⟨n0,t0⟩:=t
   simp only at c0 c1 d0 d1
   go_wp2_with fail
   go_region_with (go_at_call 42; refine (eqFile_same n0 t0 _).mono ?_; rintro e x1 ⟨rfl,hb1⟩)
   all_goals
    go_wp2
    go_roundw
    case rel=>exact ⟨k+1,by omega,by go_num,(unhide HBel).drew.trans (hb1.mono (unhide HBel).size)⟩
    case measure=>simp [intOf]; omega
  ·
   go_wp2
   go_ret
   exact ⟨rfl,hbel⟩
end Go.Proofs.YtkdlcomfpffhhaaGreatDoor
