/- Of what the proof is made: 2 texts, one behind the other. -/
import Derived.Test.YtkpfkgoiaicgbaaGreatDoorM30
import Derived.Test.YtkpfkgoiaicgbaaGreatDoorM27
import Derived.Lib.QuietBelow
import Derived.Laws.Cover1
import Derived.BigQuiet
set_option linter.unusedSimpArgs false
set_option linter.unusedVariables false
set_option maxHeartbeats 4000000
namespace Go.Proofs.YtkpfkgoiaicgbaaGreatDoor
open Go.RowKit
def nT(l:List Fl)(n:Nat):Prop:=∀i,i<n->(pA l i).size<=1048576/\((l.getD i default).t.size:Int)<=9223372036854775807
theorem M6{w w1:World}{x y:Value}{t:TypeId}(hb:Below (w.alloc (.cells #[x,y] t)).heap.size (w.alloc (.cells #[x,y] t)) w1):w1.cell? ⟨w.heap.size,0,none⟩=some x/\w1.cell? ⟨w.heap.size,1,none⟩=some y/\w.heap.size<w1.heap.size/\Below w.heap.size w w1:=by
 have hz:w.heap.size<(w.alloc (.cells #[x,y] t)).heap.size:=by simp
 exact⟨(hb.cell (p:=⟨w.heap.size,0,none⟩) hz).trans (by simp),(hb.cell (p:=⟨w.heap.size,1,none⟩) hz).trans (by simp),Nat.lt_of_lt_of_le hz hb.size,((Below.refl _ _).alloc (Nat.le_refl _) _).trans (hb.mono (by simp))⟩
theorem fe(a:Option Addr)(cap:Nat)(l:List Fl)(n:Nat)(hn:l.length=n)(m:Int)(w:World)(h:mM w a l)(hl:(n:Int)<=1048576)(hcap:(n:Int)<=(cap:Int))(hs:nT l n)
  (hm:w.cell? ⟨2,0,none⟩=some (.int .i64 m)) :
  Calls Tryz.prog 5 #[.slice a n cap] w fun e w'=>e = .returned (.bool (dh l))/\Below w.heap.size w w':=by
 have HS:=af hs;have HR:=af h;have HTN:=af (fun i (hi:i<l.length)=>@I8 l i hi);have HTY:=af (@EO l);have HON:=af (fun i j (hj:j<i)=>@KC l i j hj);have HOY:=af (fun i=>@Hi l i);have HSelf:Hid (∀i,pu l i=(f8 (pA l i).data.toList&&decide ((l.getD i default).t.size<=300))):=fun _=>rfl;have HSN:Hid (∀i,pu l i=false->lM l i=false):=fun i e=>by show lM l i=false;unfold lM;rw[e];rfl
 have HPair:Hid (∀i j,kA l i j=((ltP (pA l j) (pA l i) || (pA l j).toList == (pA l i).toList)&&!bE (pA l j).data.toList (pA l i).data.toList)):=fun _ _=>rfl;rw[hn]at HTN HTY;have HN:=af hn;have CM:=af (fun W (hb:Below w.heap.size w W)=>(hb.cell (p:=⟨2,0,none⟩) (World.block_lt_of_cell? _ _ hm)).trans hm);clear h hs hn hm;by_cases h8:(n:Int)<=8
 ·
  go_enter Tryz.func5,Tryz.ntmps5;go_wp2_with fail
  go_loopw [3,4,6,12] (fun _ _ _ i wr=>∃k:Nat,k<=n/\i = .int .i64 k/\(∀j,j<k->lM l j=true)/\Below w.heap.size w wr) (fun _ _ _ i _=>n-(intOf i).toNat)
  case atStart=>exact⟨0,Nat.zero_le _,rfl,fun j hj=>absurd hj (by omega),Below.refl _ _⟩
  case round=>
   obtain⟨k,hk,rfl,hall,hbel⟩:=hrel;have HALL:=af hall;have HBel:=af hbel;clear hall hbel;by_cases hkn:k<n
   ·
    have hkI:(k:Int)<(n:Int):=by omega
    have hkc:(k:Int)<=(cap:Int):=by omega
    obtain⟨g,o,rfl,hg,hc⟩:=(ae HR).later (ae HBel) (by have:=ae HN;omega);obtain⟨c0,c1⟩:=hc k (by have:=ae HN;omega);have HKN:=af hkn;have HSk:=af (ae HS k hkn);have HTk:=af (ae HTN k hkn);have HSelfk:=af (ae HSelf k);have HSNk:=af (ae HSN k);have HONk:=af (ae HON k);have HOYk:=af (ae HOY k);have HNX:Hid (lM l k=true->∀j,j<k+1->lM l j=true):=by
     intro e j hj;by_cases hjk:j=k
     · rw[hjk];exact e
     · exact ae HALL j (by omega)
    have HCl:=af (fun j (hj:j<n) W=>kw (pA l j) (pA l k) W (by have:=(ae HS j hj).1;omega) (by have:=(ae HS k hkn).1;omega));have HNm:Hid (∀W,Below w.heap.size w W->∀j,j<n->Cg W g (o+j*2) (l.getD j default)):=by
     intro W hW j hj;exact((ae HR).later hW).at j (by have:=ae HN;omega)
    have HPk:=af (ae HPair k);have e0:(l.getD k default).p=pA l k:=rfl;rw[e0]at c0;have htI:=(ae HSk).2;clear hc hk HALL hkn e0;generalize hT:(l.getD k default).t=T at *
    generalize hP:pA l k=P at *
    clear hT hP;go_wp2_with fail;refine(gX P m _ (ae HSk).1 (ae CM _ ((ae HBel).alloc (ae HBel).size _))).mono ?_;rintro e x1 ⟨rfl,hb1⟩;obtain⟨b0,b1,hbz,hb2⟩:=M6 hb1;have HB1:=af (aj (ae HBel) hb2);clear hb1 hb2;generalize wr.heap.size=B at *
    cases hnm:f8 P.data.toList
    · have HP:=af (ae HTk (ae HSNk (by rw[ae HSelfk,hnm];rfl)));go_wp2;go_ret;exact⟨ak (ae HP).symm,ae HB1⟩
    ·
     by_cases h300:(T.size:Int)<=300
     ·
      have HSelfT:Hid (pu l k=true):=by show pu l k=true;rw[ae HSelfk,hnm];simp;omega
      go_wp2_with fail
      go_loopw [6,31] (fun _ q wq=>∃r:Nat,r<=k/\q = .int .i64 r/\(∀j,j<r->kA l k j=true)/\wq.cell? ⟨B,0,none⟩=some (.string P)/\B<wq.heap.size/\Below w.heap.size w wq) (fun _ q _=>k-(intOf q).toNat)
      case atStart=>exact⟨0,Nat.zero_le _,rfl,fun j hj=>absurd hj (by omega),b0,hbz,ae HB1⟩
      case round=>
       obtain⟨r,hr,rfl,hfr,d0,dz,hbq⟩:=hrel;have HFR:=af hfr;have HBQ:=af hbq;clear hfr hbq b0 b1 hbz;by_cases hrk:r<k
       ·
        have hrI:(r:Int)<(k:Int):=by omega
        obtain⟨p0,p1⟩:=ae HNm _ (ae HBQ) r (by have:=ae HKN;omega);have HClr:=af (ae HCl r (by have:=ae HKN;omega));have HPr:=af (ae HPk r);have HOr:=af (ae HONk r hrk);have HRK:=af hrk;have HFX:Hid (kA l k r=true->∀j,j<r+1->kA l k j=true):=by
         intro e j hj;by_cases hjm:j=r
         · rw[hjm];exact e
         · exact ae HFR j (by omega)
        have e1:(l.getD r default).p=pA l r:=rfl;rw[e1]at p0;clear hr HFR e1;generalize pA l r=R at *
        generalize (l.getD r default).t=U at *
        clear c0 c1;have HB3:=af ((ae HBQ).alloc (ae HBQ).size (.cells #[.string R,.string U] 39));have dA:(wr.alloc (.cells #[.string R,.string U] 39)).cell? ⟨B,0,none⟩=some (.string P):=by rw[World.cell?_alloc_past _ _ _ dz];exact d0
        have dB:B<(wr.alloc (.cells #[.string R,.string U] 39)).heap.size:=by simp;omega
        have HD:=af (And.intro dA dB);clear dA dB;cases h1:Op.bytesLess R.toList P.toList
        ·
         by_cases h2:R.toList=P.toList
         ·
          have h2b:(R.toList == P.toList)=true:=by simpa using h2
          have HC:Hid (bE R.data.toList P.data.toList=true):=by
           show bE R.data.toList P.data.toList=true;unfold bE;rw[eq.1 h2];simp
          have HP:=af (ae HTk (ae HOr (by rw[ae HPr,ae HC];simp)));clear h2;go_wp2_with fail;refine(ae HClr _).mono ?_;rintro e x2 ⟨rfl,hb3⟩;rw[hb3,ae HC];clear hb3;go_wp2;go_ret;exact⟨ak (ae HP).symm,ae HB3⟩
         ·
          have h2b:(R.toList == P.toList)=false:=by simpa using h2
          have HP:=af (ae HTk (ae HOr (by rw[ae HPr];unfold ltP;rw[h1,h2b];rfl)));go_wp2;go_ret;exact⟨ak (ae HP).symm,ae HB3⟩
        ·
         have HL:Hid (ltP R P=true):=h1;go_wp2_with fail;refine(ae HClr _).mono ?_;rintro e x2 ⟨rfl,hb3⟩;rw[hb3];clear hb3;cases hcl:bE R.data.toList P.data.toList
         ·
          have HX:=af (ae HFX (by rw[ae HPr,ae HL,hcl];rfl));go_wp2;go_roundw
          case rel=>exact⟨r+1,by have:=ae HRK;omega,by go_num,ae HX,(ae HD).1,(ae HD).2,ae HB3⟩
          case measure=>have:=ae HRK;simp[intOf];omega
         · have HP:=af (ae HTk (ae HOr (by rw[ae HPr,hcl];simp)));go_wp2;go_ret;exact⟨ak (ae HP).symm,ae HB3⟩
       ·
        obtain rfl:r=k:=by omega
        have HX:=af (ae HNX ((ae HOYk (ae HFR)).trans (ae HSelfT)));go_wp2;go_roundw
        case rel=>exact⟨r+1,by have:=ae HKN;omega,by go_num,ae HX,ae HBQ⟩
        case measure=>have:=ae HKN;simp[intOf];omega
     ·
      have h300':¬ T.size<=300:=by omega
      have HP:=af (ae HTk (ae HSNk (by rw[ae HSelfk,hnm];simp;omega)));go_wp2;go_ret;exact⟨ak (ae HP).symm,ae HB1⟩
   ·
    obtain rfl:k=n:=by omega
    have HP:=af (ae HTY (ae HALL));go_wp2;go_ret;exact⟨ak (by rw[ae HP];simp;omega),ae HBel⟩
 ·
  have HP:Hid (dh l=false):=by
   show dh l=false;unfold dh;rw[ae HN];have:decide (n<=8)=false:=by simp;omega
   rw[this];simp
  go_enter Tryz.func5,Tryz.ntmps5;go_wp2;go_ret;exact⟨ak (ae HP).symm,Below.refl _ _⟩
set_option maxRecDepth 100000 in
theorem kJ(a:Option Addr)(cap:Nat)(l:List Fl)(n:Nat)(hn:l.length=n)(w:World)(h:mM w a l)(hl:(n:Int)<=1048576)(hs:nT l n) :
  Calls Tryz.prog 6 #[.slice a n cap] w fun e w'=>e = .returned (.bool (dh l))/\Below w.heap.size w w':=by
 have hmix:Tryz.prog.follows .mixedOrders=true:=by kernel_rfl
 have HS:=af hs;have HR:=af h;have HTN:=af (fun i (hi:i<l.length)=>@Ld l i hi);have HTY:=af (@I9 l);have HFN:=af (fun i k (hk:k<l.length)=>@Gg l i k hk);have HFY:=af (fun i=>@tr l i);rw[hn]at HTN HTY HFN HFY;have HOne:Hid (∀i,lN l i=((f8 (pA l i).data.toList&&decide ((l.getD i default).t.size<=300))&&(upT l i&&oV l i))):=fun _=>rfl;have HUp0:Hid (upT l 0=true):=rfl;have HUp1:Hid (∀k' k,k=k'+1->upT l k=ltP (pA l k') (pA l k)):=by
  intro k' k e;subst e;simp[upT]
 have HN:=af hn;clear h hs hn;go_enter Tryz.func6,Tryz.ntmps6;go_wp2_with fail
 go_loopw [3,4] (fun i _ wr=>∃k:Nat,k<=n/\i = .int .i64 k/\(∀j,j<k->lN l j=true)/\Below w.heap.size w wr) (fun i _ _=>n-(intOf i).toNat)
 case atStart=>exact⟨0,Nat.zero_le _,rfl,fun j hj=>absurd hj (by omega),Below.refl _ _⟩
 case round=>
  obtain⟨k,hk,rfl,hall,hbel⟩:=hrel;have HALL:=af hall;have HBel:=af hbel;clear hall hbel;by_cases hkn:k<n
  ·
   have hkI:(k:Int)<(n:Int):=by omega
   obtain⟨g,o,rfl,hg,hc⟩:=(ae HR).later (ae HBel) (by have:=ae HN;omega);have HKN:=af hkn;have HNm:Hid (∀W,Below w.heap.size w W->∀j,j<n->Cg W g (o+j*2) (l.getD j default)):=by
    intro W hW j hj;exact((ae HR).later hW).at j (by have:=ae HN;omega)
   have HPS:=af (ae HS k hkn).1;have HTk:=af (ae HTN k hkn);have HOk:=af (ae HOne k);have HFNk:=af (ae HFN k);have HFYk:=af (ae HFY k);have HUn:=af (fun j (hj:j<n) W=>wV (pA l k) (pA l j) W (by have:=(ae HS k hkn).1;omega) (by have:=(ae HS j hj).1;omega));have HNX:Hid (lN l k=true->∀j,j<k+1->lN l j=true):=by
    intro e j hj;by_cases hjk:j=k
    · rw[hjk];exact e
    · exact ae HALL j (by omega)
   have htI:=(ae HS k hkn).2;have ck:=cell_regrown (show wr.cell? ⟨g,o+k*2,none⟩=some (.string (pA l k))from(ae HNm wr (ae HBel) k hkn).1);have ct:=cell_regrown (ae HNm wr (ae HBel) k hkn).2;have cN:=fun d os=>Calls.regrown_of (w:=wr) (d:=d) (os:=os) (sd (pA l k) _ (ae HPS));clear hc hk HALL hkn HPS;generalize hT:(l.getD k default).t=T at *
   generalize hP:pA l k=P at *
   have HPP:=af hP;clear hT hP;cases hnm:f8 P.data.toList
   ·
    have HP:=af (ae HTk (by rw[ae HOk,hnm];rfl));rw[hnm]at cN;go_wp2_with fail;refine wp_region_quiet_below hmix (by kernel_rfl) ?_;repeat (first|go_big_quiet_step (exact cN _ _)|quiet_step (exact cN _ _))
    refine wpQuiet_nil ?_;intro zw hw';obtain⟨⟨dq,osq⟩,hw2⟩:=hw';have HZ:=below_regrown wr dq osq;rw[←hw2]at HZ;have BZ:=af (aj (ae HBel) HZ);clear hw2 HZ ck ct cN;go_wp2;go_ret;exact⟨ak (ae HP).symm,ae BZ⟩
   ·
    rw[hnm]at cN;by_cases h300:(T.size:Int)<=300
    ·
     have d300:decide ((300:Int)<(T.size:Int))=false:=by simp;omega
     have HSelf:Hid ((f8 P.data.toList&&decide (T.size<=300))=true):=by
      show _=true;rw[hnm];simp;omega
     have HOk2:Hid (lN l k=(upT l k&&oV l k)):=by
      show lN l k=_;rw[ae HOk,ae HSelf];rfl
     clear HOk HSelf;by_cases hk0:k=0
     ·
      have HUp:Hid (upT l k=true):=by rw[hk0];exact ae HUp0
      have hz:¬ (0:Int)<(k:Int):=by omega
      have hzd:decide ((0:Int)<(k:Int))=false:=by simp;omega
      have hzn:decide (0<k)=false:=by simp;omega
      clear hk0;go_wp2_with fail;refine wp_region_quiet_below hmix (by kernel_rfl) ?_;repeat (first|go_big_quiet_step (exact cN _ _)|quiet_step (exact cN _ _))
      refine wpQuiet_nil ?_;intro zw hw';obtain⟨⟨dq,osq⟩,hw2⟩:=hw';have HZ:=below_regrown wr dq osq;rw[←hw2]at HZ;have BZ:=af (aj (ae HBel) HZ);clear hw2 HZ ck ct cN;go_wp2_with fail
      go_loopw [4] (fun q wr=>∃m:Nat,m<=n/\q = .int .i64 m/\(∀j,j<m->di P.data.toList (pA l j).data.toList=false)/\Below w.heap.size w wr) (fun q _=>n-(intOf q).toNat)
      case atStart=>exact⟨0,Nat.zero_le _,rfl,fun j hj=>absurd hj (by omega),ae BZ⟩
      case round=>
       obtain⟨m,hm,rfl,hfr,hbel⟩:=hrel;have HFR:=af hfr;have HB2:=af hbel;clear hfr hbel;by_cases hmn:m<n
       ·
        have hmI:(m:Int)<(n:Int):=by omega
        have d0:=(ae HNm _ (ae HB2) k (ae HKN)).1;rw[show(l.getD k default).p=P from ae HPP]at d0;have d1:=(ae HNm _ (ae HB2) m hmn).1;rw[show(l.getD m default).p=pA l m from rfl]at d1;have HU1:=af (ae HUn m hmn);have HFm:=af (ae HFNk m hmn);have HMN:=af hmn;have HFX:Hid (di P.data.toList (pA l m).data.toList=false->∀j,j<m+1->di P.data.toList (pA l j).data.toList=false):=by
         intro e j hj;by_cases hjm:j=m
         · rw[hjm];exact e
         · exact ae HFR j (by omega)
        clear hm HFR;cases hu:di P.data.toList (pA l m).data.toList
        ·
         have HX:=af (ae HFX hu);rw[hu]at HU1;go_wp2_with fail
         go_quiet ((go_at_call 16;exact Calls.quiet_of_same (ae HU1 _)))
         go_wp2;go_roundw
         case rel=>exact⟨m+1,by have:=ae HMN;omega,by go_num,ae HX,below_drewN (ae HB2) _⟩
         case measure=>have:=ae HMN;simp[intOf];omega
        ·
         have HP:=af (ae HTk (by rw[ae HOk2,ae HFm hu];simp));rw[hu]at HU1;go_wp2_with fail
         go_quiet ((go_at_call 16;exact Calls.quiet_of_same (ae HU1 _)))
         go_wp2;go_ret;exact⟨ak (ae HP).symm,below_drewN (ae HB2) _⟩
       ·
        obtain rfl:m=n:=by omega
        have HX:=af (ae HNX (by rw[ae HOk2,ae HUp,ae HFYk (ae HFR)];rfl));go_wp2;go_roundw
        case rel=>exact⟨k+1,by have:=ae HKN;omega,by go_num,ae HX,ae HB2⟩
        case measure=>have:=ae HKN;simp[intOf];omega
     ·
      obtain⟨k',hk'⟩:∃k',k=k'+1:=⟨k-1,by omega⟩;have hz:(0:Int)<(k:Int):=by omega
      have hzn:decide (0<k)=true:=by simp;omega
      have hkm:(k:Int)-1=(k':Int):=by omega
      have hkmI:(k':Int)<(n:Int):=by omega
      have HUk:=af ((ae HUp1) k' k hk');rw[ae HPP]at HUk;have cq:=cell_regrown (show wr.cell? ⟨g,o+k'*2,none⟩=some (.string (pA l k'))from(ae HNm wr (ae HBel) k' (by have:=ae HKN;omega)).1);clear hk0 hk';generalize pA l k'=Q at *
      cases hlt:Op.bytesLess Q.toList P.toList
      ·
       have HP:=af (ae HTk (by rw[ae HOk2,ae HUk];unfold ltP;rw[hlt];rfl));go_wp2_with fail;refine wp_region_quiet_below hmix (by kernel_rfl) ?_;repeat (first|go_big_quiet_step (exact cN _ _)|quiet_step (exact cN _ _))
       refine wpQuiet_nil ?_;intro zw hw';obtain⟨⟨dq,osq⟩,hw2⟩:=hw';have HZ:=below_regrown wr dq osq;rw[←hw2]at HZ;have BZ:=af (aj (ae HBel) HZ);clear hw2 HZ ck ct cN cq;go_wp2;go_ret;exact⟨ak (ae HP).symm,ae BZ⟩
      ·
       have HUp:Hid (upT l k=true):=by show upT l k=true;rw[ae HUk];exact hlt
       go_wp2_with fail;refine wp_region_quiet_below hmix (by kernel_rfl) ?_;repeat (first|go_big_quiet_step (exact cN _ _)|quiet_step (exact cN _ _))
       refine wpQuiet_nil ?_;intro zw hw';obtain⟨⟨dq,osq⟩,hw2⟩:=hw';have HZ:=below_regrown wr dq osq;rw[←hw2]at HZ;have BZ:=af (aj (ae HBel) HZ);clear hw2 HZ ck ct cN cq;clear hkm hkmI hlt;go_wp2_with fail
       go_loopw [4] (fun q wr=>∃m:Nat,m<=n/\q = .int .i64 m/\(∀j,j<m->di P.data.toList (pA l j).data.toList=false)/\Below w.heap.size w wr) (fun q _=>n-(intOf q).toNat)
       case atStart=>exact⟨0,Nat.zero_le _,rfl,fun j hj=>absurd hj (by omega),ae BZ⟩
       case round=>
        obtain⟨m,hm,rfl,hfr,hbel⟩:=hrel;have HFR:=af hfr;have HB2:=af hbel;clear hfr hbel;by_cases hmn:m<n
        ·
         have hmI:(m:Int)<(n:Int):=by omega
         have d0:=(ae HNm _ (ae HB2) k (ae HKN)).1;rw[show(l.getD k default).p=P from ae HPP]at d0;have d1:=(ae HNm _ (ae HB2) m hmn).1;rw[show(l.getD m default).p=pA l m from rfl]at d1;have HU1:=af (ae HUn m hmn);have HFm:=af (ae HFNk m hmn);have HMN:=af hmn;have HFX:Hid (di P.data.toList (pA l m).data.toList=false->∀j,j<m+1->di P.data.toList (pA l j).data.toList=false):=by
          intro e j hj;by_cases hjm:j=m
          · rw[hjm];exact e
          · exact ae HFR j (by omega)
         clear hm HFR;cases hu:di P.data.toList (pA l m).data.toList
         ·
          have HX:=af (ae HFX hu);rw[hu]at HU1;go_wp2_with fail
          go_quiet ((go_at_call 16;exact Calls.quiet_of_same (ae HU1 _)))
          go_wp2;go_roundw
          case rel=>exact⟨m+1,by have:=ae HMN;omega,by go_num,ae HX,below_drewN (ae HB2) _⟩
          case measure=>have:=ae HMN;simp[intOf];omega
         ·
          have HP:=af (ae HTk (by rw[ae HOk2,ae HFm hu];simp));rw[hu]at HU1;go_wp2_with fail
          go_quiet ((go_at_call 16;exact Calls.quiet_of_same (ae HU1 _)))
          go_wp2;go_ret;exact⟨ak (ae HP).symm,below_drewN (ae HB2) _⟩
        ·
         obtain rfl:m=n:=by omega
         have HX:=af (ae HNX (by rw[ae HOk2,ae HUp,ae HFYk (ae HFR)];rfl));go_wp2;go_roundw
         case rel=>exact⟨k+1,by have:=ae HKN;omega,by go_num,ae HX,ae HB2⟩
         case measure=>have:=ae HKN;simp[intOf];omega
    ·
     have d300:decide ((300:Int)<(T.size:Int))=true:=by simp;omega
     have HP:=af (ae HTk (by rw[ae HOk,hnm];simp;omega));go_wp2_with fail;refine wp_region_quiet_below hmix (by kernel_rfl) ?_;repeat (first|go_big_quiet_step (exact cN _ _)|quiet_step (exact cN _ _))
     refine wpQuiet_nil ?_;intro zw hw';obtain⟨⟨dq,osq⟩,hw2⟩:=hw';have HZ:=below_regrown wr dq osq;rw[←hw2]at HZ;have BZ:=af (aj (ae HBel) HZ);clear hw2 HZ ck ct cN;go_wp2;go_ret;exact⟨ak (ae HP).symm,ae BZ⟩
  ·
   obtain rfl:k=n:=by omega
   have HP:=af (ae HTY (ae HALL));go_wp2;go_ret;exact⟨ak (by rw[ae HP];simp;omega),ae HBel⟩
end Go.Proofs.YtkpfkgoiaicgbaaGreatDoor
