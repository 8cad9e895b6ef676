/- Contracts of how many bytes stand again, the model's and the program's, over this seat's program. -/
import Derived.Test.YtkdlcomfpffhhaaGreatDoorM10
import Derived.Test.YtkdlcomfpffhhaaGreatDoorM5
import Derived.Test.YtkdlcomfpffhhaaGreatDoorM2
set_option linter.unusedSimpArgs false
set_option linter.unusedVariables false
set_option maxHeartbeats 1600000
namespace Go.Proofs.YtkdlcomfpffhhaaGreatDoor
open Go.RowKit
theorem Ag(s:ByteArray)(i:Nat)(h:i<s.size):s.data.toList.getD i 0=s[i]:=by
 have h':i<s.data.toList.length:=by simpa using h
 rw[List.getD_eq_getElem?_getD,List.getElem?_eq_getElem h'];simp;rfl
theorem lz(s:ByteArray):s.data.toList.length=s.size:=by simp
theorem yN(f:Nat)(hf:f=264∨f=226)(s:ByteArray)(p b:Nat)(w:World)(hs:s.size<=1048576)(hp:p<=s.size)(hb:1<=b)(hbp:b<=p) :
  Calls Tryz.prog f #[.string s,.int .i64 (p:Nat),.int .i64 (b:Nat)] w fun e w'=>e = .returned (.int .i64 (agN s.data.toList p b:Nat))/\Below w.heap.size w w':=by
 have hsI:(s.size:Int)<=1048576:=by omega
 have hpI:(p:Int)<=(s.size:Int):=by omega
 have hbI:(1:Int)<=(b:Int):=by omega
 have hbpI:(b:Int)<=(p:Int):=by omega
 clear hs hp hb hbp;rcases hf with rfl|rfl
 case' inl=>go_enter Tryz.func264,Tryz.ntmps264
 case' inr=>go_enter Tryz.func226,Tryz.ntmps226
 all_goals
  go_wp2_with fail
  go_loopw [7] (fun i wr=>∃k:Nat,k<=60/\i = .int .i64 k/\agF s.data.toList p b (60-k) k=agN s.data.toList p b/\Below w.heap.size w wr) (fun i _=>60-(intOf i).toNat)
  case atStart=>exact⟨0,a0h _,rfl,rfl,a0c _ _⟩
  case round=>
   obtain⟨k,hk,rfl,hag,hbel⟩:=hrel;have HA:=af (a0b hag hk);have hkI:(k:Int)<=60:=by omega
   obtain⟨j,hj⟩:∃j:Nat,p+k=j:=⟨_,rfl⟩;have hjI:(p:Int)+(k:Int)=(j:Int):=by omega
   have HJ:=af hj;have hjb:(j:Int)<=2000000:=by omega
   have hwj:IntKind.i64.wrap (j:Int)=(j:Int):=eZ _ (by omega);clear hag hk;by_cases h60:(k:Int)<60
   ·
    by_cases hin:(j:Int)<(s.size:Int)
    ·
     obtain⟨q,hq⟩:∃q:Nat,p+k-b=q:=⟨_,rfl⟩;have hqI:(j:Int)-(b:Int)=(q:Int):=by omega
     have hwq:IntKind.i64.wrap (q:Int)=(q:Int):=eZ _ (by omega);have hjs:j<s.size:=by omega
     have hqs:q<s.size:=by omega
     have hqsI:(q:Int)<(s.size:Int):=by omega
     have g1:=af (Ag s j hjs);have g2:=af (Ag s q hqs);have HQ:=af hq;clear hj hq;by_cases hee:s[j]=s[q]
     ·
      have hst:Hid (agF s.data.toList p b (60-(k+1)) (k+1)=agN s.data.toList p b):=by
       show _=_;rw[←(ae HA).1,←EV (by omega) (by rw[lz,ae HJ];exact hjs) (by rw[ae HJ]at *;rw[show j-b=q by have:=ae HQ;omega,ae g1,ae g2];exact hee)]
      go_wp2_with fail
      go_quiet (fail)
      go_wp2;go_roundw
      case rel=>exact⟨k+1,by omega,by go_num,ae hst,below_drewN hbel _⟩
      case measure=>simp[intOf];omega
     ·
      have hst:Hid (agN s.data.toList p b=k):=by
       show _=_;rw[←(ae HA).1];refine pZ (.inr (.inr ?_)) (by omega);rw[ae HJ,show j-b=q by have:=ae HQ;omega,ae g1,ae g2];exact hee
      have hne:¬ s[j].toNat=s[q].toNat:=fun e=>hee (UInt8.toNat_inj.1 e);have hbj:((s[j].toNat:Int) == (s[q].toNat:Int))=false:=by simp;omega
      go_wp2_with fail
      go_quiet (fail)
      go_wp2;go_ret;exact⟨aQ (by rw[ae hst]),below_drewN hbel _⟩
    ·
     have dinN:decide (j<s.size)=false:=a0p (by omega);have hst:Hid (agN s.data.toList p b=k):=by
      show _=_;rw[←(ae HA).1];refine pZ (.inr (.inl ?_)) (by omega);rw[lz];omega
     clear hj;go_wp2_with fail
     go_quiet (fail)
     go_wp2;go_ret;exact⟨aQ (by rw[ae hst]),below_drewN hbel _⟩
   ·
    have d60:decide ((k:Int)<60)=false:=a0p h60;have hst:Hid (agN s.data.toList p b=k):=by
     show _=_;rw[←(ae HA).1];exact pZ (.inl (by have:=(ae HA).2;omega)) (ae HA).2
    clear hj;by_cases hin:(j:Int)<(s.size:Int)
    ·
     go_wp2_with fail
     go_quiet (fail)
     go_wp2;go_ret;exact⟨aQ (by rw[ae hst]),below_drewN hbel _⟩
    ·
     have dinN:decide (j<s.size)=false:=a0p (by omega);go_wp2_with fail
     go_quiet (fail)
     go_wp2;go_ret;exact⟨aQ (by rw[ae hst]),below_drewN hbel _⟩
theorem wZ(s:ByteArray)(p b:Nat)(w:World)(hs:s.size<=1048576)(hp:p<=s.size)(hb:1<=b)(hbp:b<=p) :
  Calls Tryz.prog 226 #[.string s,.int .i64 (p:Nat),.int .i64 (b:Nat)] w fun e w'=>e = .returned (.int .i64 (agN s.data.toList p b:Nat))/\Below w.heap.size w w':=yN _ (.inr rfl) s p b w hs hp hb hbp
end Go.Proofs.YtkdlcomfpffhhaaGreatDoor
