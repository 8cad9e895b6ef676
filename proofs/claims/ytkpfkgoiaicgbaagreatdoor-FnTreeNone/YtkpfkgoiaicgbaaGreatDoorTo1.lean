/- Contracts of how many bytes stand again, the model's and the program's, over this seat's program. -/
import Derived.Test.YtkpfkgoiaicgbaaGreatDoorM11
import Derived.Test.YtkpfkgoiaicgbaaGreatDoorM6
import Derived.Test.YtkpfkgoiaicgbaaGreatDoorM2
set_option linter.unusedSimpArgs false
set_option linter.unusedVariables false
set_option maxHeartbeats 1600000
namespace Go.Proofs.YtkpfkgoiaicgbaaGreatDoor
open Go.RowKit
theorem Aw(s:ByteArray)(i:Nat)(h:i<s.size):s.data.toList.getD i 0=s[i]:=by
 have h':i<s.data.toList.length:=by simpa using h
 rw[List.getD_eq_getElem?_getD,List.getElem?_eq_getElem h'];simp;rfl
theorem lF(s:ByteArray):s.data.toList.length=s.size:=by simp
theorem y8(f:Nat)(hf:f=200∨f=200)(s:ByteArray)(p b:Nat)(w:World)(hs:s.size<=1048576)(hp:p<=s.size)(hb:1<=b)(hbp:b<=p) :
  Calls Tryz.prog f #[.string s,.int .i64 (p:Nat),.int .i64 (b:Nat)] w fun e w'=>e = .returned (.int .i64 (agN s.data.toList p b:Nat))/\Below w.heap.size w w':=by
 have hsI:(s.size:Int)<=1048576:=by omega
 have hpI:(p:Int)<=(s.size:Int):=by omega
 have hbI:(1:Int)<=(b:Int):=by omega
 have hbpI:(b:Int)<=(p:Int):=by omega
 clear hs hp hb hbp;rcases hf with rfl|rfl
 case' inl=>go_enter Tryz.func200,Tryz.ntmps200
 case' inr=>go_enter Tryz.func200,Tryz.ntmps200
 all_goals
  go_wp2_with fail
  go_loopw [7] (fun i wr=>∃k:Nat,k<=60/\i = .int .i64 k/\agF s.data.toList p b (60-k) k=agN s.data.toList p b/\Below w.heap.size w wr) (fun i _=>60-(intOf i).toNat)
  case atStart=>exact⟨0,Nat.zero_le _,rfl,rfl,Below.refl _ _⟩
  case round=>
   obtain⟨k,hk,rfl,hag,hbel⟩:=hrel;have HA:=af (And.intro hag hk);have hkI:(k:Int)<=60:=by omega
   obtain⟨j,hj⟩:∃j:Nat,p+k=j:=⟨_,rfl⟩;have hjI:(p:Int)+(k:Int)=(j:Int):=by omega
   have HJ:=af hj;have hjb:(j:Int)<=2000000:=by omega
   have hwj:IntKind.i64.wrap (j:Int)=(j:Int):=eZ _ (by omega);clear hag hk;by_cases h60:(k:Int)<60
   ·
    by_cases hin:(j:Int)<(s.size:Int)
    ·
     obtain⟨q,hq⟩:∃q:Nat,p+k-b=q:=⟨_,rfl⟩;have hqI:(j:Int)-(b:Int)=(q:Int):=by omega
     have hwq:IntKind.i64.wrap (q:Int)=(q:Int):=eZ _ (by omega);have hjs:j<s.size:=by omega
     have hqs:q<s.size:=by omega
     have hqsI:(q:Int)<(s.size:Int):=by omega
     have g1:=af (Aw s j hjs);have g2:=af (Aw s q hqs);have HQ:=af hq;clear hj hq;by_cases hee:s[j]=s[q]
     ·
      have hst:Hid (agF s.data.toList p b (60-(k+1)) (k+1)=agN s.data.toList p b):=by
       show _=_;rw[←(ae HA).1,←Fg (by omega) (by rw[lF,ae HJ];exact hjs) (by rw[ae HJ]at *;rw[show j-b=q by have:=ae HQ;omega,ae g1,ae g2];exact hee)]
      go_wp2_with fail
      go_quiet (fail)
      go_wp2;go_roundw
      case rel=>exact⟨k+1,by omega,by go_num,ae hst,below_drewN hbel _⟩
      case measure=>simp[intOf];omega
     ·
      have hst:Hid (agN s.data.toList p b=k):=by
       show _=_;rw[←(ae HA).1];refine qo (.inr (.inr ?_)) (by omega);rw[ae HJ,show j-b=q by have:=ae HQ;omega,ae g1,ae g2];exact hee
      have hne:¬ s[j].toNat=s[q].toNat:=fun e=>hee (UInt8.toNat_inj.1 e);have hbj:((s[j].toNat:Int) == (s[q].toNat:Int))=false:=by simp;omega
      go_wp2_with fail
      go_quiet (fail)
      go_wp2;go_ret;exact⟨aR (by rw[ae hst]),below_drewN hbel _⟩
    ·
     have dinN:decide (j<s.size)=false:=decide_eq_false (by omega);have hst:Hid (agN s.data.toList p b=k):=by
      show _=_;rw[←(ae HA).1];refine qo (.inr (.inl ?_)) (by omega);rw[lF];omega
     clear hj;go_wp2_with fail
     go_quiet (fail)
     go_wp2;go_ret;exact⟨aR (by rw[ae hst]),below_drewN hbel _⟩
   ·
    have d60:decide ((k:Int)<60)=false:=decide_eq_false h60;have hst:Hid (agN s.data.toList p b=k):=by
     show _=_;rw[←(ae HA).1];exact qo (.inl (by have:=(ae HA).2;omega)) (ae HA).2
    clear hj;by_cases hin:(j:Int)<(s.size:Int)
    ·
     go_wp2_with fail
     go_quiet (fail)
     go_wp2;go_ret;exact⟨aR (by rw[ae hst]),below_drewN hbel _⟩
    ·
     have dinN:decide (j<s.size)=false:=decide_eq_false (by omega);go_wp2_with fail
     go_quiet (fail)
     go_wp2;go_ret;exact⟨aR (by rw[ae hst]),below_drewN hbel _⟩
theorem xw(s:ByteArray)(p b:Nat)(w:World)(hs:s.size<=1048576)(hp:p<=s.size)(hb:1<=b)(hbp:b<=p) :
  Calls Tryz.prog 200 #[.string s,.int .i64 (p:Nat),.int .i64 (b:Nat)] w fun e w'=>e = .returned (.int .i64 (agN s.data.toList p b:Nat))/\Below w.heap.size w w':=y8 _ (.inr rfl) s p b w hs hp hb hbp
end Go.Proofs.YtkpfkgoiaicgbaaGreatDoor
