/- Contracts of how many bytes stand again, the model's and the program's, over this seat's program. -/
import Derived.Test.YtbacpebljannfaaGreatDoorM9
import Derived.Test.YtbacpebljannfaaGreatDoorM4
import Derived.Test.YtbacpebljannfaaGreatDoorBits
set_option linter.unusedSimpArgs false
set_option maxHeartbeats 1600000
namespace Go.Proofs.YtbacpebljannfaaGreatDoor
open Go.RowKit
theorem mV(s:ByteArray)(i:Nat)(h:i<s.size):s.data.toList.getD i 0=s[i]:=by
 have h':i<s.data.toList.length:=by simpa using h
 rw[List.getD_eq_getElem?_getD,List.getElem?_eq_getElem h'];simp;rfl
theorem fA(s:ByteArray):s.data.toList.length=s.size:=by simp
theorem vQ(s:ByteArray)(p b:Nat)(w:World)(hs:s.size<=1048576)(hp:p<=s.size)(hb:1<=b)(hbp:b<=p) :
  Calls Tryz.prog 167 #[.string s,.int .i64 (p:Nat),.int .i64 (b:Nat)] w fun e w'=>e = .returned (.int .i64 (agN s.data.toList p b:Nat))/\Below w.heap.size w w':=by
 have hsI:(s.size:Int)<=1048576:=by omega
 have hpI:(p:Int)<=(s.size:Int):=by omega
 have hbI:(1:Int)<=(b:Int):=by omega
 have hbpI:(b:Int)<=(p:Int):=by omega
 have HP:=af (a0b hb hbp);clear hs hp hb hbp;go_enter Tryz.func167,Tryz.ntmps167;go_wp2_with fail
 go_loopw [7] (fun i wr=>∃k:Nat,k<=60/\i = .int .i64 k/\agF s.data.toList p b (60-k) k=agN s.data.toList p b/\Below w.heap.size w wr) (fun i _=>60-(intOf i).toNat)
 case atStart=>exact⟨0,a0m _,rfl,rfl,a0c _ _⟩
 case round=>
  obtain⟨k,hk,rfl,hag,hbel⟩:=hrel;have HA:=af (a0b hag hk);have hkI:(k:Int)<=60:=by omega
  obtain⟨j,hj⟩:∃j:Nat,p+k=j:=⟨_,rfl⟩;have hjI:(p:Int)+(k:Int)=(j:Int):=by omega
  have HJ:=af hj;have hjb:(j:Int)<=2000000:=by omega
  have hwj:IntKind.i64.wrap (j:Int)=(j:Int):=dL _ (by omega);clear hag hk;by_cases h60:(k:Int)<60
  ·
   have d60:decide ((k:Int)<60)=true:=a0s h60;by_cases hin:(j:Int)<(s.size:Int)
   ·
    have din:decide ((j:Int)<(s.size:Int))=true:=a0s hin;obtain⟨q,hq⟩:∃q:Nat,p+k-b=q:=⟨_,rfl⟩;have hqI:(j:Int)-(b:Int)=(q:Int):=by omega
    have hwq:IntKind.i64.wrap (q:Int)=(q:Int):=dL _ (by omega);have hjs:j<s.size:=by omega
    have hqs:q<s.size:=by omega
    have hqsI:(q:Int)<(s.size:Int):=by omega
    have g1:=af (mV s j hjs);have g2:=af (mV s q hqs);have HQ:=af hq;clear hj hq;by_cases hee:s[j]=s[q]
    ·
     have hst:Hid (agF s.data.toList p b (60-(k+1)) (k+1)=agN s.data.toList p b):=by
      show _=_;rw[←(ae HA).1,←uQ (by omega) (by rw[fA,ae HJ];exact hjs) (by rw[ae HJ]at *;rw[show j-b=q by have:=ae HQ;omega,ae g1,ae g2];exact hee)]
     have hej:(s[j].toNat:Int)=(s[q].toNat:Int):=by rw[hee]
     have hbj:((s[j].toNat:Int) == (s[q].toNat:Int))=true:=by simp[hee]
     go_wp2_with fail
     go_quiet (fail)
     go_wp2;go_roundw
     case rel=>exact⟨k+1,by omega,by go_num,ae hst,a0D hbel _⟩
     case measure=>simp[intOf];omega
    ·
     have hst:Hid (agN s.data.toList p b=k):=by
      show _=_;rw[←(ae HA).1];refine i6 (.inr (.inr ?_)) (by omega);rw[ae HJ,show j-b=q by have:=ae HQ;omega,ae g1,ae g2];exact hee
     have hne:¬ s[j].toNat=s[q].toNat:=fun e=>hee (UInt8.toNat_inj.1 e);have hbj:((s[j].toNat:Int) == (s[q].toNat:Int))=false:=by simp;omega
     go_wp2_with fail
     go_quiet (fail)
     go_wp2;go_ret;exact⟨aH (by rw[ae hst]),a0D hbel _⟩
   ·
    have din:decide ((j:Int)<(s.size:Int))=false:=a0r hin;have dinN:decide (j<s.size)=false:=a0r (by omega);have hst:Hid (agN s.data.toList p b=k):=by
     show _=_;rw[←(ae HA).1];refine i6 (.inr (.inl ?_)) (by omega);rw[fA];omega
    clear hj;go_wp2_with fail
    go_quiet (fail)
    go_wp2;go_ret;exact⟨aH (by rw[ae hst]),a0D hbel _⟩
  ·
   have d60:decide ((k:Int)<60)=false:=a0r h60;have hst:Hid (agN s.data.toList p b=k):=by
    show _=_;rw[←(ae HA).1];exact i6 (.inl (by have:=(ae HA).2;omega)) (ae HA).2
   clear hj;by_cases hin:(j:Int)<(s.size:Int)
   ·
    have din:decide ((j:Int)<(s.size:Int))=true:=a0s hin;go_wp2_with fail
    go_quiet (fail)
    go_wp2;go_ret;exact⟨aH (by rw[ae hst]),a0D hbel _⟩
   ·
    have din:decide ((j:Int)<(s.size:Int))=false:=a0r hin;have dinN:decide (j<s.size)=false:=a0r (by omega);go_wp2_with fail
    go_quiet (fail)
    go_wp2;go_ret;exact⟨aH (by rw[ae hst]),a0D hbel _⟩
theorem wm(s:ByteArray)(p b:Nat)(w:World)(hs:s.size<=1048576)(hp:p<=s.size)(hb:1<=b)(hbp:b<=p) :
  Calls Tryz.prog 202 #[.string s,.int .i64 (p:Nat),.int .i64 (b:Nat)] w fun e w'=>e = .returned (.int .i64 (agN s.data.toList p b:Nat))/\Below w.heap.size w w':=by
 have hsI:(s.size:Int)<=1048576:=by omega
 have hpI:(p:Int)<=(s.size:Int):=by omega
 have hbI:(1:Int)<=(b:Int):=by omega
 have hbpI:(b:Int)<=(p:Int):=by omega
 have HP:=af (a0b hb hbp);clear hs hp hb hbp;go_enter Tryz.func202,Tryz.ntmps202;go_wp2_with fail
 go_loopw [7] (fun i wr=>∃k:Nat,k<=60/\i = .int .i64 k/\agF s.data.toList p b (60-k) k=agN s.data.toList p b/\Below w.heap.size w wr) (fun i _=>60-(intOf i).toNat)
 case atStart=>exact⟨0,a0m _,rfl,rfl,a0c _ _⟩
 case round=>
  obtain⟨k,hk,rfl,hag,hbel⟩:=hrel;have HA:=af (a0b hag hk);have hkI:(k:Int)<=60:=by omega
  obtain⟨j,hj⟩:∃j:Nat,p+k=j:=⟨_,rfl⟩;have hjI:(p:Int)+(k:Int)=(j:Int):=by omega
  have HJ:=af hj;have hjb:(j:Int)<=2000000:=by omega
  have hwj:IntKind.i64.wrap (j:Int)=(j:Int):=dL _ (by omega);clear hag hk;by_cases h60:(k:Int)<60
  ·
   have d60:decide ((k:Int)<60)=true:=a0s h60;by_cases hin:(j:Int)<(s.size:Int)
   ·
    have din:decide ((j:Int)<(s.size:Int))=true:=a0s hin;obtain⟨q,hq⟩:∃q:Nat,p+k-b=q:=⟨_,rfl⟩;have hqI:(j:Int)-(b:Int)=(q:Int):=by omega
    have hwq:IntKind.i64.wrap (q:Int)=(q:Int):=dL _ (by omega);have hjs:j<s.size:=by omega
    have hqs:q<s.size:=by omega
    have hqsI:(q:Int)<(s.size:Int):=by omega
    have g1:=af (mV s j hjs);have g2:=af (mV s q hqs);have HQ:=af hq;clear hj hq;by_cases hee:s[j]=s[q]
    ·
     have hst:Hid (agF s.data.toList p b (60-(k+1)) (k+1)=agN s.data.toList p b):=by
      show _=_;rw[←(ae HA).1,←uQ (by omega) (by rw[fA,ae HJ];exact hjs) (by rw[ae HJ]at *;rw[show j-b=q by have:=ae HQ;omega,ae g1,ae g2];exact hee)]
     have hej:(s[j].toNat:Int)=(s[q].toNat:Int):=by rw[hee]
     have hbj:((s[j].toNat:Int) == (s[q].toNat:Int))=true:=by simp[hee]
     go_wp2_with fail
     go_quiet (fail)
     go_wp2;go_roundw
     case rel=>exact⟨k+1,by omega,by go_num,ae hst,a0D hbel _⟩
     case measure=>simp[intOf];omega
    ·
     have hst:Hid (agN s.data.toList p b=k):=by
      show _=_;rw[←(ae HA).1];refine i6 (.inr (.inr ?_)) (by omega);rw[ae HJ,show j-b=q by have:=ae HQ;omega,ae g1,ae g2];exact hee
     have hne:¬ s[j].toNat=s[q].toNat:=fun e=>hee (UInt8.toNat_inj.1 e);have hbj:((s[j].toNat:Int) == (s[q].toNat:Int))=false:=by simp;omega
     go_wp2_with fail
     go_quiet (fail)
     go_wp2;go_ret;exact⟨aH (by rw[ae hst]),a0D hbel _⟩
   ·
    have din:decide ((j:Int)<(s.size:Int))=false:=a0r hin;have dinN:decide (j<s.size)=false:=a0r (by omega);have hst:Hid (agN s.data.toList p b=k):=by
     show _=_;rw[←(ae HA).1];refine i6 (.inr (.inl ?_)) (by omega);rw[fA];omega
    clear hj;go_wp2_with fail
    go_quiet (fail)
    go_wp2;go_ret;exact⟨aH (by rw[ae hst]),a0D hbel _⟩
  ·
   have d60:decide ((k:Int)<60)=false:=a0r h60;have hst:Hid (agN s.data.toList p b=k):=by
    show _=_;rw[←(ae HA).1];exact i6 (.inl (by have:=(ae HA).2;omega)) (ae HA).2
   clear hj;go_wp2_with fail
   go_quiet (fail)
   go_wp2;go_ret;exact⟨aH (by rw[ae hst]),a0D hbel _⟩
end Go.Proofs.YtbacpebljannfaaGreatDoor
