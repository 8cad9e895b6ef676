/- Contracts of how many bytes stand again, the model's and the program's, over this seat's program. -/
import Derived.Test.YtkdlcomfpffhhaaGreatDoorM10
import Derived.Test.YtkdlcomfpffhhaaGreatDoorM5
import Derived.Test.YtkdlcomfpffhhaaGreatDoorM2
set_option linter.unusedSimpArgs false
set_option linter.unusedVariables false
set_option maxHeartbeats 1600000
namespace Go.Proofs.YtkdlcomfpffhhaaGreatDoor
open Go.Proofs.Tryz
open Go.RowKit
theorem BR(s:ByteArray)(i:Nat)(h:i<s.size):s.data.toList.getD i 0=s[i]:=by
 have a:i<s.data.toList.length:=by simpa using h
 rw[List.getD_eq_getElem?_getD,List.getElem?_eq_getElem a];simp;rfl
theorem jZ(s:ByteArray):s.data.toList.length=s.size:=by simp
theorem Ag(f:Nat)(D:f=264∨f=226)(s:ByteArray)(p b:Nat)(w:World)(L:s.size<=1048576)(I:p<=s.size)(hb:1<=b)(r:b<=p) :
  Calls prog f #[.string s,.int .i64 (p:Nat),.int .i64 (b:Nat)] w fun e w'=>e = .returned (.int .i64 (agN s.data.toList p b:Nat))/\Below w.heap.size w w':=by
 have M:(s.size:Int)<=1048576:=by omega
 have J:(p:Int)<=(s.size:Int):=by omega
 have B:(1:Int)<=(b:Int):=by omega
 have x:(b:Int)<=(p:Int):=by omega
 clear L I hb r;rcases D with rfl|rfl
 case' inl=>go_enter func264,ntmps264
 case' inr=>go_enter func226,ntmps226
 all_goals
  go_wp2_with fail
  go_loopw [7] (fun i wr=>∃k:Nat,k<=60/\i = .int .i64 k/\agF s.data.toList p b (60-k) k=agN s.data.toList p b/\Below w.heap.size w wr) (fun i _=>60-(intOf i).toNat)
  case atStart=>exact⟨0,a0h _,rfl,rfl,a0c _ _⟩
  case round=>
   obtain⟨k,y,rfl,l,a⟩:=hrel;have g:=af (a0b l y);have G:(k:Int)<=60:=by omega
   obtain⟨j,hj⟩:∃j:Nat,p+k=j:=⟨_,rfl⟩;have E:(p:Int)+(k:Int)=(j:Int):=by omega
   have n:=af hj;have F:(j:Int)<=2000000:=by omega
   have N:IntKind.i64.wrap (j:Int)=(j:Int):=fB _ (by omega);clear l y;by_cases o:(k:Int)<60
   .
    by_cases t:(j:Int)<(s.size:Int)
    .
     obtain⟨q,hq⟩:∃q:Nat,p+k-b=q:=⟨_,rfl⟩;have K:(j:Int)-(b:Int)=(q:Int):=by omega
     have O:IntKind.i64.wrap (q:Int)=(q:Int):=fB _ (by omega);have m:j<s.size:=by omega
     have u:q<s.size:=by omega
     have z:(q:Int)<(s.size:Int):=by omega
     have g1:=af (BR s j m);have g2:=af (BR s q u);have v:=af hq;clear hj hq;by_cases d:s[j]=s[q]
     .
      have c:Hid (agF s.data.toList p b (60-(k+1)) (k+1)=agN s.data.toList p b):=by
       show _=_;rw[←(ae g).1,←Gv (by omega) (by rw[jZ,ae n];exact m) (by rw[ae n]at *;rw[show j-b=q by have:=ae v;omega,ae g1,ae g2];exact d)]
      go_wp2_with fail
      go_quiet (fail)
      go_wp2;go_roundw
      case rel=>exact⟨k+1,by omega,by go_num,ae c,below_drewN a _⟩
      case measure=>simp[intOf];omega
     .
      have c:Hid (agN s.data.toList p b=k):=by
       show _=_;rw[←(ae g).1];refine qY (.inr (.inr ?_)) (by omega);rw[ae n,show j-b=q by have:=ae v;omega,ae g1,ae g2];exact d
      have H:¬ s[j].toNat=s[q].toNat:=fun e=>d (UInt8.toNat_inj.1 e);have C:((s[j].toNat:Int) == (s[q].toNat:Int))=false:=by simp;omega
      go_wp2_with fail
      go_quiet (fail)
      go_wp2;go_ret;exact⟨aO (by rw[ae c]),below_drewN a _⟩
    .
     have h:decide (j<s.size)=false:=a0j (by omega);have c:Hid (agN s.data.toList p b=k):=by
      show _=_;rw[←(ae g).1];refine qY (.inr (.inl ?_)) (by omega);rw[jZ];omega
     clear hj;go_wp2_with fail
     go_quiet (fail)
     go_wp2;go_ret;exact⟨aO (by rw[ae c]),below_drewN a _⟩
   .
    have A:decide ((k:Int)<60)=false:=a0j o;have c:Hid (agN s.data.toList p b=k):=by
     show _=_;rw[←(ae g).1];exact qY (.inl (by have:=(ae g).2;omega)) (ae g).2
    clear hj;by_cases t:(j:Int)<(s.size:Int)
    .
     go_wp2_with fail
     go_quiet (fail)
     go_wp2;go_ret;exact⟨aO (by rw[ae c]),below_drewN a _⟩
    .
     have h:decide (j<s.size)=false:=a0j (by omega);go_wp2_with fail
     go_quiet (fail)
     go_wp2;go_ret;exact⟨aO (by rw[ae c]),below_drewN a _⟩
theorem xZ(s:ByteArray)(p b:Nat)(w:World)(d:s.size<=1048576)(c:p<=s.size)(hb:1<=b)(a:b<=p) :
  CD 264 #[.string s,.int .i64 (p:Nat),.int .i64 (b:Nat)] w (.int .i64 (agN s.data.toList p b:Nat)):=Ag _ (.inl rfl) s p b w d c hb a
end Go.Proofs.YtkdlcomfpffhhaaGreatDoor
