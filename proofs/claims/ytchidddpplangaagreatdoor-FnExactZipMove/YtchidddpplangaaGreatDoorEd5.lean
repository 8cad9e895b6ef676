/- A file added to an archive: the model's l8Clash and l8Add. -/
import Derived.Test.YtchidddpplangaaGreatDoorM41
import Derived.Test.YtchidddpplangaaGreatDoorM39
import Derived.Test.YtchidddpplangaaGreatDoorM28
import Derived.Test.YtchidddpplangaaGreatDoorM2
import Derived.Deep.RegionHeld
import Derived.Laws.AppendOwnNone
set_option maxRecDepth 100000
set_option linter.unusedSimpArgs false
set_option linter.unusedVariables false
set_option maxHeartbeats 1600000
namespace Go.Proofs.YtchidddpplangaaGreatDoor
open Go.RowKit Corb
theorem I9(a b:ByteArray):bZ a.data.toList b.data.toList=(a.toList == b.toList || (fB a.data.toList b.data.toList || fB b.data.toList a.data.toList)):=by
 unfold bZ;rw[a1H,a1H,Bool.or_comm (fB b.data.toList _)]
theorem Ab(a:Option Addr)(cap:Nat)(l:List En)(n:Nat)(y:l.length=n)(x:ByteArray)(w:World)(h:kj w a l)(O:(n:Int)<=1048576)(G:(x.size:Int)<=1048576)
  (F:∀i,i<n->((l.getD i default).n.size:Int)<=1048576) :
  Calls Tryz.prog 20 #[.slice a n cap,.string x] w fun e w'=>e = .returned (.bool (i7 l x))/\w'=w:=by
 have K:=ae F;have J:=ae h;have z:=ae (fun k (v:k<l.length)=>@sO l x k v);have A:=ae (@pS l x);rw[y]at z A;have B:=ae y;clear h F y;go_enter Tryz.func20,Tryz.ntmps20;go_wp2_with fail
 go_loop [5] (fun i=>∃k:Nat,k<=n/\i = .int .i64 k/\(∀j,j<k->bZ (l.getD j default).n.data.toList x.data.toList=false)) (fun i=>n-(intOf i).toNat)
 case atStart=>exact⟨0,a0g _,rfl,fun j E=>absurd E (by omega)⟩
 case round=>
  obtain⟨k,v,rfl,f⟩:=hrel;have c:=ae f;clear f;by_cases d:k<n
  .
   have M:(k:Int)<(n:Int):=by omega
   obtain⟨g,o,rfl,N,D⟩:=ab J (by have:=ab B;omega);have c0:=(D k (by have:=ab B;omega)).1;have s:=ae d;have b:=ae (ab z k d);have r:=ab K k d;have H:=ae (fun W=>mn (l.getD k default).n x W r G);have I:=ae (fun W=>mn x (l.getD k default).n W G r);have q:Hid (bZ (l.getD k default).n.data.toList x.data.toList=false->∀j,j<k+1->bZ (l.getD j default).n.data.toList x.data.toList=false):=by
    intro e j E;by_cases u:j=k
    . rw[u];exact e
    . exact ab c j (by omega)
   rw[I9]at b q;clear D v c d r;generalize (l.getD k default).n=p at *
   generalize fB p.data.toList x.data.toList=u1 at *
   generalize fB x.data.toList p.data.toList=u2 at *
   cases C:(p.toList == x.toList)
   .
    rw[C]at b q;go_wp2_with fail;refine(ab H _).mono ?_;rintro e w1 ⟨rfl,t⟩;rw[t];clear t;cases u1
    .
     go_wp2_with fail;refine(ab I _).mono ?_;rintro e w2 ⟨rfl,t⟩;rw[t];clear t;cases u2
     .
      have L:=ae (ab q rfl);go_wp2
      go_round
      case rel=>exact⟨k+1,by have:=ab s;omega,by go_num,ab L⟩
      case measure=>have:=ab s;simp[intOf];omega
     . have m:=ae (ab b rfl);go_wp2;go_ret;exact⟨by rw[ab m];rfl,rfl⟩
    . have m:=ae (ab b rfl);go_wp2;go_ret;exact⟨by rw[ab m];rfl,rfl⟩
   . rw[C]at b;have m:=ae (ab b rfl);go_wp2;go_ret;exact⟨by rw[ab m];rfl,rfl⟩
  .
   obtain rfl:k=n:=by omega
   have m:=ae (ab A (ab c));go_wp2;go_ret;exact⟨by rw[ab m];rfl,rfl⟩
end Go.Proofs.YtchidddpplangaaGreatDoor
