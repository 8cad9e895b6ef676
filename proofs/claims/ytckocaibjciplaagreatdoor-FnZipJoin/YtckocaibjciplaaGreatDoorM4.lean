/- Texts. -/
import Derived.ProofKit
import Derived.OpenShut
import Derived.Test.YtckocaibjciplaaGreatDoorM3
import Derived.Deep.RegionHeld3
set_option linter.all false
set_option maxHeartbeats 800000
namespace Go.Proofs.YtckocaibjciplaaGreatDoor
open Go.ChangeShapes Go.WideShapes Go.ChangeAt Go.RowKit
section
variable {H : Type} {enc : TypeId × Value → H} {P : Program} {w : World} {base : Nat} {spare : Nat → Bool} {held : Bool}
end
end Go.Proofs.YtckocaibjciplaaGreatDoor
namespace Go.Proofs.YtckocaibjciplaaGreatDoor
open Go.RowKit
variable {a b:ByteArray}
theorem eQ{P:Program}{md:Region.Mode}{ops:Array Oper}{Q:Exit->Act->World->Prop}{S S':World->Prop}(c:∀w,S' w->S w):∀(fuel:Nat) (listed:Array Bool) (a:Act) (w:World),wpAnyH P md ops Q S' fuel listed a w->wpAnyH P md ops Q S fuel listed a w
 | 0,_,_,_,h=>h
 | fuel+1,_,_,_,h=>⟨h.1,fun i d=>wpOp_mono (fun a' w' b=>⟨c _ b.1,eQ c fuel _ a' w' b.2⟩) (h.2 i d)⟩
def fX(a b:List UInt8):Bool:=(a++[47]).isPrefixOf b
def JY(h:b.size<=a.size):fX a.data.toList b.data.toList=false:=by
 cases e:fX a.data.toList b.data.toList
 . rfl
 .
  have:=(List.isPrefixOf_iff_prefix.1 e).length_le;have e1:a.data.toList.length=a.size:=by simp
  have e2:b.data.toList.length=b.size:=by simp
  rw[a0i]at this;simp only[a0B,a0T]at this;omega
def JX(k:¬ (b.data.toList.take a.size)=a.data.toList):fX a.data.toList b.data.toList=false:=by
 cases e:fX a.data.toList b.data.toList
 . rfl
 .
  exfalso;apply k;obtain⟨t,c⟩:=List.isPrefixOf_iff_prefix.1 e;rw[←c];have e1:a.data.toList.length=a.size:=by simp
  rw[a0K,←e1,List.take_left'];rfl
def NR(h:a.size<b.size)(k:(b.data.toList.take a.size)=a.data.toList):fX a.data.toList b.data.toList=(b[a.size] == 47):=by
 have e2:b.data.toList.length=b.size:=by simp
 have d:a.size<b.data.toList.length:=by omega
 have e3:b.data.toList=a.data.toList++(b[a.size] :: b.data.toList.drop (a.size+1)):=by
  have:=a1V a.size b.data.toList;rw[k,a2Z d]at this;exact this.symm
 unfold fX;rw[e3];cases hb:(b[a.size] == 47)
 .
  cases e:(a.data.toList++[47]).isPrefixOf (a.data.toList++(b[a.size] :: b.data.toList.drop (a.size+1)))
  . rfl
  . have:=List.isPrefixOf_iff_prefix.1 e;rw[List.prefix_append_right_inj]at this;obtain⟨t,c⟩:=this;simp only[a1m,a08,a20]at c;rw[←c.1]at hb;simp at hb
 . rw[List.isPrefixOf_iff_prefix,List.prefix_append_right_inj];rw[a3V.1 hb];exact⟨_,rfl⟩
def Gh(b:ByteArray)(k:Nat):(b.extract 0 k).toList=b.data.toList.take k:=by
 rw[a1K,Lib.extract_data];simp
def KY(x:UInt8):((x.toNat:Int) == 47)=(x == 47):=by
 cases e:(x == 47)
 .
  have:¬ x.toNat=47:=fun h=>by rw[UInt8.toNat_inj.1 (show x.toNat=(47:UInt8).toNat from h)]at e;cases e
  simp;omega
 . rw[a3V.1 e];rfl
def mR(a b:ByteArray)(w:World)(g:(a.size:Int)<=1048576)(_:(b.size:Int)<=1048576) :
  Calls Tryz.prog 81 #[a,b] w fun e w'=>e = .returned (.bool (fX a.data.toList b.data.toList))/\w'=w:=by
 by_cases h:a.size<b.size
 .
  have d:(a.size:Int)<(b.size:Int):=by omega
  by_cases k:(b.data.toList.take a.size)=a.data.toList
  .
   have c:=af (NR h k);have f:(b.extract 0 a.size).toList=a.toList:=by rw[Gh,k,a1K]
   go_enter Tryz.func81,Tryz.ntmps81;go_wp2;go_ret;exact⟨am ((KY _).trans c.symm),rfl⟩
  . have c:=af (JX k);have f:¬ (b.extract 0 a.size).toList=a.toList:=fun e=>k (by rw[←Gh,e,a1K]);go_enter Tryz.func81,Tryz.ntmps81;go_wp2;go_ret;exact⟨am c.symm,rfl⟩
 .
  have c:=af (JY (a:=a) (b:=b) (by omega));have d:¬ (a.size:Int)<(b.size:Int):=by omega
  go_enter Tryz.func81,Tryz.ntmps81;go_wp2;go_ret;exact⟨am c.symm,rfl⟩
