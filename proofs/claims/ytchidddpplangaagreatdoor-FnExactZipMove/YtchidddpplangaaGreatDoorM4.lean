/- Of what the proof is made: 3 texts, one behind the other. -/
import Derived.Test.YtchidddpplangaaGreatDoorRows
import Derived.ChangeSame
import Derived.ChangeOld
import Derived.ProofKit
import Derived.OpenShut
import Derived.Test.YtchidddpplangaaGreatDoorM3
import Derived.Deep.RegionHeld3
import Derived.Lib.Strings
set_option linter.unusedSimpArgs false
set_option linter.unusedVariables false
set_option maxHeartbeats 800000
namespace Go.Proofs.YtchidddpplangaaGreatDoor
open Go.ChangeShapes Go.WideShapes Go.ChangeAt Go.RowKit
theorem af{P : Program}{ops : Array Oper}{Q : Exit -> Act -> World -> Prop}{md : Region.Mode}{S : World -> Prop}(i : Nat)(v : Value){oi : Oper}{fuel : Nat}{listed : Array Bool}{a : Act}{w : World}(g : ops[i]? = some oi)(hb : (Region.noSelect ops && Region.free md ops listed i && (Region.ready md ops listed).contains i) = true)(e : ∀c a w, Q (.panic c) (a.put oi.dst v) w -> Q (.panic c) a w)(b : Region.wanted oi (yielded ops a.tmps) = true)(d : ∀w, S w -> (execOp a.eval oi).run P w = .ok (.value v) w)(f : S w)(h : wpAnyH P md ops Q S fuel (listed.setIfInBounds i true) (a.put oi.dst v) w) : wpAnyH P md ops Q S (fuel + 1) listed a w := by
 simp only[a0n]at hb;exact wpAnyH_take g hb.1.1 hb.1.2 hb.2 e (a0A ⟨b, d⟩) f h
theorem ag{P : Program}{ops : Array Oper}{Q : Exit -> Act -> World -> Prop}{md : Region.Mode}{S : World -> Prop}(i : Nat){o : Oper}{fuel : Nat}{listed : Array Bool}{a : Act}{w : World}(c : Region.ready md ops listed = [i])(b : ops[i]? = some o)(h : ∀K' : Act -> World -> Prop, Shut (∀a w, S w -> (S w -> wpAnyH P md ops Q S fuel (listed.setIfInBounds i true) a w) -> K' a w) -> if Region.wanted o (yielded ops a.tmps) = true then Oper.wp P o a w K' Q else K' (a.put o.dst undef) w) : wpAnyH P md ops Q S (fuel + 1) listed a w := wpAnyH_ready c (by simp) (AllReadyH.cons b h AllReadyH.nil)
section
variable {H : Type} {enc : TypeId × Value → H} {P : Program} {w : World} {base : Nat} {spare : Nat → Bool} {held : Bool}
end
end Go.Proofs.YtchidddpplangaaGreatDoor
namespace Go.Proofs.YtchidddpplangaaGreatDoor
open Go.RowKit
variable {a b:ByteArray}
theorem iv{P:Program}{md:Region.Mode}{ops:Array Oper}{Q:Exit->Act->World->Prop}{S S':World->Prop}(c:∀w,S' w->S w):∀(fuel:Nat) (listed:Array Bool) (a:Act) (w:World),wpAnyH P md ops Q S' fuel listed a w->wpAnyH P md ops Q S fuel listed a w
 | 0,_,_,_,h=>h
 | fuel+1,_,_,_,h=>⟨h.1,fun i d=>wpOp_mono (fun a' w' b=>⟨c _ b.1,iv c fuel _ a' w' b.2⟩) (h.2 i d)⟩
def fB(a b:List UInt8):Bool:=(a++[47]).isPrefixOf b
theorem Ir(h:b.size<=a.size):fB a.data.toList b.data.toList=false:=by
 cases e:fB a.data.toList b.data.toList
 . rfl
 .
  have:=(List.isPrefixOf_iff_prefix.1 e).length_le;have e1:a.data.toList.length=a.size:=by simp
  have e2:b.data.toList.length=b.size:=by simp
  rw[a0j]at this;simp only[a0D,a0S]at this;omega
theorem Iq(k:¬ (b.data.toList.take a.size)=a.data.toList):fB a.data.toList b.data.toList=false:=by
 cases e:fB a.data.toList b.data.toList
 . rfl
 .
  exfalso;apply k;obtain⟨t,c⟩:=List.isPrefixOf_iff_prefix.1 e;rw[←c];have e1:a.data.toList.length=a.size:=by simp
  rw[a0L,←e1,List.take_left'];rfl
theorem Ly(h:a.size<b.size)(k:(b.data.toList.take a.size)=a.data.toList):fB a.data.toList b.data.toList=(b[a.size] == 47):=by
 have e2:b.data.toList.length=b.size:=by simp
 have d:a.size<b.data.toList.length:=by omega
 have e3:b.data.toList=a.data.toList++(b[a.size] :: b.data.toList.drop (a.size+1)):=by
  have:=a1n a.size b.data.toList;rw[k,a3m d]at this;exact this.symm
 unfold fB;rw[e3];cases hb:(b[a.size] == 47)
 .
  cases e:(a.data.toList++[47]).isPrefixOf (a.data.toList++(b[a.size] :: b.data.toList.drop (a.size+1)))
  . rfl
  . have:=List.isPrefixOf_iff_prefix.1 e;rw[List.prefix_append_right_inj]at this;obtain⟨t,c⟩:=this;simp only[a18,a1G,List.cons.injEq]at c;rw[←c.1]at hb;simp at hb
 . rw[List.isPrefixOf_iff_prefix,List.prefix_append_right_inj];rw[a2N.1 hb];exact⟨_,rfl⟩
theorem EH(b:ByteArray)(k:Nat):(b.extract 0 k).toList=b.data.toList.take k:=by
 rw[a1H,Lib.extract_data];simp
theorem I7(x:UInt8):((x.toNat:Int) == 47)=(x == 47):=by
 cases e:(x == 47)
 .
  have:¬ x.toNat=47:=fun h=>by rw[UInt8.toNat_inj.1 (show x.toNat=(47:UInt8).toNat from h)]at e;cases e
  simp;omega
 . rw[a2N.1 e];rfl
theorem mn(a b:ByteArray)(w:World)(g:(a.size:Int)<=1048576)(_:(b.size:Int)<=1048576) :
  Calls Tryz.prog 40 #[.string a,.string b] w fun e w'=>e = .returned (.bool (fB a.data.toList b.data.toList))/\w'=w:=by
 by_cases h:a.size<b.size
 .
  have d:(a.size:Int)<(b.size:Int):=by omega
  by_cases k:(b.data.toList.take a.size)=a.data.toList
  .
   have c:=ae (Ly h k);have f:(b.extract 0 a.size).toList=a.toList:=by rw[EH,k,a1H]
   go_enter Tryz.func40,Tryz.ntmps40;go_wp2;go_ret;exact⟨ak ((I7 _).trans (ab c).symm),rfl⟩
  . have c:=ae (Iq k);have f:¬ (b.extract 0 a.size).toList=a.toList:=fun e=>k (by rw[←EH,e,a1H]);go_enter Tryz.func40,Tryz.ntmps40;go_wp2;go_ret;exact⟨ak (ab c).symm,rfl⟩
 .
  have c:=ae (Ir (a:=a) (b:=b) (by omega));have d:¬ (a.size:Int)<(b.size:Int):=by omega
  go_enter Tryz.func40,Tryz.ntmps40;go_wp2;go_ret;exact⟨ak (ab c).symm,rfl⟩
end Go.Proofs.YtchidddpplangaaGreatDoor
