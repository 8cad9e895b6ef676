/- Of what the proof is made: 3 texts, one behind the other. -/
import Derived.Test.YtfhdadkcophoaaaGreatDoorRows
import Derived.ChangeSame
import Derived.ChangeOld
import Derived.ProofKit
import Derived.OpenShut
import Derived.Test.YtfhdadkcophoaaaGreatDoorM3
import Derived.Deep.RegionHeld3
import Derived.Lib.Strings
set_option linter.unusedSimpArgs false
set_option linter.unusedVariables false
set_option maxHeartbeats 800000
namespace Go.Proofs.YtfhdadkcophoaaaGreatDoor
open Go.ChangeShapes Go.WideShapes Go.ChangeAt Go.RowKit
theorem ai{P : Program}{ops : Array Oper}{Q : Exit -> Act -> World -> Prop}{md : Region.Mode}{S : World -> Prop}(i : Nat)(v : Value){oi : Oper}{fuel : Nat}{listed : Array Bool}{a : Act}{w : World}(hi : ops[i]? = some oi)(hb : (Region.noSelect ops && Region.free md ops listed i && (Region.ready md ops listed).contains i) = true)(hQ : ∀c a w, Q (.panic c) (a.put oi.dst v) w -> Q (.panic c) a w)(h0 : Region.wanted oi (yielded ops a.tmps) = true)(h1 : ∀w, S w -> (execOp a.eval oi).run P w = .ok (.value v) w)(hS : S w)(h : wpAnyH P md ops Q S fuel (listed.setIfInBounds i true) (a.put oi.dst v) w) : wpAnyH P md ops Q S (fuel + 1) listed a w := by
 simp only[a0j]at hb;exact wpAnyH_take hi hb.1.1 hb.1.2 hb.2 hQ (a0B ⟨h0, h1⟩) hS h
theorem aj{P : Program}{ops : Array Oper}{Q : Exit -> Act -> World -> Prop}{md : Region.Mode}{S : World -> Prop}(i : Nat){o : Oper}{fuel : Nat}{listed : Array Bool}{a : Act}{w : World}(hr : Region.ready md ops listed = [i])(ho : ops[i]? = some o)(h : ∀K' : Act -> World -> Prop, Shut (∀a w, S w -> (S w -> wpAnyH P md ops Q S fuel (listed.setIfInBounds i true) a w) -> K' a w) -> if Region.wanted o (yielded ops a.tmps) = true then Oper.wp P o a w K' Q else K' (a.put o.dst undef) w) : wpAnyH P md ops Q S (fuel + 1) listed a w := wpAnyH_ready hr (by simp) (AllReadyH.cons ho h AllReadyH.nil)
section
variable {H : Type} {enc : TypeId × Value → H} {P : Program} {w : World} {base : Nat} {spare : Nat → Bool} {held : Bool}
end
end Go.Proofs.YtfhdadkcophoaaaGreatDoor
namespace Go.Proofs.YtfhdadkcophoaaaGreatDoor
open Go.RowKit
theorem lX{P:Program}{md:Region.Mode}{ops:Array Oper}{Q:Exit->Act->World->Prop}{S S':World->Prop}(hS:∀w,S' w->S w):∀(fuel:Nat) (listed:Array Bool) (a:Act) (w:World),wpAnyH P md ops Q S' fuel listed a w->wpAnyH P md ops Q S fuel listed a w
 | 0,_,_,_,h=>h
 | fuel+1,_,_,_,h=>⟨h.1,fun i hi=>wpOp_mono (fun a' w' h'=>⟨hS _ h'.1,lX hS fuel _ a' w' h'.2⟩) (h.2 i hi)⟩
def dQ(a b:List UInt8):Bool:=(a++[47]).isPrefixOf b
theorem Eu{a b:ByteArray}(h:b.size<=a.size):dQ a.data.toList b.data.toList=false:=by
 cases e:dQ a.data.toList b.data.toList
 · rfl
 ·
  have:=(a28.1 e).length_le;have e1:a.data.toList.length=a.size:=by simp
  have e2:b.data.toList.length=b.size:=by simp
  rw[a0i]at this;simp only[a0y,a02]at this;omega
theorem Et{a b:ByteArray}(k:¬ (b.data.toList.take a.size)=a.data.toList):dQ a.data.toList b.data.toList=false:=by
 cases e:dQ a.data.toList b.data.toList
 · rfl
 ·
  exfalso;apply k;obtain⟨t,ht⟩:=a28.1 e;rw[←ht];have e1:a.data.toList.length=a.size:=by simp
  rw[a0O,←e1,List.take_left'];rfl
theorem IV{a b:ByteArray}(h:a.size<b.size)(k:(b.data.toList.take a.size)=a.data.toList):dQ a.data.toList b.data.toList=(b[a.size] == 47):=by
 have e2:b.data.toList.length=b.size:=by simp
 have hl:a.size<b.data.toList.length:=by omega
 have e3:b.data.toList=a.data.toList++(b[a.size] :: b.data.toList.drop (a.size+1)):=by
  have:=a1s a.size b.data.toList;rw[k,a27 hl]at this;exact this.symm
 unfold dQ;rw[e3];cases hb:(b[a.size] == 47)
 ·
  cases e:(a.data.toList++[47]).isPrefixOf (a.data.toList++(b[a.size] :: b.data.toList.drop (a.size+1)))
  · rfl
  · have:=a28.1 e;rw[List.prefix_append_right_inj]at this;obtain⟨t,ht⟩:=this;simp only[a08,a0R,List.cons.injEq]at ht;rw[←ht.1]at hb;simp at hb
 · rw[a28,List.prefix_append_right_inj];rw[a3u.1 hb];exact⟨_,rfl⟩
theorem AN(b:ByteArray)(k:Nat):(b.extract 0 k).toList=b.data.toList.take k:=by
 rw[Lib.toList_data,Lib.extract_data];simp
theorem Fq(x:UInt8):((x.toNat:Int) == 47)=(x == 47):=by
 cases e:(x == 47)
 ·
  have:¬ x.toNat=47:=fun h=>by rw[UInt8.toNat_inj.1 (show x.toNat=(47:UInt8).toNat from h)]at e;cases e
  simp;omega
 · rw[a3u.1 e];rfl
theorem kx(a b:ByteArray)(w:World)(ha:(a.size:Int)<=1048576)(_:(b.size:Int)<=1048576) :
  Calls Tryz.prog 40 #[.string a,.string b] w fun e w'=>e = .returned (.bool (dQ a.data.toList b.data.toList))/\w'=w:=by
 by_cases h:a.size<b.size
 ·
  have hI:(a.size:Int)<(b.size:Int):=by omega
  by_cases k:(b.data.toList.take a.size)=a.data.toList
  ·
   have HU:=af (IV h k);have hx:(b.extract 0 a.size).toList=a.toList:=by rw[AN,k,Lib.toList_data]
   go_enter Tryz.func40,Tryz.ntmps40;go_wp2;go_ret;exact⟨ak ((Fq _).trans (ae HU).symm),rfl⟩
  · have HU:=af (Et k);have hx:¬ (b.extract 0 a.size).toList=a.toList:=fun e=>k (by rw[←AN,e,Lib.toList_data]);go_enter Tryz.func40,Tryz.ntmps40;go_wp2;go_ret;exact⟨ak (ae HU).symm,rfl⟩
 ·
  have HU:=af (Eu (a:=a) (b:=b) (by omega));have hI:¬ (a.size:Int)<(b.size:Int):=by omega
  go_enter Tryz.func40,Tryz.ntmps40;go_wp2;go_ret;exact⟨ak (ae HU).symm,rfl⟩
end Go.Proofs.YtfhdadkcophoaaaGreatDoor
