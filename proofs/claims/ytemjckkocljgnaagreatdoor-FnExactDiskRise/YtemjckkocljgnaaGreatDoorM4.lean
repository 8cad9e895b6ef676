/- Of what the proof is made: 3 texts, one behind the other. -/
import Derived.Test.YtemjckkocljgnaaGreatDoorRows
import Derived.ChangeSame
import Derived.ChangeOld
import Derived.ProofKit
import Derived.OpenShut
import Derived.Test.YtemjckkocljgnaaGreatDoorM3
import Derived.Deep.RegionHeld3
import Derived.Lib.Strings
namespace Go.Proofs.YtemjckkocljgnaaGreatDoor
open Go.ChangeShapes Go.WideShapes Go.ChangeAt Go.RowKit
section
variable {H : Type} {enc : TypeId × Value → H} {P : Program} {w : World} {base : Nat} {spare : Nat → Bool} {held : Bool}
end
end Go.Proofs.YtemjckkocljgnaaGreatDoor
namespace Go.Proofs.YtemjckkocljgnaaGreatDoor
open Go.RowKit
theorem wpAnyH_weaken {P:Program} {md:Region.Mode} {ops:Array Oper} {Q:Exit→Act→World→Prop} {S S':World→Prop} (hS:∀ w,S' w→S w):∀ (fuel:Nat) (listed:Array Bool) (a:Act) (w:World),wpAnyH P md ops Q S' fuel listed a w→wpAnyH P md ops Q S fuel listed a w
 | 0,_,_,_,h=>h
 | fuel+1,_,_,_,h=>⟨h.1,fun i hi=>wpOp_mono (fun a' w' h'=>⟨hS _ h'.1,wpAnyH_weaken hS fuel _ a' w' h'.2⟩) (h.2 i hi)⟩
def undL (a b:List UInt8):Bool:=(a++[47]).isPrefixOf b
theorem und_short {a b:ByteArray} (h:b.size≤a.size):undL a.data.toList b.data.toList=false:=by
 cases e:undL a.data.toList b.data.toList
 ·
  rfl
 ·
  have:=(List.isPrefixOf_iff_prefix.1 e).length_le
  have e1:a.data.toList.length=a.size:=by simp
  have e2:b.data.toList.length=b.size:=by simp
  rw [List.length_append] at this
  simp only [List.length_cons,List.length_nil] at this
  omega
theorem und_other {a b:ByteArray} (k:¬ (b.data.toList.take a.size)=a.data.toList):undL a.data.toList b.data.toList=false:=by
 cases e:undL a.data.toList b.data.toList
 ·
  rfl
 ·
  exfalso
  apply k
  obtain ⟨t,ht⟩:=List.isPrefixOf_iff_prefix.1 e
  rw [←ht]
  have e1:a.data.toList.length=a.size:=by simp
  rw [List.append_assoc,←e1,List.take_left']
  rfl
theorem und_byte {a b:ByteArray} (h:a.size<b.size) (k:(b.data.toList.take a.size)=a.data.toList):undL a.data.toList b.data.toList=(b[a.size] == 47):=by
 have e2:b.data.toList.length=b.size:=by simp
 have hl:a.size<b.data.toList.length:=by omega
 have e3:b.data.toList=a.data.toList++(b[a.size] :: b.data.toList.drop (a.size+1)):=by
  have:=List.take_append_drop a.size b.data.toList
  rw [k,List.drop_eq_getElem_cons hl] at this
  exact this.symm
 unfold undL
 rw [e3]
 cases hb:(b[a.size] == 47)
 ·
  cases e:(a.data.toList++[47]).isPrefixOf (a.data.toList++(b[a.size] :: b.data.toList.drop (a.size+1)))
  ·
   rfl
  ·
   have:=List.isPrefixOf_iff_prefix.1 e
   rw [List.prefix_append_right_inj] at this
   obtain ⟨t,ht⟩:=this
   simp only [List.cons_append,List.nil_append,List.cons.injEq] at ht
   rw [←ht.1] at hb
   simp at hb
 ·
  rw [List.isPrefixOf_iff_prefix,List.prefix_append_right_inj]
  rw [beq_iff_eq.1 hb]
  exact ⟨_,rfl⟩
theorem ex_take (b:ByteArray) (k:Nat):(b.extract 0 k).toList=b.data.toList.take k:=by
 rw [Lib.toList_data,Lib.extract_data]; simp
theorem byte_beq (x:UInt8):((x.toNat:Int) == 47)=(x == 47):=by
 cases e:(x == 47)
 ·
  have:¬ x.toNat=47:=fun h=>by rw [UInt8.toNat_inj.1 (show x.toNat=(47:UInt8).toNat from h)] at e; cases e
  simp; omega
 ·
  rw [beq_iff_eq.1 e]; rfl
set_option maxHeartbeats 800000 in
theorem l7Under_any (a b:ByteArray) (w:World) (ha:(a.size:Int)≤1048576) (_:(b.size:Int)≤1048576) :
  Calls Tryz.prog 42 #[.string a,.string b] w fun e w'=>e = .returned (.bool (undL a.data.toList b.data.toList))∧w'=w:=by
 by_cases h:a.size<b.size
 ·
  have hI:(a.size:Int)<(b.size:Int):=by omega
  by_cases k:(b.data.toList.take a.size)=a.data.toList
  ·
   have HU:=hide (und_byte h k)
   have hx:(b.extract 0 a.size).toList=a.toList:=by rw [ex_take,k,Lib.toList_data]
   go_enter Tryz.func42,Tryz.ntmps42
   go_wp2
   go_ret
   exact ⟨ret_bool ((byte_beq _).trans (unhide HU).symm),rfl⟩
  ·
   have HU:=hide (und_other k)
   have hx:¬ (b.extract 0 a.size).toList=a.toList:=fun e=>k (by rw [←ex_take,e,Lib.toList_data])
   go_enter Tryz.func42,Tryz.ntmps42
   go_wp2
   go_ret
   exact ⟨ret_bool (unhide HU).symm,rfl⟩
 ·
  have HU:=hide (und_short (a:=a) (b:=b) (by omega))
  have hI:¬ (a.size:Int)<(b.size:Int):=by omega
  go_enter Tryz.func42,Tryz.ntmps42
  go_wp2
  go_ret
  exact ⟨ret_bool (unhide HU).symm,rfl⟩
end Go.Proofs.YtemjckkocljgnaaGreatDoor
