/- A disk that is handed in, read as data. -/
import Derived.Test.YtemjckkocljgnaaGreatDoorRows
import Derived.Deep.Strs
import Derived.ShutString
import Derived.ChangeSame
import Derived.ChangeOld
import Derived.ProofKit
import Derived.OpenShut
namespace Go.Proofs.YtemjckkocljgnaaGreatDoor
open Go.ChangeShapes Go.WideShapes Go.ChangeAt Go.RowKit
open Go.ChangeMaps (open_string shut_string)
theorem arr_two (cs:Array Value) (h:cs.size=2):∃ c0 c1,cs=#[c0,c1]:=by
 obtain ⟨l⟩:=cs
 match l,h with
 | [c0,c1],_=>exact ⟨c0,c1,rfl⟩
theorem disk_down {H:Type} {enc:TypeId×Value→H} {w:World} {base:Nat} {spare:Nat→Bool} {held:Bool} {fuel:Nat} {c0 c1:Value} {x:DataW H×List MemPlace}
  (h:DataW.trod enc Tryz.prog w base spare held fuel 23 [c0,c1]=some x) :
  ∃ (e0 e1:ByteArray),(c0 = .string e0∧c1 = .string e1)∧(e0.size≤maxLen∧e1.size≤maxLen)∧x=(.agg [.lit (.string e0.data.toList),.lit (.string e1.data.toList)],[]):=by
 have cS:Tryz.prog.cellsOf 9=1:=by kernel_rfl
 obtain ⟨y0,y1,k,rfl,_,g0,g1⟩:=trod_struct2 Tryz.underlying23 h
 simp only [cS,List.drop,List.take] at g0 g1
 obtain ⟨e0,h0,rfl,k0⟩:=DataW.trod_string Tryz.underlying9 g0
 obtain ⟨e1,h1,rfl,k1⟩:=DataW.trod_string Tryz.underlying9 g1
 simp only [List.cons.injEq,and_true] at h0 h1
 exact ⟨e0,e1,⟨h0,h1⟩,⟨k0,k1⟩,by simp⟩
theorem disk_up {H:Type} {enc:TypeId×Value→H} {w:World} {base:Nat} {spare:Nat→Bool} {held:Bool} {e0 e1:ByteArray} (kk:e0.size≤maxLen∧e1.size≤maxLen) :
  DataW.trod enc Tryz.prog w base spare held 4 23 [.string e0,.string e1]=some (.agg [.lit (.string e0.data.toList),.lit (.string e1.data.toList)],[]):=by
 have cS:Tryz.prog.cellsOf 9=1:=by kernel_rfl
 have cE:Tryz.prog.cellsOf 23=2:=by kernel_rfl
 obtain ⟨k0,k1⟩:=kk
 have s0:DataW.trod enc Tryz.prog w base spare held 3 9 [.string e0]=some (.lit (.string e0.data.toList),[]):=by simp [DataW.trod,Tryz.underlying9,k0]
 have s1:DataW.trod enc Tryz.prog w base spare held 3 9 [.string e1]=some (.lit (.string e1.data.toList),[]):=by simp [DataW.trod,Tryz.underlying9,k1]
 have:=trod_struct2_mk (enc:=enc) (w:=w) (base:=base) (spare:=spare) (held:=held) (n:=3) (cs:=[.string e0,.string e1]) Tryz.underlying23 (by simp [cE]) (by simpa [cS] using s0) (by simpa [cS] using s1)
 simpa using this
end Go.Proofs.YtemjckkocljgnaaGreatDoor
