/- Of what the proof is made: 2 texts, one behind the other. -/
import Derived.Test.YtkdlcomfpffhhaaGreatDoorM20
import Derived.Test.YtkdlcomfpffhhaaGreatDoorTi1
import Derived.Test.YtkdlcomfpffhhaaGreatDoorM8
import Derived.Deep.RegionHeld3
import Derived.Test.YtkdlcomfpffhhaaGreatDoorM3
namespace Go.Proofs.YtkdlcomfpffhhaaGreatDoor
open Go.RowKit Corb
theorem wpList_load_half {P:Program} {ops:Array Oper} {rest:List Oper} {op:Oper} {a:Act} {w:World} {Q:Exit→Act→World→Prop} (hgd:op.guard=none) (ty:TypeId) (x:Operand) (ho:op.op = .load ty x)
  (b o:Nat) (hx:a.eval x = .pointer (some ⟨b,o,none⟩)) (C:Array Value) (d:TypeDesc) (hc:w.rangeAt b o C.toList) (hu:P.underlying ty=some d) (hd:d.isRow=true) (hi:(P.info? ty).map (·.size)=some C.size)
  (h:wpList P ops Q rest (a.put op.dst (.agg C)) w):wpList P ops Q (op :: rest) a w:=
 wpList_load_mid hgd ty x ho b o hx C.toList d hc hu hd (by simpa using hi) (by simpa using h)
theorem range_later {w w':World} {b o:Nat} {cs:List Value} (h:w.rangeAt b o cs) (hb:Below w.heap.size w w') (hlt:b<w.heap.size):w'.rangeAt b o cs:=fun j v hv=>(hb.cell (p:=⟨b,o+j,none⟩) hlt).trans (h j v hv)
theorem yieldsIf_load_half {P:Program} {ops:Array Oper} {S:World→Prop} {op:Oper} {a:Act} (hw:Region.wanted op (yielded ops a.tmps)=true) (ty:TypeId) (x:Operand) (ho:op.op = .load ty x)
  (b o:Nat) (hx:a.eval x = .pointer (some ⟨b,o,none⟩)) (C:Array Value) (d:TypeDesc) (hS:∀ w,S w→w.rangeAt b o C.toList)
  (hu:P.underlying ty=some d) (hd:d.isRow=true) (hi:(P.info? ty).map (·.size)=some C.size):YieldsIf P ops S op (.agg C) a:=by
 have:=yieldsIf_load_mid (S:=S) hw ty x ho b o hx C.toList d hS hu hd (by simpa using hi)
 simpa using this
def ordC:Array Value:=(ordL.map fun i=>Value.int .i64 (i:Nat)).toArray
def OrdC (w:World):Prop:=w.rangeAt 1 0 ordC.toList∧1<w.heap.size
theorem OrdC.later {w w':World} (h:OrdC w) (hb:Below w.heap.size w w'):OrdC w':=⟨range_later h.1 hb h.2,Nat.lt_of_lt_of_le h.2 hb.size⟩
theorem ordC_get (k:Nat) (h:k<19):ordC[k]?=some (.int .i64 (ordL.getD k 0:Nat)):=by
 unfold ordC
 have:k<ordL.length:=h
 simp [List.getD,this]
theorem ord_lt (j:Nat) (h:j<19):ordL.getD j 0<19:=by
 have:∀ i∈ordL,i<19:=by decide
 have hj:j<ordL.length:=h
 exact this _ (by simp [List.getD,hj])
end Go.Proofs.YtkdlcomfpffhhaaGreatDoor
