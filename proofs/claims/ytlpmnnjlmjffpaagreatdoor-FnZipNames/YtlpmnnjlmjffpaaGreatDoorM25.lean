/- Of what the proof is made: 2 texts, one behind the other. -/
import Derived.Test.YtlpmnnjlmjffpaaGreatDoorM23
import Derived.Test.YtlpmnnjlmjffpaaGreatDoorTi1
import Derived.Test.YtlpmnnjlmjffpaaGreatDoorM9
import Derived.Deep.RegionHeld3
import Derived.Test.YtlpmnnjlmjffpaaGreatDoorM3
set_option linter.unusedSimpArgs false
set_option linter.unusedVariables false
namespace Go.Proofs.YtlpmnnjlmjffpaaGreatDoor
open Go.RowKit Corb
theorem bJ{P:Program}{ops:Array Oper}{rest:List Oper}{op:Oper}{a:Act}{w:World}{Q:Exit->Act->World->Prop}(c:op.guard=none)(ty:TypeId)(x:Operand)(g:op.op = .load ty x)
  (b o:Nat) (j:a.eval x = .pointer (some ⟨b,o,none⟩)) (C:Array Value) (d:TypeDesc) (e:w.rangeAt b o C.toList) (i:P.underlying ty=some d) (hd:d.isRow=true) (f:(P.info? ty).map (·.size)=some C.size)
  (h:wpList P ops Q rest (a.put op.dst (.agg C)) w):wpList P ops Q (op :: rest) a w:=
 wpList_load_mid c ty x g b o j C.toList d e i hd (by simpa using f) (by simpa using h)
theorem qK{w w':World}{b o:Nat}{c:List Value}(h:w.rangeAt b o c)(hb:Below w.heap.size w w')(a:b<w.heap.size):w'.rangeAt b o c:=fun j v d=>(hb.cell (p:=⟨b,o+j,none⟩) a).trans (h j v d)
theorem je{P:Program}{ops:Array Oper}{S:World->Prop}{op:Oper}{a:Act}(h:Region.wanted op (yielded ops a.tmps)=true)(ty:TypeId)(x:Operand)(f:op.op = .load ty x)
  (b o:Nat) (i:a.eval x = .pointer (some ⟨b,o,none⟩)) (C:Array Value) (d:TypeDesc) (c:∀w,S w->w.rangeAt b o C.toList)
  (g:P.underlying ty=some d) (hd:d.isRow=true) (e:(P.info? ty).map (·.size)=some C.size):YieldsIf P ops S op (.agg C) a:=by
 have:=yieldsIf_load_mid (S:=S) h ty x f b o i C.toList d c g hd (by simpa using e);simpa using this
def MZ:Array Value:=(bp.map fun i=>Value.int .i64 (i:Nat)).toArray
def dO(w:World):Prop:=w.rangeAt 2 0 MZ.toList/\2<w.heap.size
theorem dO.later{w w':World}(h:dO w)(hb:Below w.heap.size w w'):dO w':=⟨qK h.1 hb h.2,a0j h.2 hb.size⟩
theorem zB(k:Nat)(h:k<19):MZ[k]?=some (.int .i64 (bp.getD k 0:Nat)):=by
 unfold MZ;have:k<bp.length:=h;simp[List.getD,this]
theorem Cv(j:Nat)(h:j<19):bp.getD j 0<19:=by
 have:∀i∈bp,i<19:=by decide
 have a:j<bp.length:=h;exact this _ (by simp[List.getD,a])
end Go.Proofs.YtlpmnnjlmjffpaaGreatDoor
