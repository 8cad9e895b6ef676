/- Of what the proof is made: 2 texts, one behind the other. -/
import Derived.Test.YtihncnlbnlmefaaDoorFb2
import Derived.Test.YtihncnlbnlmefaaDoorTi1
import Derived.Test.YtihncnlbnlmefaaDoorM5
import Derived.Deep.RegionHeld3
import Derived.Test.YtihncnlbnlmefaaDoorM2
/- Both books write a token: the program's put. -/
namespace Go.Proofs.YtihncnlbnlmefaaDoor
open Go.RowKit Corb

theorem wpList_load_half {P : Program} {ops : Array Oper} {rest : List Oper} {op : Oper} {a : Act} {w : World} {Q : Exit → Act → World → Prop} (hgd : op.guard = none) (ty : TypeId) (x : Operand) (ho : op.op = .load ty x)
    (b o : Nat) (hx : a.eval x = .pointer (some ⟨b, o, none⟩)) (C : Array Value) (d : TypeDesc) (hc : w.rangeAt b o C.toList) (hu : P.underlying ty = some d) (hd : d.isRow = true) (hi : (P.info? ty).map (·.size) = some C.size)
    (h : wpList P ops Q rest (a.put op.dst (.agg C)) w) : wpList P ops Q (op :: rest) a w :=
  wpList_load_mid hgd ty x ho b o hx C.toList d hc hu hd (by simpa using hi) (by simpa using h)
theorem range_later {w w' : World} {b o : Nat} {cs : List Value} (h : w.rangeAt b o cs) (hb : Below w.heap.size w w') (hlt : b < w.heap.size) : w'.rangeAt b o cs := fun j v hv => (hb.cell (p := ⟨b, o + j, none⟩) hlt).trans (h j v hv)

/-- A block that holds pieces, and no more. -/
def PBlk (w : World) (g : Nat) (l : List (Int × Int)) : Prop := w.heap[g]? = some (Obj.cells (pcells l).toArray 83)
theorem PBlk.cells {w : World} {g : Nat} {l : List (Int × Int)} (h : PBlk w g l) : ∀ (j : Nat) (u : Value), (pcells l)[j]? = some u → w.cell? ((⟨g, 0, none⟩ : Addr).add j) = some u := by
  intro j u hj
  have e1 : (⟨g, 0, none⟩ : Addr).add j = ⟨g, j, none⟩ := by unfold Addr.add; split <;> simp_all
  rw [e1, blk_cell h]
  simpa using hj
/-- The piece of a symbol by a code. -/
def pcS (l : List Int) (k : Nat) : Int × Int := (btI ((outN l 15).2.getD k 0) (l.getD k 0), l.getD k 0)
/-- The pieces of a token by two codes. -/
def pcT (L D : List Int) (t : Tk) : List (Int × Int) :=
  if isB t then [pcS L t.1.toNat]
  else [pcS L (257 + fnd 3 4 t.2.1.toNat 27), ((t.2.1.toNat : Int) - ((stF 3 4 (fnd 3 4 t.2.1.toNat 27)).1 : Int), ((stF 3 4 (fnd 3 4 t.2.1.toNat 27)).2 : Nat)), pcS D (fnd 1 2 t.2.2.toNat 29), ((t.2.2.toNat : Int) - ((stF 1 2 (fnd 1 2 t.2.2.toNat 29)).1 : Int), ((stF 1 2 (fnd 1 2 t.2.2.toNat 29)).2 : Nat))]

theorem yieldsIf_load_half {P : Program} {ops : Array Oper} {S : World → Prop} {op : Oper} {a : Act} (hw : Region.wanted op (yielded ops a.tmps) = true) (ty : TypeId) (x : Operand) (ho : op.op = .load ty x)
    (b o : Nat) (hx : a.eval x = .pointer (some ⟨b, o, none⟩)) (C : Array Value) (d : TypeDesc) (hS : ∀ w, S w → w.rangeAt b o C.toList)
    (hu : P.underlying ty = some d) (hd : d.isRow = true) (hi : (P.info? ty).map (·.size) = some C.size) : YieldsIf P ops S op (.agg C) a := by
  have := yieldsIf_load_mid (S := S) hw ty x ho b o hx C.toList d hS hu hd (by simpa using hi)
  simpa using this


end Go.Proofs.YtihncnlbnlmefaaDoor
/- The table of the order of lengths. -/
namespace Go.Proofs.YtihncnlbnlmefaaDoor
open Go.RowKit Corb

/-- The table of the order of lengths, as it lies. -/
def ordC : Array Value := (ordL.map fun i => Value.int .i64 (i : Nat)).toArray
def OrdC (w : World) : Prop := w.rangeAt 0 0 ordC.toList ∧ 0 < w.heap.size
theorem OrdC.later {w w' : World} (h : OrdC w) (hb : Below w.heap.size w w') : OrdC w' := ⟨range_later h.1 hb h.2, Nat.lt_of_lt_of_le h.2 hb.size⟩
theorem ordC_get (k : Nat) (h : k < 19) : ordC[k]? = some (.int .i64 (ordL.getD k 0 : Nat)) := by
  unfold ordC
  have : k < ordL.length := h
  simp [List.getD, this]
theorem Tryd.infoOrd : (Tryd.prog.info? 97).map (·.size) = some 19 := by kernel_rfl
theorem ord_index (j : Nat) (h : j < 19) (w : World) : (Instr.index 97 (.agg ordC) (.int .i64 (j : Int))).run Tryd.prog w = .ok (.int .i64 (ordL.getD j 0 : Nat)) w := by
  rcases (show j = 0 ∨ j = 1 ∨ j = 2 ∨ j = 3 ∨ j = 4 ∨ j = 5 ∨ j = 6 ∨ j = 7 ∨ j = 8 ∨ j = 9 ∨ j = 10 ∨ j = 11 ∨ j = 12 ∨ j = 13 ∨ j = 14 ∨ j = 15 ∨ j = 16 ∨ j = 17 ∨ j = 18 by omega) with rfl | rfl | rfl | rfl | rfl | rfl | rfl | rfl | rfl | rfl | rfl | rfl | rfl | rfl | rfl | rfl | rfl | rfl | rfl <;> kernel_rfl
theorem ord_lt (j : Nat) (h : j < 19) : ordL.getD j 0 < 19 := by
  have : ∀ i ∈ ordL, i < 19 := by decide
  have hj : j < ordL.length := h
  exact this _ (by simp [List.getD, hj])

end Go.Proofs.YtihncnlbnlmefaaDoor
