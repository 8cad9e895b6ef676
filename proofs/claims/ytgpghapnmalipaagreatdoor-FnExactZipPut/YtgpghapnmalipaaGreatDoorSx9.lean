/- A row of files that is handed in, read as data; the variable that holds the type of errors. -/
import Derived.Test.YtgpghapnmalipaaGreatDoorEw1
import Derived.Test.YtgpghapnmalipaaGreatDoorSx8
import Derived.Deep.Slices
import Derived.ChangeSame
import Derived.Test.YtgpghapnmalipaaGreatDoorM23
import Derived.LaidHandle
import Derived.LaidLaws
import Derived.Lay
import Derived.RowKitTokens
import Derived.Stop.Joined
namespace Go.Proofs.YtgpghapnmalipaaGreatDoor
open Go.RowKit Go.Deep Go.ChangeShapes Go.WideShapes
theorem list_eight (cs : List Value) (h : cs.length = 8) : ∃ c0 c1 c2 c3 c4 c5 c6 c7, cs = [c0, c1, c2, c3, c4, c5, c6, c7] := by
  match cs, h with
  | [c0, c1, c2, c3, c4, c5, c6, c7], _ => exact ⟨c0, c1, c2, c3, c4, c5, c6, c7, rfl⟩
theorem entries_cells {H : Type} {enc : TypeId × Value → H} {w : World} {base : Nat} {spare : Nat → Bool} {held : Bool} {fuel : Nat} {cs : List Value} {x : DataW H × List MemPlace}
    (h : DataW.trod enc Tryz.prog w base spare held fuel 22 cs = some x) :
    cs = [.slice none 0 0] ∨ ∃ (a : Addr) (len cap : Nat), cs = [.slice (some a) len cap] ∧ len ≤ cap ∧ cap ≤ maxLen ∧
      ∀ i, i < len → ∃ e : En, (∀ j, j < 8 → w.cell? (a.add (i * 8 + j)) = (encE e)[j]?) ∧ e.n.size ≤ maxLen ∧ e.t.size ≤ maxLen := by
  have ce : Tryz.prog.cellsOf 38 = 8 := by kernel_rfl
  rcases open_slice Tryz.underlying22 h with ⟨h0, _⟩ | ⟨a, len, cap, m, n, D, Pl, rfl, hb, hl, hm, hmm, rfl, hx⟩
  · exact .inl h0
  · refine .inr ⟨a, len, cap, rfl, hl, hm, fun i hi' => ?_⟩
    have hlm : len ≤ m := by rw [hmm]; split <;> omega
    obtain ⟨cs', h1, h2⟩ := hx i (by omega)
    rw [ce] at h1
    obtain ⟨_, hlen, hcell⟩ := World.cells?_some h1
    obtain ⟨c0, c1, c2, c3, c4, c5, c6, c7, rfl⟩ := list_eight cs' hlen
    obtain ⟨e0, e1, a0, a1, a2, a3, a4, a5, ⟨rfl, rfl, rfl, rfl, rfl, rfl, rfl, rfl⟩, ⟨⟨k0, k1⟩, _⟩, _⟩ := entry_down h2
    refine ⟨⟨e0, a0, a1, a2, a3, a4, a5, e1⟩, fun j hj => ?_, k0, k1⟩
    have := hcell j (by simpa using hj)
    rw [add_add] at this
    exact this
theorem entries_row {W : World} {x : Addr} {len : Nat} (hc : ∀ i, i < len → ∃ e : En, (∀ j, j < 8 → W.cell? (x.add (i * 8 + j)) = (encE e)[j]?) ∧ e.n.size ≤ maxLen ∧ e.t.size ≤ maxLen) :
    ∃ l, ERow W (some x) l ∧ l.length = len ∧ ∀ i, i < len → (l.getD i default).n.size ≤ maxLen ∧ (l.getD i default).t.size ≤ maxLen := by
  obtain ⟨f, hf⟩ := choose_lt (α := En) hc
  have hg : ∀ i, i < len → ((List.range len).map f).getD i default = f i := fun i hi => by simp [List.getD, hi]
  refine ⟨(List.range len).map f, fun h0 => ?_, by simp, fun i hi => by rw [hg i hi]; exact (hf i hi).2⟩
  have h0' : 0 < len := by simpa using h0
  obtain ⟨b, off, spot⟩ := x
  have hc0 := (hf 0 (by omega)).1 0 (by omega)
  have hspot : spot = none := by simpa [Addr.add] using World.cell?_spot hc0
  subst hspot
  refine ⟨b, off, rfl, by have := World.block_lt_of_cell? _ _ hc0; simpa [Addr.add] using this, fun i hi => ?_⟩
  have hi' : i < len := by simpa using hi
  rw [hg i hi']
  refine en_at fun j hj => ?_
  have := (hf i hi').1 j hj
  rw [← this]
  by_cases z : i * 8 + j = 0
  · have : i = 0 ∧ j = 0 := by omega
    obtain ⟨rfl, rfl⟩ := this
    simp [Addr.add]
  · rw [show (⟨b, off, none⟩ : Addr).add (i * 8 + j) = ⟨b, off + i * 8 + j, none⟩ by unfold Addr.add; rw [if_neg z, Nat.add_assoc]]
theorem Tryz.et : Tryz.prog.globalNamed "errors.errorType" = some 0 := by kernel_rfl
theorem Tryz.rtt : (Tryz.prog.cutTypes.find? (·.1 == "internal/reflectlite.rtype")).map (·.2) = some 145 := by kernel_rfl
theorem Tryz.tsize : ∃ n, Tryz.prog.types.size = n ∧ ((List.range n).filter fun t => Tryz.prog.rowNamed t [101, 114, 114, 111, 114]) = [62] := ⟨_, rfl, by kernel_rfl⟩
theorem errT_of {laid : List (String × DataW Unit)} {W : World} (h : laidMetH Tryz.prog laid W)
    (hm : ("errors.errorType", (DataW.iface "internal/reflectlite.rtype" (.agg [.ptr (.lit (.string [101, 114, 114, 111, 114]))]) : DataW Unit)) ∈ laid.filter fun x => x.2.handleName?.isSome) : ErrT W := by
  have h' : handlesMet Tryz.prog (laid.filter fun x => x.2.handleName?.isSome) W := by
    unfold laidMetH at h
    generalize (laid.filter fun x => x.2.handleName?.isSome) = fl at *
    cases fl with
    | nil => cases hm
    | cons a r => exact h.2
  obtain ⟨name, u, ty, e1, e2, e3, e4, e5⟩ := h' _ hm
  have en : name = [101, 114, 114, 111, 114] := (Option.some.inj e1).symm
  subst en
  obtain rfl := Option.some.inj (Tryz.rtt.symm.trans e2)
  obtain ⟨n, hn, hone⟩ := Tryz.tsize
  have hmm : ty ∈ (List.range n).filter fun t => Tryz.prog.rowNamed t [101, 114, 114, 111, 114] := List.mem_filter.2 ⟨List.mem_range.2 (by rw [← hn]; exact e3), e4⟩
  rw [hone] at hmm
  obtain rfl := List.mem_singleton.1 hmm
  have hh : typeHandle Tryz.prog 62 = .pointer (some ⟨5, 62, none⟩) := by kernel_rfl
  rw [hh] at e5
  unfold ErrT
  simpa using World.var?_cell Tryz.et e5 0
noncomputable def handW (os : Os) : World :=
  let w0 := World.holding Tryz.prog os ⟨#[], #[], []⟩
  { w0 with heap := w0.heap.modify 0 fun
      | .cells _ t frozen => .cells #[.iface 145 (.agg #[.pointer (some ⟨5, 62, none⟩)])] t frozen
      | o => o }
theorem laidMet_from {P : Program} {w0 : World} {laid : List (String × DataW Unit)} (args : Array Value) (hf : w0.layFits P laid [] = true) (hi : w0.layIfaces P laid (w0.layVars P laid) = true) :
    laidMet P laid ((w0.layVars P laid).forCall (fun _ _ => 0) ⟨#[], args, []⟩).memory := by
  have e1 : (laid.filter fun x => (laid.map (·.1)).contains x.1) = laid := List.filter_eq_self.2 fun x hx => List.contains_iff_mem.2 (List.mem_map.2 ⟨x, hx, rfl⟩)
  have e2 : (laid.filter fun x => !(laid.map (·.1)).contains x.1) = [] := List.filter_eq_nil_iff.2 fun x hx => by rw [List.contains_iff_mem.2 (List.mem_map.2 ⟨x, hx, rfl⟩)]; simp
  have h : laidMet P laid (w0.layVars P laid) := laidMet_layVars (w0 := w0) (laid.map (·.1)) [] (by rw [e1]) (by rw [e1]; exact hf) (by rw [e1]; exact hi) (by rw [e2]; exact LaidIn.none)
  exact h.of_heap (by simp [World.memory, World.forCall, Input.heap])
end Go.Proofs.YtgpghapnmalipaaGreatDoor