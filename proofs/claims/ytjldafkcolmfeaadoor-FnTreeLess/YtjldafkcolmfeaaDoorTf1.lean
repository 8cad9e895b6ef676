/- Files of a tree: rows of them, when they are a tree (the model's and the program's ways are one). -/
import Derived.Test.YtjldafkcolmfeaaDoorGw1
import Derived.Test.YtjldafkcolmfeaaDoorZk2
import Derived.Test.YtjldafkcolmfeaaDoorNm1
import Derived.Sort.Walk0
namespace Go.Proofs.YtjldafkcolmfeaaDoor
open Go.RowKit

/-- A file of a tree. -/
structure Fl where
  p : ByteArray
  t : ByteArray
instance : Inhabited Fl := ⟨⟨ByteArray.empty, ByteArray.empty⟩⟩
def encF (e : Fl) : List Value := [.string e.p, .string e.t]
theorem encF_len (e : Fl) : (encF e).length = 2 := rfl
theorem encF_one (e : Fl) : ∀ u ∈ encF e, u.oneCell' = true := by
  intro u hu
  simp only [encF, List.mem_cons, List.not_mem_nil, or_false] at hu
  rcases hu with rfl | rfl <;> rfl
def FlAt (w : World) (g o : Nat) (e : Fl) : Prop := w.cell? ⟨g, o, none⟩ = some (.string e.p) ∧ w.cell? ⟨g, o + 1, none⟩ = some (.string e.t)
/-- A row of them. -/
def FRow (w : World) (a : Option Addr) (l : List Fl) : Prop := 0 < l.length → ∃ g o, a = some ⟨g, o, none⟩ ∧ g < w.heap.size ∧ ∀ i, i < l.length → FlAt w g (o + i * 2) (l.getD i default)
theorem FRow.later {w w' : World} {a : Option Addr} {l : List Fl} (h : FRow w a l) (hb : Below w.heap.size w w') : FRow w' a l := by
  intro h0
  obtain ⟨g, o, e, hg, hc⟩ := h h0
  refine ⟨g, o, e, Nat.lt_of_lt_of_le hg hb.size, fun i hi => ?_⟩
  obtain ⟨c0, c1⟩ := hc i hi
  exact ⟨(hb.cell (p := ⟨g, o + i * 2, none⟩) hg).trans c0, (hb.cell (p := ⟨g, o + i * 2 + 1, none⟩) hg).trans c1⟩
theorem FRow.at {w : World} {g o : Nat} {l : List Fl} (h : FRow w (some ⟨g, o, none⟩) l) (i : Nat) (hi : i < l.length) : FlAt w g (o + i * 2) (l.getD i default) := by
  obtain ⟨g', o', e, _, hc⟩ := h (by omega)
  simp only [Option.some.injEq, Addr.mk.injEq, and_true] at e
  obtain ⟨rfl, rfl⟩ := e
  exact hc i hi
/-- Such rows of the call's own. -/
abbrev FOwn (w : World) (base : Nat) (v : Value) (l : List Fl) : Prop := GOwn 31 2 encF w base v l
theorem fl_at {w : World} {g o : Nat} {e : Fl} (h : ∀ j, j < 2 → w.cell? ⟨g, o + j, none⟩ = (encF e)[j]?) : FlAt w g o e := ⟨h 0 (by omega), h 1 (by omega)⟩
theorem fown_at {w : World} {base g cap n : Nat} {l : List Fl} (hn : l.length = n) (h : FOwn w base (.slice (some ⟨g, 0, none⟩) n cap) l) (i : Nat) (hi : i < n) : FlAt w g (i * 2) (l.getD i default) :=
  fl_at fun j hj => (GOwn.at encF_len default hn h i j hi hj).1
theorem fown_froz {w : World} {base g cap n : Nat} {l : List Fl} (hn : l.length = n) (h : FOwn w base (.slice (some ⟨g, 0, none⟩) n cap) l) (i : Nat) (hi : i < n) : w.frozen? ⟨g, i * 2, none⟩ = false ∧ w.frozen? ⟨g, i * 2 + 1, none⟩ = false :=
  ⟨(GOwn.at encF_len default hn h i 0 hi (by omega)).2, (GOwn.at encF_len default hn h i 1 hi (by omega)).2⟩
theorem fown_row {w : World} {base cap n : Nat} {a : Option Addr} {l : List Fl} (hn : l.length = n) (h : FOwn w base (.slice a n cap) l) : FRow w a l := by
  intro h0
  obtain ⟨g, rfl⟩ := h.somes h0
  refine ⟨g, 0, rfl, h.below.2, fun i hi => ?_⟩
  rw [Nat.zero_add]
  exact fown_at hn h i (by omega)
theorem Tryd.infoFile : (Tryd.prog.info? 31).map (fun i => (i.zero, i.size, i.bytes)) = some (some (.agg #[.string ⟨#[]⟩, .string ⟨#[]⟩]), 2, 32) := by kernel_rfl

/-- The path of a file of a row. -/
def pA (l : List Fl) (i : Nat) : ByteArray := (l.getD i default).p
/-- One comes ahead of another one. -/
def ltP (a b : ByteArray) : Bool := Op.bytesLess a.toList b.toList
theorem ltP_iff (a b : ByteArray) : ltP a b = true ↔ a.data.toList < b.data.toList := by
  unfold ltP; rw [bytesLess_eq, Lib.toList_data, Lib.toList_data]; simp
/-- What is asked of a file of a tree: the model's way. -/
def upT (l : List Fl) (i : Nat) : Bool := decide (i = 0) || ltP (pA l (i - 1)) (pA l i)
def freeT (l : List Fl) (i : Nat) : Bool := (List.range l.length).all fun k => !undL (pA l i).data.toList (pA l k).data.toList
def selfT (l : List Fl) (i : Nat) : Bool := nameB (pA l i).data.toList && decide ((l.getD i default).t.size ≤ 300)
def oneT (l : List Fl) (i : Nat) : Bool := selfT l i && (upT l i && freeT l i)
def treeB (l : List Fl) : Bool := (List.range l.length).all (oneT l) && decide (l.length ≤ 8)
/-- The program's way. -/
def pairI (l : List Fl) (i j : Nat) : Bool := (ltP (pA l j) (pA l i) || (pA l j).toList == (pA l i).toList) && !clashL (pA l j).data.toList (pA l i).data.toList
def oneI (l : List Fl) (i : Nat) : Bool := selfT l i && (List.range i).all (pairI l i)

theorem tree_no {l : List Fl} {i : Nat} (hi : i < l.length) (h : oneT l i = false) : treeB l = false := by
  unfold treeB
  have : (List.range l.length).all (oneT l) = false := by
    rw [List.all_eq_false]; exact ⟨i, List.mem_range.2 hi, by simp [h]⟩
  rw [this]; rfl
theorem tree_yes {l : List Fl} (h : ∀ i, i < l.length → oneT l i = true) : treeB l = decide (l.length ≤ 8) := by
  unfold treeB
  have : (List.range l.length).all (oneT l) = true := List.all_eq_true.2 fun i hi => h i (List.mem_range.1 hi)
  rw [this]; rfl
theorem freeT_no {l : List Fl} {i k : Nat} (hk : k < l.length) (h : undL (pA l i).data.toList (pA l k).data.toList = true) : freeT l i = false := by
  unfold freeT
  rw [List.all_eq_false]; exact ⟨k, List.mem_range.2 hk, by simp [h]⟩
theorem freeT_yes {l : List Fl} {i : Nat} (h : ∀ k, k < l.length → undL (pA l i).data.toList (pA l k).data.toList = false) : freeT l i = true := by
  unfold freeT
  rw [List.all_eq_true]; exact fun k hk => by rw [h k (List.mem_range.1 hk)]; rfl

theorem und_self (a : List UInt8) : undL a a = false := by
  unfold undL
  cases h : (a ++ [47]).isPrefixOf a
  · rfl
  · have := (List.isPrefixOf_iff_prefix.1 h).length_le
    simp at this; omega
theorem lst_irrefl (a : List UInt8) : ¬ a < a := List.lt_irrefl a
theorem up_all {l : List Fl} (n : Nat) (h : ∀ i, i < n → upT l i = true) : ∀ i, i < n → ∀ j, j < i → ltP (pA l j) (pA l i) = true := by
  intro i
  induction i with
  | zero => intro _ j hj; omega
  | succ i ih =>
    intro hi j hj
    have h1 := h (i + 1) hi
    unfold upT at h1
    simp only [Nat.add_eq_zero_iff, Nat.one_ne_zero, and_false, decide_false, Bool.false_or, Nat.add_sub_cancel] at h1
    by_cases e : j = i
    · rw [e]; exact h1
    · have h2 := ih (by omega) j (by omega)
      rw [ltP_iff] at *
      exact List.lt_trans h2 h1
theorem pair_iff {l : List Fl} {i j : Nat} : pairI l i j = true ↔ ltP (pA l j) (pA l i) = true ∧ undL (pA l i).data.toList (pA l j).data.toList = false ∧ undL (pA l j).data.toList (pA l i).data.toList = false := by
  unfold pairI clashL
  simp only [Bool.and_eq_true, Bool.or_eq_true, Bool.not_eq_true', Bool.or_eq_false_iff, beq_iff_eq, beq_eq_false_iff_ne, ne_eq]
  constructor
  · rintro ⟨h1, h2, h3, h4⟩
    rcases h1 with h1 | h1
    · exact ⟨h1, h3, h4⟩
    · exact absurd (by rw [Lib.toList_data, Lib.toList_data] at h1; exact h1) h2
  · rintro ⟨h1, h3, h4⟩
    refine ⟨.inl h1, ?_, h3, h4⟩
    intro e
    rw [ltP_iff, e] at h1
    exact lst_irrefl _ h1
/-- Both ways are one. -/
theorem tree_same (l : List Fl) : ((List.range l.length).all (oneT l)) = ((List.range l.length).all (oneI l)) := by
  rw [Bool.eq_iff_iff, List.all_eq_true, List.all_eq_true]
  simp only [List.mem_range, oneT, oneI, Bool.and_eq_true, List.all_eq_true]
  constructor
  · intro h i hi
    refine ⟨(h i hi).1, fun j hj => pair_iff.2 ?_⟩
    have hf : ∀ i, i < l.length → ∀ k, k < l.length → undL (pA l i).data.toList (pA l k).data.toList = false := by
      intro i hi k hk
      have := (h i hi).2.2
      unfold freeT at this
      rw [List.all_eq_true] at this
      simpa using this k (List.mem_range.2 hk)
    exact ⟨up_all l.length (fun i hi => (h i hi).2.1) i hi j hj, hf i hi j (by omega), hf j (by omega) i hi⟩
  · intro h i hi
    refine ⟨(h i hi).1, ?_, ?_⟩
    · unfold upT
      by_cases e : i = 0
      · simp [e]
      · simp only [e, decide_false, Bool.false_or]
        exact (pair_iff.1 ((h i hi).2 (i - 1) (by omega))).1
    · refine freeT_yes fun k hk => ?_
      rcases Nat.lt_trichotomy k i with hlt | rfl | hgt
      · exact (pair_iff.1 ((h i hi).2 k hlt)).2.1
      · exact und_self _
      · exact (pair_iff.1 ((h k hk).2 i hgt)).2.2
theorem treeI_no {l : List Fl} {i : Nat} (hi : i < l.length) (h : oneI l i = false) : treeB l = false := by
  unfold treeB
  rw [tree_same]
  have : (List.range l.length).all (oneI l) = false := by
    rw [List.all_eq_false]; exact ⟨i, List.mem_range.2 hi, by simp [h]⟩
  rw [this]; rfl
theorem treeI_yes {l : List Fl} (h : ∀ i, i < l.length → oneI l i = true) : treeB l = decide (l.length ≤ 8) := by
  unfold treeB
  rw [tree_same]
  have : (List.range l.length).all (oneI l) = true := List.all_eq_true.2 fun i hi => h i (List.mem_range.1 hi)
  rw [this]; rfl
theorem oneI_no {l : List Fl} {i j : Nat} (hj : j < i) (h : pairI l i j = false) : oneI l i = false := by
  unfold oneI
  have : (List.range i).all (pairI l i) = false := by
    rw [List.all_eq_false]; exact ⟨j, List.mem_range.2 hj, by simp [h]⟩
  rw [this]; simp
theorem oneI_yes {l : List Fl} {i : Nat} (h : ∀ j, j < i → pairI l i j = true) : oneI l i = selfT l i := by
  unfold oneI
  have : (List.range i).all (pairI l i) = true := List.all_eq_true.2 fun j hj => h j (List.mem_range.1 hj)
  rw [this]; simp

end Go.Proofs.YtjldafkcolmfeaaDoor
