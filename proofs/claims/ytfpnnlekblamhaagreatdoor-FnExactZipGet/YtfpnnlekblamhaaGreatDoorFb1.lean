/- Books of codes, by what they are made of; both books of packed texts as one struct. -/
import Derived.Test.YtfpnnlekblamhaaGreatDoorM11
import Derived.Test.YtfpnnlekblamhaaGreatDoorRp1
import Derived.Test.YtfpnnlekblamhaaGreatDoorGn1
import Derived.Test.YtfpnnlekblamhaaGreatDoorM8
import Derived.Laws.Tables
namespace Go.Proofs.YtfpnnlekblamhaaGreatDoor
open Go.RowKit Corb
theorem own_irow {w : World} {base n cap : Nat} {e : TypeId} {a : Option Addr} {l : List Int} (hn : l.length = n) (h : w.ownsRow base e 1 (.slice a n cap) n (l.map (Value.int .i64))) : IRow w a l := by
  subst hn
  intro h0
  rcases h.2 with ⟨_, h1⟩ | ⟨g, cap', cur, e, hb, hg, hr⟩
  · omega
  · simp only [Value.slice.injEq] at e
    obtain ⟨rfl, _, rfl⟩ := e
    refine ⟨g, 0, rfl, (Array.getElem?_eq_some_iff.1 hg).1, fun i hi => ?_⟩
    have c1 := World.ownsRow.cellAt h i (by omega)
    rw [Nat.zero_add, c1]
    simp [List.getD, hi]
def JRow (w : World) (base : Nat) (a : Option Addr) (l : List Int) : Prop := IRow w a l ∧ (0 < l.length → ∀ x, a = some x → base ≤ x.block ∧ ∀ cur fr, w.heap[x.block]? ≠ some (.cells cur 5 fr))
theorem JRow.moved {w w' : World} {base : Nat} {a : Option Addr} {l : List Int} (h : JRow w base a l) (hs : w.heap.size ≤ w'.heap.size) (hk : ∀ g, base ≤ g → g < w.heap.size → (∀ cur fr, w.heap[g]? ≠ some (.cells cur 5 fr)) → w'.heap[g]? = w.heap[g]?) : JRow w' base a l := by
  refine ⟨fun h0 => ?_, fun h0 x ex => ?_⟩
  · obtain ⟨g, o, e, hg, hc⟩ := h.1 h0
    obtain ⟨h1, h2⟩ := h.2 h0 _ e
    refine ⟨g, o, e, by omega, fun i hi => ?_⟩
    rw [← hc i hi]
    exact World.cell?_of_block (w := w) (hk g h1 hg h2)
  · obtain ⟨g, o, e, hg, hc⟩ := h.1 h0
    obtain ⟨h1, h2⟩ := h.2 h0 _ ex
    have : x = ⟨g, o, none⟩ := by rw [ex] at e; exact Option.some.inj e
    subst this
    exact ⟨h1, fun cur fr => by rw [hk g h1 hg h2]; exact h2 cur fr⟩
theorem JRow.later {w w' : World} {base : Nat} {a : Option Addr} {l : List Int} (h : JRow w base a l) (hb : Below w.heap.size w w') : JRow w' base a l := h.moved hb.size (fun g _ hg _ => hb.block g hg)
theorem JRow.mono {w : World} {base b' : Nat} {a : Option Addr} {l : List Int} (h : JRow w base a l) (hb : b' ≤ base) : JRow w b' a l := ⟨h.1, fun h0 x e => ⟨Nat.le_trans hb (h.2 h0 x e).1, (h.2 h0 x e).2⟩⟩
theorem JRow.touch {w w' : World} {base b : Nat} {a : Option Addr} {l : List Int} (h : JRow w base a l) (hs : w'.heap.size = w.heap.size) (hk : ∀ j, j ≠ b → w'.heap[j]? = w.heap[j]?) (hb : b < base) : JRow w' base a l := h.moved (by omega) (fun g h1 _ _ => hk g (by omega))
theorem own_jrow {w : World} {base n cap : Nat} {e : TypeId} {a : Option Addr} {l : List Int} (hn : l.length = n) (h : w.ownsRow base e 1 (.slice a n cap) n (l.map (Value.int .i64))) (he : e ≠ 5 := by decide) : JRow w base a l := by
  refine ⟨own_irow hn h, fun h0 x ex => ?_⟩
  subst ex
  refine ⟨(World.ownsRow.lt h x.block rfl).1, fun cur fr => ?_⟩
  rcases h.2 with ⟨e', _⟩ | ⟨g, cap', cur', e', hbg, hg, _⟩
  · cases e'
  · simp only [Value.slice.injEq, Option.some.injEq] at e'
    obtain ⟨rfl, _⟩ := e'
    show w.heap[g]? ≠ _
    rw [hg]
    intro e2
    cases e2
    exact he rfl
def BookV (w : World) (base : Nat) (l : List Int) (C : Array Value) : Prop :=
  ∃ a cap ac cc q sc, C = (bookCells (.slice a l.length cap) (.slice ac l.length cc) (.slice q (symsN l 15).length sc) (manyN l 15)).toArray ∧ JRow w base a l ∧ JRow w base ac (outN l 15).2 ∧ JRow w base q (symsN l 15)
theorem BookV.later {w w' : World} {base : Nat} {l : List Int} {C : Array Value} (h : BookV w base l C) (hb : Below w.heap.size w w') : BookV w' base l C := by
  obtain ⟨a, cap, ac, cc, q, sc, e, h1, h2, h3⟩ := h
  exact ⟨a, cap, ac, cc, q, sc, e, h1.later hb, h2.later hb, h3.later hb⟩
theorem BookV.mono {w : World} {base b' : Nat} {l : List Int} {C : Array Value} (h : BookV w base l C) (hb : b' ≤ base) : BookV w b' l C := by
  obtain ⟨a, cap, ac, cc, q, sc, e, h1, h2, h3⟩ := h
  exact ⟨a, cap, ac, cc, q, sc, e, h1.mono hb, h2.mono hb, h3.mono hb⟩
theorem BookV.touch {w w' : World} {base b : Nat} {l : List Int} {C : Array Value} (h : BookV w base l C) (hs : w'.heap.size = w.heap.size) (hk : ∀ j, j ≠ b → w'.heap[j]? = w.heap[j]?) (hb : b < base) : BookV w' base l C := by
  obtain ⟨a, cap, ac, cc, q, sc, e, h1, h2, h3⟩ := h
  exact ⟨a, cap, ac, cc, q, sc, e, h1.touch hs hk hb, h2.touch hs hk hb, h3.touch hs hk hb⟩
theorem BookV.size {w : World} {base : Nat} {l : List Int} {C : Array Value} (h : BookV w base l C) : C.size = 19 := by
  obtain ⟨a, cap, ac, cc, q, sc, e, _⟩ := h
  rw [e]; simp [bookCells_len]
theorem BookV.one {w : World} {base : Nat} {l : List Int} {C : Array Value} (h : BookV w base l C) : C.all (·.oneCell') = true := by
  obtain ⟨a, cap, ac, cc, q, sc, e, _⟩ := h
  rw [e]; exact bookCells_one rfl rfl rfl
theorem litBook_any (a : Option Addr) (cap n base : Nat) (l : List Int) (w : World) (hn : l.length = n) (h : JRow w base a l) (hB : base ≤ w.heap.size) (hm : n ≤ 300) :
    Calls Tryz.prog 167 #[.slice a n cap] w fun e w' => (∃ C, e = .returned (.agg C) ∧ BookV w' base l C) ∧ Below w.heap.size w w' := by
  refine (Lit.codeBook_any a cap n l w hn h.1 hm).mono ?_
  rintro e w' ⟨vs, C, rfl, hC, h1, h2, hb⟩
  obtain ⟨q, sc, rfl⟩ := h2.form
  subst hn
  exact ⟨⟨C, rfl, a, cap, _, _, q, sc, hC, h.later hb, (own_jrow (outN_len l 15) (h1.own (outN_len l 15))).mono (by omega), (own_jrow rfl h2).mono (by omega)⟩, hb⟩
theorem distBook_any (a : Option Addr) (cap n base : Nat) (l : List Int) (w : World) (hn : l.length = n) (h : JRow w base a l) (hB : base ≤ w.heap.size) (hm : n ≤ 300) :
    Calls Tryz.prog 168 #[.slice a n cap] w fun e w' => (∃ C, e = .returned (.agg C) ∧ BookV w' base l C) ∧ Below w.heap.size w w' := by
  refine (Dist.codeBook_any a cap n l w hn h.1 hm).mono ?_
  rintro e w' ⟨vs, C, rfl, hC, h1, h2, hb⟩
  obtain ⟨q, sc, rfl⟩ := h2.form
  subst hn
  exact ⟨⟨C, rfl, a, cap, _, _, q, sc, hC, h.later hb, (own_jrow (outN_len l 15) (h1.own (outN_len l 15))).mono (by omega), (own_jrow rfl h2).mono (by omega)⟩, hb⟩
def Books (w : World) (base : Nat) (L D : List Int) (C : Array Value) : Prop := ∃ C1 C2, C = C1 ++ C2 ∧ BookV w base L C1 ∧ BookV w base D C2
theorem Books.later {w w' : World} {base : Nat} {L D : List Int} {C : Array Value} (h : Books w base L D C) (hb : Below w.heap.size w w') : Books w' base L D C := by
  obtain ⟨C1, C2, e, h1, h2⟩ := h
  exact ⟨C1, C2, e, h1.later hb, h2.later hb⟩
theorem Books.size {w : World} {base : Nat} {L D : List Int} {C : Array Value} (h : Books w base L D C) : C.size = 38 := by
  obtain ⟨C1, C2, rfl, h1, h2⟩ := h
  rw [Array.size_append, h1.size, h2.size]
theorem Books.one {w : World} {base : Nat} {L D : List Int} {C : Array Value} (h : Books w base L D C) : C.all (·.oneCell') = true := by
  obtain ⟨C1, C2, rfl, h1, h2⟩ := h
  rw [Array.all_append, h1.one, h2.one]; rfl
theorem Tryz.infoBooks : (Tryz.prog.info? 224).map (·.size) = some 38 := by kernel_rfl
theorem Tryz.infoLitB : (Tryz.prog.info? 219).map (·.size) = some 19 := by kernel_rfl
theorem Tryz.infoDistB : (Tryz.prog.info? 222).map (·.size) = some 19 := by kernel_rfl
theorem books_range {w : World} {b : Nat} {C1 C2 : Array Value} {t : TypeId} (h : w.heap[b]? = some (Obj.cells (C1 ++ C2) t)) (h1 : C1.size = 19) : w.rangeAt b 0 C1.toList ∧ w.rangeAt b 19 C2.toList := by
  refine ⟨fun j v hv => ?_, fun j v hv => ?_⟩
  · have hj : j < C1.size := by have := (List.getElem?_eq_some_iff.1 hv).1; simpa using this
    rw [Nat.zero_add]
    simp only [World.cell?, h]
    rw [Array.getElem?_append_left hj]
    simpa using hv
  · simp only [World.cell?, h]
    rw [Array.getElem?_append_right (by omega), h1, Nat.add_sub_cancel_left]
    simpa using hv
theorem Tryz.builtBooks (l1 c1 s1 l2 c2 s2 : Value) (m1 m2 : Nat → Nat) : Tryz.prog.built 224 [(0, .agg (bookCells l1 c1 s1 m1).toArray), (1, .agg (bookCells l2 c2 s2 m2).toArray)] = some ((bookCells l1 c1 s1 m1).toArray ++ (bookCells l2 c2 s2 m2).toArray) := by kernel_rfl
theorem built_books {w : World} {base : Nat} {L D : List Int} {C1 C2 : Array Value} (h1 : BookV w base L C1) (h2 : BookV w base D C2) : Tryz.prog.built 224 [(0, .agg C1), (1, .agg C2)] = some (C1 ++ C2) := by
  obtain ⟨_, _, _, _, _, _, rfl, _⟩ := h1
  obtain ⟨_, _, _, _, _, _, rfl, _⟩ := h2
  exact Tryz.builtBooks _ _ _ _ _ _ _ _
theorem fix_parts : fixL 288 = List.replicate 144 8 ++ (List.replicate 112 9 ++ (List.replicate 24 7 ++ List.replicate 8 8)) := by decide +kernel
end Go.Proofs.YtfpnnlekblamhaaGreatDoor