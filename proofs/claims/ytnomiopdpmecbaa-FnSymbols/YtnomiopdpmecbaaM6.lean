/- Of what the proof is made: 5 texts, one behind the other. -/
import Derived.Test.YtnomiopdpmecbaaM5
import Derived.Deep.MidRow
/- A book of codes as a row of cells: how it is stored and loaded whole. -/
namespace Go.Proofs.Ytnomiopdpmecbaa
open Go.RowKit Corb

theorem frozen_new (w : World) (vs : Array Value) (t : TypeId) (j : Nat) : (w.alloc (.cells vs t)).frozen? ⟨w.heap.size, j, none⟩ = false := by simp
theorem there_new (w : World) (vs : Array Value) (t : TypeId) (n : Nat) (hn : n = vs.size) : (w.alloc (.cells vs t)).there w.heap.size 0 n := by
  intro j hj
  subst hn
  refine ⟨?_, frozen_new w vs t _⟩
  rw [cell_of_row _ _ _ vs t (0, 0) (heap_alloc_new w _)]
  simp [hj]
theorem Try.infoBook : (Try.prog.info? 45).map (·.size) = some 19 := by kernel_rfl
def bookCells (vl vc vs : Value) (m : Nat → Nat) : List Value := vl :: vc :: ((List.range 16).map (fun j => Value.int .i64 (m j : Nat)) ++ [vs])
theorem bookCells_len (vl vc vs : Value) (m : Nat → Nat) : (bookCells vl vc vs m).length = 19 := by simp [bookCells]
theorem bookCells_mid (vl vc vs : Value) (m : Nat → Nat) (i : Nat) (h : i < 16) : (bookCells vl vc vs m)[i + 2]? = some (.int .i64 (m i : Nat)) := by
  show ((List.range 16).map (fun j => Value.int .i64 (m j : Nat)) ++ [vs])[i]? = _
  rw [List.getElem?_append_left (by simpa using h)]
  simp [h]
theorem bookCells_last (vl vc vs : Value) (m : Nat → Nat) : (bookCells vl vc vs m)[18]? = some vs := by
  show ((List.range 16).map (fun j => Value.int .i64 (m j : Nat)) ++ [vs])[16]? = _
  rw [List.getElem?_append_right (by simp)]
  simp
theorem Book.range {w : World} {b : Nat} {vl vc vs : Value} {m : Nat → Nat} (h : Book w b vl vc vs m) : w.rangeAt b 0 (bookCells vl vc vs m) := by
  intro j v hv
  have hj : j < 19 := by
    have := (List.getElem?_eq_some_iff.1 hv).1
    rwa [bookCells_len] at this
  obtain ⟨c0, c1, c2, c3, _, _⟩ := h
  rw [Nat.zero_add]
  rcases Nat.lt_or_ge j 2 with h2 | h2
  · rcases (show j = 0 ∨ j = 1 by omega) with rfl | rfl
    · simp only [bookCells, List.getElem?_cons_zero, Option.some.injEq] at hv
      rw [← hv]; exact c0
    · simp only [bookCells, List.getElem?_cons_succ, List.getElem?_cons_zero, Option.some.injEq] at hv
      rw [← hv]; exact c1
  · rcases Nat.lt_or_ge j 18 with h3 | h3
    · obtain ⟨i, rfl⟩ : ∃ i, j = i + 2 := ⟨j - 2, by omega⟩
      rw [bookCells_mid _ _ _ _ i (by omega)] at hv
      rw [← hv, Nat.add_comm]
      exact c2 i (by omega)
    · obtain rfl : j = 18 := by omega
      rw [bookCells_last] at hv
      rw [← hv]; exact c3
theorem Book.of_range {w : World} {b : Nat} {vl vc vs : Value} {m : Nat → Nat} (h : w.rangeAt b 0 (bookCells vl vc vs m)) (hf : ∀ o, w.frozen? ⟨b, o, none⟩ = false) (hb : b < w.heap.size) : Book w b vl vc vs m := by
  refine ⟨?_, ?_, fun j hj => ?_, ?_, hf, hb⟩
  · have := h 0 vl rfl
    rwa [Nat.zero_add] at this
  · have := h 1 vc rfl
    rwa [Nat.zero_add] at this
  · have := h (j + 2) _ (bookCells_mid _ _ _ _ j hj)
    rwa [Nat.zero_add, Nat.add_comm] at this
  · have := h 18 vs (bookCells_last _ _ _ _)
    rwa [Nat.zero_add] at this
theorem Book.there {w : World} {b : Nat} {vl vc vs : Value} {m : Nat → Nat} (h : Book w b vl vc vs m) : w.there b 0 19 := by
  intro j hj
  refine ⟨?_, ?_⟩
  · exact h.range.isSome j (by rw [bookCells_len]; exact hj)
  · exact h.2.2.2.2.1 _
theorem bookCells_one {vl vc vs : Value} {m : Nat → Nat} (hl : vl.oneCell' = true) (hc : vc.oneCell' = true) (hs : vs.oneCell' = true) : (bookCells vl vc vs m).toArray.all (·.oneCell') = true := by
  apply all_oneCell_toArray
  intro v hv
  simp only [bookCells, List.mem_cons, List.mem_append, List.mem_map, List.mem_range] at hv
  rcases hv with rfl | rfl | ⟨_, _, rfl⟩ | rfl | h
  · exact hl
  · exact hc
  · rfl
  · exact hs
  · cases h
theorem below_setCells {B : Nat} {a : World} {b : Nat} (hb : B ≤ b) : ∀ (vs : List Value) (o : Nat) (w : World), Below B a w → Below B a (w.setCells b o vs)
  | [], _, _, h => h
  | v :: r, o, w, h => by
    rw [World.setCells]
    exact below_setCells (a := a) hb r (o + 1) _ (below_set h hb v)
theorem size_setCells (b : Nat) : ∀ (vs : List Value) (o : Nat) (w : World), (w.setCells b o vs).heap.size = w.heap.size
  | [], _, _ => rfl
  | v :: r, o, w => by
    rw [World.setCells, size_setCells b r]
    simp
/-- A book, stored whole into a block that is there. -/
theorem wpList_store_book {P : Program} {ops : Array Oper} {rest : List Oper} {op : Oper} {a : Act} {w : World} {Q : Exit → Act → World → Prop} (hgd : op.guard = none) (ty : TypeId) (x y : Operand) (ho : op.op = .store ty x y)
    (b : Nat) (C : Array Value) (vl vc vs : Value) (m : Nat → Nat) (hx : a.eval x = .pointer (some ⟨b, 0, none⟩)) (hy : a.eval y = .agg C) (hC : C = (bookCells vl vc vs m).toArray)
    (ht : w.there b 0 19) (hf : ∀ o, w.frozen? ⟨b, o, none⟩ = false) (hi : (P.info? ty).map (·.size) = some 19) (h1 : vl.oneCell' = true ∧ vc.oneCell' = true ∧ vs.oneCell' = true)
    (h : ∀ w', Book w' b vl vc vs m → Below b w w' → w'.heap.size = w.heap.size → (∀ j, j ≠ b → w'.heap[j]? = w.heap[j]?) → wpList P ops Q rest (a.put op.dst undef) w') : wpList P ops Q (op :: rest) a w := by
  have hlt : b < w.heap.size := by
    obtain ⟨v, hv⟩ := Option.isSome_iff_exists.1 (ht 0 (by omega)).1
    exact World.block_lt_of_cell? _ _ hv
  subst hC
  have hsz : (bookCells vl vc vs m).toArray.size = 19 := by simp [bookCells_len]
  refine wpList_store_mid hgd ty x y ho b 0 _ hx hy (by rw [hsz]; exact ht) (by rw [hsz]; exact hi) (bookCells_one h1.1 h1.2.1 h1.2.2) ?_
  have ht' : w.there b 0 (bookCells vl vc vs m).length := by rw [bookCells_len]; exact ht
  refine h _ (Book.of_range (World.rangeAt_setCells_same w b 0 _ ht') (fun o => by rw [World.frozen?_setCells]; exact hf o) (by rw [size_setCells]; exact hlt)) (below_setCells (Nat.le_refl _) _ _ _ (Below.refl _ _)) (size_setCells _ _ _ _) ?_
  have heap : ∀ (vs : List Value) (o : Nat) (w : World) (j : Nat), j ≠ b → (w.setCells b o vs).heap[j]? = w.heap[j]? := by
    intro vs
    induction vs with
    | nil => intro o w j _; rfl
    | cons v r ih =>
      intro o w j hj
      rw [World.setCells, ih _ _ _ hj]
      exact Below.heap_setCell w ⟨b, o, none⟩ v j hj
  exact fun j hj => heap _ _ _ j hj
/-- A result that lies in a block. -/
theorem results_cell_mid {P : Program} {fn : Func} {p : Tmp} {ty : TypeId} (h : fn.results = #[.cell p ty]) (tmps : Array Value) (w : World) (b : Nat) (cs : List Value) (d : TypeDesc)
    (hp : tmps.getD p undef = .pointer (some ⟨b, 0, none⟩)) (hc : w.rangeAt b 0 cs) (hu : P.underlying ty = some d) (hd : d.isRow = true) (hi : (P.info? ty).map (·.size) = some cs.length) :
    (results fn tmps).run P w = .ok (.agg cs.toArray) w := by
  have hp' : tmps[p]?.getD undef = .pointer (some ⟨b, 0, none⟩) := by simpa using hp
  simp [results, h, hp', asAddr, run_loadVar_mid w b 0 ty cs d hc hu hd hi]

end Go.Proofs.Ytnomiopdpmecbaa
/- The program's book of codes is made, over this seat's program. -/
namespace Go.Proofs.Ytnomiopdpmecbaa
open Go.RowKit Corb

def bookZ : Array Value := #[.slice none 0 0, .slice none 0 0, .int .i64 0, .int .i64 0, .int .i64 0, .int .i64 0, .int .i64 0, .int .i64 0, .int .i64 0, .int .i64 0, .int .i64 0, .int .i64 0, .int .i64 0, .int .i64 0, .int .i64 0, .int .i64 0, .int .i64 0, .int .i64 0, .slice none 0 0]

theorem book_twice (f : Nat → Nat) (i x y : Nat) : (fun j => if j = i then x else (if j = i then y else f j)) = fun j => if j = i then x else f j := by
  funext j
  by_cases h : j = i
  · simp [h]
  · simp [h]

set_option maxHeartbeats 3200000 in
theorem codeBook_any (a : Option Addr) (cap n : Nat) (l : List Int) (w : World) (hn : l.length = n) (h : IRow w a l) (hm : n ≤ 300) :
    Calls Try.prog 20 #[.slice a n cap] w fun e w' => ∃ vs C, e = .returned (.agg C) ∧ C = (bookCells (.slice a n cap) (.slice (some ⟨w.heap.size + 1, 0, none⟩) n n) vs (manyN l 15)).toArray ∧ IOwn w' (w.heap.size + 1) (.slice (some ⟨w.heap.size + 1, 0, none⟩) n n) (outN l 15).2 ∧ IOwn w' (w.heap.size + 1) vs (symsN l 15) ∧ Below w.heap.size w w' := by
  have hm' : (n : Int) ≤ 300 := by omega
  obtain ⟨i0, hi, hz0, hz1, hz2⟩ := info_parts Try.infoInt
  have Hn := hide hn
  have Hm := hide hm
  go_enter Try.func20, Try.ntmps20
  go_wp2_with (first
    | (at_make; refine wpList_make_full _ rfl _ _ 23 rfl (w.heap.size + 1) 3 i0 (.int .i64 0) 1 Try.underlying23 hi hz0 hz1 .i64 .i64 _ _ n rfl rfl rfl rfl (by rw [hz2]; omega) (by unfold maxLen; omega) (by simp) ?_; intro w1 hown hgrow)
    | (refine wpList_store_book rfl 45 (.tmp 3) (.tmp 12) rfl w1.heap.size _ (.slice a n cap) (.slice (some ⟨w.heap.size + 1, 0, none⟩) n n) (.slice none 0 0) (fun _ => 0) rfl rfl rfl (there_new w1 _ _ _ rfl) (frozen_new w1 _ _) Try.infoBook ⟨rfl, rfl, rfl⟩ ?_; intro w2 hbk hbl hsz hap))
  have hs1 : ∀ o : Obj, (w.alloc o).heap.size = w.heap.size + 1 := fun o => by simp
  rw [hs1] at hown
  have hb1 : Below (w.heap.size + 1) (w.alloc (.cells bookZ 45)) w1 := (Below.refl _ _).grown hgrow (by simp) (fun k h => by cases h)
  have hown1 : IOwn w1 (w.heap.size + 1) (.slice (some ⟨w.heap.size + 1, 0, none⟩) n n) (List.replicate n 0) := made_ints hown
  have hlt1 : w.heap.size + 1 < w1.heap.size := hown1.below.2
  have hb2 : Below (w.heap.size + 1) (w.alloc (.cells bookZ 45)) w2 := (hb1.alloc (by omega) _).trans (hbl.mono (by omega))
  have hown2 : IOwn w2 (w.heap.size + 1) (.slice (some ⟨w.heap.size + 1, 0, none⟩) n n) (outN l 0).2 := by
    show IOwn w2 (w.heap.size + 1) (.slice (some ⟨w.heap.size + 1, 0, none⟩) n n) (List.replicate l.length 0)
    rw [hn]
    exact (hown1.later ((Below.refl w1.heap.size w1).alloc (Nat.le_refl _) _) (Nat.le_refl _)).under hbl hlt1
  have hsy2 : IOwn w2 (w1.heap.size + 1) (.slice none 0 0) (symsN l 0) := IOwn.nil _ _
  have hbk2 : Book w2 w1.heap.size (.slice a n cap) (.slice (some ⟨w.heap.size + 1, 0, none⟩) n n) (.slice none 0 0) (manyN l 0) := by
    have e : (fun _ => 0 : Nat → Nat) = manyN l 0 := by
      funext j
      unfold manyN
      rw [if_neg (by omega)]
    rw [← e]
    exact hbk
  obtain ⟨b, hbe⟩ : ∃ b, w1.heap.size = b := ⟨_, rfl⟩
  rw [hbe] at hbk2 hsy2 hlt1 ⊢
  clear hown hgrow hown1 hb1 hbl hsz hap hbk hs1 hm hn hbe
  go_loopw [4, 5, 6, 7] (fun c m _ _ wr => ∃ (N : Nat) (vs : Value), N ≤ 15 ∧ m = .int .i64 ((N : Int) + 1) ∧ c = .int .i64 ((outN l N).1 : Nat) ∧ Book wr b (.slice a n cap) (.slice (some ⟨w.heap.size + 1, 0, none⟩) n n) vs (manyN l N) ∧ IOwn wr (w.heap.size + 1) (.slice (some ⟨w.heap.size + 1, 0, none⟩) n n) (outN l N).2 ∧ IOwn wr (b + 1) vs (symsN l N) ∧ Below (w.heap.size + 1) (w.alloc (.cells bookZ 45)) wr) (fun _ m _ _ _ => 16 - (intOf m).toNat)
  case atStart => exact ⟨0, _, by omega, rfl, rfl, hbk2, hown2, hsy2, hb2⟩
  case round =>
    obtain ⟨N, vs, hN, rfl, rfl, hbk, hco, hsy, hbel⟩ := hrel
    clear hbk2 hown2 hsy2 hb2
    have hbs : w.heap.size + 1 ≤ wr.heap.size := by have := hbel.size; simpa using this
    have hbd := outN_bd l N hN (by rw [unhide Hn]; exact unhide Hm)
    have hbI : (((outN l N).1 : Nat) : Int) ≤ 9830400 := by omega
    have hNI : (N : Int) ≤ 15 := by omega
    clear hbd
    by_cases hlt : N < 15
    · have hN15 : (N : Int) < 15 := by omega
      have hlen0 : Hid ((outN l N).2.length = n) := (outN_len l N).trans (unhide Hn)
      have hfin : Hid (outN l (N + 1) = inn l ((N : Int) + 1) (2 * (outN l N).1, (outN l N).2) l.length) := rfl
      have hfis : Hid (symsN l (N + 1) = syms l ((N : Int) + 1) (symsN l N) l.length) := rfl
      have hfim := hide (manyN_step l N)
      have hsl := hide (symsN_le l N)
      rw [← many_start l N] at hbk
      have hnext := hide (outN_bd l (N + 1) (by omega) (by rw [unhide Hn]; exact unhide Hm))
      have hS1 : Hid (((outN l N).1 : Int) * 2 = ((2 * (outN l N).1 : Nat) : Int)) := by show ((outN l N).1 : Int) * 2 = _; omega
      generalize hS : ((2 * (outN l N).1, (outN l N).2) : Nat × List Int) = S at *
      have hS2 : 2 * (outN l N).1 = S.1 := by rw [← hS]
      have hS3 : (outN l N).2 = S.2 := by rw [← hS]
      rw [hS2] at hS1
      rw [hS3] at hco hlen0
      have hSI : (S.1 : Int) ≤ 19660800 := by omega
      clear hS hS2 hS3
      have hd15 : decide ((N : Int) + 1 ≤ 15) = true := decide_eq_true (by omega)
      go_wp2_with fail
      rw [unhide hS1]
      go_loopw [4, 6, 7, 21] (fun c _ _ i wr => ∃ (k : Nat) (vs : Value), k ≤ n ∧ i = .int .i64 k ∧ c = .int .i64 ((inn l ((N : Int) + 1) S k).1 : Nat) ∧ Book wr b (.slice a n cap) (.slice (some ⟨w.heap.size + 1, 0, none⟩) n n) vs (fun j => if j = N + 1 then many l ((N : Int) + 1) k else manyN l N j) ∧ IOwn wr (w.heap.size + 1) (.slice (some ⟨w.heap.size + 1, 0, none⟩) n n) (inn l ((N : Int) + 1) S k).2 ∧ IOwn wr (b + 1) vs (syms l ((N : Int) + 1) (symsN l N) k) ∧ Below (w.heap.size + 1) (w.alloc (.cells bookZ 45)) wr) (fun _ _ _ i _ => n - (intOf i).toNat)
      case atStart => exact ⟨0, _, Nat.zero_le _, rfl, rfl, hbk, hco, hsy, hbel⟩
      case round =>
        obtain ⟨k, vs, hk, rfl, rfl, hbk1, hco1, hsy1, hbel1⟩ := hrel
        clear hbk hco hsy hbel hbs
        have hbs : w.heap.size + 1 ≤ wr.heap.size := by have := hbel1.size; simpa using this
        have hlen : Hid ((inn l ((N : Int) + 1) S k).2.length = n) := (inn_len _ _ _ _).trans (unhide hlen0)
        have hle := inn_le l ((N : Int) + 1) S k
        have hleI : ((inn l ((N : Int) + 1) S k).1 : Int) ≤ 19661100 := by have := unhide Hm; omega
        clear hle
        by_cases hkn : k < n
        · have hbw : Below w.heap.size w wr := ((Below.refl _ _).alloc (Nat.le_refl _) _).trans (hbel1.mono (Nat.le_succ _))
          obtain ⟨g, o, rfl, hg, hc⟩ := (h.later hbw) (by rw [unhide Hn]; omega)
          have c0 := hc k (by rw [unhide Hn]; exact hkn)
          obtain ⟨d0, f0, _, _⟩ := hco1.at (unhide hlen) hkn
          have hst : Hid (inn l ((N : Int) + 1) S (k + 1) = if l.getD k 0 = (N : Int) + 1 then ((inn l ((N : Int) + 1) S k).1 + 1, (inn l ((N : Int) + 1) S k).2.set k ((inn l ((N : Int) + 1) S k).1 : Int)) else inn l ((N : Int) + 1) S k) := rfl
          have hsm : Hid (many l ((N : Int) + 1) (k + 1) = if l.getD k 0 = (N : Int) + 1 then many l ((N : Int) + 1) k + 1 else many l ((N : Int) + 1) k) := rfl
          have hss : Hid (syms l ((N : Int) + 1) (symsN l N) (k + 1) = if l.getD k 0 = (N : Int) + 1 then syms l ((N : Int) + 1) (symsN l N) k ++ [(k : Int)] else syms l ((N : Int) + 1) (symsN l N) k) := rfl
          have hml := manyS_le l ((N : Int) + 1) k
          have hyl := symsN_len l ((N : Int) + 1) (symsN l N) k
          have HK := hide hk
          have hbl := hbk1.2.2.2.2.2
          clear hc hk h hbw
          generalize l.getD k 0 = y at *
          generalize inn l ((N : Int) + 1) S k = T at *
          generalize many l ((N : Int) + 1) k = M at *
          generalize syms l ((N : Int) + 1) (symsN l N) k = Y at *
          by_cases hy : y = (N : Int) + 1
          · have hst' : Hid (inn l ((N : Int) + 1) S (k + 1) = (T.1 + 1, T.2.set k (T.1 : Int))) := by have := unhide hst; rw [if_pos hy] at this; exact this
            have hsm' : Hid (many l ((N : Int) + 1) (k + 1) = M + 1) := by have := unhide hsm; rw [if_pos hy] at this; exact this
            have hss' : Hid (syms l ((N : Int) + 1) (symsN l N) (k + 1) = Y ++ [(k : Int)]) := by have := unhide hss; rw [if_pos hy] at this; exact this
            have hput := hide (hco1.put (j := k) (unhide hlen) (T.1 : Int))
            subst hy
            generalize T.2.getD k 0 = d at *
            have hne : w.heap.size + 1 ≠ b := by omega
            have hMI : (M : Int) ≤ 300 := by have := unhide Hm; omega
            have c1 := hbk1.2.1
            have B1 := hbk1.other (o := k) hne (.int .i64 (T.1 : Int))
            have e1 : (wr.setCell ⟨w.heap.size + 1, k, none⟩ (.int .i64 (T.1 : Int))).cell? ⟨b, 2 + (N + 1), none⟩ = some (.int .i64 (M : Int)) := by
              have := B1.2.2.1 (N + 1) (by omega)
              simpa using this
            have e2 := B1.2.2.2.2.1 (2 + (N + 1))
            have B2 := B1.many (i := N + 1) (x := M + 1) (by omega)
            have eI : ((M + 1 : Nat) : Int) = (M : Int) + 1 := by omega
            rw [eI] at B2
            have c3 := hbk1.2.2.2.1
            have HB2 := hide B2
            have hsyW : IOwn ((wr.setCell ⟨w.heap.size + 1, k, none⟩ (.int .i64 (T.1 : Int))).setCell ⟨b, 2 + (N + 1), none⟩ (.int .i64 ((M : Int) + 1))) (b + 1) vs Y := (hsy1.setUnder (by omega) _).setUnder (Nat.lt_succ_self _) _
            have hcoW : IOwn ((wr.setCell ⟨w.heap.size + 1, k, none⟩ (.int .i64 (T.1 : Int))).setCell ⟨b, 2 + (N + 1), none⟩ (.int .i64 ((M : Int) + 1))) (w.heap.size + 1) (.slice (some ⟨w.heap.size + 1, 0, none⟩) n n) (T.2.set k (T.1 : Int)) := (unhide hput).setOther (Ne.symm hne) _
            have hbeW : Below (w.heap.size + 1) (w.alloc (.cells bookZ 45)) ((wr.setCell ⟨w.heap.size + 1, k, none⟩ (.int .i64 (T.1 : Int))).setCell ⟨b, 2 + (N + 1), none⟩ (.int .i64 ((M : Int) + 1))) := below_set (below_set hbel1 (Nat.le_refl _) _) (by omega) _
            have hszW : ((wr.setCell ⟨w.heap.size + 1, k, none⟩ (.int .i64 (T.1 : Int))).setCell ⟨b, 2 + (N + 1), none⟩ (.int .i64 ((M : Int) + 1))).heap.size = wr.heap.size := by simp
            have hYl : Y.length ≤ 100000 := by
              have h1 := unhide hsl
              have h2 : N * l.length ≤ 15 * 300 := Nat.mul_le_mul (by omega) (by rw [unhide Hn]; exact unhide Hm)
              have h3 := unhide Hm
              omega
            have HYl := hide hYl
            have HsyW := hide hsyW
            have HcoW := hide hcoW
            have HbeW := hide hbeW
            clear B1 B2 hsyW hcoW hbeW hYl hyl hml hbk1 hco1 hsy1 hbel1 hput hst hss hsm eI
            have hlen1 : Y.length + 1 ≤ maxLen := by have := unhide HYl; unfold maxLen; omega
            have hlen2 : (Y.length + 1) * 8 ≤ 140737488355328 := by have := unhide HYl; omega
            have hlen3 : ∀ o : Obj, b + 1 ≤ (((wr.setCell ⟨w.heap.size + 1, k, none⟩ (.int .i64 (T.1 : Int))).setCell ⟨b, 2 + (N + 1), none⟩ (.int .i64 ((M : Int) + 1))).alloc o).heap.size := fun o => by simp; omega
            have Hl1 := hide hlen1
            have Hl2 := hide hlen2
            have Hl3 := hide hlen3
            have Hsz := hide hszW
            clear hlen1 hlen2 hlen3 hszW
            go_wp2_with (at_builtin; refine wpList_append_own _ rfl _ _ 23 rfl (b + 1) 3 i0 (.int .i64 0) 1 8 Try.underlying23 hi hz0 hz1 hz2 rfl (by decide) _ _ _ rfl (World.ownsRow.alloc (unhide HsyW) _) ⟨wr.heap.size, 0, none⟩ 1 1 [.int .i64 (k : Int)] rfl rfl (one_new _ _ (unhide Hsz) _ _) (one_int _) (unhide Hl1) (unhide Hl2) (unhide Hl3 _) ?_; intro v' x3 hown hgrow hnil; clear hnil; have hb3 := grown_step (v := vs) hgrow (unhide HsyW) (Nat.le_refl (b + 1)) (by rw [unhide Hsz]; exact hbl) (Below.refl _ _); have B3 := (unhide HB2).kept hb3; have c4 := B3.2.2.2.1; have f4 := B3.2.2.2.2.1 18; have hex := IOwn.formN (n := Y.length + 1) (by simp) (iown_snoc hown); obtain ⟨va, vc, hv⟩ := hex; rw [hv]; have HV := hide hv; clear hv)
            have hco3 := (unhide HcoW).under hb3 (by omega)
            have hsy3 := iown_snoc hown
            have hbe3 := (unhide HbeW).trans (hb3.mono (by omega))
            rw [unhide HV] at hsy3
            have hbk3 := B3.sorted (.slice va (Y.length + 1) vc)
            rw [book_twice] at hbk3
            have hco4 := hco3.setOther (o := 18) (Ne.symm hne) (.slice va (Y.length + 1) vc)
            have hsy4 := hsy3.setUnder (b := b) (o := 18) (Nat.lt_succ_self _) (.slice va (Y.length + 1) vc)
            have hbe4 := below_set (o := 18) hbe3 (show w.heap.size + 1 ≤ b by omega) (.slice va (Y.length + 1) vc)
            clear hco3 hsy3 hbe3 B3 hown hgrow hb3 HbeW HcoW HsyW HB2
            go_roundw
            case rel =>
              exact ⟨k + 1, .slice va (Y.length + 1) vc, by omega, by go_num, by rw [unhide hst']; go_num, by rw [unhide hsm']; exact hbk3, by rw [unhide hst']; exact hco4, by rw [unhide hss']; exact hsy4, hbe4⟩
            case measure => simp [intOf]; omega
          · have hst' : Hid (inn l ((N : Int) + 1) S (k + 1) = T) := by have := unhide hst; rw [if_neg hy] at this; exact this
            have hsm' : Hid (many l ((N : Int) + 1) (k + 1) = M) := by have := unhide hsm; rw [if_neg hy] at this; exact this
            have hss' : Hid (syms l ((N : Int) + 1) (symsN l N) (k + 1) = Y) := by have := unhide hss; rw [if_neg hy] at this; exact this
            have g1 : (y == (N : Int) + 1) = false := by simpa using hy
            clear hyl hml
            go_wp2
            go_roundw
            case rel => exact ⟨k + 1, _, by omega, by go_num, by rw [unhide hst'], by rw [unhide hsm']; exact hbk1, by rw [unhide hst']; exact hco1, by rw [unhide hss']; exact hsy1, hbel1⟩
            case measure => simp [intOf]; omega
        · have hkl : k = l.length := by have := unhide Hn; omega
          subst hkl
          rw [← unhide hfin] at hco1 hleI ⊢
          rw [← unhide hfis] at hsy1
          rw [unhide hfim] at hbk1
          have hnI : ((outN l (N + 1)).1 : Int) ≤ 9830400 := by have := unhide hnext; omega
          go_wp2
          go_roundw
          case rel => exact ⟨N + 1, _, by omega, by go_num, rfl, hbk1, hco1, hsy1, hbel1⟩
          case measure => simp [intOf]; omega
    · obtain rfl : N = 15 := by omega
      have ht0 : wr.there w.heap.size 0 19 := fun j hj => by
        obtain ⟨h1, h2⟩ := there_new w bookZ 45 19 rfl j hj
        exact ⟨by rw [hbel.cell (p := ⟨w.heap.size, 0 + j, none⟩) (Nat.lt_succ_self _)]; exact h1, by rw [hbel.frozen (p := ⟨w.heap.size, 0 + j, none⟩) (Nat.lt_succ_self _)]; exact h2⟩
      have hf0 : ∀ o, wr.frozen? ⟨w.heap.size, o, none⟩ = false := fun o => by
        rw [hbel.frozen (p := ⟨w.heap.size, o, none⟩) (Nat.lt_succ_self _)]; exact frozen_new w _ _ _
      have h1 : vs.oneCell' = true := by
        obtain ⟨_, _, e⟩ := hsy.form
        rw [e]; rfl
      have Ht0 := hide ht0
      have Hf0 := hide hf0
      have H1 := hide h1
      clear ht0 hf0 h1
      go_wp2_with (first
        | (refine wpList_load_mid rfl 45 (.tmp 3) rfl b 0 rfl _ _ hbk.range Try.underlying45 rfl (by rw [bookCells_len]; exact Try.infoBook) ?_)
        | (refine wpList_store_book rfl 45 (.tmp 2) (.tmp 50) rfl w.heap.size _ _ _ _ _ rfl rfl rfl (unhide Ht0) (unhide Hf0) Try.infoBook ⟨rfl, rfl, unhide H1⟩ ?_; intro w2 hbk2 hbl hsz hap))
      refine bodyPost_ret (results_cell_mid rfl _ _ w.heap.size _ _ rfl hbk2.range Try.underlying45 rfl (by rw [bookCells_len]; exact Try.infoBook)) rfl ⟨_, _, rfl, rfl, ?_, ?_, ?_⟩
      · exact hco.touch (a := some ⟨w.heap.size, 0, none⟩) ⟨hsz, fun j hj => hap j (hj _ rfl)⟩ (by intro g e; simp only [Option.some.injEq, Addr.mk.injEq, and_true] at e; omega)
      · exact (hsy.mono (by omega)).touch (a := some ⟨w.heap.size, 0, none⟩) ⟨hsz, fun j hj => hap j (hj _ rfl)⟩ (by intro g e; simp only [Option.some.injEq, Addr.mk.injEq, and_true] at e; omega)
      · exact (((Below.refl _ _).alloc (Nat.le_refl _) _).trans (hbel.mono (Nat.le_succ _))).trans hbl

end Go.Proofs.Ytnomiopdpmecbaa
/- Codes of lengths: both, and the walk of the exact law, over this seat's program. -/
namespace Go.Proofs.Ytnomiopdpmecbaa
open Go.RowKit Corb

/-- Codes of lengths that are ok, else nothing. -/
def codesL (l : List Int) : List Int := if lensOk l then (outN l 15).2 else []
theorem codesL_yes {l : List Int} (h : lensOk l = true) : codesL l = (outN l 15).2 := by simp [codesL, h]
theorem codesL_no {l : List Int} (h : lensOk l = false) : codesL l = [] := by simp [codesL, h]
theorem codesL_len (l : List Int) : (codesL l).length ≤ 300 := by
  cases h : lensOk l
  · rw [codesL_no h]; simp
  · rw [codesL_yes h, outN_len]
    simp only [lensOk, Bool.and_eq_true, decide_eq_true_iff] at h
    exact h.1.2
theorem lensOk_len {l : List Int} (h : lensOk l = true) : l.length ≤ 300 := by
  simp only [lensOk, Bool.and_eq_true, decide_eq_true_iff] at h
  exact h.1.2


end Go.Proofs.Ytnomiopdpmecbaa
/- Codes of lengths: plain mathematics: each code in its closed form, below its power of two; symbols in their order. -/
namespace Go.Proofs.Ytnomiopdpmecbaa
open Go.RowKit Corb

/-- The first code behind all those of the first N lengths. -/
def nx (l : List Int) : Nat → Nat
  | 0 => 0
  | N + 1 => 2 * nx l N + many l ((N : Int) + 1) l.length
/-- How many symbols have one of the first N lengths. -/
def pl (l : List Int) : Nat → Nat
  | 0 => 0
  | N + 1 => pl l N + many l ((N : Int) + 1) l.length
theorem inn_fst (l : List Int) (n : Int) (s : Nat × List Int) (k : Nat) : (inn l n s k).1 = s.1 + many l n k := by
  induction k with
  | zero => rfl
  | succ k ih =>
    simp only [inn, many]
    split
    · simp only [ih]; omega
    · exact ih
theorem outN_fst (l : List Int) (N : Nat) : (outN l N).1 = nx l N := by
  induction N with
  | zero => rfl
  | succ N ih => simp only [outN, nx]; rw [inn_fst, ih]
theorem inn_snd (l : List Int) (n : Int) (s : Nat × List Int) (k i : Nat) (hi : i < s.2.length) : (inn l n s k).2.getD i 0 = if i < k ∧ l.getD i 0 = n then ((s.1 + many l n i : Nat) : Int) else s.2.getD i 0 := by
  induction k with
  | zero => simp [inn]
  | succ k ih =>
    simp only [inn]
    split
    case isTrue h =>
      by_cases e : i = k
      · subst e
        have hl : i < (inn l n s i).2.length := by rw [inn_len]; exact hi
        rw [if_pos ⟨Nat.lt_succ_self _, h⟩]
        simp only [List.getD, List.getElem?_set_self hl, Option.getD_some]
        rw [inn_fst]
      · have e2 : ((inn l n s k).2.set k ((inn l n s k).1 : Int)).getD i 0 = (inn l n s k).2.getD i 0 := by
          simp only [List.getD]
          rw [List.getElem?_set_ne (Ne.symm e)]
        simp only
        rw [e2, ih]
        by_cases h2 : i < k
        · simp [h2, Nat.lt_succ_of_lt h2]
        · rw [if_neg (by omega), if_neg (by omega)]
    case isFalse h =>
      rw [ih]
      by_cases e : i = k
      · subst e
        rw [if_neg (by omega), if_neg (fun hh => h hh.2)]
      · by_cases h2 : i < k
        · simp [h2, Nat.lt_succ_of_lt h2]
        · rw [if_neg (by omega), if_neg (by omega)]
/-- The code of a symbol. -/
def codeAt (l : List Int) (i : Nat) : Nat := 2 * nx l ((l.getD i 0).toNat - 1) + many l (l.getD i 0) i
theorem outN_snd (l : List Int) (N i : Nat) (hi : i < l.length) : (outN l N).2.getD i 0 = if 1 ≤ l.getD i 0 ∧ l.getD i 0 ≤ (N : Int) then (codeAt l i : Int) else 0 := by
  induction N with
  | zero =>
    rw [if_neg (by omega)]
    simp [outN, List.getD, hi]
  | succ N ih =>
    simp only [outN]
    rw [inn_snd _ _ _ _ _ (by simp only [outN_len]; exact hi)]
    simp only
    by_cases e : l.getD i 0 = (N : Int) + 1
    · rw [if_pos ⟨hi, e⟩, if_pos ⟨by omega, by omega⟩, outN_fst]
      unfold codeAt
      rw [e]
      have : ((N : Int) + 1).toNat - 1 = N := by omega
      rw [this]
    · rw [if_neg (fun hh => e hh.2), ih]
      by_cases h2 : 1 ≤ l.getD i 0 ∧ l.getD i 0 ≤ (N : Int)
      · rw [if_pos h2, if_pos ⟨h2.1, by omega⟩]
      · rw [if_neg h2, if_neg (by omega)]

/-! Kraft's sum, by lengths. -/
def krU (N : Nat) (l : List Int) : Nat := (l.map (fun b => if 0 < b ∧ b ≤ (N : Int) then p2 (15 - b).toNat else 0)).sum
theorem krU_le (N : Nat) (l : List Int) : krU N l ≤ kr l := by
  induction l with
  | nil => exact Nat.le_refl _
  | cons b l ih =>
    simp only [krU, kr, krN, List.map_cons, List.sum_cons] at ih ⊢
    split <;> split <;> omega
theorem many_cons (b : Int) (l : List Int) (n : Int) (k : Nat) : many (b :: l) n (k + 1) = (if b = n then 1 else 0) + many l n k := by
  induction k with
  | zero => simp [many]
  | succ k ih =>
    have e : many (b :: l) n (k + 1 + 1) = if (b :: l).getD (k + 1) 0 = n then many (b :: l) n (k + 1) + 1 else many (b :: l) n (k + 1) := rfl
    have e2 : (b :: l).getD (k + 1) 0 = l.getD k 0 := by simp [List.getD]
    rw [e, e2, ih]
    simp only [many]
    split <;> split <;> omega
theorem krU_succ (N : Nat) (hN : N < 15) (l : List Int) : krU (N + 1) l = krU N l + many l ((N : Int) + 1) l.length * p2 (14 - N) := by
  induction l with
  | nil => simp [krU, many]
  | cons b l ih =>
    rw [List.length_cons, many_cons, Nat.add_mul]
    simp only [krU, List.map_cons, List.sum_cons] at ih ⊢
    rw [ih]
    by_cases e : b = (N : Int) + 1
    · rw [if_pos (by omega), if_neg (by omega), if_pos e]
      have : (15 - b).toNat = 14 - N := by omega
      rw [this]; omega
    · rw [if_neg e]
      by_cases h : 0 < b ∧ b ≤ (N : Int)
      · rw [if_pos h, if_pos (by omega)]; omega
      · rw [if_neg h, if_neg (by omega)]; omega
theorem nx_kr (l : List Int) (N : Nat) (hN : N ≤ 15) : nx l N * p2 (15 - N) = krU N l := by
  induction N with
  | zero =>
    have : krU 0 l = 0 := by
      induction l with
      | nil => rfl
      | cons b l ih =>
        simp only [krU, List.map_cons, List.sum_cons] at ih ⊢
        rw [ih, if_neg (by omega)]
    rw [this]; simp [nx]
  | succ N ih =>
    rw [krU_succ N (by omega), ← ih (by omega)]
    have e1 : 15 - N = (14 - N) + 1 := by omega
    have e2 : 15 - (N + 1) = 14 - N := by omega
    rw [e1, e2, p2_succ]
    simp only [nx]
    rw [Nat.add_mul, Nat.mul_comm 2, Nat.mul_assoc, Nat.mul_comm 2]
theorem kr_ok {l : List Int} (h : lensOk l = true) : kr l ≤ 32768 := by
  simp only [lensOk, wholeL, Bool.and_eq_true, Bool.or_eq_true, decide_eq_true_iff] at h
  omega
theorem nx_le {l : List Int} (h : lensOk l = true) (N : Nat) (hN : N ≤ 15) : nx l N ≤ p2 N := by
  have h1 := nx_kr l N hN
  have h2 := krU_le N l
  have h3 := kr_ok h
  have e : p2 N * p2 (15 - N) = 32768 := by
    unfold p2
    rw [← Nat.pow_add]
    have : N + (15 - N) = 15 := by omega
    rw [this]
  have hp := p2_pos (15 - N)
  exact Nat.le_of_mul_le_mul_right (by omega : nx l N * p2 (15 - N) ≤ p2 N * p2 (15 - N)) hp
theorem many_lt {l : List Int} {n : Int} {i : Nat} (hi : l.getD i 0 = n) : ∀ k, i < k → many l n i < many l n k := by
  intro k hk
  induction k with
  | zero => omega
  | succ k ih =>
    by_cases e : i = k
    · subst e
      simp only [many]
      rw [if_pos hi]; omega
    · have := ih (by omega)
      simp only [many]
      split <;> omega
theorem many_mono (l : List Int) (n : Int) (i k : Nat) (h : i ≤ k) : many l n i ≤ many l n k := by
  induction k with
  | zero => have : i = 0 := by omega
            rw [this]; exact Nat.le_refl _
  | succ k ih =>
    by_cases e : i = k + 1
    · rw [e]; exact Nat.le_refl _
    · have := ih (by omega)
      simp only [many]
      split <;> omega
theorem inL_bd {l : List Int} (h : inL l = true) {i : Nat} (hi : i < l.length) : 0 ≤ l.getD i 0 ∧ l.getD i 0 ≤ 15 := by
  have := List.all_eq_true.1 h (l.getD i 0) (by simp [List.getD, hi])
  exact inB_true.1 this
theorem lensOk_in {l : List Int} (h : lensOk l = true) : inL l = true := by
  simp only [lensOk, Bool.and_eq_true] at h
  exact h.1.1
theorem codeAt_lt {l : List Int} (h : lensOk l = true) {i : Nat} (hi : i < l.length) (hp : 1 ≤ l.getD i 0) : codeAt l i < p2 (l.getD i 0).toNat ∧ codeAt l i < nx l (l.getD i 0).toNat := by
  obtain ⟨_, hb⟩ := inL_bd (lensOk_in h) hi
  obtain ⟨n, hn⟩ : ∃ n : Nat, l.getD i 0 = (n : Int) + 1 := ⟨(l.getD i 0).toNat - 1, by omega⟩
  have hle := nx_le h (n + 1) (by omega)
  have hm := many_lt hn l.length hi
  have e1 : (l.getD i 0).toNat = n + 1 := by omega
  unfold codeAt
  rw [e1, hn]
  simp only [nx, Nat.add_sub_cancel] at hle ⊢
  omega
/-- The codes of lengths that are ok. -/
theorem codes_get {l : List Int} (h : lensOk l = true) {i : Nat} (hi : i < l.length) : (outN l 15).2.getD i 0 = if 1 ≤ l.getD i 0 then (codeAt l i : Int) else 0 := by
  rw [outN_snd l 15 i hi]
  have := (inL_bd (lensOk_in h) hi).2
  by_cases hp : 1 ≤ l.getD i 0
  · rw [if_pos hp, if_pos ⟨hp, by omega⟩]
  · rw [if_neg hp, if_neg (by omega)]

/-! Symbols in their order. -/
theorem syms_eq (l : List Int) (n : Int) (s : List Int) (k : Nat) : (syms l n s k).length = s.length + many l n k := by
  induction k with
  | zero => rfl
  | succ k ih =>
    simp only [syms, many]
    split
    · simp [ih]; omega
    · exact ih
theorem symsN_eq (l : List Int) (N : Nat) : (symsN l N).length = pl l N := by
  induction N with
  | zero => rfl
  | succ N ih => simp only [symsN, pl]; rw [syms_eq, ih]
theorem syms_old (l : List Int) (n : Int) (s : List Int) (k j : Nat) (hj : j < s.length) : (syms l n s k).getD j 0 = s.getD j 0 := by
  induction k with
  | zero => rfl
  | succ k ih =>
    simp only [syms]
    split
    · have hl : j < (syms l n s k).length := by rw [syms_eq]; omega
      rw [← ih]
      simp only [List.getD]
      rw [List.getElem?_append_left hl]
    · exact ih
theorem syms_new (l : List Int) (n : Int) (s : List Int) (k i : Nat) (hi : i < k) (hn : l.getD i 0 = n) : (syms l n s k).getD (s.length + many l n i) 0 = (i : Int) := by
  induction k with
  | zero => omega
  | succ k ih =>
    simp only [syms]
    by_cases e : i = k
    · subst e
      rw [if_pos hn]
      simp only [List.getD]
      rw [List.getElem?_append_right (by rw [syms_eq]; omega), syms_eq]
      simp
    · have hlt := many_lt hn k (by omega)
      split
      · have hl : s.length + many l n i < (syms l n s k).length := by rw [syms_eq]; omega
        rw [← ih (by omega)]
        simp only [List.getD]
        rw [List.getElem?_append_left hl]
      · exact ih (by omega)
theorem symsN_get (l : List Int) (N n i : Nat) (hi : i < l.length) (hn : l.getD i 0 = (n : Int) + 1) (hN : n < N) : (symsN l N).getD (pl l n + many l ((n : Int) + 1) i) 0 = (i : Int) := by
  induction N with
  | zero => omega
  | succ N ih =>
    by_cases e : n = N
    · subst e
      simp only [symsN]
      rw [← symsN_eq]
      exact syms_new l _ _ _ i hi hn
    · simp only [symsN]
      have hlt := many_lt hn l.length hi
      have hmono : pl l (n + 1) ≤ pl l N := by
        have : ∀ a b, a ≤ b → pl l a ≤ pl l b := by
          intro a b hab
          induction b with
          | zero => have : a = 0 := by omega
                    rw [this]; exact Nat.le_refl _
          | succ b ihb =>
            by_cases e2 : a = b + 1
            · rw [e2]; exact Nat.le_refl _
            · have := ihb (by omega)
              simp only [pl]; omega
        exact this _ _ (by omega)
      have hp : pl l (n + 1) = pl l n + many l ((n : Int) + 1) l.length := rfl
      rw [syms_old _ _ _ _ _ (by rw [symsN_eq]; omega)]
      exact ih (by omega)
/-- Of each number below how many have that length there is one. -/
theorem many_at (l : List Int) (n : Int) (k t : Nat) (h : t < many l n k) : ∃ i, i < k ∧ l.getD i 0 = n ∧ many l n i = t := by
  induction k with
  | zero => simp [many] at h
  | succ k ih =>
    simp only [many] at h
    split at h
    case isTrue hn =>
      by_cases e : t = many l n k
      · exact ⟨k, Nat.lt_succ_self _, hn, e.symm⟩
      · obtain ⟨i, hi, h1, h2⟩ := ih (by omega)
        exact ⟨i, by omega, h1, h2⟩
    case isFalse =>
      obtain ⟨i, hi, h1, h2⟩ := ih h
      exact ⟨i, by omega, h1, h2⟩

end Go.Proofs.Ytnomiopdpmecbaa
/- The first and the last of codes: plain mathematics, over this seat's program. -/
namespace Go.Proofs.Ytnomiopdpmecbaa
open Go.RowKit Corb

theorem many_zero (l : List Int) (n : Int) (k : Nat) (h : ∀ j, j < k → l.getD j 0 ≠ n) : many l n k = 0 := by
  induction k with
  | zero => rfl
  | succ k ih =>
    simp only [many]
    rw [if_neg (h k (Nat.lt_succ_self _)), ih (fun j hj => h j (by omega))]
theorem nx_zero (l : List Int) (N : Nat) (h : ∀ j, j < l.length → 0 < l.getD j 0 → (N : Int) < l.getD j 0) : nx l N = 0 := by
  induction N with
  | zero => rfl
  | succ N ih =>
    simp only [nx]
    rw [ih (fun j hj hp => by have := h j hj hp; omega), many_zero l _ _ (fun j hj e => by have := h j hj (by omega); omega)]
/-- The first of the shortest codes is noughts. -/
theorem first_zero {l : List Int} {p : Nat} (hp0 : 0 < l.getD p 0) (hmin : ∀ j, j < l.length → 0 < l.getD j 0 → l.getD p 0 ≤ l.getD j 0 ∧ (l.getD j 0 = l.getD p 0 → p ≤ j)) (hp : p < l.length) : codeAt l p = 0 := by
  unfold codeAt
  rw [nx_zero l _ (fun j hj hpos => by have := (hmin j hj hpos).1; omega), many_zero l _ _ (fun j hj e => by have := (hmin j (by omega) (by omega)).2 e; omega)]
theorem many_last (l : List Int) (n : Int) (q k : Nat) (hq : q < k) (hn : l.getD q 0 = n) (h : ∀ j, j < k → q < j → l.getD j 0 ≠ n) : many l n k = many l n q + 1 := by
  induction k with
  | zero => omega
  | succ k ih =>
    simp only [many]
    by_cases e : q = k
    · subst e
      rw [if_pos hn]
    · rw [if_neg (h k (Nat.lt_succ_self _) (by omega)), ih (by omega) (fun j hj hqj => h j (by omega) hqj)]
theorem krU_all (l : List Int) (N : Nat) (h : ∀ b ∈ l, b ≤ (N : Int)) : krU N l = kr l := by
  induction l with
  | nil => rfl
  | cons b l ih =>
    have h1 := ih (fun x hx => h x (by simp [hx]))
    have hb := h b (by simp)
    simp only [krU, kr, krN, List.map_cons, List.sum_cons] at h1 ⊢
    rw [h1]
    by_cases e : 0 < b
    · rw [if_pos ⟨e, hb⟩, if_pos e]
    · rw [if_neg (by omega), if_neg e]
/-- The last of the longest ones is all ones, if there are two. -/
theorem last_full {l : List Int} {q : Nat} (hok : lensOk l = true) (hu : us l ≠ 1) (hq0 : 0 < l.getD q 0) (hmax : ∀ j, j < l.length → 0 < l.getD j 0 → l.getD j 0 ≤ l.getD q 0 ∧ (l.getD j 0 = l.getD q 0 → j ≤ q)) (hq : q < l.length) : (codeAt l q : Int) = (p2 (l.getD q 0).toNat : Nat) - 1 := by
  have hb := inL_bd (lensOk_in hok) hq
  obtain ⟨n, hn⟩ : ∃ n : Nat, l.getD q 0 = (n : Int) + 1 := ⟨(l.getD q 0).toNat - 1, by omega⟩
  have hk : kr l = 32768 := by
    simp only [lensOk, wholeL, Bool.and_eq_true, Bool.or_eq_true, decide_eq_true_iff] at hok
    omega
  have h1 := nx_kr l (n + 1) (by omega)
  rw [krU_all l (n + 1) (fun b hbm => by
    obtain ⟨i, hi, rfl⟩ := List.getElem_of_mem hbm
    have e : l.getD i 0 = l[i] := by simp [List.getD, hi]
    rcases Int.lt_or_le 0 (l[i]) with h | h
    · have := (hmax i hi (by rw [e]; exact h)).1
      omega
    · omega), hk] at h1
  have e15 : p2 (n + 1) * p2 (15 - (n + 1)) = 32768 := by
    unfold p2
    rw [← Nat.pow_add]
    have : n + 1 + (15 - (n + 1)) = 15 := by omega
    rw [this]
  have hnx : nx l (n + 1) = p2 (n + 1) := Nat.eq_of_mul_eq_mul_right (p2_pos (15 - (n + 1))) (by omega)
  have hm := many_last l ((n : Int) + 1) q l.length hq hn (fun j hj hqj e => by have := (hmax j hj (by omega)).2 (by omega); omega)
  have e1 : (l.getD q 0).toNat = n + 1 := by omega
  have hc : codeAt l q = 2 * nx l n + many l ((n : Int) + 1) q := by
    unfold codeAt
    rw [hn]
    have : ((n : Int) + 1).toNat - 1 = n := by omega
    rw [this]
  have hx : nx l (n + 1) = 2 * nx l n + many l ((n : Int) + 1) l.length := rfl
  rw [e1, hc]
  omega
theorem nx_grow (l : List Int) (N d : Nat) : nx l N * p2 d ≤ nx l (N + d) := by
  induction d with
  | zero => simp [p2]
  | succ d ih =>
    have : nx l (N + d + 1) = 2 * nx l (N + d) + many l (((N + d : Nat) : Int) + 1) l.length := rfl
    rw [p2_succ, ← Nat.mul_assoc, ← Nat.add_assoc, this]
    omega
/-- No code begins another one. -/
theorem no_begin {l : List Int} (hok : lensOk l = true) {i k : Nat} (hk : k < l.length) (hp : 0 < l.getD k 0) (hlt : l.getD k 0 < l.getD i 0) : codeAt l k < codeAt l i / p2 (l.getD i 0 - l.getD k 0).toNat := by
  have hck := (codeAt_lt hok hk (by omega)).2
  obtain ⟨a, ha⟩ : ∃ a : Nat, l.getD k 0 = (a : Int) + 1 := ⟨(l.getD k 0).toNat - 1, by omega⟩
  obtain ⟨d, hd⟩ : ∃ d : Nat, l.getD i 0 = ((a + 1 + d : Nat) : Int) + 1 := ⟨(l.getD i 0 - l.getD k 0).toNat - 1, by omega⟩
  have e1 : (l.getD i 0 - l.getD k 0).toNat = d + 1 := by omega
  have e2 : (l.getD k 0).toNat = a + 1 := by omega
  have e3 : (l.getD i 0).toNat - 1 = a + 1 + d := by omega
  have hci : 2 * nx l (a + 1 + d) ≤ codeAt l i := by
    unfold codeAt
    rw [e3]; omega
  have hg := nx_grow l (a + 1) d
  rw [e2] at hck
  rw [e1, p2_succ]
  have hpp := p2_pos d
  rw [Nat.lt_iff_add_one_le, Nat.le_div_iff_mul_le (by omega)]
  have h3 : (codeAt l k + 1) * (p2 d * 2) ≤ nx l (a + 1) * (p2 d * 2) := Nat.mul_le_mul_right _ hck
  have h4 : nx l (a + 1) * (p2 d * 2) = nx l (a + 1) * p2 d * 2 := (Nat.mul_assoc _ _ _).symm
  omega
theorem same_more {l : List Int} {i k : Nat} (hki : k < i) (he : l.getD k 0 = l.getD i 0) : codeAt l k < codeAt l i := by
  have := many_lt he i hki
  unfold codeAt
  rw [he]
  omega

end Go.Proofs.Ytnomiopdpmecbaa
