/- Both books write all tokens of a text: the program's putAll. -/
import Derived.Test.YtgpghapnmalipaaGreatDoorM18
import Derived.Test.YtgpghapnmalipaaGreatDoorM19
namespace Go.Proofs.YtgpghapnmalipaaGreatDoor
open Go.RowKit Go.Shelf Corb
attribute [local go_sem] Oper.semAt_some
def Many (W : World) (b : Nat) (t : TypeId) (C : Array Value) : Prop := W.heap[b]? = some (.cells C t (0, 0))
theorem many_own {β : Type} (B : Nat) (t : TypeId) (C : Array Value) : Own (fun (_ : β) W => Many W B t C) := fun _ X _ row hs hg hrow =>
  (hg.block B (Array.getElem?_eq_some_iff.1 hs).1 (fun e' => by obtain ⟨o, ho, hc⟩ := hrow B e'.symm; rw [show X.heap[B]? = _ from hs] at ho; cases ho; cases hc)).trans hs
theorem Many.kept {W W' : World} {row : Option Nat} {B : Nat} {t : TypeId} {C : Array Value} (h : Many W B t C) (hg : W.grownBy W' row) (hne : some B ≠ row) : Many W' B t C := (hg.block B (Array.getElem?_eq_some_iff.1 h).1 hne).trans h
theorem Many.later {W W' : World} {B : Nat} {t : TypeId} {C : Array Value} (h : Many W B t C) (hb : Below W.heap.size W W') : Many W' B t C := h.kept (grown_none hb) (by simp)
theorem step_load_half_in {F : Fence} {n : Nat} {P : Program} {ops : Array Oper} {o : Oper} {a : Act} {w : World} {K : Act → World → Prop} {Q : Exit → Act → World → Prop} {E : Prop}
    (hg : o.guard = none) (ty : TypeId) (x : Operand) (hop : o.op = .load ty x) (b off : Nat) (hx : a.eval x = .pointer (some ⟨b, off, none⟩)) (C : Array Value) (d : TypeDesc) (hc : w.rangeAt b off C.toList)
    (hu : P.underlying ty = some d) (hd : d.isRow = true) (hi : (P.info? ty).map (·.size) = some C.size) (hK : K (a.put o.dst (.agg C)) w) :
    if Region.wanted o (yielded ops a.tmps) = true then Oper.wpIn F n P o a w K Q else E := by
  have hw : Region.wanted o (yielded ops a.tmps) = true := by simp [Region.wanted, hg]
  rw [if_pos hw]
  unfold Oper.wpIn
  refine ⟨?_, ?_⟩
  · simp [Oper.about, hop]
  · rw [Oper.semAt_plain F _ _ (by rw [hop]; intro c hc'; cases hc')]
    unfold execOp
    simp only [hop, hx, Instr.loadAt, Instr.sureAddr, Sem.run_bind, Sem.run_pure, Result.andThen_ok, run_loadVar_mid w b off ty C.toList d hc hu hd (by simpa using hi)]
    simpa [Oper.uponIn] using hK
def fitsT (L D : List Int) (t : Tk) : Prop := if isB t then t.1.toNat < L.length else 257 + fnd 3 4 t.2.1.toNat 27 < L.length ∧ fnd 1 2 t.2.2.toNat 29 < D.length
theorem pcT_len (L D : List Int) (t : Tk) : (pcT L D t).length ≤ 4 ∧ 1 ≤ (pcT L D t).length := by unfold pcT; split <;> simp
theorem isK_bd {t : Tk} (h : isK t = true) : 3 ≤ t.2.1 ∧ t.2.1 ≤ 60 ∧ 1 ≤ t.2.2 ∧ t.2.2 ≤ 250 := by
  unfold isK inB at h; simp only [Bool.and_eq_true, decide_eq_true_eq] at h; omega
theorem isB_bd {t : Tk} (h : isB t = true) : 0 ≤ t.1 ∧ t.1 ≤ 255 := by
  unfold isB inB at h; simp only [Bool.and_eq_true, decide_eq_true_eq] at h; omega
def flatT {s : ByteArray} (L D : List Int) (pre : List (TkS s)) : List (Int × Int) := (pre.map Subtype.val).flatMap (pcT L D)
theorem flatT_le {s : ByteArray} (L D : List Int) (pre : List (TkS s)) : (flatT L D pre).length ≤ 4 * pre.length := by
  unfold flatT
  induction pre with
  | nil => simp
  | cons x r ih => have := (pcT_len L D x.1).1; simp only [List.map_cons, List.flatMap_cons, List.length_append, List.length_cons]; omega
theorem flatT_snoc {s : ByteArray} (L D : List Int) (pre : List (TkS s)) (x : TkS s) : flatT L D (pre ++ [x]) = flatT L D pre ++ pcT L D x.1 := by simp [flatT]
theorem pcs_join {W : World} {n₀ : Nat} {v : Value} {l m : List (Int × Int)} (h : W.ownsRow n₀ 112 2 v (l.length + m.length) (pcells l ++ pcells m)) : W.ownsRow n₀ 112 2 v (l ++ m).length (pcells (l ++ m)) := by
  rw [pcells_append, List.length_append]; exact h
theorem putT_any (t : Tk) (base : Nat) (L D : List Int) (C : Array Value) (w : World) (hok : okT t = true) (hf : fitsT L D t) (hB : Books w base L D C) (hL : L.length ≤ 300) (hD : D.length ≤ 300) :
    Calls Tryz.prog 100 #[.agg C, tokV t] w fun e w' => (∃ g, e = .returned (.slice (some ⟨g, 0, none⟩) (pcT L D t).length (pcT L D t).length) ∧ PBlk w' g (pcT L D t)) ∧ Below w.heap.size w w' := by
  cases hb : isB t
  · have hk : isK t = true := by unfold okT at hok; rw [hb] at hok; simpa using hok
    unfold fitsT at hf
    rw [if_neg (by simp [hb])] at hf
    have e1 : pcT L D t = [pcS L (257 + fnd 3 4 t.2.1.toNat 27), ((t.2.1.toNat : Int) - ((stF 3 4 (fnd 3 4 t.2.1.toNat 27)).1 : Int), ((stF 3 4 (fnd 3 4 t.2.1.toNat 27)).2 : Nat)), pcS D (fnd 1 2 t.2.2.toNat 29), ((t.2.2.toNat : Int) - ((stF 1 2 (fnd 1 2 t.2.2.toNat 29)).1 : Int), ((stF 1 2 (fnd 1 2 t.2.2.toNat 29)).2 : Nat))] := by unfold pcT; rw [if_neg (by simp [hb])]
    obtain ⟨q1, q2, q3, q4⟩ := isK_bd hk
    have f1 : t.2.1 = ((t.2.1.toNat : Nat) : Int) := by omega
    have f2 : t.2.2 = ((t.2.2.toNat : Nat) : Int) := by omega
    have e2 : tokV t = .iface 174 (.agg #[.int .i64 ((t.2.1.toNat : Nat) : Int), .int .i64 ((t.2.2.toNat : Nat) : Int)]) := by rw [← f1, ← f2]; exact tokV_K hk
    rw [e2, e1]
    have := putK_any t.2.1.toNat t.2.2.toNat base L D C w hB (by omega) (by omega) (by omega) (by omega) hf.1 hf.2 hL hD
    exact this
  · obtain ⟨q1, q2⟩ := isB_bd hb
    unfold fitsT at hf
    rw [if_pos hb] at hf
    have e1 : pcT L D t = [pcS L t.1.toNat] := by unfold pcT; rw [if_pos hb]
    have f1 : t.1 = ((t.1.toNat : Nat) : Int) := by omega
    have e2 : tokV t = .iface 172 (.int .u8 ((t.1.toNat : Nat) : Int)) := by rw [← f1]; exact tokV_B hb
    rw [e2, e1]
    have := putB_any t.1.toNat base L D C w hB hf (by omega) hL
    exact this
theorem appended_keeps0 {W x1 w1 : World} {n₀ B Bn Bm : Nat} {t e tn tm : TypeId} {size : Nat} {v v' u : Value} {C : Array Value} {k m : Nat} {xs ys : List Value}
    (hW : Below W.heap.size W x1) (hv : Boxed W B t v) (hbn : Boxed W Bn tn u) (hm : Many W Bm tm C) (hte : t ≠ e) (htn : tn ≠ e) (htm : tm ≠ e) (hne : Bn ≠ B) (hnm : Bm ≠ B) (hrow : W.ownsRow n₀ e size v k xs) (hn₀ : n₀ ≤ W.heap.size) (hB : n₀ ≤ B)
    (hown' : w1.ownsRow n₀ e size v' m ys) (hgrow : x1.grownBy w1 v.ownBlock) :
    Boxed w1 B t v ∧ Boxed (w1.setCell ⟨B, 0, none⟩ v') B t v' ∧ (w1.setCell ⟨B, 0, none⟩ v').ownsRow n₀ e size v' m ys ∧ KeepsOthers W (w1.setCell ⟨B, 0, none⟩ v') ∧ Below n₀ W (w1.setCell ⟨B, 0, none⟩ v') ∧ Boxed (w1.setCell ⟨B, 0, none⟩ v') Bn tn u ∧ Many (w1.setCell ⟨B, 0, none⟩ v') Bm tm C := by
  have hv1 := Boxed.later hv hW
  have hbn1 := Boxed.later hbn hW
  have hm1 := hm.later hW
  have hrow1 : x1.ownsRow n₀ e size v k xs := row_later hrow hW
  have hmr : some Bm ≠ v.ownBlock := by
    intro e'
    rcases hrow1.2 with ⟨rfl, _⟩ | ⟨g, cap, cur, rfl, _, hgb, _⟩
    · cases e'
    · simp only [Value.ownBlock, Option.some.injEq] at e'
      subst e'
      rw [show x1.heap[Bm]? = _ from hm1] at hgb
      cases hgb
      exact htm rfl
  have h1 : Boxed w1 B t v := hv1.kept hgrow (hv1.not_row hte hrow1)
  refine ⟨h1, h1.set v', hown'.kept (grownBy_setCell' w1 B v') (.inr (h1.not_row hte hown').symm), ?_, ?_, ?_, ?_⟩
  · refine ((KeepsOthers.of_grownBy (grown_none hW) (fun _ _ e => by cases e)).trans (KeepsOthers.of_grownBy hgrow fun j o ej hj => ?_)).trans (KeepsOthers.setCell _ _ _)
    rcases hrow1.2 with ⟨rfl, _⟩ | ⟨g, cap, cur, rfl, _, hgb, _⟩
    · cases ej
    · simp only [Value.ownBlock, Option.some.injEq] at ej
      subst ej
      rw [hgb] at hj
      cases hj
      rfl
  · have hA : Below n₀ W x1 := hW.mono hn₀
    have hA1 : Below n₀ W w1 := hA.grown hgrow (Nat.le_trans hn₀ hW.size) (fun j hj => (World.ownsRow.lt hrow1 j hj).1)
    exact below_set hA1 hB _
  · exact Boxed.other (hbn1.kept hgrow (hbn1.not_row htn hrow1)) hne v'
  · exact (hm1.kept hgrow hmr).kept (grownBy_setCell' w1 B v') (fun e => hnm (by cases e; rfl))
theorem two_newP (x : World) (a b : Value) (t : TypeId) : ∀ (j : Nat) (u : Value), [a, b][j]? = some u → (x.alloc (.cells #[a, b] t)).cell? ((⟨x.heap.size, 0, none⟩ : Addr).add j) = some u := by
  intro j u hj
  match j, hj with
  | 0, hj => simp at hj; subst hj; simp [Addr.add]
  | 1, hj => simp at hj; subst hj; simp [Addr.add]
theorem two_oneP (p q : Int) : ∀ u ∈ [Value.int .i64 p, Value.int .i64 q], u.oneCell' = true := by
  intro u hu
  simp at hu
  rcases hu with rfl | rfl <;> rfl
theorem rec_kept_alloc {W : World} {d : Nat} {r : Option (List Deferred)} (h : W.heap[d]? = some (Obj.deferred r)) (o : Obj) : (W.alloc o).heap[d]? = some (Obj.deferred r) :=
  (Below.heap_alloc W o d (Array.getElem?_eq_some_iff.1 h).1).trans h
theorem rec_kept {W W' : World} {d n₀ n size : Nat} {e : TypeId} {v : Value} {xs : List Value} {r : Option (List Deferred)} (h : W.heap[d]? = some (Obj.deferred r)) (hg : W.grownBy W' v.ownBlock) (ho : W.ownsRow n₀ e size v n xs) : W'.heap[d]? = some (Obj.deferred r) := by
  refine (hg.block d (Array.getElem?_eq_some_iff.1 h).1 ?_).trans h
  intro e'
  rcases ho.2 with ⟨rfl, _⟩ | ⟨g, cap, cur, rfl, _, hgb, _⟩
  · cases e'
  · simp only [Value.ownBlock, Option.some.injEq] at e'
    subst e'
    rw [h] at hgb
    cases hgb
theorem pcs_snoc1 {W : World} {n₀ : Nat} {v : Value} {l : List (Int × Int)} {p q : Int} (h : W.ownsRow n₀ 112 2 v (l.length + 1) (pcells l ++ [.int .i64 p, .int .i64 q])) : Pcs W n₀ v (l ++ [(p, q)]) := by
  show World.ownsRow _ _ _ _ _ (l ++ [(p, q)]).length _
  rw [pcells_append, List.length_append]; exact h
theorem toks_few (s : ByteArray) (hs : s.size ≤ 300) {ys : List (TkS s)} (h : ys.map Subtype.val = toksP s.data.toList 0) : ys.length ≤ 300 := by
  have h1 := congrArg List.length h
  rw [List.length_map] at h1
  have h2 := toksP_len s.data.toList s.data.toList.length 0 (by omega)
  have h3 : s.data.toList.length = s.size := by simp
  omega
theorem Many.range {W : World} {b : Nat} {t : TypeId} {C : Array Value} (h : Many W b t C) : W.rangeAt b 0 C.toList := by
  intro j v hv
  rw [Nat.zero_add, blk_cell h]
  simpa using hv
theorem own_some {W : World} {n₀ n : Nat} {e : TypeId} {size : Nat} {v : Value} {xs : List Value} (h : W.ownsRow n₀ e size v n xs) (hn : 0 < n) : ∃ g cap, v = .slice (some ⟨g, 0, none⟩) n cap := by
  rcases h.2 with ⟨_, h0⟩ | ⟨g, cap, _, e, _⟩
  · omega
  · exact ⟨g, cap, e⟩
set_option maxRecDepth 100000 in
set_option maxHeartbeats 6400000 in
theorem putAll_any (s : ByteArray) (base : Nat) (L D : List Int) (C : Array Value) (w : World) (hs : s.size ≤ 300) (hB : Books w base L D C) (hL : L.length ≤ 300) (hD : D.length ≤ 300) (h256 : 256 < L.length) (hfit : ∀ t ∈ toksP s.data.toList 0, fitsT L D t) :
    Calls Tryz.prog 73 #[.agg C, .string s] w fun e w' => ∃ v, e = .returned v ∧ Pcs w' w.heap.size v ((toksP s.data.toList 0).flatMap (pcT L D) ++ [pcS L 256]) ∧ Below w.heap.size w w' := by
  obtain ⟨i0, hi, hz0, hz1, hz2⟩ := info_parts Tryz.infoPiece
  have hsI : (s.size : Int) ≤ 300 := by omega
  have hmx : Tryz.prog.follows .mixedOrders = true := by kernel_rfl
  have HS := hide hs
  have HSz := hide hB.size
  have HPut := hide (fun (x : TkS s) W (hW : Below w.heap.size w W) => putT_any x.1 base L D C W x.2.1 (hfit x.1 x.2.2) (hB.later hW) hL hD)
  have HBk := hide hB
  clear hs hB hfit
  refine (callsIn_wide (n := 6)).1 ?_
  refine callsIn_of_wp_marks Tryz.func73 rfl trivial ?_ rfl
  simp only [Tryz.ntmps73, List.size_toArray, List.length_cons, List.length_nil, Nat.reduceAdd, Nat.reduceSub, Array.replicate_succ, Array.replicate_zero, List.push_toArray, List.append_toArray, List.nil_append, List.cons_append]
  gi_wp2_with (refine ⟨trivial, ?_⟩; gi_at_call 99; refine (callsIn_wide.2 (lzTokens_any s _)).mono ?_; rintro e w' ⟨rfl, rfl⟩)
  have bO := Boxed.new (w.alloc (.cells C 123)) 109 (.slice none 0 0)
  have bN := Boxed.new ((w.alloc (.cells C 123)).alloc (.cells #[.slice none 0 0] 109)) 9 (.string s)
  have e1 : (w.alloc (.cells C 123)).heap.size = w.heap.size + 1 := by simp
  have e2 : ((w.alloc (.cells C 123)).alloc (.cells #[.slice none 0 0] 109)).heap.size = w.heap.size + 2 := by simp
  rw [e1] at bO
  rw [e2] at bN
  have bM : Many (((w.alloc (.cells C 123)).alloc (.cells #[.slice none 0 0] 109)).alloc (.cells #[.string s] 9)) w.heap.size 123 C := (Many.later (Many.later (alloc_at w (.cells C 123)) ((Below.refl _ _).alloc (Nat.le_refl _) _)) ((Below.refl _ _).alloc (Nat.le_refl _) _))
  have hB0 : Below w.heap.size w (((w.alloc (.cells C 123)).alloc (.cells #[.slice none 0 0] 109)).alloc (.cells #[.string s] 9)) := (((Below.refl _ w).alloc (Nat.le_refl _) _).alloc (by simp) _).alloc (by simp; omega) _
  refine wpIn_rangeFunc_ownG rfl (by omega) (gf := 134) (lb := #[.pointer (some ⟨w.heap.size + 2, 0, none⟩)]) rfl trivial (enters_of Tryz.func134 (by kernel_rfl) rfl)
    (toksS_stops 5 (by omega) (w.heap.size + 2) s (by have := unhide HS; omega) _ bN) keepB_t (fun W l o o' _ h1 h2 _ => keepB_b W l o o' h1 h2) (Below.refl _ _) (fun _ => rfl)
    (fun (pre : List (TkS s)) W => (((∃ v, Boxed W (w.heap.size + 1) 109 v ∧ W.ownsRow w.heap.size 112 2 v (flatT L D pre).length (pcells (flatT L D pre)) ∧ True) ∧ Below w.heap.size w W) ∧ Boxed W (w.heap.size + 2) 9 (.string s)) ∧ Many W w.heap.size 123 C)
    (fun _ _ _ => False)
    (OwnFrom.and (OwnFrom.and (OwnFrom.and (Own.from (holdsRow_own w.heap.size (w.heap.size + 1) 109 112 2 (fun (pre : List (TkS s)) => (flatT L D pre).length) (fun (pre : List (TkS s)) => pcells (flatT L D pre)) (fun _ _ => True)) _) (ownFrom_below (Nat.le_refl _) (by simp; omega))) (Own.from (boxed_own _ _ _) _)) (Own.from (many_own _ _ _) _))
    (fun _ _ _ _ _ hs _ _ => hs)
    ⟨⟨⟨⟨_, bO.alloc _, World.ownsRow_nil _ _ _ _, trivial⟩, hB0⟩, bN⟩, bM⟩
    (fun x => { tmps := #[.agg C, .string s, .pointer (some ⟨w.heap.size, 0, none⟩), undef, .slice none 0 0, .pointer (some ⟨w.heap.size + 1, 0, none⟩), tokV x.1, .string s, .func (.func 134) #[] #[.pointer (some ⟨w.heap.size + 2, 0, none⟩)], tokV x.1, undef, undef, undef, undef, undef, undef, undef, undef, undef, undef, undef], defers := [] }) ?assign ?body ?done ?stop
  case assign =>
    intro l x W K hK
    gi_wp2
    exact hK
  case body =>
    rintro l pre x W ⟨⟨⟨⟨v, hv, hrow, _⟩, hB⟩, hN⟩, hmM⟩ hlt
    have hc := hv.cell
    have bd : Hid ((flatT L D pre).length + (pcT L D x.1).length ≤ maxLen ∧ ((flatT L D pre).length + (pcT L D x.1).length) * 16 ≤ 140737488355328) := by
      show _ ∧ _
      have h1 := unhide HS
      have h2 := flatT_le L D pre
      have h3 := (pcT_len L D x.1).1
      unfold maxLen; omega
    gi_wp2
    refine wpIn_region_any (by assumption) ?_
    change wpAnyIn _ _ _ _ _ _ _ _ _ (World.drew _)
    refine wpAnyIn_ready (rs := [0, 1, 2]) (by kernel_rfl) (by simp) ?_
    refine AllReadyIn.cons rfl (fun K hK => ?_) (AllReadyIn.cons rfl (fun K hK => ?_) (AllReadyIn.cons rfl (fun K hK => ?_) AllReadyIn.nil))
    · go_simp
      refine hK _ _ ?_
      clear hK K
      refine wpAnyIn_ready (rs := [1, 2]) (by kernel_rfl) (by simp) ?_
      refine AllReadyIn.cons rfl (fun K hK => ?_) (AllReadyIn.cons rfl (fun K hK => ?_) AllReadyIn.nil)
      · refine step_load_half_in rfl 123 (.tmp 2) rfl w.heap.size 0 rfl C _ hmM.range Tryz.underlying123 rfl (by rw [unhide HSz]; exact Tryz.infoBooks) (hK _ _ ?_)
        clear hK K
        refine wpAnyIn_ready (rs := [2]) (by kernel_rfl) (by simp) ?_
        refine AllReadyIn.cons rfl (fun K hK => ?_) AllReadyIn.nil
        go_simp
        refine hK _ _ ?_
        clear hK K
        refine wpAnyIn_ready (rs := [3]) (by kernel_rfl) (by simp) ?_
        refine AllReadyIn.cons rfl (fun K hK => ?_) AllReadyIn.nil
        go_simp
        refine ⟨trivial, ?_⟩
        refine (CallsIn.inRound l (callsIn_wide.2 (unhide HPut x _ hB.drew))).mono ?_
        rintro e x1 ⟨⟨g, rfl, hPB⟩, hbd⟩
        have hb1 : Below W.heap.size W x1 := ⟨hbd.os, hbd.tape, hbd.output, hbd.size, hbd.block⟩
        clear hbd
        have hc1 := (Boxed.later hv hb1).cell
        have hbs : w.heap.size ≤ x1.heap.size := Nat.le_trans hB.size hb1.size
        refine hK _ _ ?_
        clear hK K
        refine wpAnyIn_ready (rs := [4]) (by kernel_rfl) (by simp) ?_
        refine AllReadyIn.cons rfl (fun K hK => ?_) AllReadyIn.nil
        refine step_append_own_in rfl _ _ 109 rfl w.heap.size 112 i0 (.agg #[.int .i64 0, .int .i64 0]) 2 16 Tryz.underlying109 hi hz0 hz1 hz2 rfl (by decide) v (flatT L D pre).length _ rfl (row_later hrow hb1) ⟨g, 0, none⟩ (pcT L D x.1).length (pcT L D x.1).length (pcells (pcT L D x.1)) rfl (pcells_len _) hPB.cells (pcells_one _) (unhide bd).1 (unhide bd).2 hbs ?_
        intro v' w1 hown' hgrow _
        obtain ⟨g', cap', rfl⟩ : ∃ g' cap', v' = .slice (some ⟨g', 0, none⟩) ((flatT L D pre).length + (pcT L D x.1).length) cap' := own_some hown' (by have := (pcT_len L D x.1).2; omega)
        obtain ⟨hv1, hv2, hr2, hk2, hb2, hn2, hm2⟩ := appended_keeps0 hb1 hv hN hmM (by decide) (by decide) (by decide) (by omega) (by omega) hrow hB.size (by omega) hown' hgrow
        have hc2 := hv1.cell
        have hf2 := hv1.frozen
        refine hK _ _ ?_
        clear hK K
        refine wpAnyIn_ready (rs := [5]) (by kernel_rfl) (by simp) ?_
        refine AllReadyIn.cons rfl (fun K hK => ?_) AllReadyIn.nil
        go_simp
        refine hK _ _ ?_
        clear hK K
        refine wpAnyIn_done (by kernel_rfl) ?_ _
        exact ⟨(hk2.trans (KeepsOthers.refl _)).from _, fun _ => hn2, ⟨⟨⟨⟨_, hv2, by rw [flatT_snoc]; exact pcs_join hr2, trivial⟩, hB.trans hb2⟩, hn2⟩, hm2⟩⟩
      · go_simp
        refine hK _ _ ?_
        clear hK K
        refine wpAnyIn_ready (rs := [1]) (by kernel_rfl) (by simp) ?_
        refine AllReadyIn.cons rfl (fun K hK => ?_) AllReadyIn.nil
        refine step_load_half_in rfl 123 (.tmp 2) rfl w.heap.size 0 rfl C _ hmM.range Tryz.underlying123 rfl (by rw [unhide HSz]; exact Tryz.infoBooks) (hK _ _ ?_)
        clear hK K
        refine wpAnyIn_ready (rs := [3]) (by kernel_rfl) (by simp) ?_
        refine AllReadyIn.cons rfl (fun K hK => ?_) AllReadyIn.nil
        go_simp
        refine ⟨trivial, ?_⟩
        refine (CallsIn.inRound l (callsIn_wide.2 (unhide HPut x _ hB.drew))).mono ?_
        rintro e x1 ⟨⟨g, rfl, hPB⟩, hbd⟩
        have hb1 : Below W.heap.size W x1 := ⟨hbd.os, hbd.tape, hbd.output, hbd.size, hbd.block⟩
        clear hbd
        have hc1 := (Boxed.later hv hb1).cell
        have hbs : w.heap.size ≤ x1.heap.size := Nat.le_trans hB.size hb1.size
        refine hK _ _ ?_
        clear hK K
        refine wpAnyIn_ready (rs := [4]) (by kernel_rfl) (by simp) ?_
        refine AllReadyIn.cons rfl (fun K hK => ?_) AllReadyIn.nil
        refine step_append_own_in rfl _ _ 109 rfl w.heap.size 112 i0 (.agg #[.int .i64 0, .int .i64 0]) 2 16 Tryz.underlying109 hi hz0 hz1 hz2 rfl (by decide) v (flatT L D pre).length _ rfl (row_later hrow hb1) ⟨g, 0, none⟩ (pcT L D x.1).length (pcT L D x.1).length (pcells (pcT L D x.1)) rfl (pcells_len _) hPB.cells (pcells_one _) (unhide bd).1 (unhide bd).2 hbs ?_
        intro v' w1 hown' hgrow _
        obtain ⟨g', cap', rfl⟩ : ∃ g' cap', v' = .slice (some ⟨g', 0, none⟩) ((flatT L D pre).length + (pcT L D x.1).length) cap' := own_some hown' (by have := (pcT_len L D x.1).2; omega)
        obtain ⟨hv1, hv2, hr2, hk2, hb2, hn2, hm2⟩ := appended_keeps0 hb1 hv hN hmM (by decide) (by decide) (by decide) (by omega) (by omega) hrow hB.size (by omega) hown' hgrow
        have hc2 := hv1.cell
        have hf2 := hv1.frozen
        refine hK _ _ ?_
        clear hK K
        refine wpAnyIn_ready (rs := [5]) (by kernel_rfl) (by simp) ?_
        refine AllReadyIn.cons rfl (fun K hK => ?_) AllReadyIn.nil
        go_simp
        refine hK _ _ ?_
        clear hK K
        refine wpAnyIn_done (by kernel_rfl) ?_ _
        exact ⟨(hk2.trans (KeepsOthers.refl _)).from _, fun _ => hn2, ⟨⟨⟨⟨_, hv2, by rw [flatT_snoc]; exact pcs_join hr2, trivial⟩, hB.trans hb2⟩, hn2⟩, hm2⟩⟩
    · refine step_load_half_in rfl 123 (.tmp 2) rfl w.heap.size 0 rfl C _ hmM.range Tryz.underlying123 rfl (by rw [unhide HSz]; exact Tryz.infoBooks) (hK _ _ ?_)
      clear hK K
      refine wpAnyIn_ready (rs := [0, 2]) (by kernel_rfl) (by simp) ?_
      refine AllReadyIn.cons rfl (fun K hK => ?_) (AllReadyIn.cons rfl (fun K hK => ?_) AllReadyIn.nil)
      · go_simp
        refine hK _ _ ?_
        clear hK K
        refine wpAnyIn_ready (rs := [2]) (by kernel_rfl) (by simp) ?_
        refine AllReadyIn.cons rfl (fun K hK => ?_) AllReadyIn.nil
        go_simp
        refine hK _ _ ?_
        clear hK K
        refine wpAnyIn_ready (rs := [3]) (by kernel_rfl) (by simp) ?_
        refine AllReadyIn.cons rfl (fun K hK => ?_) AllReadyIn.nil
        go_simp
        refine ⟨trivial, ?_⟩
        refine (CallsIn.inRound l (callsIn_wide.2 (unhide HPut x _ hB.drew))).mono ?_
        rintro e x1 ⟨⟨g, rfl, hPB⟩, hbd⟩
        have hb1 : Below W.heap.size W x1 := ⟨hbd.os, hbd.tape, hbd.output, hbd.size, hbd.block⟩
        clear hbd
        have hc1 := (Boxed.later hv hb1).cell
        have hbs : w.heap.size ≤ x1.heap.size := Nat.le_trans hB.size hb1.size
        refine hK _ _ ?_
        clear hK K
        refine wpAnyIn_ready (rs := [4]) (by kernel_rfl) (by simp) ?_
        refine AllReadyIn.cons rfl (fun K hK => ?_) AllReadyIn.nil
        refine step_append_own_in rfl _ _ 109 rfl w.heap.size 112 i0 (.agg #[.int .i64 0, .int .i64 0]) 2 16 Tryz.underlying109 hi hz0 hz1 hz2 rfl (by decide) v (flatT L D pre).length _ rfl (row_later hrow hb1) ⟨g, 0, none⟩ (pcT L D x.1).length (pcT L D x.1).length (pcells (pcT L D x.1)) rfl (pcells_len _) hPB.cells (pcells_one _) (unhide bd).1 (unhide bd).2 hbs ?_
        intro v' w1 hown' hgrow _
        obtain ⟨g', cap', rfl⟩ : ∃ g' cap', v' = .slice (some ⟨g', 0, none⟩) ((flatT L D pre).length + (pcT L D x.1).length) cap' := own_some hown' (by have := (pcT_len L D x.1).2; omega)
        obtain ⟨hv1, hv2, hr2, hk2, hb2, hn2, hm2⟩ := appended_keeps0 hb1 hv hN hmM (by decide) (by decide) (by decide) (by omega) (by omega) hrow hB.size (by omega) hown' hgrow
        have hc2 := hv1.cell
        have hf2 := hv1.frozen
        refine hK _ _ ?_
        clear hK K
        refine wpAnyIn_ready (rs := [5]) (by kernel_rfl) (by simp) ?_
        refine AllReadyIn.cons rfl (fun K hK => ?_) AllReadyIn.nil
        go_simp
        refine hK _ _ ?_
        clear hK K
        refine wpAnyIn_done (by kernel_rfl) ?_ _
        exact ⟨(hk2.trans (KeepsOthers.refl _)).from _, fun _ => hn2, ⟨⟨⟨⟨_, hv2, by rw [flatT_snoc]; exact pcs_join hr2, trivial⟩, hB.trans hb2⟩, hn2⟩, hm2⟩⟩
      · go_simp
        refine hK _ _ ?_
        clear hK K
        refine wpAnyIn_ready (rs := [0, 3]) (by kernel_rfl) (by simp) ?_
        refine AllReadyIn.cons rfl (fun K hK => ?_) (AllReadyIn.cons rfl (fun K hK => ?_) AllReadyIn.nil)
        · go_simp
          refine hK _ _ ?_
          clear hK K
          refine wpAnyIn_ready (rs := [3]) (by kernel_rfl) (by simp) ?_
          refine AllReadyIn.cons rfl (fun K hK => ?_) AllReadyIn.nil
          go_simp
          refine ⟨trivial, ?_⟩
          refine (CallsIn.inRound l (callsIn_wide.2 (unhide HPut x _ hB.drew))).mono ?_
          rintro e x1 ⟨⟨g, rfl, hPB⟩, hbd⟩
          have hb1 : Below W.heap.size W x1 := ⟨hbd.os, hbd.tape, hbd.output, hbd.size, hbd.block⟩
          clear hbd
          have hc1 := (Boxed.later hv hb1).cell
          have hbs : w.heap.size ≤ x1.heap.size := Nat.le_trans hB.size hb1.size
          refine hK _ _ ?_
          clear hK K
          refine wpAnyIn_ready (rs := [4]) (by kernel_rfl) (by simp) ?_
          refine AllReadyIn.cons rfl (fun K hK => ?_) AllReadyIn.nil
          refine step_append_own_in rfl _ _ 109 rfl w.heap.size 112 i0 (.agg #[.int .i64 0, .int .i64 0]) 2 16 Tryz.underlying109 hi hz0 hz1 hz2 rfl (by decide) v (flatT L D pre).length _ rfl (row_later hrow hb1) ⟨g, 0, none⟩ (pcT L D x.1).length (pcT L D x.1).length (pcells (pcT L D x.1)) rfl (pcells_len _) hPB.cells (pcells_one _) (unhide bd).1 (unhide bd).2 hbs ?_
          intro v' w1 hown' hgrow _
          obtain ⟨g', cap', rfl⟩ : ∃ g' cap', v' = .slice (some ⟨g', 0, none⟩) ((flatT L D pre).length + (pcT L D x.1).length) cap' := own_some hown' (by have := (pcT_len L D x.1).2; omega)
          obtain ⟨hv1, hv2, hr2, hk2, hb2, hn2, hm2⟩ := appended_keeps0 hb1 hv hN hmM (by decide) (by decide) (by decide) (by omega) (by omega) hrow hB.size (by omega) hown' hgrow
          have hc2 := hv1.cell
          have hf2 := hv1.frozen
          refine hK _ _ ?_
          clear hK K
          refine wpAnyIn_ready (rs := [5]) (by kernel_rfl) (by simp) ?_
          refine AllReadyIn.cons rfl (fun K hK => ?_) AllReadyIn.nil
          go_simp
          refine hK _ _ ?_
          clear hK K
          refine wpAnyIn_done (by kernel_rfl) ?_ _
          exact ⟨(hk2.trans (KeepsOthers.refl _)).from _, fun _ => hn2, ⟨⟨⟨⟨_, hv2, by rw [flatT_snoc]; exact pcs_join hr2, trivial⟩, hB.trans hb2⟩, hn2⟩, hm2⟩⟩
        · go_simp
          refine ⟨trivial, ?_⟩
          refine (CallsIn.inRound l (callsIn_wide.2 (unhide HPut x _ hB.drew))).mono ?_
          rintro e x1 ⟨⟨g, rfl, hPB⟩, hbd⟩
          have hb1 : Below W.heap.size W x1 := ⟨hbd.os, hbd.tape, hbd.output, hbd.size, hbd.block⟩
          clear hbd
          have hc1 := (Boxed.later hv hb1).cell
          have hbs : w.heap.size ≤ x1.heap.size := Nat.le_trans hB.size hb1.size
          refine hK _ _ ?_
          clear hK K
          refine wpAnyIn_ready (rs := [0]) (by kernel_rfl) (by simp) ?_
          refine AllReadyIn.cons rfl (fun K hK => ?_) AllReadyIn.nil
          go_simp
          refine hK _ _ ?_
          clear hK K
          refine wpAnyIn_ready (rs := [4]) (by kernel_rfl) (by simp) ?_
          refine AllReadyIn.cons rfl (fun K hK => ?_) AllReadyIn.nil
          refine step_append_own_in rfl _ _ 109 rfl w.heap.size 112 i0 (.agg #[.int .i64 0, .int .i64 0]) 2 16 Tryz.underlying109 hi hz0 hz1 hz2 rfl (by decide) v (flatT L D pre).length _ rfl (row_later hrow hb1) ⟨g, 0, none⟩ (pcT L D x.1).length (pcT L D x.1).length (pcells (pcT L D x.1)) rfl (pcells_len _) hPB.cells (pcells_one _) (unhide bd).1 (unhide bd).2 hbs ?_
          intro v' w1 hown' hgrow _
          obtain ⟨g', cap', rfl⟩ : ∃ g' cap', v' = .slice (some ⟨g', 0, none⟩) ((flatT L D pre).length + (pcT L D x.1).length) cap' := own_some hown' (by have := (pcT_len L D x.1).2; omega)
          obtain ⟨hv1, hv2, hr2, hk2, hb2, hn2, hm2⟩ := appended_keeps0 hb1 hv hN hmM (by decide) (by decide) (by decide) (by omega) (by omega) hrow hB.size (by omega) hown' hgrow
          have hc2 := hv1.cell
          have hf2 := hv1.frozen
          refine hK _ _ ?_
          clear hK K
          refine wpAnyIn_ready (rs := [5]) (by kernel_rfl) (by simp) ?_
          refine AllReadyIn.cons rfl (fun K hK => ?_) AllReadyIn.nil
          go_simp
          refine hK _ _ ?_
          clear hK K
          refine wpAnyIn_done (by kernel_rfl) ?_ _
          exact ⟨(hk2.trans (KeepsOthers.refl _)).from _, fun _ => hn2, ⟨⟨⟨⟨_, hv2, by rw [flatT_snoc]; exact pcs_join hr2, trivial⟩, hB.trans hb2⟩, hn2⟩, hm2⟩⟩
    · go_simp
      refine hK _ _ ?_
      clear hK K
      refine wpAnyIn_ready (rs := [0, 1]) (by kernel_rfl) (by simp) ?_
      refine AllReadyIn.cons rfl (fun K hK => ?_) (AllReadyIn.cons rfl (fun K hK => ?_) AllReadyIn.nil)
      · go_simp
        refine hK _ _ ?_
        clear hK K
        refine wpAnyIn_ready (rs := [1]) (by kernel_rfl) (by simp) ?_
        refine AllReadyIn.cons rfl (fun K hK => ?_) AllReadyIn.nil
        refine step_load_half_in rfl 123 (.tmp 2) rfl w.heap.size 0 rfl C _ hmM.range Tryz.underlying123 rfl (by rw [unhide HSz]; exact Tryz.infoBooks) (hK _ _ ?_)
        clear hK K
        refine wpAnyIn_ready (rs := [3]) (by kernel_rfl) (by simp) ?_
        refine AllReadyIn.cons rfl (fun K hK => ?_) AllReadyIn.nil
        go_simp
        refine ⟨trivial, ?_⟩
        refine (CallsIn.inRound l (callsIn_wide.2 (unhide HPut x _ hB.drew))).mono ?_
        rintro e x1 ⟨⟨g, rfl, hPB⟩, hbd⟩
        have hb1 : Below W.heap.size W x1 := ⟨hbd.os, hbd.tape, hbd.output, hbd.size, hbd.block⟩
        clear hbd
        have hc1 := (Boxed.later hv hb1).cell
        have hbs : w.heap.size ≤ x1.heap.size := Nat.le_trans hB.size hb1.size
        refine hK _ _ ?_
        clear hK K
        refine wpAnyIn_ready (rs := [4]) (by kernel_rfl) (by simp) ?_
        refine AllReadyIn.cons rfl (fun K hK => ?_) AllReadyIn.nil
        refine step_append_own_in rfl _ _ 109 rfl w.heap.size 112 i0 (.agg #[.int .i64 0, .int .i64 0]) 2 16 Tryz.underlying109 hi hz0 hz1 hz2 rfl (by decide) v (flatT L D pre).length _ rfl (row_later hrow hb1) ⟨g, 0, none⟩ (pcT L D x.1).length (pcT L D x.1).length (pcells (pcT L D x.1)) rfl (pcells_len _) hPB.cells (pcells_one _) (unhide bd).1 (unhide bd).2 hbs ?_
        intro v' w1 hown' hgrow _
        obtain ⟨g', cap', rfl⟩ : ∃ g' cap', v' = .slice (some ⟨g', 0, none⟩) ((flatT L D pre).length + (pcT L D x.1).length) cap' := own_some hown' (by have := (pcT_len L D x.1).2; omega)
        obtain ⟨hv1, hv2, hr2, hk2, hb2, hn2, hm2⟩ := appended_keeps0 hb1 hv hN hmM (by decide) (by decide) (by decide) (by omega) (by omega) hrow hB.size (by omega) hown' hgrow
        have hc2 := hv1.cell
        have hf2 := hv1.frozen
        refine hK _ _ ?_
        clear hK K
        refine wpAnyIn_ready (rs := [5]) (by kernel_rfl) (by simp) ?_
        refine AllReadyIn.cons rfl (fun K hK => ?_) AllReadyIn.nil
        go_simp
        refine hK _ _ ?_
        clear hK K
        refine wpAnyIn_done (by kernel_rfl) ?_ _
        exact ⟨(hk2.trans (KeepsOthers.refl _)).from _, fun _ => hn2, ⟨⟨⟨⟨_, hv2, by rw [flatT_snoc]; exact pcs_join hr2, trivial⟩, hB.trans hb2⟩, hn2⟩, hm2⟩⟩
      · refine step_load_half_in rfl 123 (.tmp 2) rfl w.heap.size 0 rfl C _ hmM.range Tryz.underlying123 rfl (by rw [unhide HSz]; exact Tryz.infoBooks) (hK _ _ ?_)
        clear hK K
        refine wpAnyIn_ready (rs := [0, 3]) (by kernel_rfl) (by simp) ?_
        refine AllReadyIn.cons rfl (fun K hK => ?_) (AllReadyIn.cons rfl (fun K hK => ?_) AllReadyIn.nil)
        · go_simp
          refine hK _ _ ?_
          clear hK K
          refine wpAnyIn_ready (rs := [3]) (by kernel_rfl) (by simp) ?_
          refine AllReadyIn.cons rfl (fun K hK => ?_) AllReadyIn.nil
          go_simp
          refine ⟨trivial, ?_⟩
          refine (CallsIn.inRound l (callsIn_wide.2 (unhide HPut x _ hB.drew))).mono ?_
          rintro e x1 ⟨⟨g, rfl, hPB⟩, hbd⟩
          have hb1 : Below W.heap.size W x1 := ⟨hbd.os, hbd.tape, hbd.output, hbd.size, hbd.block⟩
          clear hbd
          have hc1 := (Boxed.later hv hb1).cell
          have hbs : w.heap.size ≤ x1.heap.size := Nat.le_trans hB.size hb1.size
          refine hK _ _ ?_
          clear hK K
          refine wpAnyIn_ready (rs := [4]) (by kernel_rfl) (by simp) ?_
          refine AllReadyIn.cons rfl (fun K hK => ?_) AllReadyIn.nil
          refine step_append_own_in rfl _ _ 109 rfl w.heap.size 112 i0 (.agg #[.int .i64 0, .int .i64 0]) 2 16 Tryz.underlying109 hi hz0 hz1 hz2 rfl (by decide) v (flatT L D pre).length _ rfl (row_later hrow hb1) ⟨g, 0, none⟩ (pcT L D x.1).length (pcT L D x.1).length (pcells (pcT L D x.1)) rfl (pcells_len _) hPB.cells (pcells_one _) (unhide bd).1 (unhide bd).2 hbs ?_
          intro v' w1 hown' hgrow _
          obtain ⟨g', cap', rfl⟩ : ∃ g' cap', v' = .slice (some ⟨g', 0, none⟩) ((flatT L D pre).length + (pcT L D x.1).length) cap' := own_some hown' (by have := (pcT_len L D x.1).2; omega)
          obtain ⟨hv1, hv2, hr2, hk2, hb2, hn2, hm2⟩ := appended_keeps0 hb1 hv hN hmM (by decide) (by decide) (by decide) (by omega) (by omega) hrow hB.size (by omega) hown' hgrow
          have hc2 := hv1.cell
          have hf2 := hv1.frozen
          refine hK _ _ ?_
          clear hK K
          refine wpAnyIn_ready (rs := [5]) (by kernel_rfl) (by simp) ?_
          refine AllReadyIn.cons rfl (fun K hK => ?_) AllReadyIn.nil
          go_simp
          refine hK _ _ ?_
          clear hK K
          refine wpAnyIn_done (by kernel_rfl) ?_ _
          exact ⟨(hk2.trans (KeepsOthers.refl _)).from _, fun _ => hn2, ⟨⟨⟨⟨_, hv2, by rw [flatT_snoc]; exact pcs_join hr2, trivial⟩, hB.trans hb2⟩, hn2⟩, hm2⟩⟩
        · go_simp
          refine ⟨trivial, ?_⟩
          refine (CallsIn.inRound l (callsIn_wide.2 (unhide HPut x _ hB.drew))).mono ?_
          rintro e x1 ⟨⟨g, rfl, hPB⟩, hbd⟩
          have hb1 : Below W.heap.size W x1 := ⟨hbd.os, hbd.tape, hbd.output, hbd.size, hbd.block⟩
          clear hbd
          have hc1 := (Boxed.later hv hb1).cell
          have hbs : w.heap.size ≤ x1.heap.size := Nat.le_trans hB.size hb1.size
          refine hK _ _ ?_
          clear hK K
          refine wpAnyIn_ready (rs := [0]) (by kernel_rfl) (by simp) ?_
          refine AllReadyIn.cons rfl (fun K hK => ?_) AllReadyIn.nil
          go_simp
          refine hK _ _ ?_
          clear hK K
          refine wpAnyIn_ready (rs := [4]) (by kernel_rfl) (by simp) ?_
          refine AllReadyIn.cons rfl (fun K hK => ?_) AllReadyIn.nil
          refine step_append_own_in rfl _ _ 109 rfl w.heap.size 112 i0 (.agg #[.int .i64 0, .int .i64 0]) 2 16 Tryz.underlying109 hi hz0 hz1 hz2 rfl (by decide) v (flatT L D pre).length _ rfl (row_later hrow hb1) ⟨g, 0, none⟩ (pcT L D x.1).length (pcT L D x.1).length (pcells (pcT L D x.1)) rfl (pcells_len _) hPB.cells (pcells_one _) (unhide bd).1 (unhide bd).2 hbs ?_
          intro v' w1 hown' hgrow _
          obtain ⟨g', cap', rfl⟩ : ∃ g' cap', v' = .slice (some ⟨g', 0, none⟩) ((flatT L D pre).length + (pcT L D x.1).length) cap' := own_some hown' (by have := (pcT_len L D x.1).2; omega)
          obtain ⟨hv1, hv2, hr2, hk2, hb2, hn2, hm2⟩ := appended_keeps0 hb1 hv hN hmM (by decide) (by decide) (by decide) (by omega) (by omega) hrow hB.size (by omega) hown' hgrow
          have hc2 := hv1.cell
          have hf2 := hv1.frozen
          refine hK _ _ ?_
          clear hK K
          refine wpAnyIn_ready (rs := [5]) (by kernel_rfl) (by simp) ?_
          refine AllReadyIn.cons rfl (fun K hK => ?_) AllReadyIn.nil
          go_simp
          refine hK _ _ ?_
          clear hK K
          refine wpAnyIn_done (by kernel_rfl) ?_ _
          exact ⟨(hk2.trans (KeepsOthers.refl _)).from _, fun _ => hn2, ⟨⟨⟨⟨_, hv2, by rw [flatT_snoc]; exact pcs_join hr2, trivial⟩, hB.trans hb2⟩, hn2⟩, hm2⟩⟩
  case done =>
    rintro Dd ys W hDd hys ⟨⟨⟨⟨v, hv, hrow, _⟩, hB⟩, hN⟩, hmM⟩ hK
    have hc := hv.cell
    have HFl : Hid ((flatT L D ys).length + 1 ≤ maxLen ∧ ((flatT L D ys).length + 1) * 16 ≤ 140737488355328) := by
      show _ ∧ _
      have h1 := toks_few s (unhide HS) hys
      have h2 := flatT_le L D ys
      unfold maxLen; omega
    have hFe : Hid (flatT L D ys = (toksP s.data.toList 0).flatMap (pcT L D)) := by show flatT L D ys = _; unfold flatT; rw [hys]
    have HDd := hide hDd
    obtain ⟨C1, C2, hCe, hC1, hC2⟩ := (unhide HBk).later hB
    have HL := hide (fun W' (hW : Below W.heap.size W W') => litPut_any 256 L C1 base W' (hC1.later hW) h256 hL)
    have HR1 := hide (by have h0 := books_range (b := w.heap.size) (t := 123) (show W.heap[w.heap.size]? = some (Obj.cells (C1 ++ C2) 123) by rw [← hCe]; exact hmM) hC1.size; exact h0.1)
    have HS1 := hide hC1.size
    have HPc : Hid (pcS L 256 = (btI ((outN L 15).2.getD 256 0) (L.getD 256 0), L.getD 256 0)) := rfl
    generalize btI ((outN L 15).2.getD 256 0) (L.getD 256 0) = p at *
    generalize L.getD 256 0 = q at *
    clear hys hCe hC1 hC2 hDd
    gi_wp2
    refine wpIn_region_any (by assumption) ?_
    change wpAnyIn _ _ _ _ _ _ _ _ _ (World.drew _)
    refine wpAnyIn_ready (rs := [0, 1]) (by kernel_rfl) (by simp) ?_
    refine AllReadyIn.cons rfl (fun Kk hKk => ?_) (AllReadyIn.cons rfl (fun Kk hKk => ?_) AllReadyIn.nil)
    · go_simp
      refine hKk _ _ ?_
      clear hKk Kk
      refine wpAnyIn_ready (rs := [1]) (by kernel_rfl) (by simp) ?_
      refine AllReadyIn.cons rfl (fun Kk hKk => ?_) AllReadyIn.nil
      go_simp
      refine hKk _ _ ?_
      clear hKk Kk
      refine wpAnyIn_ready (rs := [2]) (by kernel_rfl) (by simp) ?_
      refine AllReadyIn.cons rfl (fun Kk hKk => ?_) AllReadyIn.nil
      refine step_load_half_in rfl 118 (.tmp 16) rfl w.heap.size 0 rfl C1 _ (unhide HR1) Tryz.underlying118 rfl (by rw [unhide HS1]; exact Tryz.infoLitB) (hKk _ _ ?_)
      clear hKk Kk
      refine wpAnyIn_ready (rs := [3]) (by kernel_rfl) (by simp) ?_
      refine AllReadyIn.cons rfl (fun Kk hKk => ?_) AllReadyIn.nil
      go_simp
      refine ⟨trivial, ?_⟩
      refine (callsIn_wide.2 (unhide HL _ (Below.refl _ W).drew)).mono ?_
      rintro e x1 ⟨rfl, hbd⟩
      have hb1 : Below W.heap.size W x1 := ⟨hbd.os, hbd.tape, hbd.output, hbd.size, hbd.block⟩
      clear hbd
      have hc1 := (Boxed.later hv hb1).cell
      have hc1b := ((Boxed.later hv hb1).alloc (.cells #[.int .i64 p, .int .i64 q] 112)).cell
      have hbs : w.heap.size ≤ x1.heap.size := Nat.le_trans hB.size hb1.size
      refine hKk _ _ ?_
      clear hKk Kk
      refine wpAnyIn_ready (rs := [4]) (by kernel_rfl) (by simp) ?_
      refine AllReadyIn.cons rfl (fun Kk hKk => ?_) AllReadyIn.nil
      go_simp
      refine hKk _ _ ?_
      clear hKk Kk
      refine wpAnyIn_ready (rs := [5]) (by kernel_rfl) (by simp) ?_
      refine AllReadyIn.cons rfl (fun Kk hKk => ?_) AllReadyIn.nil
      refine step_append_own_in rfl _ _ 109 rfl w.heap.size 112 i0 (.agg #[.int .i64 0, .int .i64 0]) 2 16 Tryz.underlying109 hi hz0 hz1 hz2 rfl (by decide) v (flatT L D ys).length _ rfl (World.ownsRow.alloc (row_later hrow hb1) _) ⟨x1.heap.size, 0, none⟩ 1 1 [.int .i64 p, .int .i64 q] rfl rfl (two_newP _ _ _ _) (two_oneP _ _) (unhide HFl).1 (unhide HFl).2 (by simp; omega) ?_
      intro v' w1 hown' hgrow _
      have hB1 : Below w.heap.size w w1 := ((hB.trans (hb1.mono hB.size)).alloc hbs _).grown hgrow (by simp; omega) (fun j hj => (World.ownsRow.lt (row_later hrow hb1) j hj).1)
      have hK1 := rec_kept (rec_kept_alloc ((hb1.block Dd (Array.getElem?_eq_some_iff.1 hK).1).trans hK) (.cells #[.int .i64 p, .int .i64 q] 112)) hgrow (World.ownsRow.alloc (row_later hrow hb1) _)
      refine hKk _ _ ?_
      clear hKk Kk
      refine wpAnyIn_ready (rs := [6]) (by kernel_rfl) (by simp) ?_
      refine AllReadyIn.cons rfl (fun Kk hKk => ?_) AllReadyIn.nil
      go_simp
      refine hKk _ _ ?_
      clear hKk Kk
      refine wpAnyIn_done (by kernel_rfl) ?_ _
      gi_wp2
      refine ⟨by simp, .inl ⟨_, _, rfl, run_takeDeferred hK1, ?_⟩⟩
      refine ⟨_, results_tmp rfl _ _ _, _, rfl, ?_, hB1.trans (belowK_b (w := w) (Nat.le_refl _) w1 Dd _ _ (by have := unhide HDd; simp at this; omega) hK1 rfl rfl)⟩
      rw [← unhide hFe, unhide HPc]
      exact pcs_snoc1 (ownsRow_putObj hown' (.deferred none) hK1 rfl)
    · go_simp
      refine hKk _ _ ?_
      clear hKk Kk
      refine wpAnyIn_ready (rs := [0, 2]) (by kernel_rfl) (by simp) ?_
      refine AllReadyIn.cons rfl (fun Kk hKk => ?_) (AllReadyIn.cons rfl (fun Kk hKk => ?_) AllReadyIn.nil)
      · go_simp
        refine hKk _ _ ?_
        clear hKk Kk
        refine wpAnyIn_ready (rs := [2]) (by kernel_rfl) (by simp) ?_
        refine AllReadyIn.cons rfl (fun Kk hKk => ?_) AllReadyIn.nil
        refine step_load_half_in rfl 118 (.tmp 16) rfl w.heap.size 0 rfl C1 _ (unhide HR1) Tryz.underlying118 rfl (by rw [unhide HS1]; exact Tryz.infoLitB) (hKk _ _ ?_)
        clear hKk Kk
        refine wpAnyIn_ready (rs := [3]) (by kernel_rfl) (by simp) ?_
        refine AllReadyIn.cons rfl (fun Kk hKk => ?_) AllReadyIn.nil
        go_simp
        refine ⟨trivial, ?_⟩
        refine (callsIn_wide.2 (unhide HL _ (Below.refl _ W).drew)).mono ?_
        rintro e x1 ⟨rfl, hbd⟩
        have hb1 : Below W.heap.size W x1 := ⟨hbd.os, hbd.tape, hbd.output, hbd.size, hbd.block⟩
        clear hbd
        have hc1 := (Boxed.later hv hb1).cell
        have hc1b := ((Boxed.later hv hb1).alloc (.cells #[.int .i64 p, .int .i64 q] 112)).cell
        have hbs : w.heap.size ≤ x1.heap.size := Nat.le_trans hB.size hb1.size
        refine hKk _ _ ?_
        clear hKk Kk
        refine wpAnyIn_ready (rs := [4]) (by kernel_rfl) (by simp) ?_
        refine AllReadyIn.cons rfl (fun Kk hKk => ?_) AllReadyIn.nil
        go_simp
        refine hKk _ _ ?_
        clear hKk Kk
        refine wpAnyIn_ready (rs := [5]) (by kernel_rfl) (by simp) ?_
        refine AllReadyIn.cons rfl (fun Kk hKk => ?_) AllReadyIn.nil
        refine step_append_own_in rfl _ _ 109 rfl w.heap.size 112 i0 (.agg #[.int .i64 0, .int .i64 0]) 2 16 Tryz.underlying109 hi hz0 hz1 hz2 rfl (by decide) v (flatT L D ys).length _ rfl (World.ownsRow.alloc (row_later hrow hb1) _) ⟨x1.heap.size, 0, none⟩ 1 1 [.int .i64 p, .int .i64 q] rfl rfl (two_newP _ _ _ _) (two_oneP _ _) (unhide HFl).1 (unhide HFl).2 (by simp; omega) ?_
        intro v' w1 hown' hgrow _
        have hB1 : Below w.heap.size w w1 := ((hB.trans (hb1.mono hB.size)).alloc hbs _).grown hgrow (by simp; omega) (fun j hj => (World.ownsRow.lt (row_later hrow hb1) j hj).1)
        have hK1 := rec_kept (rec_kept_alloc ((hb1.block Dd (Array.getElem?_eq_some_iff.1 hK).1).trans hK) (.cells #[.int .i64 p, .int .i64 q] 112)) hgrow (World.ownsRow.alloc (row_later hrow hb1) _)
        refine hKk _ _ ?_
        clear hKk Kk
        refine wpAnyIn_ready (rs := [6]) (by kernel_rfl) (by simp) ?_
        refine AllReadyIn.cons rfl (fun Kk hKk => ?_) AllReadyIn.nil
        go_simp
        refine hKk _ _ ?_
        clear hKk Kk
        refine wpAnyIn_done (by kernel_rfl) ?_ _
        gi_wp2
        refine ⟨by simp, .inl ⟨_, _, rfl, run_takeDeferred hK1, ?_⟩⟩
        refine ⟨_, results_tmp rfl _ _ _, _, rfl, ?_, hB1.trans (belowK_b (w := w) (Nat.le_refl _) w1 Dd _ _ (by have := unhide HDd; simp at this; omega) hK1 rfl rfl)⟩
        rw [← unhide hFe, unhide HPc]
        exact pcs_snoc1 (ownsRow_putObj hown' (.deferred none) hK1 rfl)
      · refine step_load_half_in rfl 118 (.tmp 16) rfl w.heap.size 0 rfl C1 _ (unhide HR1) Tryz.underlying118 rfl (by rw [unhide HS1]; exact Tryz.infoLitB) (hKk _ _ ?_)
        clear hKk Kk
        refine wpAnyIn_ready (rs := [0, 3]) (by kernel_rfl) (by simp) ?_
        refine AllReadyIn.cons rfl (fun Kk hKk => ?_) (AllReadyIn.cons rfl (fun Kk hKk => ?_) AllReadyIn.nil)
        · go_simp
          refine hKk _ _ ?_
          clear hKk Kk
          refine wpAnyIn_ready (rs := [3]) (by kernel_rfl) (by simp) ?_
          refine AllReadyIn.cons rfl (fun Kk hKk => ?_) AllReadyIn.nil
          go_simp
          refine ⟨trivial, ?_⟩
          refine (callsIn_wide.2 (unhide HL _ (Below.refl _ W).drew)).mono ?_
          rintro e x1 ⟨rfl, hbd⟩
          have hb1 : Below W.heap.size W x1 := ⟨hbd.os, hbd.tape, hbd.output, hbd.size, hbd.block⟩
          clear hbd
          have hc1 := (Boxed.later hv hb1).cell
          have hc1b := ((Boxed.later hv hb1).alloc (.cells #[.int .i64 p, .int .i64 q] 112)).cell
          have hbs : w.heap.size ≤ x1.heap.size := Nat.le_trans hB.size hb1.size
          refine hKk _ _ ?_
          clear hKk Kk
          refine wpAnyIn_ready (rs := [4]) (by kernel_rfl) (by simp) ?_
          refine AllReadyIn.cons rfl (fun Kk hKk => ?_) AllReadyIn.nil
          go_simp
          refine hKk _ _ ?_
          clear hKk Kk
          refine wpAnyIn_ready (rs := [5]) (by kernel_rfl) (by simp) ?_
          refine AllReadyIn.cons rfl (fun Kk hKk => ?_) AllReadyIn.nil
          refine step_append_own_in rfl _ _ 109 rfl w.heap.size 112 i0 (.agg #[.int .i64 0, .int .i64 0]) 2 16 Tryz.underlying109 hi hz0 hz1 hz2 rfl (by decide) v (flatT L D ys).length _ rfl (World.ownsRow.alloc (row_later hrow hb1) _) ⟨x1.heap.size, 0, none⟩ 1 1 [.int .i64 p, .int .i64 q] rfl rfl (two_newP _ _ _ _) (two_oneP _ _) (unhide HFl).1 (unhide HFl).2 (by simp; omega) ?_
          intro v' w1 hown' hgrow _
          have hB1 : Below w.heap.size w w1 := ((hB.trans (hb1.mono hB.size)).alloc hbs _).grown hgrow (by simp; omega) (fun j hj => (World.ownsRow.lt (row_later hrow hb1) j hj).1)
          have hK1 := rec_kept (rec_kept_alloc ((hb1.block Dd (Array.getElem?_eq_some_iff.1 hK).1).trans hK) (.cells #[.int .i64 p, .int .i64 q] 112)) hgrow (World.ownsRow.alloc (row_later hrow hb1) _)
          refine hKk _ _ ?_
          clear hKk Kk
          refine wpAnyIn_ready (rs := [6]) (by kernel_rfl) (by simp) ?_
          refine AllReadyIn.cons rfl (fun Kk hKk => ?_) AllReadyIn.nil
          go_simp
          refine hKk _ _ ?_
          clear hKk Kk
          refine wpAnyIn_done (by kernel_rfl) ?_ _
          gi_wp2
          refine ⟨by simp, .inl ⟨_, _, rfl, run_takeDeferred hK1, ?_⟩⟩
          refine ⟨_, results_tmp rfl _ _ _, _, rfl, ?_, hB1.trans (belowK_b (w := w) (Nat.le_refl _) w1 Dd _ _ (by have := unhide HDd; simp at this; omega) hK1 rfl rfl)⟩
          rw [← unhide hFe, unhide HPc]
          exact pcs_snoc1 (ownsRow_putObj hown' (.deferred none) hK1 rfl)
        · go_simp
          refine ⟨trivial, ?_⟩
          refine (callsIn_wide.2 (unhide HL _ (Below.refl _ W).drew)).mono ?_
          rintro e x1 ⟨rfl, hbd⟩
          have hb1 : Below W.heap.size W x1 := ⟨hbd.os, hbd.tape, hbd.output, hbd.size, hbd.block⟩
          clear hbd
          have hc1 := (Boxed.later hv hb1).cell
          have hc1b := ((Boxed.later hv hb1).alloc (.cells #[.int .i64 p, .int .i64 q] 112)).cell
          have hbs : w.heap.size ≤ x1.heap.size := Nat.le_trans hB.size hb1.size
          refine hKk _ _ ?_
          clear hKk Kk
          refine wpAnyIn_ready (rs := [0, 4]) (by kernel_rfl) (by simp) ?_
          refine AllReadyIn.cons rfl (fun Kk hKk => ?_) (AllReadyIn.cons rfl (fun Kk hKk => ?_) AllReadyIn.nil)
          · go_simp
            refine hKk _ _ ?_
            clear hKk Kk
            refine wpAnyIn_ready (rs := [4]) (by kernel_rfl) (by simp) ?_
            refine AllReadyIn.cons rfl (fun Kk hKk => ?_) AllReadyIn.nil
            go_simp
            refine hKk _ _ ?_
            clear hKk Kk
            refine wpAnyIn_ready (rs := [5]) (by kernel_rfl) (by simp) ?_
            refine AllReadyIn.cons rfl (fun Kk hKk => ?_) AllReadyIn.nil
            refine step_append_own_in rfl _ _ 109 rfl w.heap.size 112 i0 (.agg #[.int .i64 0, .int .i64 0]) 2 16 Tryz.underlying109 hi hz0 hz1 hz2 rfl (by decide) v (flatT L D ys).length _ rfl (World.ownsRow.alloc (row_later hrow hb1) _) ⟨x1.heap.size, 0, none⟩ 1 1 [.int .i64 p, .int .i64 q] rfl rfl (two_newP _ _ _ _) (two_oneP _ _) (unhide HFl).1 (unhide HFl).2 (by simp; omega) ?_
            intro v' w1 hown' hgrow _
            have hB1 : Below w.heap.size w w1 := ((hB.trans (hb1.mono hB.size)).alloc hbs _).grown hgrow (by simp; omega) (fun j hj => (World.ownsRow.lt (row_later hrow hb1) j hj).1)
            have hK1 := rec_kept (rec_kept_alloc ((hb1.block Dd (Array.getElem?_eq_some_iff.1 hK).1).trans hK) (.cells #[.int .i64 p, .int .i64 q] 112)) hgrow (World.ownsRow.alloc (row_later hrow hb1) _)
            refine hKk _ _ ?_
            clear hKk Kk
            refine wpAnyIn_ready (rs := [6]) (by kernel_rfl) (by simp) ?_
            refine AllReadyIn.cons rfl (fun Kk hKk => ?_) AllReadyIn.nil
            go_simp
            refine hKk _ _ ?_
            clear hKk Kk
            refine wpAnyIn_done (by kernel_rfl) ?_ _
            gi_wp2
            refine ⟨by simp, .inl ⟨_, _, rfl, run_takeDeferred hK1, ?_⟩⟩
            refine ⟨_, results_tmp rfl _ _ _, _, rfl, ?_, hB1.trans (belowK_b (w := w) (Nat.le_refl _) w1 Dd _ _ (by have := unhide HDd; simp at this; omega) hK1 rfl rfl)⟩
            rw [← unhide hFe, unhide HPc]
            exact pcs_snoc1 (ownsRow_putObj hown' (.deferred none) hK1 rfl)
          · go_simp
            refine hKk _ _ ?_
            clear hKk Kk
            refine wpAnyIn_ready (rs := [0]) (by kernel_rfl) (by simp) ?_
            refine AllReadyIn.cons rfl (fun Kk hKk => ?_) AllReadyIn.nil
            go_simp
            refine hKk _ _ ?_
            clear hKk Kk
            refine wpAnyIn_ready (rs := [5]) (by kernel_rfl) (by simp) ?_
            refine AllReadyIn.cons rfl (fun Kk hKk => ?_) AllReadyIn.nil
            refine step_append_own_in rfl _ _ 109 rfl w.heap.size 112 i0 (.agg #[.int .i64 0, .int .i64 0]) 2 16 Tryz.underlying109 hi hz0 hz1 hz2 rfl (by decide) v (flatT L D ys).length _ rfl (World.ownsRow.alloc (row_later hrow hb1) _) ⟨x1.heap.size, 0, none⟩ 1 1 [.int .i64 p, .int .i64 q] rfl rfl (two_newP _ _ _ _) (two_oneP _ _) (unhide HFl).1 (unhide HFl).2 (by simp; omega) ?_
            intro v' w1 hown' hgrow _
            have hB1 : Below w.heap.size w w1 := ((hB.trans (hb1.mono hB.size)).alloc hbs _).grown hgrow (by simp; omega) (fun j hj => (World.ownsRow.lt (row_later hrow hb1) j hj).1)
            have hK1 := rec_kept (rec_kept_alloc ((hb1.block Dd (Array.getElem?_eq_some_iff.1 hK).1).trans hK) (.cells #[.int .i64 p, .int .i64 q] 112)) hgrow (World.ownsRow.alloc (row_later hrow hb1) _)
            refine hKk _ _ ?_
            clear hKk Kk
            refine wpAnyIn_ready (rs := [6]) (by kernel_rfl) (by simp) ?_
            refine AllReadyIn.cons rfl (fun Kk hKk => ?_) AllReadyIn.nil
            go_simp
            refine hKk _ _ ?_
            clear hKk Kk
            refine wpAnyIn_done (by kernel_rfl) ?_ _
            gi_wp2
            refine ⟨by simp, .inl ⟨_, _, rfl, run_takeDeferred hK1, ?_⟩⟩
            refine ⟨_, results_tmp rfl _ _ _, _, rfl, ?_, hB1.trans (belowK_b (w := w) (Nat.le_refl _) w1 Dd _ _ (by have := unhide HDd; simp at this; omega) hK1 rfl rfl)⟩
            rw [← unhide hFe, unhide HPc]
            exact pcs_snoc1 (ownsRow_putObj hown' (.deferred none) hK1 rfl)
  case stop =>
    rintro D c pre W _ _ h _
    exact h.elim
end Go.Proofs.YtgpghapnmalipaaGreatDoor