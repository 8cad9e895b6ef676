/- The program's tokens of a text, over this seat's program. -/
import Derived.Test.YtlncdcdblmpmgaaTo4
namespace Go.Proofs.Ytlncdcdblmpmgaa
open Go.RowKit Go.Shelf
attribute [local go_sem] Oper.semAt_some

theorem toks_stops (n : Nat) (hn : 1 ≤ n) (Bn : Nat) (s : ByteArray) (hs : s.size ≤ 100000) (w : World) (hBn : Boxed w Bn 9 (.string s)) :
    SeqStopsK Fence.wide n Try.prog 44 #[.pointer (some ⟨Bn, 0, none⟩)] (fun x : TkO => #[tokV x.1]) (KeepB Bn 9 (.string s)) (fun ys => ys.map Subtype.val = toksP s.data.toList 0) (fun _ => True) s.size w := fun l J Jx W hW hJ _ hY h0 =>
  toks_in n hn l Bn s hs J Jx W hJ hY (Boxed.later hBn hW) h0
theorem keepB_t {b : Nat} {t : TypeId} {v : Value} {A B C : World} (h : KeepB b t v A B) (k : KeepB b t v B C) : KeepB b t v A C := fun x => k (h x)
theorem keepB_b {b : Nat} {t : TypeId} {v : Value} (W : World) (l : Nat) (o o' : Obj) (hl : W.heap[l]? = some o) (ho : o.isCells = false) : KeepB b t v W (W.putObj l o') := by
  intro h
  refine h.kept (grownBy_putObj' W l o') ?_
  intro e
  cases e
  rw [show W.heap[b]? = _ from h] at hl
  cases hl
  cases ho

theorem row_later {W x1 : World} {n₀ : Nat} {e : TypeId} {size k : Nat} {v : Value} {xs : List Value} (hrow : W.ownsRow n₀ e size v k xs) (hW : Below W.heap.size W x1) : x1.ownsRow n₀ e size v k xs :=
  hrow.kept (grown_none hW) (by cases v.ownBlock with
    | none => exact .inl rfl
    | some _ => exact .inr (by simp))
theorem appended_keeps {W x1 w1 : World} {n₀ B Bn : Nat} {t e tn : TypeId} {size : Nat} {v v' u : Value} {k m : Nat} {xs ys : List Value} {tmp : Obj}
    (hW : Below W.heap.size W x1) (hv : Boxed W B t v) (hbn : Boxed W Bn tn u) (hte : t ≠ e) (htn : tn ≠ e) (hne : Bn ≠ B) (hrow : W.ownsRow n₀ e size v k xs) (hn₀ : n₀ ≤ W.heap.size) (hB : n₀ ≤ B)
    (hown' : w1.ownsRow n₀ e size v' m ys) (hgrow : (x1.alloc tmp).grownBy w1 v.ownBlock) :
    Boxed w1 B t v ∧ Boxed (w1.setCell ⟨B, 0, none⟩ v') B t v' ∧ (w1.setCell ⟨B, 0, none⟩ v').ownsRow n₀ e size v' m ys ∧ KeepsOthers W (w1.setCell ⟨B, 0, none⟩ v') ∧ Below n₀ W (w1.setCell ⟨B, 0, none⟩ v') ∧ Boxed (w1.setCell ⟨B, 0, none⟩ v') Bn tn u := by
  have hv1 := Boxed.later hv hW
  have hbn1 := Boxed.later hbn hW
  have hrow1 : x1.ownsRow n₀ e size v k xs := hrow.kept (grown_none hW) (by cases v.ownBlock with
    | none => exact .inl rfl
    | some _ => exact .inr (by simp))
  obtain ⟨h1, h2, h3, h4, h5⟩ := hv1.appended hte hrow1 (Nat.le_trans hn₀ hW.size) hB hown' hgrow
  refine ⟨h1, h2, h3, ?_, (hW.mono hn₀).trans h5, ?_⟩
  · exact (KeepsOthers.of_grownBy (grown_none hW) (fun _ _ e => by cases e)).trans h4
  · exact Boxed.other ((hbn1.alloc tmp).kept hgrow (hbn1.not_row htn hrow1)) hne v'

theorem step_append_own_in {F : Fence} {n : Nat} {P : Program} {ops : Array Oper} {o : Oper} {a : Act} {w : World} {K : Act → World → Prop} {Q : Exit → Act → World → Prop} {E : Prop}
    (hg : o.guard = none) (s x : Operand) (t : TypeId) (hop : o.op = Op.call { callee := Callee.builtin Builtin.append, args := #[s, x], argTypes := #[t, t] })
    (base : Nat) (e : TypeId) (i : TypeInfo) (z : Value) (size bytes : Nat) (h1 : P.underlying t = some (.slice e)) (h2 : P.info? e = some i) (h3 : i.zero = some z) (h4 : i.size = size) (h5 : i.bytes = bytes) (h6 : z.cells.size = size) (h7 : 0 < size)
    (v : Value) (k : Nat) (xs : List Value) (hs : a.eval s = v) (hown : w.ownsRow base e size v k xs) (ad : Addr) (m c : Nat) (news : List Value) (hx : a.eval x = .slice (some ad) m c) (hn : news.length = m * size)
    (hc : ∀ j u, news[j]? = some u → w.cell? (ad.add j) = some u) (h1c : ∀ u ∈ news, u.oneCell' = true) (b1 : k + m ≤ maxLen) (b2 : (k + m) * bytes ≤ 140737488355328) (b3 : base ≤ w.heap.size)
    (hK : ∀ v' w', w'.ownsRow base e size v' (k + m) (xs ++ news) → w.grownBy w' v.ownBlock → (v' = .slice none 0 0 ↔ v = .slice none 0 0 ∧ m = 0) → K (a.put o.dst v') w') :
    if Region.wanted o (yielded ops a.tmps) = true then Oper.wpIn F n P o a w K Q else E := by
  have hw : Region.wanted o (yielded ops a.tmps) = true := by simp [Region.wanted, hg]
  rw [if_pos hw]
  obtain ⟨v', w', hrun, r1, r2, r3⟩ := run_append_own (P := P) w base t o.type e i z size bytes h1 h2 h3 h4 h5 h6 h7 v k xs hown ad m c news hn hc h1c b1 b2 b3
  unfold Oper.wpIn
  refine ⟨?_, ?_⟩
  · simp [Oper.about, hop, resolve, Target.leads, Sem.run_pure]
  · rw [Oper.semAt_plain F _ _ (by rw [hop]; intro c hc'; cases hc')]
    simp [execOp, hop, resolve, invoke, builtin, hs, hx, hrun, Result.andThen]
    exact hK v' w' r1 r2 r3
theorem row_snoc {W : World} {n₀ : Nat} {v : Value} {pre : List TkO} {x : TkO} (h : W.ownsRow n₀ 40 3 v (pre.length + 1) (kcells (pre.map Subtype.val) ++ [.int .i64 x.1.1, .int .i64 x.1.2.1, .int .i64 x.1.2.2])) :
    Hid (W.ownsRow n₀ 40 3 v (pre ++ [x]).length (kcells ((pre ++ [x]).map Subtype.val))) := by
  show W.ownsRow _ _ _ _ _ _
  rw [List.map_append, kcells_append, List.length_append, List.length_singleton]
  exact h

set_option maxRecDepth 100000 in
set_option maxHeartbeats 6400000 in
theorem implToks_any (s : ByteArray) (w : World) (hs : s.size ≤ 300) :
    Calls Try.prog 25 #[.string s] w fun e w' => ∃ v, e = .returned v ∧ KOwn w' w.heap.size v (toksP s.data.toList 0) ∧ Below w.heap.size w w' := by
  obtain ⟨i0, hi, hz0, hz1, hz2⟩ := info_parts Try.infoTok
  have hsI : (s.size : Int) ≤ 300 := by omega
  have hI : ¬ (300 : Int) < (s.size : Int) := by omega
  have hmx : Try.prog.follows .mixedOrders = true := by kernel_rfl
  have HS := hide hs
  clear hs
  refine (callsIn_wide (n := 6)).1 ?_
  refine callsIn_of_wp_marks Try.func25 rfl trivial ?_ rfl
  simp only [Try.ntmps25, List.size_toArray, List.length_cons, List.length_nil, Nat.reduceAdd, Nat.reduceSub, Array.replicate_succ, Array.replicate_zero, List.push_toArray, List.append_toArray, List.nil_append, List.cons_append]
  gi_wp2_with (refine ⟨trivial, ?_⟩; gi_at_call 37; refine (callsIn_wide.2 (lzTokens_any s _)).mono ?_; rintro e w' ⟨rfl, rfl⟩)
  have bO := Boxed.new w 25 (.slice none 0 0)
  have bN := Boxed.new (w.alloc (.cells #[.slice none 0 0] 25)) 9 (.string s)
  rw [World.size_alloc] at bN
  have hB0 : Below w.heap.size w ((w.alloc (.cells #[.slice none 0 0] 25)).alloc (.cells #[.string s] 9)) := ((Below.refl _ w).alloc (Nat.le_refl _) _).alloc (by simp) _
  refine wpIn_rangeFunc_ownG rfl (by omega) (gf := 44) (lb := #[.pointer (some ⟨w.heap.size + 1, 0, none⟩)]) rfl trivial (enters_of Try.func44 (by kernel_rfl) rfl)
    (toks_stops 5 (by omega) (w.heap.size + 1) s (by have := unhide HS; omega) _ bN) keepB_t (fun W l o o' _ h1 h2 _ => keepB_b W l o o' h1 h2) (Below.refl _ _) (fun _ => rfl)
    (fun (pre : List TkO) W => ((∃ v, Boxed W w.heap.size 25 v ∧ W.ownsRow w.heap.size 40 3 v pre.length (kcells (pre.map Subtype.val)) ∧ True) ∧ Below w.heap.size w W) ∧ Boxed W (w.heap.size + 1) 9 (.string s))
    (fun _ _ _ => False)
    (OwnFrom.and (OwnFrom.and (Own.from (holdsRow_own w.heap.size w.heap.size 25 40 3 (fun (pre : List TkO) => pre.length) (fun (pre : List TkO) => kcells (pre.map Subtype.val)) (fun _ _ => True)) _) (ownFrom_below (Nat.le_refl _) (by simp; omega))) (Own.from (boxed_own _ _ _) _))
    (fun _ _ _ _ _ hs _ _ => hs)
    ⟨⟨⟨_, bO.alloc _, World.ownsRow_nil _ _ _ _, trivial⟩, hB0⟩, bN⟩
    (fun x => { tmps := #[.string s, undef, .slice none 0 0, .pointer (some ⟨w.heap.size, 0, none⟩), tokV x.1, .string s, .int .i64 s.size, .bool false, .string s, .func (.func 44) #[] #[.pointer (some ⟨w.heap.size + 1, 0, none⟩)], tokV x.1, undef, undef, undef, undef, undef, undef], defers := [] }) ?assign ?body ?done ?stop
  case assign =>
    intro l x W K hK
    gi_wp2
    exact hK
  case body =>
    rintro l pre x W ⟨⟨⟨v, hv, hrow, _⟩, hB⟩, hN⟩ hlt
    have hc := hv.cell
    have bd : Hid (pre.length + 1 ≤ maxLen ∧ (pre.length + 1) * 24 ≤ 140737488355328) := by show _ ∧ _; have := unhide HS; unfold maxLen; omega
    gi_wp2
    refine wpIn_region_any (by assumption) ?_
    change wpAnyIn _ _ _ _ _ _ _ _ _ (World.drew _)
    refine wpAnyIn_ready (rs := [0, 1]) (by kernel_rfl) (by simp) ?_
    refine AllReadyIn.cons rfl (fun K hK => ?_) (AllReadyIn.cons rfl (fun K hK => ?_) AllReadyIn.nil)
    · go_simp
      refine hK _ _ ?_
      clear hK K
      refine wpAnyIn_ready (rs := [1]) (by kernel_rfl) (by simp) ?_
      refine AllReadyIn.cons rfl (fun K hK => ?_) AllReadyIn.nil
      go_simp
      refine hK _ _ ?_
      clear hK K
      refine wpAnyIn_ready (rs := [2]) (by kernel_rfl) (by simp) ?_
      refine AllReadyIn.cons rfl (fun K hK => ?_) AllReadyIn.nil
      go_simp
      refine ⟨trivial, ?_⟩
      refine (CallsIn.inRound l (callsIn_wide.2 (lzTold_any x.1 _ x.2))).mono ?_
      rintro e x1 ⟨rfl, hbd⟩
      have hb1 : Below W.heap.size W x1 := ⟨hbd.os, hbd.tape, hbd.output, hbd.size, hbd.block⟩
      clear hbd
      have hc1 := (Boxed.later hv hb1).cell
      have hc1b := ((Boxed.later hv hb1).alloc (.cells #[.int .i64 x.1.1, .int .i64 x.1.2.1, .int .i64 x.1.2.2] 40)).cell
      have hbs : w.heap.size ≤ x1.heap.size := Nat.le_trans hB.size hb1.size
      refine hK _ _ ?_
      clear hK K
      refine wpAnyIn_ready (rs := [3]) (by kernel_rfl) (by simp) ?_
      refine AllReadyIn.cons rfl (fun K hK => ?_) AllReadyIn.nil
      go_simp
      refine hK _ _ ?_
      clear hK K
      refine wpAnyIn_ready (rs := [4]) (by kernel_rfl) (by simp) ?_
      refine AllReadyIn.cons rfl (fun K hK => ?_) AllReadyIn.nil
      refine step_append_own_in rfl _ _ 25 rfl w.heap.size 40 i0 (.agg #[.int .i64 0, .int .i64 0, .int .i64 0]) 3 24 Try.underlying25 hi hz0 hz1 hz2 rfl (by decide) v pre.length _ rfl (World.ownsRow.alloc (row_later hrow hb1) _) ⟨x1.heap.size, 0, none⟩ 1 1 [.int .i64 x.1.1, .int .i64 x.1.2.1, .int .i64 x.1.2.2] rfl rfl (k3_new _ _ _ _ _ _ rfl) (k3_one _ _ _) (unhide bd).1 (unhide bd).2 (size_alloc_le hbs _) ?_
      intro v' w1 hown' hgrow _
      obtain ⟨g', cap', rfl⟩ := ownsRow_succ hown'
      obtain ⟨hv1, hv2, hr2, hk2, hb2, hn2⟩ := appended_keeps hb1 hv hN (by decide) (by decide) (by omega) hrow hB.size (Nat.le_refl _) hown' hgrow
      have hc2 := hv1.cell
      have hf2 := hv1.frozen
      refine hK _ _ ?_
      clear hK K
      refine wpAnyIn_ready (rs := [5]) (by kernel_rfl) (by simp) ?_
      refine AllReadyIn.cons rfl (fun K hK => ?_) AllReadyIn.nil
      go_simp
      refine hK _ _ ?_
      clear hK K
      refine wpAnyIn_done (by kernel_rfl) ?_ _
      exact ⟨(hk2.trans (KeepsOthers.refl _)).from _, fun _ => hn2, ⟨⟨⟨_, hv2, unhide (row_snoc hr2), trivial⟩, hB.trans hb2⟩, hn2⟩⟩
    · go_simp
      refine hK _ _ ?_
      clear hK K
      refine wpAnyIn_ready (rs := [0, 2]) (by kernel_rfl) (by simp) ?_
      refine AllReadyIn.cons rfl (fun K hK => ?_) (AllReadyIn.cons rfl (fun K hK => ?_) AllReadyIn.nil)
      · go_simp
        refine hK _ _ ?_
        clear hK K
        refine wpAnyIn_ready (rs := [2]) (by kernel_rfl) (by simp) ?_
        refine AllReadyIn.cons rfl (fun K hK => ?_) AllReadyIn.nil
        go_simp
        refine ⟨trivial, ?_⟩
        refine (CallsIn.inRound l (callsIn_wide.2 (lzTold_any x.1 _ x.2))).mono ?_
        rintro e x1 ⟨rfl, hbd⟩
        have hb1 : Below W.heap.size W x1 := ⟨hbd.os, hbd.tape, hbd.output, hbd.size, hbd.block⟩
        clear hbd
        have hc1 := (Boxed.later hv hb1).cell
        have hc1b := ((Boxed.later hv hb1).alloc (.cells #[.int .i64 x.1.1, .int .i64 x.1.2.1, .int .i64 x.1.2.2] 40)).cell
        have hbs : w.heap.size ≤ x1.heap.size := Nat.le_trans hB.size hb1.size
        refine hK _ _ ?_
        clear hK K
        refine wpAnyIn_ready (rs := [3]) (by kernel_rfl) (by simp) ?_
        refine AllReadyIn.cons rfl (fun K hK => ?_) AllReadyIn.nil
        go_simp
        refine hK _ _ ?_
        clear hK K
        refine wpAnyIn_ready (rs := [4]) (by kernel_rfl) (by simp) ?_
        refine AllReadyIn.cons rfl (fun K hK => ?_) AllReadyIn.nil
        refine step_append_own_in rfl _ _ 25 rfl w.heap.size 40 i0 (.agg #[.int .i64 0, .int .i64 0, .int .i64 0]) 3 24 Try.underlying25 hi hz0 hz1 hz2 rfl (by decide) v pre.length _ rfl (World.ownsRow.alloc (row_later hrow hb1) _) ⟨x1.heap.size, 0, none⟩ 1 1 [.int .i64 x.1.1, .int .i64 x.1.2.1, .int .i64 x.1.2.2] rfl rfl (k3_new _ _ _ _ _ _ rfl) (k3_one _ _ _) (unhide bd).1 (unhide bd).2 (size_alloc_le hbs _) ?_
        intro v' w1 hown' hgrow _
        obtain ⟨g', cap', rfl⟩ := ownsRow_succ hown'
        obtain ⟨hv1, hv2, hr2, hk2, hb2, hn2⟩ := appended_keeps hb1 hv hN (by decide) (by decide) (by omega) hrow hB.size (Nat.le_refl _) hown' hgrow
        have hc2 := hv1.cell
        have hf2 := hv1.frozen
        refine hK _ _ ?_
        clear hK K
        refine wpAnyIn_ready (rs := [5]) (by kernel_rfl) (by simp) ?_
        refine AllReadyIn.cons rfl (fun K hK => ?_) AllReadyIn.nil
        go_simp
        refine hK _ _ ?_
        clear hK K
        refine wpAnyIn_done (by kernel_rfl) ?_ _
        exact ⟨(hk2.trans (KeepsOthers.refl _)).from _, fun _ => hn2, ⟨⟨⟨_, hv2, unhide (row_snoc hr2), trivial⟩, hB.trans hb2⟩, hn2⟩⟩
      · go_simp
        refine ⟨trivial, ?_⟩
        refine (CallsIn.inRound l (callsIn_wide.2 (lzTold_any x.1 _ x.2))).mono ?_
        rintro e x1 ⟨rfl, hbd⟩
        have hb1 : Below W.heap.size W x1 := ⟨hbd.os, hbd.tape, hbd.output, hbd.size, hbd.block⟩
        clear hbd
        have hc1 := (Boxed.later hv hb1).cell
        have hc1b := ((Boxed.later hv hb1).alloc (.cells #[.int .i64 x.1.1, .int .i64 x.1.2.1, .int .i64 x.1.2.2] 40)).cell
        have hbs : w.heap.size ≤ x1.heap.size := Nat.le_trans hB.size hb1.size
        refine hK _ _ ?_
        clear hK K
        refine wpAnyIn_ready (rs := [0, 3]) (by kernel_rfl) (by simp) ?_
        refine AllReadyIn.cons rfl (fun K hK => ?_) (AllReadyIn.cons rfl (fun K hK => ?_) AllReadyIn.nil)
        · go_simp
          refine hK _ _ ?_
          clear hK K
          refine wpAnyIn_ready (rs := [3]) (by kernel_rfl) (by simp) ?_
          refine AllReadyIn.cons rfl (fun K hK => ?_) AllReadyIn.nil
          go_simp
          refine hK _ _ ?_
          clear hK K
          refine wpAnyIn_ready (rs := [4]) (by kernel_rfl) (by simp) ?_
          refine AllReadyIn.cons rfl (fun K hK => ?_) AllReadyIn.nil
          refine step_append_own_in rfl _ _ 25 rfl w.heap.size 40 i0 (.agg #[.int .i64 0, .int .i64 0, .int .i64 0]) 3 24 Try.underlying25 hi hz0 hz1 hz2 rfl (by decide) v pre.length _ rfl (World.ownsRow.alloc (row_later hrow hb1) _) ⟨x1.heap.size, 0, none⟩ 1 1 [.int .i64 x.1.1, .int .i64 x.1.2.1, .int .i64 x.1.2.2] rfl rfl (k3_new _ _ _ _ _ _ rfl) (k3_one _ _ _) (unhide bd).1 (unhide bd).2 (size_alloc_le hbs _) ?_
          intro v' w1 hown' hgrow _
          obtain ⟨g', cap', rfl⟩ := ownsRow_succ hown'
          obtain ⟨hv1, hv2, hr2, hk2, hb2, hn2⟩ := appended_keeps hb1 hv hN (by decide) (by decide) (by omega) hrow hB.size (Nat.le_refl _) hown' hgrow
          have hc2 := hv1.cell
          have hf2 := hv1.frozen
          refine hK _ _ ?_
          clear hK K
          refine wpAnyIn_ready (rs := [5]) (by kernel_rfl) (by simp) ?_
          refine AllReadyIn.cons rfl (fun K hK => ?_) AllReadyIn.nil
          go_simp
          refine hK _ _ ?_
          clear hK K
          refine wpAnyIn_done (by kernel_rfl) ?_ _
          exact ⟨(hk2.trans (KeepsOthers.refl _)).from _, fun _ => hn2, ⟨⟨⟨_, hv2, unhide (row_snoc hr2), trivial⟩, hB.trans hb2⟩, hn2⟩⟩
        · go_simp
          refine hK _ _ ?_
          clear hK K
          refine wpAnyIn_ready (rs := [0]) (by kernel_rfl) (by simp) ?_
          refine AllReadyIn.cons rfl (fun K hK => ?_) AllReadyIn.nil
          go_simp
          refine hK _ _ ?_
          clear hK K
          refine wpAnyIn_ready (rs := [4]) (by kernel_rfl) (by simp) ?_
          refine AllReadyIn.cons rfl (fun K hK => ?_) AllReadyIn.nil
          refine step_append_own_in rfl _ _ 25 rfl w.heap.size 40 i0 (.agg #[.int .i64 0, .int .i64 0, .int .i64 0]) 3 24 Try.underlying25 hi hz0 hz1 hz2 rfl (by decide) v pre.length _ rfl (World.ownsRow.alloc (row_later hrow hb1) _) ⟨x1.heap.size, 0, none⟩ 1 1 [.int .i64 x.1.1, .int .i64 x.1.2.1, .int .i64 x.1.2.2] rfl rfl (k3_new _ _ _ _ _ _ rfl) (k3_one _ _ _) (unhide bd).1 (unhide bd).2 (size_alloc_le hbs _) ?_
          intro v' w1 hown' hgrow _
          obtain ⟨g', cap', rfl⟩ := ownsRow_succ hown'
          obtain ⟨hv1, hv2, hr2, hk2, hb2, hn2⟩ := appended_keeps hb1 hv hN (by decide) (by decide) (by omega) hrow hB.size (Nat.le_refl _) hown' hgrow
          have hc2 := hv1.cell
          have hf2 := hv1.frozen
          refine hK _ _ ?_
          clear hK K
          refine wpAnyIn_ready (rs := [5]) (by kernel_rfl) (by simp) ?_
          refine AllReadyIn.cons rfl (fun K hK => ?_) AllReadyIn.nil
          go_simp
          refine hK _ _ ?_
          clear hK K
          refine wpAnyIn_done (by kernel_rfl) ?_ _
          exact ⟨(hk2.trans (KeepsOthers.refl _)).from _, fun _ => hn2, ⟨⟨⟨_, hv2, unhide (row_snoc hr2), trivial⟩, hB.trans hb2⟩, hn2⟩⟩
  case done =>
    rintro D ys W hD hys ⟨⟨⟨v, hv, hrow, _⟩, hB⟩, hN⟩ hK
    have hc := hv.cell
    gi_wp2
    refine ⟨by simp, .inl ⟨_, _, rfl, run_takeDeferred hK, ?_⟩⟩
    refine ⟨_, results_tmp rfl _ _ _, v, rfl, ?_, hB.trans (belowK_b (w := w) (Nat.le_refl _) W D _ _ (by simp at hD; omega) hK rfl rfl)⟩
    rw [← hys]
    have := ownsRow_putObj hrow (.deferred none) hK rfl
    unfold KOwn
    rw [List.length_map]
    exact this
  case stop =>
    rintro D c pre W _ _ h _
    exact h.elim

end Go.Proofs.Ytlncdcdblmpmgaa
