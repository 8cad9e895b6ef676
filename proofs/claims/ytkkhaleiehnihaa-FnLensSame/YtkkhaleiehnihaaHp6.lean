/- The program's heap of groups: the one on top is taken. -/
import Derived.Test.YtkkhaleiehnihaaHp4
import Derived.Test.YtkkhaleiehnihaaHp5
namespace Go.Proofs.Ytkkhaleiehnihaa
open Go.RowKit Corb

theorem grp_cut (g n cap k : Nat) (hk : k ≤ cap) (hc : 0 < cap) (W : World) : (Instr.slice 55 (.slice (some ⟨g, 0, none⟩) n cap) none (some (.int .i64 (k : Int))) none).run Try.prog W = .ok (.slice (some ⟨g, 0, none⟩) k cap) W := by
  have h1 : (k : Int) ≤ (cap : Int) := by omega
  have h2 : ¬ ((k : Int) < 0) := by omega
  have hk' : (cap == 0) = false := by simp; omega
  go_simp
theorem trow_pop {w : World} {base g cap n : Nat} {l : List Grp} (hn : l.length = n + 1) (h : Trow 44 w base (.slice (some ⟨g, 0, none⟩) (n + 1) cap) l) : Trow 44 w base (.slice (some ⟨g, 0, none⟩) n cap) (l.take n) := by
  have e : tcells l = tcells (l.take n) ++ tcells (l.drop n) := by rw [← tcells_append, List.take_append_drop]
  have hl : (l.take n).length = n := by rw [List.length_take]; omega
  unfold Trow at h ⊢
  rw [hn, e] at h
  rw [hl]
  exact ownsRow_pop (by rw [tcells_len, hl]) h

theorem ownsRow_setOther {w : World} {base size g k o n m cap : Nat} {e : TypeId} {xs : List Value} (h : w.ownsRow base e size (.slice (some ⟨g, 0, none⟩) n cap) m xs) (hg : k ≠ g) (u : Value) : (w.setCell ⟨k, o, none⟩ u).ownsRow base e size (.slice (some ⟨g, 0, none⟩) n cap) m xs := by
  refine ⟨h.1, ?_⟩
  rcases h.2 with hn | ⟨g1, cap, cur, e, hbg, hgg, rest⟩
  · exact .inl hn
  · refine .inr ⟨g1, cap, cur, e, hbg, ?_, rest⟩
    simp only [Value.slice.injEq, Option.some.injEq, Addr.mk.injEq, and_true] at e
    rw [Below.heap_setCell w ⟨k, o, none⟩ u g1 (by show g1 ≠ k; omega)]
    exact hgg
theorem Heap.setOther {w : World} {b base g k o n cap : Nat} {L : List Grp} (h : Heap w b base (.slice (some ⟨g, 0, none⟩) n cap) L) (hb : k ≠ b) (hg : k ≠ g) (u : Value) : Heap (w.setCell ⟨k, o, none⟩ u) b base (.slice (some ⟨g, 0, none⟩) n cap) L :=
  ⟨(Below.heap_setCell w ⟨k, o, none⟩ u b (fun e => hb e.symm)).trans h.1, ownsRow_setOther h.2 hg u⟩
theorem three_cells {w : World} {b : Nat} {x y z : Value} {t : TypeId} (h : w.heap[b]? = some (Obj.cells #[x, y, z] t)) : Three w b x y z :=
  ⟨by simp [World.cell?, h], by simp [World.cell?, h], by simp [World.cell?, h], by simp [World.frozen?, h], by simp [World.frozen?, h], by simp [World.frozen?, h], (Array.getElem?_eq_some_iff.1 h).1⟩
theorem heap_push (w : World) (o : Obj) : (w.alloc o).heap[w.heap.size]? = some o := Array.getElem?_push_size

set_option maxHeartbeats 1600000 in
theorem take_any (b g N cap : Nat) (L : List Grp) (w : World) (hS : Syms w (b + 1) L) (hn : L.length = N + 1) (hm : N < 300) (h : Heap w b (b + 1) (.slice (some ⟨g, 0, none⟩) (N + 1) cap) L) (hp : HP L) :
    Calls Try.prog 39 #[.pointer (some ⟨b, 0, none⟩)] w fun e w' => e = .returned (.agg #[.int .i64 (L.getD 0 g0).cnt, .int .i64 (L.getD 0 g0).fst, (L.getD 0 g0).val]) ∧ ∃ M : List Grp, (L.getD 0 g0 :: M).Perm L ∧ HP M ∧ Heap w' b (b + 1) (.slice (some ⟨g, 0, none⟩) N cap) M ∧ Below b w w' ∧ KeepT 3 w w' := by
  have hmI : (N : Int) < 300 := by omega
  have hlt := h.lt
  have hcap := h.2.cap hn
  have HS := hide hS
  have HN := hide (And.intro hn hm)
  have H0 := hide (And.intro h hp)
  have hB1 : Below w.heap.size w (w.alloc (.cells #[.int .i64 0, .int .i64 0, .slice none 0 0] 44)) := (Below.refl _ _).alloc (Nat.le_refl _) _
  have HZ := hide (heapSize_any b (b + 1) (N + 1) cap (some ⟨g, 0, none⟩) L _ (h.later hB1))
  have HW := hide (swap_any b (b + 1) (b + 1) g (N + 1) cap 0 N L _ ((KeepG.below (g := g) hB1).syms hS) hn (by omega) (h.later hB1) (Nat.lt_succ_self _) (by omega) (by omega))
  have hB1' := hide hB1
  clear hS hn h hp hB1
  go_enter Try.func39, Try.ntmps39
  go_wp2_with fail
  refine (unhide HZ).mono ?_
  rintro e y1 ⟨rfl, hy1⟩
  rw [hy1]
  clear hy1 y1
  go_wp2_with fail
  refine (unhide HW).mono ?_
  rintro e x1 ⟨rfl, hh1, hb1, hk1⟩
  have hg1 := (World.ownsRow.lt (unhide H0).1.2 g rfl).2
  have hlen1 : (swapG L 0 N).length = N + 1 := by rw [swapG_len]; exact (unhide HN).1
  obtain ⟨c0, c1, c2, _, hgx⟩ := hh1.2.at hlen1 N (Nat.lt_succ_self _)
  rw [swapG_snd (by rw [(unhide HN).1]; exact Nat.lt_succ_self _)] at c0 c1 c2
  have hA := unhide HS (L.getD 0 g0) (getD_mem L 0 (by rw [(unhide HN).1]; exact Nat.succ_pos _))
  obtain ⟨aa, ac, hav⟩ := hA.form
  rw [hav] at c2
  have hbc := hh1.cell
  have hbf := hh1.frz
  have hb2 := hh1.lt
  have hbg : b ≠ g := by have := (World.ownsRow.lt (unhide H0).1.2 g rfl).1; omega
  have hx1s : w.heap.size < x1.heap.size := by have := hk1.2.1; simp at this; omega
  have hcut := grp_cut g (N + 1) cap N (by omega) (by omega)
  have hcapI : (cap : Int) ≤ 9223372036854775807 := by have := hcap.2; unfold maxLen at this; omega
  have hcapI2 : (N : Int) + 1 ≤ (cap : Int) := by have := hcap.1; omega
  have hr0 : x1.heap[w.heap.size]? = some (Obj.cells #[.int .i64 0, .int .i64 0, .slice none 0 0] 44) := by
    rw [hk1.2.2 w.heap.size (by simp) (by omega)]
    exact heap_push _ _
  have HX := hide (And.intro hh1 (And.intro hb1 (And.intro hk1 (And.intro hlen1 (And.intro hav hr0)))))
  clear hh1 hb1 hk1 hlen1 hcap hgx hA hr0 hm HZ HW
  generalize hAA : (L.getD 0 g0).cnt = Ac at *
  generalize hAF : (L.getD 0 g0).fst = Af at *
  generalize hAS : (L.getD 0 g0).syms.length = An at *
  have HAA := hide (And.intro hAA (And.intro hAF hAS))
  clear hAA hAF hAS hav
  go_wp2_with fail
  have HY : Hid (Heap ((x1.setCell ⟨b, 0, none⟩ (.slice (some ⟨g, 0, none⟩) N cap)).alloc (.cells #[.int .i64 Ac, .int .i64 Af, .slice aa An ac] 44)) b (b + 1) (.slice (some ⟨g, 0, none⟩) N cap) ((swapG L 0 N).take N) ∧
      Below b w ((x1.setCell ⟨b, 0, none⟩ (.slice (some ⟨g, 0, none⟩) N cap)).alloc (.cells #[.int .i64 Ac, .int .i64 Af, .slice aa An ac] 44)) ∧
      KeepT 3 w ((x1.setCell ⟨b, 0, none⟩ (.slice (some ⟨g, 0, none⟩) N cap)).alloc (.cells #[.int .i64 Ac, .int .i64 Af, .slice aa An ac] 44)) ∧
      ((x1.setCell ⟨b, 0, none⟩ (.slice (some ⟨g, 0, none⟩) N cap)).alloc (.cells #[.int .i64 Ac, .int .i64 Af, .slice aa An ac] 44)).heap[w.heap.size]? = some (Obj.cells #[.int .i64 0, .int .i64 0, .slice none 0 0] 44) ∧
      ((x1.setCell ⟨b, 0, none⟩ (.slice (some ⟨g, 0, none⟩) N cap)).alloc (.cells #[.int .i64 Ac, .int .i64 Af, .slice aa An ac] 44)).heap[x1.heap.size]? = some (Obj.cells #[.int .i64 Ac, .int .i64 Af, .slice aa An ac] 44)) := by
    obtain ⟨hh1, hb1, hk1, hlen1, hav, hr0⟩ := unhide HX
    have hsz : (x1.setCell ⟨b, 0, none⟩ (.slice (some ⟨g, 0, none⟩) N cap)).heap.size = x1.heap.size := by simp
    refine ⟨⟨?_, ?_⟩, ?_, ?_, ?_, ?_⟩
    · rw [Below.heap_alloc _ _ b (by rw [hsz]; exact hb2)]
      exact box_set hh1.1 _
    · exact World.ownsRow.alloc (ownsRow_setCell_below (trow_pop hlen1 hh1.2) (Nat.lt_succ_self _) _) _
    · exact (below_set (((unhide hB1').mono (Nat.le_of_lt hlt)).trans hb1) (Nat.le_refl _) _).alloc (by rw [hsz]; omega) _
    · exact (((KeepT.below (unhide hB1')).trans hk1.1).set hh1.1 (by decide) _).alloc _
    · rw [Below.heap_alloc _ _ w.heap.size (by rw [hsz]; exact hx1s), Below.heap_setCell _ _ _ _ (by show w.heap.size ≠ b; omega)]
      exact hr0
    · rw [← hsz]
      exact heap_push _ _
  generalize (x1.setCell ⟨b, 0, none⟩ (.slice (some ⟨g, 0, none⟩) N cap)).alloc (.cells #[.int .i64 Ac, .int .i64 Af, .slice aa An ac] 44) = Y at *
  have HK : Hid (Calls Try.prog 45 #[.iface 40 (.pointer (some ⟨b, 0, none⟩)), .int .i64 ((0 : Nat) : Int)] Y fun e w' => e = .returned (.tuple #[]) ∧ ∃ M : List Grp, M.Perm ((swapG L 0 N).take N) ∧ HP M ∧ Heap w' b (b + 1) (.slice (some ⟨g, 0, none⟩) N cap) M ∧ Below b Y w' ∧ KeepG g Y w') := by
    obtain ⟨hY1, hY2, hY3, hY4, hY5⟩ := unhide HY
    obtain ⟨hn, hm⟩ := unhide HN
    have hsy : Syms Y (b + 1) ((swapG L 0 N).take N) := fun x hx => hY3.syms (unhide HS) x ((swapG_perm (by omega) (by omega)).mem_iff.1 (List.mem_of_mem_take hx))
    exact heapSink_any b g N cap 0 _ Y hsy (by rw [List.length_take, swapG_len]; omega) (by omega) hY1 (Nat.zero_le _) (by have h1 := hp_cut (unhide H0).2; rw [hn] at h1; exact h1)
  refine (unhide HK).mono ?_
  rintro e x5 ⟨rfl, M, hM, hHP, hh5, hb5, hk5⟩
  have HF : Hid (Heap x5 b (b + 1) (.slice (some ⟨g, 0, none⟩) N cap) M ∧ Below b w x5 ∧ KeepT 3 w x5 ∧ x5.heap[w.heap.size]? = some (Obj.cells #[.int .i64 0, .int .i64 0, .slice none 0 0] 44) ∧ M.Perm ((swapG L 0 N).take N) ∧ HP M) := by
    obtain ⟨hY1, hY2, hY3, hY4, hY5⟩ := unhide HY
    exact ⟨hh5, hY2.trans hb5, hY3.trans hk5.1, (hk5.2.2 _ (heap_lt hY4) (by omega)).trans hY4, hM, hHP⟩
  have hT1 : Three x5 w.heap.size _ _ _ := three_cells (unhide HF).2.2.2.1
  have hT2 : Three x5 x1.heap.size (.int .i64 Ac) (.int .i64 Af) (.slice aa An ac) := by
    obtain ⟨hY1, hY2, hY3, hY4, hY5⟩ := unhide HY
    exact three_cells ((hk5.2.2 _ (heap_lt hY5) (by omega)).trans hY5)
  clear hM hHP hh5 hb5 hk5 HK
  obtain ⟨p0, p1, p2, q0, q1, q2, hps⟩ := hT1
  obtain ⟨r0, r1, r2, s0, s1, s2, hrs⟩ := hT2
  go_wp2_with fail
  obtain ⟨hh1, hb1, hk1, hlen1, hav, hr0⟩ := unhide HX
  obtain ⟨fh, fb, fk, fr, fM, fP⟩ := unhide HF
  obtain ⟨eA, eF, eS⟩ := unhide HAA
  have hTt := (((Three.set0 ⟨p0, p1, p2, q0, q1, q2, hps⟩ (.int .i64 Ac)).set1 (.int .i64 Af)).set2 (.slice aa An ac))
  have hTo := ((((Touch.refl (some ⟨w.heap.size, 0, none⟩) x5).set (o := 0) rfl (.int .i64 Ac)).set (o := 1) rfl (.int .i64 Af)).set (o := 2) rfl (.slice aa An ac))
  have hbel := below_set (below_set (below_set fb (b := w.heap.size) (o := 0) (Nat.le_of_lt hlt) (.int .i64 Ac)) (b := w.heap.size) (o := 1) (Nat.le_of_lt hlt) (.int .i64 Af)) (b := w.heap.size) (o := 2) (Nat.le_of_lt hlt) (.slice aa An ac)
  have hke := fk.trans (KeepT.touch fr (by decide) hTo)
  have hhe := ((fh.setOther (k := w.heap.size) (o := 0) (by omega) (by omega) (.int .i64 Ac)).setOther (k := w.heap.size) (o := 1) (by omega) (by omega) (.int .i64 Af)).setOther (k := w.heap.size) (o := 2) (by omega) (by omega) (.slice aa An ac)
  generalize ((x5.setCell ⟨w.heap.size, 0, none⟩ (.int .i64 Ac)).setCell ⟨w.heap.size, 1, none⟩ (.int .i64 Af)).setCell ⟨w.heap.size, 2, none⟩ (.slice aa An ac) = Z at *
  obtain ⟨t0, t1, t2, _, _, _, _⟩ := hTt
  refine bodyPost_ret (v := .agg #[.int .i64 Ac, .int .i64 Af, .slice aa An ac]) (by simp [results, Try.results39, go_sem, t0, t1, t2]) rfl ⟨?_, M, ?_, fP, hhe, hbel, hke⟩
  · rw [eA, eF, hav]
  · have hn := (unhide HN).1
    have h1 := cut_perm (L := L) (by omega)
    rw [hn] at h1
    exact (fM.cons _).trans h1

end Go.Proofs.Ytkkhaleiehnihaa
