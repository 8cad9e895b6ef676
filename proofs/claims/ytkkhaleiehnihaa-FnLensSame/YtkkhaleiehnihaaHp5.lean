/- The program's heap of groups: one is laid on it. -/
import Derived.Test.YtkkhaleiehnihaaHp3
import Derived.Test.YtkkhaleiehnihaaStepLaw
namespace Go.Proofs.Ytkkhaleiehnihaa
open Go.RowKit Corb

theorem box_set {w : World} {b : Nat} {v : Value} {t : TypeId} (h : w.heap[b]? = some (Obj.cells #[v] t)) (u : Value) : (w.setCell ⟨b, 0, none⟩ u).heap[b]? = some (Obj.cells #[u] t) := by
  show (w.heap.modify b _)[b]? = _
  rw [Array.getElem?_modify, if_pos rfl, h]
  simp
theorem box_cell {w : World} {b : Nat} {v : Value} {t : TypeId} (h : w.heap[b]? = some (Obj.cells #[v] t)) : w.cell? ⟨b, 0, none⟩ = some v := by simp [World.cell?, h]
theorem box_frz {w : World} {b : Nat} {v : Value} {t : TypeId} (h : w.heap[b]? = some (Obj.cells #[v] t)) : w.frozen? ⟨b, 0, none⟩ = false := by simp [World.frozen?, h]
theorem form_len {w : World} {base : Nat} {v : Value} {l : List Int} (h : IOwn w base v l) : ∃ a cap, v = .slice a l.length cap := h.form

theorem Try.infoGrp : (Try.prog.info? 44).map (fun i => (i.zero, i.size, i.bytes)) = some (some (.agg #[.int .i64 0, .int .i64 0, .slice none 0 0]), 3, 40) := by kernel_rfl

/-- A group that was appended, and the heap's row told anew. -/
theorem laid_after {w W x1 : World} {b n : Nat} {v v' : Value} {L : List Grp} {x : Grp} {o : Obj} (hn : L.length = n) (h : Heap w b (b + 1) v L) (hW : Below w.heap.size w W) (hk : KeepT 3 w W) (hown : x1.ownsRow (b + 1) 44 3 v' (n + 1) (tcells L ++ [.int .i64 x.cnt, .int .i64 x.fst, x.val])) (hg0 : (W.alloc o).drew.grownBy x1 v.ownBlock) :
    (∃ g c, v' = .slice (some ⟨g, 0, none⟩) (n + 1) c) ∧ (x1.heap[b]? = some (Obj.cells #[v] 57)) ∧ Heap (x1.setCell ⟨b, 0, none⟩ v') b (b + 1) v' (L ++ [x]) ∧ Below b w (x1.setCell ⟨b, 0, none⟩ v') ∧ KeepT 3 w (x1.setCell ⟨b, 0, none⟩ v') := by
  have hg : (W.alloc o).grownBy x1 v.ownBlock := ⟨hg0.os, hg0.tape, hg0.output, hg0.size, hg0.block⟩
  have hWs := hW.size
  have hlt := h.lt
  have h1 := h.later hW
  have h2 : Trow 44 (W.alloc o) (b + 1) v L := World.ownsRow.alloc h1.2 _
  have hbk : ∀ k, v.ownBlock = some k → b < k := fun k e => (World.ownsRow.lt h2 k e).1
  have hxb : x1.heap[b]? = some (Obj.cells #[v] 57) := by
    rw [hg.block b (by simp; omega) (fun e => by have := hbk b e.symm; omega), Below.heap_alloc W o b (by omega)]
    exact h1.1
  have hbel : Below b w x1 := (((hW.mono (Nat.le_of_lt hlt)).alloc (by omega) o)).grown hg (by simp; omega) (fun k e => Nat.le_of_lt (hbk k e))
  have hke : KeepT 3 w x1 := (hk.alloc o).grown h2 (by decide) hg
  subst hn
  have hsn := trow_snoc x hown
  obtain ⟨va, vc, e⟩ := hsn.formN (n := L.length + 1) (by simp)
  obtain ⟨g, hga⟩ := (show Trow 44 x1 (b + 1) (.slice va (L.length + 1) vc) (L ++ [x]) by rw [← e]; exact hsn).somes (by simp)
  refine ⟨⟨g, vc, by rw [e, hga]⟩, hxb, ⟨box_set hxb v', ?_⟩, below_set hbel (Nat.le_refl _) _, hke.set hxb (by decide) _⟩
  exact ownsRow_setCell_below hsn (Nat.lt_succ_self _) _

set_option maxHeartbeats 1600000 in
theorem lay_any (b n cap : Nat) (a : Option Addr) (L : List Grp) (x : Grp) (w : World) (hS : Syms w (b + 1) L) (hx : IOwn w (b + 1) x.val x.syms) (hn : L.length = n) (hm : n < 300) (h : Heap w b (b + 1) (.slice a n cap) L) (hp : HP L) :
    Calls Try.prog 41 #[.pointer (some ⟨b, 0, none⟩), .agg #[.int .i64 x.cnt, .int .i64 x.fst, x.val]] w fun e w' => e = .returned (.tuple #[]) ∧ ∃ (M : List Grp) (g cap' : Nat), M.Perm (L ++ [x]) ∧ HP M ∧ Heap w' b (b + 1) (.slice (some ⟨g, 0, none⟩) (n + 1) cap') M ∧ Below b w w' ∧ KeepT 3 w w' := by
  obtain ⟨i0, hi, hz0, hz1, hz2⟩ := info_parts Try.infoGrp
  have hmI : (n : Int) < 300 := by omega
  have hlt := h.lt
  have c0 := h.cell
  have f0 := h.frz
  obtain ⟨xa, xq, hxv⟩ := hx.form
  have HS := hide hS
  have HN := hide (And.intro hn hm)
  have H0 := hide (And.intro h hp)
  have HX := hide (And.intro hx hxv)
  obtain ⟨xc, xf, xs, xv⟩ := x
  simp only at hxv
  subst hxv
  generalize hxn : xs.length = xn at *
  have hlen1 : Hid (n + 1 ≤ maxLen ∧ (n + 1) * 40 ≤ 140737488355328) := by show _ ∧ _; unfold maxLen; omega
  have hR : Hid (World.ownsRow ((w.alloc (.cells #[.int .i64 xc, .int .i64 xf, .slice xa xn xq] 44)).alloc (.cells #[.int .i64 xc, .int .i64 xf, .slice xa xn xq] 44)).drew (b + 1) 44 3 (.slice a n cap) n (tcells L)) := by
    have h2 := h.2
    unfold Trow at h2
    rw [hn] at h2
    exact World.ownsRow.alloc (World.ownsRow.alloc h2 _) _
  have hNw : Hid (∀ (j : Nat) (u : Value), [Value.int .i64 xc, .int .i64 xf, .slice xa xn xq][j]? = some u → World.cell? ((w.alloc (.cells #[.int .i64 xc, .int .i64 xf, .slice xa xn xq] 44)).alloc (.cells #[.int .i64 xc, .int .i64 xf, .slice xa xn xq] 44)).drew ((⟨w.heap.size + 1, 0, none⟩ : Addr).add j) = some u) := three_new _ _ _ _ _ _ (by simp)
  have hSz : Hid (b + 1 ≤ ((w.alloc (.cells #[.int .i64 xc, .int .i64 xf, .slice xa xn xq] 44)).alloc (.cells #[.int .i64 xc, .int .i64 xf, .slice xa xn xq] 44)).drew.heap.size) := by show b + 1 ≤ ((w.alloc (.cells #[.int .i64 xc, .int .i64 xf, .slice xa xn xq] 44)).alloc (.cells #[.int .i64 xc, .int .i64 xf, .slice xa xn xq] 44)).drew.heap.size; simp; omega
  clear hS hn hm h hp hx
  go_enter Try.func41, Try.ntmps41
  go_wp2_with fail
  go_region_law (refine step_append_own rfl (.tmp 8) (.tmp 10) 55 rfl (b + 1) 44 i0 (.agg #[.int .i64 0, .int .i64 0, .slice none 0 0]) 3 40 Try.underlying55 hi hz0 hz1 hz2 rfl (by decide) _ _ _ rfl (unhide hR) ⟨w.heap.size + 1, 0, none⟩ 1 1 [.int .i64 xc, .int .i64 xf, .slice xa xn xq] rfl rfl (unhide hNw) (three_one _ _ _ _ _) (unhide hlen1).1 (unhide hlen1).2 (unhide hSz) ?_; intro v' w' hown hgrow hnil; clear hnil; have HL := hide (laid_after (x := ⟨xc, xf, xs, .slice xa xn xq⟩) (unhide HN).1 (unhide H0).1 ((Below.refl _ _).alloc (Nat.le_refl _) _) ((KeepT.refl _ _).alloc _) hown hgrow); obtain ⟨⟨g', c', hv'⟩, HB, HH⟩ := (unhide HL); subst hv'; clear hown hgrow HL; have c1 := box_cell HB; have f1 := box_frz HB; have HH' := hide HH; clear HH HB)
  all_goals
    go_wp2_with fail
    obtain ⟨hh2, hb2, hk2⟩ := unhide HH'
    have hsy2 := (hk2.syms (unhide HS)).snoc (g := ⟨xc, xf, xs, .slice xa xn xq⟩) (hk2.ints (unhide HX).1)
    have HZ := hide (heapSize_any b (b + 1) (n + 1) c' (some ⟨g', 0, none⟩) _ _ hh2)
    have HR := hide (heapRise_any b g' (n + 1) c' n _ _ hsy2 (by rw [List.length_append, (unhide HN).1]; rfl) (by have := (unhide HN).2; omega) hh2 (Nat.lt_succ_self _) (by have h1 := hp_snoc (unhide H0).2 ⟨xc, xf, xs, .slice xa xn xq⟩; rw [(unhide HN).1] at h1; exact h1))
    clear hh2 hb2 hk2 hsy2
    refine (unhide HZ).mono ?_
    rintro e y1 ⟨rfl, hy1⟩
    rw [hy1]
    clear hy1 y1
    go_wp2_with fail
    refine (unhide HR).mono ?_
    rintro e x3 ⟨rfl, M, hM, hHP, hh3, hb3, hk3⟩
    go_wp2
    go_end0
    obtain ⟨hh2, hb2, hk2⟩ := unhide HH'
    exact ⟨rfl, M, g', c', hM, hHP, hh3, hb2.trans hb3, hk2.trans hk3.1⟩

end Go.Proofs.Ytkkhaleiehnihaa
