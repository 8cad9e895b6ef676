/- Groups without one: the model's, over this seat's program. -/
import Derived.Test.YtkkhaleiehnihaaTr2
namespace Go.Proofs.Ytkkhaleiehnihaa
open Go.RowKit

theorem Try.infoTree : (Try.prog.info? 52).map (fun i => (i.zero, i.size, i.bytes)) = some (some (.agg #[.int .i64 0, .int .i64 0, .slice none 0 0]), 3, 40) := by kernel_rfl
theorem trow_cat {t : TypeId} {x : World} {base n m : Nat} {v : Value} {l r : List Grp} (hn : l.length = n) (hm : r.length = m) (h : x.ownsRow base t 3 v (n + m) (tcells l ++ tcells r)) : Trow t x base v (l ++ r) := by
  subst hn hm
  show World.ownsRow _ _ _ _ _ (l ++ r).length _
  rw [List.length_append, tcells_append]
  exact h

theorem tree_cut_h (g n cap k : Nat) (hk : k ≤ cap) (hc : 0 < cap) (W : World) : (Instr.slice 50 (.slice (some ⟨g, 0, none⟩) n cap) none (some (.int .i64 (k : Int))) none).run Try.prog W = .ok (.slice (some ⟨g, 0, none⟩) k cap) W := by
  have hne : ¬ cap = 0 := by omega
  have hle : (k : Int) ≤ (cap : Int) := by omega
  have h0 : (0 : Int) ≤ (k : Int) := by omega
  go_simp
theorem tree_cut_l (g n cap k : Nat) (hk : k ≤ n) (W : World) : (Instr.slice 50 (.slice (some ⟨g, 0, none⟩) n cap) (some (.int .i64 ((k : Int)))) none none).run Try.prog W = .ok (.slice (some ⟨g, if cap = k then 0 else k * 3, none⟩) (n - k) (cap - k)) W := by
  have hle : (k : Int) ≤ (n : Int) := by omega
  have h0 : (0 : Int) ≤ (k : Int) := by omega
  by_cases hc : cap = k
  · go_simp
  · go_simp

set_option maxHeartbeats 1600000 in
theorem l3Less_any (a : Option Addr) (cap n base ob k : Nat) (L : List Grp) (w : World) (hn : L.length = n) (h : Trow 52 w base (.slice a n cap) L) (hs : Syms w ob L) (hk : k < n) (hm : n ≤ 300) :
    Calls Try.prog 43 #[.slice a n cap, .int .i64 (k : Int)] w fun e w' => (∃ v, e = .returned v ∧ Trow 52 w' w.heap.size v (L.eraseIdx k)) ∧ Below w.heap.size w w' := by
  obtain ⟨g, rfl⟩ := h.somes (by omega)
  have hcap := h.cap hn
  have HN := hide hn
  have hmI : (n : Int) ≤ 300 := by omega
  have hkI : (k : Int) < (n : Int) := by omega
  have hcI : (n : Int) ≤ (cap : Int) := by omega
  have hcM : (cap : Int) ≤ 9223372036854775807 := by have := hcap.2; unfold maxLen at this; omega
  have HT := hide h
  have HS := hide hs
  obtain ⟨i0, hi, hz0, hz1, hz2⟩ := info_parts Try.infoTree
  clear h hn hm hs hcap
  obtain ⟨o2, ho2⟩ : ∃ o2, (if cap = k + 1 then 0 else (k + 1) * 3) = o2 := ⟨_, rfl⟩
  have hs1 := tree_cut_h g n cap k (by omega) (by omega)
  have hs2 := tree_cut_l g n cap (k + 1) (by omega)
  have ek : ((k + 1 : Nat) : Int) = (k : Int) + 1 := by omega
  rw [ek] at hs2
  rw [ho2] at hs2
  have hw1 : IntKind.i64.wrap ((k : Int) + 1) = (k : Int) + 1 := by simp [IntKind.wrap, IntKind.bits, IntKind.signed]; omega
  have HO := hide ho2
  clear ho2 ek
  have hT1 : Hid (∀ W, Below w.heap.size w W → ∀ j u, (tcells (L.take k))[j]? = some u → W.cell? ((⟨g, 0, none⟩ : Addr).add j) = some u) := by
    intro W hW j u hj
    exact Trow.news (unhide HN) ((unhide HT).later hW (Nat.le_refl _)) 0 k 0 rfl (by omega) j u (by simpa using hj)
  have hT2 : Hid (∀ W, Below w.heap.size w W → ∀ j u, (tcells (L.drop (k + 1)))[j]? = some u → W.cell? ((⟨g, o2, none⟩ : Addr).add j) = some u) := by
    intro W hW j u hj
    have hN := unhide HN
    by_cases hc : cap = k + 1
    · have hd : L.drop (k + 1) = [] := List.drop_of_length_le (by omega)
      rw [hd] at hj
      simp [tcells] at hj
    · have ho := unhide HO
      rw [if_neg hc] at ho
      refine Trow.news (unhide HN) ((unhide HT).later hW (Nat.le_refl _)) (k + 1) (n - (k + 1)) o2 ho.symm (by omega) j u ?_
      rw [List.take_of_length_le (by rw [List.length_drop]; omega)]
      exact hj
  have hO1 : Hid (∀ u ∈ tcells (L.take k), u.oneCell' = true) := tcells_one (fun g hg => unhide HS g (List.mem_of_mem_take hg))
  have hO2 : Hid (∀ u ∈ tcells (L.drop (k + 1)), u.oneCell' = true) := tcells_one (fun g hg => unhide HS g (List.mem_of_mem_drop hg))
  have hL1 : Hid ((tcells (L.take k)).length = k * 3) := by show (tcells (L.take k)).length = k * 3; rw [tcells_len, List.length_take, unhide HN]; congr 1; omega
  have hL2 : Hid ((tcells (L.drop (k + 1))).length = (n - (k + 1)) * 3) := by show (tcells (L.drop (k + 1))).length = (n - (k + 1)) * 3; rw [tcells_len, List.length_drop, unhide HN]
  have hB0 : ∀ N, Below w.heap.size w ((w.alloc (.cells #[] 52)).drewN N) := fun N => below_drewN ((Below.refl _ _).alloc (Nat.le_refl _) _) N
  have hR0 : World.ownsRow (w.alloc (.cells #[] 52)).drew w.heap.size 52 3 (.slice (some ⟨w.heap.size, 0, none⟩) 0 0) 0 [] := World.ownsRow_lit w #[] 0 (Nat.le_refl _) (by unfold maxLen; omega) rfl
  have hb1 : Hid (0 + k ≤ maxLen ∧ (0 + k) * 40 ≤ 140737488355328) := by show _ ∧ _; unfold maxLen; omega
  have hb2 : Hid (0 + k + (n - (k + 1)) ≤ maxLen ∧ (0 + k + (n - (k + 1))) * 40 ≤ 140737488355328) := by show _ ∧ _; unfold maxLen; omega
  have hBd : Below w.heap.size w (w.alloc (.cells #[] 52)).drew := ((Below.refl _ _).alloc (Nat.le_refl _) _).drew
  have hk0 : (0 : Int) ≤ (k : Int) := by omega
  go_enter Try.func43, Try.ntmps43
  go_wp2_with fail
  go_region_held3 (fun _ => True) (trivial) (first
    | (refine step_append_own rfl (.tmp 5) (.tmp 8) 50 rfl w.heap.size 52 i0 (.agg #[.int .i64 0, .int .i64 0, .slice none 0 0]) 3 40 Try.underlying50 hi hz0 hz1 hz2 rfl (Nat.zero_lt_succ 2) (.slice (some ⟨w.heap.size, 0, none⟩) 0 0) _ _ rfl hR0 ⟨g, 0, none⟩ k cap (tcells (L.take k)) rfl (unhide hL1) (unhide hT1 _ hBd) (unhide hO1) (unhide hb1).1 (unhide hb1).2 hBd.size ?_; intro v1 x1 hown1 hgrow1 hnil1; clear hnil1; have hB1 : Below w.heap.size w x1 := hBd.grown hgrow1 hBd.size (fun j hj => (World.ownsRow.lt hR0 j hj).1))
    | (refine step_append_own rfl (.tmp 9) (.tmp 13) 50 rfl w.heap.size 52 i0 (.agg #[.int .i64 0, .int .i64 0, .slice none 0 0]) 3 40 Try.underlying50 hi hz0 hz1 hz2 rfl (Nat.zero_lt_succ 2) v1 _ _ rfl hown1 ⟨g, o2, none⟩ (n - (k + 1)) (cap - (k + 1)) (tcells (L.drop (k + 1))) rfl (unhide hL2) (unhide hT2 _ hB1) (unhide hO2) (unhide hb2).1 (unhide hb2).2 hB1.size ?_; intro v2 x2 hown2 hgrow2 hnil2; clear hnil2; have hB2 : Below w.heap.size w x2 := hB1.grown hgrow2 hB1.size (fun j hj => (World.ownsRow.lt hown1 j hj).1)))
  have hfin : Trow 52 x2 w.heap.size v2 (L.eraseIdx k) := by
    rw [erase_eqL]
    have hN := unhide HN
    refine trow_cat (n := 0 + k) (m := n - (k + 1)) (by rw [List.length_take]; omega) (by rw [List.length_drop]; omega) ?_
    simpa using hown2
  obtain ⟨va, vc, rfl⟩ := hfin.form
  clear hown1 hown2 hgrow1 hgrow2
  go_wp2
  go_ret
  exact ⟨⟨_, rfl, hfin⟩, hB2⟩

end Go.Proofs.Ytkkhaleiehnihaa
