/- Of what the proof is made: 5 texts, one behind the other. -/
import Derived.Test.YtnomiopdpmecbaaTr1
import Derived.Deep.RegionHeld3
import Derived.BigQuiet
import Derived.Test.YtnomiopdpmecbaaM5
import Derived.Test.YtnomiopdpmecbaaM3
/- The model's least group, and groups without one, over this seat's program. -/
namespace Go.Proofs.Ytnomiopdpmecbaa
open Go.RowKit

def lessG (x y : Grp) : Bool := decide (x.cnt < y.cnt) || (decide (x.cnt = y.cnt) && decide (x.fst < y.fst))
/-- The place of the least among the first k and one more. -/
def leastF (L : List Grp) : Nat → Nat
  | 0 => 0
  | k + 1 => if lessG (L.getD (k + 1) g0) (L.getD (leastF L k) g0) then k + 1 else leastF L k
def least (L : List Grp) : Nat := leastF L (L.length - 1)
theorem leastF_le (L : List Grp) (k : Nat) : leastF L k ≤ k := by
  induction k with
  | zero => exact Nat.le_refl _
  | succ k ih => simp only [leastF]; split <;> omega
theorem least_lt (L : List Grp) (h : 0 < L.length) : least L < L.length := by
  have := leastF_le L (L.length - 1)
  unfold least; omega

theorem erase_eqL (L : List Grp) (k : Nat) : L.eraseIdx k = L.take k ++ L.drop (k + 1) := List.eraseIdx_eq_take_drop_succ L k

set_option maxHeartbeats 1600000 in
theorem l3Least_any (a : Option Addr) (cap n base : Nat) (L : List Grp) (w : World) (hn : L.length = n) (h : Trow 89 w base (.slice a n cap) L) (h1 : 1 ≤ n) (hm : n ≤ 300) :
    Calls Try.prog 53 #[.slice a n cap] w fun e w' => e = .returned (.int .i64 (least L : Nat)) ∧ Below w.heap.size w w' := by
  obtain ⟨g, rfl⟩ := h.somes (by omega)
  have HN := hide hn
  have hmI : (n : Int) ≤ 300 := by omega
  have HT := hide h
  clear h hn hm
  go_enter Try.func53, Try.ntmps53
  go_wp2_with fail
  go_loopw [3, 4] (fun b i wr => ∃ k : Nat, k < n ∧ i = .int .i64 ((k : Int) + 1) ∧ b = .int .i64 (leastF L k : Nat) ∧ Below w.heap.size w wr) (fun _ i _ => n + 1 - (intOf i).toNat)
  case atStart => exact ⟨0, by omega, rfl, rfl, Below.refl _ _⟩
  case round =>
    obtain ⟨k, hk, rfl, rfl, hbel⟩ := hrel
    have HB := hide hbel
    have HTr := hide ((unhide HT).later hbel (Nat.le_refl _))
    clear hbel
    by_cases hlt : k + 1 < n
    · have hltI : (k : Int) + 1 < (n : Int) := by omega
      have hle := leastF_le L k
      obtain ⟨c0, c1, _, _, _⟩ := (unhide HTr).at (unhide HN) (k + 1) hlt
      obtain ⟨d0, d1, _, _, _⟩ := (unhide HTr).at (unhide HN) (leastF L k) (by omega)
      have hst : Hid (leastF L (k + 1) = if lessG (L.getD (k + 1) g0) (L.getD (leastF L k) g0) then k + 1 else leastF L k) := rfl
      have hls : Hid (∀ x y : Grp, lessG x y = (decide (x.cnt < y.cnt) || (decide (x.cnt = y.cnt) && decide (x.fst < y.fst)))) := fun _ _ => rfl
      have qI : ((leastF L k : Nat) : Int) < (n : Int) := by omega
      have hst2 : Hid (leastF L (k + 1) = if (decide ((L.getD (k + 1) g0).cnt < (L.getD (leastF L k) g0).cnt) || (decide ((L.getD (k + 1) g0).cnt = (L.getD (leastF L k) g0).cnt) && decide ((L.getD (k + 1) g0).fst < (L.getD (leastF L k) g0).fst))) then k + 1 else leastF L k) := rfl
      clear hst hls hle
      generalize leastF L k = q at *
      generalize (L.getD (k + 1) g0).cnt = x0 at *
      generalize (L.getD (k + 1) g0).fst = x1 at *
      generalize (L.getD q g0).cnt = y0 at *
      generalize (L.getD q g0).fst = y1 at *
      by_cases h0 : x0 < y0
      · have e0 : decide (x0 < y0) = true := decide_eq_true h0
        have hst3 : Hid (leastF L (k + 1) = k + 1) := by have := unhide hst2; rw [e0] at this; exact hide (by simpa using this)
        go_wp2_with fail
        go_quiet (fail)
        go_wp2
        go_roundw
        case rel => exact ⟨k + 1, hlt, by go_num, by rw [unhide hst3]; go_num, below_drewN (unhide HB) _⟩
        case measure => simp [intOf]; omega
      · have e0 : decide (x0 < y0) = false := decide_eq_false h0
        by_cases h2 : x0 = y0
        · subst h2
          have g1 : (x0 == x0) = true := by simp
          by_cases h3 : x1 < y1
          · have e1 : decide (x1 < y1) = true := decide_eq_true h3
            have hst3 : Hid (leastF L (k + 1) = k + 1) := by have := unhide hst2; rw [e0, e1] at this; exact hide (by simpa using this)
            go_wp2_with fail
            go_quiet (fail)
            go_wp2
            go_roundw
            case rel => exact ⟨k + 1, hlt, by go_num, by rw [unhide hst3]; go_num, below_drewN (unhide HB) _⟩
            case measure => simp [intOf]; omega
          · have e1 : decide (x1 < y1) = false := decide_eq_false h3
            have hst3 : Hid (leastF L (k + 1) = q) := by have := unhide hst2; rw [e0, e1] at this; exact hide (by simpa using this)
            go_wp2_with fail
            go_quiet (fail)
            go_wp2
            go_roundw
            case rel => exact ⟨k + 1, hlt, by go_num, by rw [unhide hst3], below_drewN (unhide HB) _⟩
            case measure => simp [intOf]; omega
        · have g1 : (x0 == y0) = false := by simpa using h2
          have hst3 : Hid (leastF L (k + 1) = q) := by have := unhide hst2; rw [e0, decide_eq_false h2] at this; exact hide (by simpa using this)
          go_wp2_with fail
          go_quiet (fail)
          go_wp2
          go_roundw
          case rel => exact ⟨k + 1, hlt, by go_num, by rw [unhide hst3], below_drewN (unhide HB) _⟩
          case measure => simp [intOf]; omega
    · have hkn : Hid (least L = leastF L k) := by
        show least L = leastF L k
        unfold least
        rw [unhide HN]
        congr 1; omega
      have hltI : ¬ (k : Int) + 1 < (n : Int) := by omega
      go_wp2
      go_ret
      exact ⟨ret_int (by rw [unhide hkn]), unhide HB⟩

end Go.Proofs.Ytnomiopdpmecbaa
/- Groups without one: the model's, over this seat's program. -/
namespace Go.Proofs.Ytnomiopdpmecbaa
open Go.RowKit

theorem Try.infoTree : (Try.prog.info? 89).map (fun i => (i.zero, i.size, i.bytes)) = some (some (.agg #[.int .i64 0, .int .i64 0, .slice none 0 0]), 3, 40) := by kernel_rfl
theorem trow_cat {t : TypeId} {x : World} {base n m : Nat} {v : Value} {l r : List Grp} (hn : l.length = n) (hm : r.length = m) (h : x.ownsRow base t 3 v (n + m) (tcells l ++ tcells r)) : Trow t x base v (l ++ r) := by
  subst hn hm
  show World.ownsRow _ _ _ _ _ (l ++ r).length _
  rw [List.length_append, tcells_append]
  exact h

theorem tree_cut_h (g n cap k : Nat) (hk : k ≤ cap) (hc : 0 < cap) (W : World) : (Instr.slice 87 (.slice (some ⟨g, 0, none⟩) n cap) none (some (.int .i64 (k : Int))) none).run Try.prog W = .ok (.slice (some ⟨g, 0, none⟩) k cap) W := by
  have hne : ¬ cap = 0 := by omega
  have hle : (k : Int) ≤ (cap : Int) := by omega
  have h0 : (0 : Int) ≤ (k : Int) := by omega
  go_simp
theorem tree_cut_l (g n cap k : Nat) (hk : k ≤ n) (W : World) : (Instr.slice 87 (.slice (some ⟨g, 0, none⟩) n cap) (some (.int .i64 ((k : Int)))) none none).run Try.prog W = .ok (.slice (some ⟨g, if cap = k then 0 else k * 3, none⟩) (n - k) (cap - k)) W := by
  have hle : (k : Int) ≤ (n : Int) := by omega
  have h0 : (0 : Int) ≤ (k : Int) := by omega
  by_cases hc : cap = k
  · go_simp
  · go_simp

set_option maxHeartbeats 1600000 in
theorem l3Less_any (a : Option Addr) (cap n base ob k : Nat) (L : List Grp) (w : World) (hn : L.length = n) (h : Trow 89 w base (.slice a n cap) L) (hs : Syms w ob L) (hk : k < n) (hm : n ≤ 300) :
    Calls Try.prog 54 #[.slice a n cap, .int .i64 (k : Int)] w fun e w' => (∃ v, e = .returned v ∧ Trow 89 w' w.heap.size v (L.eraseIdx k)) ∧ Below w.heap.size w w' := by
  obtain ⟨g, rfl⟩ := h.somes (by omega)
  have hcap := h.cap hn
  have HN := hide hn
  have hmI : (n : Int) ≤ 300 := by omega
  have hkI : (k : Int) < (n : Int) := by omega
  have hcI : (n : Int) ≤ (cap : Int) := by omega
  have hcM : (cap : Int) ≤ 9223372036854775807 := by have := hcap.2; unfold maxLen at this; omega
  have HT := hide h
  have HS := hide hs
  obtain ⟨i0, hi, hz0, hz1, hz2⟩ := info_parts Try.infoTree
  clear h hn hm hs hcap
  obtain ⟨o2, ho2⟩ : ∃ o2, (if cap = k + 1 then 0 else (k + 1) * 3) = o2 := ⟨_, rfl⟩
  have hs1 := tree_cut_h g n cap k (by omega) (by omega)
  have hs2 := tree_cut_l g n cap (k + 1) (by omega)
  have ek : ((k + 1 : Nat) : Int) = (k : Int) + 1 := by omega
  rw [ek] at hs2
  rw [ho2] at hs2
  have hw1 : IntKind.i64.wrap ((k : Int) + 1) = (k : Int) + 1 := by simp [IntKind.wrap, IntKind.bits, IntKind.signed]; omega
  have HO := hide ho2
  clear ho2 ek
  have hT1 : Hid (∀ W, Below w.heap.size w W → ∀ j u, (tcells (L.take k))[j]? = some u → W.cell? ((⟨g, 0, none⟩ : Addr).add j) = some u) := by
    intro W hW j u hj
    exact Trow.news (unhide HN) ((unhide HT).later hW (Nat.le_refl _)) 0 k 0 rfl (by omega) j u (by simpa using hj)
  have hT2 : Hid (∀ W, Below w.heap.size w W → ∀ j u, (tcells (L.drop (k + 1)))[j]? = some u → W.cell? ((⟨g, o2, none⟩ : Addr).add j) = some u) := by
    intro W hW j u hj
    have hN := unhide HN
    by_cases hc : cap = k + 1
    · have hd : L.drop (k + 1) = [] := List.drop_of_length_le (by omega)
      rw [hd] at hj
      simp [tcells] at hj
    · have ho := unhide HO
      rw [if_neg hc] at ho
      refine Trow.news (unhide HN) ((unhide HT).later hW (Nat.le_refl _)) (k + 1) (n - (k + 1)) o2 ho.symm (by omega) j u ?_
      rw [List.take_of_length_le (by rw [List.length_drop]; omega)]
      exact hj
  have hO1 : Hid (∀ u ∈ tcells (L.take k), u.oneCell' = true) := tcells_one (fun g hg => unhide HS g (List.mem_of_mem_take hg))
  have hO2 : Hid (∀ u ∈ tcells (L.drop (k + 1)), u.oneCell' = true) := tcells_one (fun g hg => unhide HS g (List.mem_of_mem_drop hg))
  have hL1 : Hid ((tcells (L.take k)).length = k * 3) := by show (tcells (L.take k)).length = k * 3; rw [tcells_len, List.length_take, unhide HN]; congr 1; omega
  have hL2 : Hid ((tcells (L.drop (k + 1))).length = (n - (k + 1)) * 3) := by show (tcells (L.drop (k + 1))).length = (n - (k + 1)) * 3; rw [tcells_len, List.length_drop, unhide HN]
  have hB0 : ∀ N, Below w.heap.size w ((w.alloc (.cells #[] 89)).drewN N) := fun N => below_drewN ((Below.refl _ _).alloc (Nat.le_refl _) _) N
  have hR0 : World.ownsRow (w.alloc (.cells #[] 89)).drew w.heap.size 89 3 (.slice (some ⟨w.heap.size, 0, none⟩) 0 0) 0 [] := World.ownsRow_lit w #[] 0 (Nat.le_refl _) (by unfold maxLen; omega) rfl
  have hb1 : Hid (0 + k ≤ maxLen ∧ (0 + k) * 40 ≤ 140737488355328) := by show _ ∧ _; unfold maxLen; omega
  have hb2 : Hid (0 + k + (n - (k + 1)) ≤ maxLen ∧ (0 + k + (n - (k + 1))) * 40 ≤ 140737488355328) := by show _ ∧ _; unfold maxLen; omega
  have hBd : Below w.heap.size w (w.alloc (.cells #[] 89)).drew := ((Below.refl _ _).alloc (Nat.le_refl _) _).drew
  have hk0 : (0 : Int) ≤ (k : Int) := by omega
  go_enter Try.func54, Try.ntmps54
  go_wp2_with fail
  go_region_held3 (fun _ => True) (trivial) (first
    | (refine step_append_own rfl (.tmp 5) (.tmp 8) 87 rfl w.heap.size 89 i0 (.agg #[.int .i64 0, .int .i64 0, .slice none 0 0]) 3 40 Try.underlying87 hi hz0 hz1 hz2 rfl (Nat.zero_lt_succ 2) (.slice (some ⟨w.heap.size, 0, none⟩) 0 0) _ _ rfl hR0 ⟨g, 0, none⟩ k cap (tcells (L.take k)) rfl (unhide hL1) (unhide hT1 _ hBd) (unhide hO1) (unhide hb1).1 (unhide hb1).2 hBd.size ?_; intro v1 x1 hown1 hgrow1 hnil1; clear hnil1; have hB1 : Below w.heap.size w x1 := hBd.grown hgrow1 hBd.size (fun j hj => (World.ownsRow.lt hR0 j hj).1))
    | (refine step_append_own rfl (.tmp 9) (.tmp 13) 87 rfl w.heap.size 89 i0 (.agg #[.int .i64 0, .int .i64 0, .slice none 0 0]) 3 40 Try.underlying87 hi hz0 hz1 hz2 rfl (Nat.zero_lt_succ 2) v1 _ _ rfl hown1 ⟨g, o2, none⟩ (n - (k + 1)) (cap - (k + 1)) (tcells (L.drop (k + 1))) rfl (unhide hL2) (unhide hT2 _ hB1) (unhide hO2) (unhide hb2).1 (unhide hb2).2 hB1.size ?_; intro v2 x2 hown2 hgrow2 hnil2; clear hnil2; have hB2 : Below w.heap.size w x2 := hB1.grown hgrow2 hB1.size (fun j hj => (World.ownsRow.lt hown1 j hj).1)))
  have hfin : Trow 89 x2 w.heap.size v2 (L.eraseIdx k) := by
    rw [erase_eqL]
    have hN := unhide HN
    refine trow_cat (n := 0 + k) (m := n - (k + 1)) (by rw [List.length_take]; omega) (by rw [List.length_drop]; omega) ?_
    simpa using hown2
  obtain ⟨va, vc, rfl⟩ := hfin.form
  clear hown1 hown2 hgrow1 hgrow2
  go_wp2
  go_ret
  exact ⟨⟨_, rfl, hfin⟩, hB2⟩

end Go.Proofs.Ytnomiopdpmecbaa
/- Symbols that are put together: plain mathematics, over this seat's program. -/
namespace Go.Proofs.Ytnomiopdpmecbaa
open Go.RowKit

def bare (g : Grp) : Grp := ⟨g.cnt, g.fst, g.syms, .slice none 0 0⟩
def seed (l : List Int) : Nat → List Grp
  | 0 => []
  | k + 1 => if 0 < l.getD k 0 then seed l k ++ [⟨l.getD k 0, (k : Int), [(k : Int)], .slice none 0 0⟩] else seed l k
def joinG (a b : Grp) : Grp := ⟨a.cnt + b.cnt, if b.fst < a.fst then b.fst else a.fst, a.syms ++ b.syms, .slice none 0 0⟩
def firstG (M : List Grp) : Grp := M.getD (least M) g0
def restG (M : List Grp) : List Grp := M.eraseIdx (least M)
def stepG (M : List Grp) : List Grp := restG (restG M) ++ [joinG (firstG M) (firstG (restG M))]
def symsG (M : List Grp) : List Int := (firstG M).syms ++ (firstG (restG M)).syms
def bump1 (o : List Int) (i : Int) : List Int := o.set i.toNat (o.getD i.toNat 0 + 1)
def bump (o s : List Int) : List Int := s.foldl bump1 o
def hufI (l : List Int) : Nat → List Grp × List Int
  | 0 => (seed l l.length, List.replicate l.length 0)
  | k + 1 => (stepG (hufI l k).1, bump (hufI l k).2 (symsG (hufI l k).1))
/-- Lengths by counts, however long they are. -/
def hufL (l : List Int) : List Int := if (seed l l.length).length = 1 then (List.replicate l.length 0).set ((seed l l.length).getD 0 g0).fst.toNat 1 else (hufI l ((seed l l.length).length - 1)).2

theorem bump1_len (o : List Int) (i : Int) : (bump1 o i).length = o.length := by simp [bump1]
theorem bump_len (o s : List Int) : (bump o s).length = o.length := by
  induction s generalizing o with
  | nil => rfl
  | cons i s ih => show (bump (bump1 o i) s).length = _; rw [ih, bump1_len]
theorem hufI_len (l : List Int) (k : Nat) : (hufI l k).2.length = l.length := by
  induction k with
  | zero => simp [hufI]
  | succ k ih => simp only [hufI]; rw [bump_len, ih]
theorem hufL_len (l : List Int) : (hufL l).length = l.length := by
  unfold hufL
  split
  · simp
  · exact hufI_len l _
theorem bump_take (o s : List Int) (k : Nat) (h : k < s.length) : bump o (s.take (k + 1)) = bump1 (bump o (s.take k)) (s.getD k 0) := by
  rw [take_snocI s k h]
  simp [bump]

/-! What is bare is as it was. -/
theorem lessG_bare (x y : Grp) : lessG (bare x) (bare y) = lessG x y := rfl
theorem getD_bare (L : List Grp) (k : Nat) : (L.map bare).getD k g0 = bare (L.getD k g0) := by
  simp only [List.getD]
  rw [List.getElem?_map]
  cases L[k]? <;> rfl
theorem leastF_bare (L : List Grp) (k : Nat) : leastF (L.map bare) k = leastF L k := by
  induction k with
  | zero => rfl
  | succ k ih => simp only [leastF]; rw [ih, getD_bare, getD_bare, lessG_bare]
theorem least_bare (L : List Grp) : least (L.map bare) = least L := by
  unfold least
  rw [leastF_bare, List.length_map]
theorem firstG_bare (L : List Grp) : firstG (L.map bare) = bare (firstG L) := by
  unfold firstG
  rw [least_bare, getD_bare]
theorem restG_bare (L : List Grp) : restG (L.map bare) = (restG L).map bare := by
  unfold restG
  rw [least_bare, erase_eqL, erase_eqL, List.map_append, List.map_take, List.map_drop]

theorem step_bare (M : List Grp) : stepG (M.map bare) = (restG (restG M)).map bare ++ [joinG (firstG M) (firstG (restG M))] := by
  unfold stepG
  rw [restG_bare, restG_bare, firstG_bare, firstG_bare]
  rfl
theorem syms_bare (M : List Grp) : symsG (M.map bare) = symsG M := by
  unfold symsG
  rw [restG_bare, firstG_bare, firstG_bare]
  rfl

/-! Bounds. -/
def WFg (n : Nat) (g : Grp) : Prop := 0 ≤ g.cnt ∧ 0 ≤ g.fst ∧ g.fst < (n : Int) ∧ (∀ s ∈ g.syms, 0 ≤ s ∧ s < (n : Int)) ∧ 0 < g.syms.length
def WFL (n : Nat) (M : List Grp) : Prop := ∀ g ∈ M, WFg n g
def totC (M : List Grp) : Int := (M.map Grp.cnt).sum
def totS (M : List Grp) : Nat := (M.map (fun g => g.syms.length)).sum
theorem getD_mem (M : List Grp) (k : Nat) (h : k < M.length) : M.getD k g0 ∈ M := by simp [List.getD, h]
theorem totC_erase (M : List Grp) (k : Nat) (h : k < M.length) : totC M = (M.getD k g0).cnt + totC (M.eraseIdx k) := by
  induction M generalizing k with
  | nil => simp at h
  | cons g M ih =>
    cases k with
    | zero => simp [totC, List.eraseIdx]
    | succ k =>
      have := ih k (by simpa using h)
      simp only [totC, List.eraseIdx_cons_succ, List.map_cons, List.sum_cons, List.getD_cons_succ] at this ⊢
      omega
theorem totS_erase (M : List Grp) (k : Nat) (h : k < M.length) : totS M = (M.getD k g0).syms.length + totS (M.eraseIdx k) := by
  induction M generalizing k with
  | nil => simp at h
  | cons g M ih =>
    cases k with
    | zero => simp [totS, List.eraseIdx]
    | succ k =>
      have := ih k (by simpa using h)
      simp only [totS, List.eraseIdx_cons_succ, List.map_cons, List.sum_cons, List.getD_cons_succ] at this ⊢
      omega
theorem rest_len (M : List Grp) (h : 0 < M.length) : (restG M).length = M.length - 1 := by
  unfold restG
  rw [List.length_eraseIdx, if_pos (least_lt M h)]
theorem totC_append (A B : List Grp) : totC (A ++ B) = totC A + totC B := by simp [totC]
theorem totS_append (A B : List Grp) : totS (A ++ B) = totS A + totS B := by simp [totS]
theorem step_tot (M : List Grp) (h : 1 < M.length) : totC (stepG M) = totC M ∧ totS (stepG M) = totS M ∧ (stepG M).length = M.length - 1 := by
  have h1 := totC_erase M (least M) (least_lt M (by omega))
  have h2 := totS_erase M (least M) (least_lt M (by omega))
  have hr := rest_len M (by omega)
  have h3 := totC_erase (restG M) (least (restG M)) (least_lt _ (by omega))
  have h4 := totS_erase (restG M) (least (restG M)) (least_lt _ (by omega))
  have hr2 := rest_len (restG M) (by omega)
  have e1 : M.getD (least M) g0 = firstG M := rfl
  have e2 : (restG M).getD (least (restG M)) g0 = firstG (restG M) := rfl
  have e3 : M.eraseIdx (least M) = restG M := rfl
  have e4 : (restG M).eraseIdx (least (restG M)) = restG (restG M) := rfl
  rw [e1, e3] at h1 h2
  rw [e2, e4] at h3 h4
  refine ⟨?_, ?_, ?_⟩
  · unfold stepG; rw [totC_append]
    have : totC [joinG (firstG M) (firstG (restG M))] = (firstG M).cnt + (firstG (restG M)).cnt := by simp [totC, joinG]
    omega
  · unfold stepG; rw [totS_append]
    have : totS [joinG (firstG M) (firstG (restG M))] = (firstG M).syms.length + (firstG (restG M)).syms.length := by simp [totS, joinG]
    omega
  · unfold stepG; simp; omega
theorem rest_sub (M : List Grp) : ∀ g ∈ restG M, g ∈ M := fun _ hg => List.mem_of_mem_eraseIdx hg
theorem first_mem (M : List Grp) (h : 0 < M.length) : firstG M ∈ M := getD_mem M _ (least_lt M h)
theorem step_wf {n : Nat} {M : List Grp} (hw : WFL n M) (h : 1 < M.length) : WFL n (stepG M) := by
  have hr := rest_len M (by omega)
  have ha := hw _ (first_mem M (by omega))
  have hb := hw _ (rest_sub M _ (first_mem (restG M) (by omega)))
  intro g hg
  simp only [stepG, List.mem_append, List.mem_singleton] at hg
  rcases hg with hg | rfl
  · exact hw g (rest_sub M _ (rest_sub _ _ hg))
  · obtain ⟨a0, a1, a2, a3, a4⟩ := ha
    obtain ⟨b0, b1, b2, b3, b4⟩ := hb
    refine ⟨?_, ?_, ?_, ?_, ?_⟩
    · simp only [joinG]; omega
    · simp only [joinG]; split <;> assumption
    · simp only [joinG]; split <;> assumption
    · intro s hs
      simp only [joinG, List.mem_append] at hs
      rcases hs with hs | hs
      · exact a3 s hs
      · exact b3 s hs
    · simp only [joinG, List.length_append]; omega
theorem seed_wf (l : List Int) (k : Nat) (hk : k ≤ l.length) : WFL l.length (seed l k) := by
  induction k with
  | zero => intro g hg; simp [seed] at hg
  | succ k ih =>
    simp only [seed]
    split
    case isTrue h =>
      intro g hg
      simp only [List.mem_append, List.mem_singleton] at hg
      rcases hg with hg | rfl
      · exact ih (by omega) g hg
      · refine ⟨by simp only; omega, by simp only; omega, by simp only; omega, ?_, by simp⟩
        intro s hs
        simp only [List.mem_singleton] at hs
        subst hs
        omega
    case isFalse => exact ih (by omega)
theorem seed_tot (l : List Int) (C : Int) (hC : 0 ≤ C) (hl : ∀ i, i < l.length → l.getD i 0 ≤ C) (k : Nat) (hk : k ≤ l.length) : totC (seed l k) ≤ C * k ∧ totS (seed l k) ≤ k ∧ (seed l k).length ≤ k := by
  induction k with
  | zero => simp [seed, totC, totS]
  | succ k ih =>
    obtain ⟨h1, h2, h3⟩ := ih (by omega)
    have hb := hl k (by omega)
    have e : C * ((k + 1 : Nat) : Int) = C * (k : Int) + C := by rw [show ((k + 1 : Nat) : Int) = (k : Int) + 1 by omega, Int.mul_add, Int.mul_one]
    simp only [seed]
    split
    · rw [totC_append, totS_append]
      refine ⟨?_, ?_, ?_⟩
      · simp only [totC, List.map_cons, List.map_nil, List.sum_cons, List.sum_nil] at h1 ⊢
        omega
      · simp only [totS, List.map_cons, List.map_nil, List.sum_cons, List.sum_nil, List.length_singleton] at h2 ⊢
        omega
      · simp; omega
    · refine ⟨by omega, by omega, by omega⟩
/-- What holds behind so many steps. -/
theorem hufI_inv (l : List Int) (k : Nat) (hk : k < (seed l l.length).length ∨ k = 0) : WFL l.length (hufI l k).1 ∧ totC (hufI l k).1 = totC (seed l l.length) ∧ totS (hufI l k).1 = totS (seed l l.length) ∧ (hufI l k).1.length = (seed l l.length).length - k := by
  induction k with
  | zero => exact ⟨seed_wf l _ (Nat.le_refl _), rfl, rfl, rfl⟩
  | succ k ih =>
    obtain ⟨h1, h2, h3, h4⟩ := ih (by omega)
    have hlen : 1 < (hufI l k).1.length := by omega
    obtain ⟨t1, t2, t3⟩ := step_tot _ hlen
    refine ⟨step_wf h1 hlen, by simp only [hufI]; omega, by simp only [hufI]; omega, by simp only [hufI]; omega⟩
theorem cnt_le {n : Nat} {M : List Grp} (hw : WFL n M) {g : Grp} (hg : g ∈ M) : g.cnt ≤ totC M := by
  induction M with
  | nil => cases hg
  | cons x M ih =>
    have hx := (hw x (by simp)).1
    have hM : 0 ≤ totC M := by
      clear ih hg
      have hw' : WFL n M := fun y hy => hw y (by simp [hy])
      clear hw
      induction M with
      | nil => simp [totC]
      | cons y M ih2 =>
        have := ih2 (fun z hz => hw' z (by simp [hz]))
        have hy := (hw' y (by simp)).1
        simp only [totC, List.map_cons, List.sum_cons] at this ⊢
        omega
    simp only [List.mem_cons] at hg
    simp only [totC, List.map_cons, List.sum_cons] at hM ih ⊢
    rcases hg with rfl | hg
    · omega
    · have := ih (fun y hy => hw y (by simp [hy])) hg
      omega
theorem two_cnt {n : Nat} {M : List Grp} (hw : WFL n M) (h : 1 < M.length) : (firstG M).cnt + (firstG (restG M)).cnt ≤ totC M ∧ (symsG M).length ≤ totS M := by
  have hr := rest_len M (by omega)
  have h1 := totC_erase M (least M) (least_lt M (by omega))
  have h2 := totS_erase M (least M) (least_lt M (by omega))
  have h4 := totS_erase (restG M) (least (restG M)) (least_lt _ (by omega))
  have e1 : M.getD (least M) g0 = firstG M := rfl
  have e2 : (restG M).getD (least (restG M)) g0 = firstG (restG M) := rfl
  have e3 : M.eraseIdx (least M) = restG M := rfl
  rw [e1, e3] at h1 h2
  rw [e2] at h4
  have hc := cnt_le (n := n) (M := restG M) (fun g hg => hw g (rest_sub M _ hg)) (first_mem (restG M) (by omega))
  refine ⟨by omega, ?_⟩
  unfold symsG
  rw [List.length_append]; omega

/-! Lengths stay small. -/
def maxL (o : List Int) (B : Int) : Prop := ∀ i, i < o.length → 0 ≤ o.getD i 0 ∧ o.getD i 0 ≤ B
theorem bump1_max {o : List Int} {B : Int} (h : maxL o B) (i : Int) : maxL (bump1 o i) (B + 1) := by
  intro j hj
  rw [bump1_len] at hj
  have hj' := h j hj
  by_cases e : i.toNat = j
  · subst e
    simp only [bump1, List.getD]
    rw [List.getElem?_set_self hj]
    simp only [Option.getD_some]
    have := h i.toNat hj
    simp only [List.getD] at this
    omega
  · have : (bump1 o i).getD j 0 = o.getD j 0 := by
      simp only [bump1, List.getD]
      rw [List.getElem?_set_ne e]
    rw [this]; omega
theorem bump_max {o : List Int} {B : Int} (h : maxL o B) (s : List Int) : maxL (bump o s) (B + s.length) := by
  induction s generalizing o B with
  | nil => intro i hi; have := h i hi; simp only [bump, List.foldl_nil, List.length_nil]; omega
  | cons i s ih =>
    have := ih (bump1_max h i)
    intro j hj
    have h2 := this j hj
    simp only [List.length_cons]
    show 0 ≤ (bump (bump1 o i) s).getD j 0 ∧ _
    refine ⟨h2.1, ?_⟩
    have := h2.2
    show (bump (bump1 o i) s).getD j 0 ≤ _
    omega
theorem hufI_max (l : List Int) (hl : ∀ i, i < l.length → l.getD i 0 ≤ 100000) (hn : l.length ≤ 300) (k : Nat) (hk : k < (seed l l.length).length ∨ k = 0) : maxL (hufI l k).2 (300 * (k : Int)) := by
  induction k with
  | zero =>
    intro i hi
    have : (hufI l 0).2.getD i 0 = 0 := by
      simp only [hufI, List.getD]
      simp only [hufI, List.length_replicate] at hi
      simp [hi]
    rw [this]; omega
  | succ k ih =>
    have hi := ih (by omega)
    obtain ⟨h1, h2, h3, h4⟩ := hufI_inv l k (by omega)
    have ht := (two_cnt h1 (by omega)).2
    have hs := (seed_tot l 100000 (by omega) hl l.length (Nat.le_refl _)).2.1
    have hb := bump_max hi (symsG (hufI l k).1)
    intro i hil
    have := hb i hil
    simp only [hufI] at this ⊢
    omega

end Go.Proofs.Ytnomiopdpmecbaa
/- Symbols that are put together: how long codes become; plain mathematics, over this seat's program. -/
namespace Go.Proofs.Ytnomiopdpmecbaa
open Go.RowKit

/-! What is counted once more. -/
theorem bump1_get (o : List Int) (i : Int) (j : Nat) (h0 : 0 ≤ i) (hj : j < o.length) : (bump1 o i).getD j 0 = o.getD j 0 + (if i = (j : Int) then 1 else 0) := by
  by_cases e : i = (j : Int)
  · rw [if_pos e]
    have e2 : i.toNat = j := by omega
    simp only [bump1, List.getD]
    rw [e2, List.getElem?_set_self hj, Option.getD_some]
  · rw [if_neg e]
    have e2 : i.toNat ≠ j := by omega
    simp only [bump1, List.getD]
    rw [List.getElem?_set_ne e2]
    omega
theorem bump_get (o s : List Int) (j : Nat) (hs : s.Nodup) (h0 : ∀ x ∈ s, 0 ≤ x) (hj : j < o.length) : (bump o s).getD j 0 = o.getD j 0 + (if (j : Int) ∈ s then 1 else 0) := by
  induction s generalizing o with
  | nil => simp [bump]
  | cons x s ih =>
    show (bump (bump1 o x) s).getD j 0 = _
    rw [List.nodup_cons] at hs
    rw [ih (bump1 o x) hs.2 (fun y hy => h0 y (by simp [hy])) (by rw [bump1_len]; exact hj), bump1_get o x j (h0 x (by simp)) hj]
    by_cases e : x = (j : Int)
    · subst e
      rw [if_pos rfl, if_neg hs.1, if_pos (by simp)]
      omega
    · rw [if_neg e]
      by_cases h2 : (j : Int) ∈ s
      · rw [if_pos h2, if_pos (by simp [h2])]
        omega
      · rw [if_neg h2, if_neg (by simp only [List.mem_cons, not_or]; exact ⟨fun e2 => e e2.symm, h2⟩)]
        omega

/-! All symbols, each once. -/
def flatS (M : List Grp) : List Int := M.flatMap Grp.syms
theorem perm_erase (M : List Grp) (k : Nat) (h : k < M.length) : (M.getD k g0 :: M.eraseIdx k).Perm M := by
  induction M generalizing k with
  | nil => simp at h
  | cons x M ih =>
    cases k with
    | zero => exact List.Perm.refl _
    | succ k =>
      rw [List.getD_cons_succ, List.eraseIdx_cons_succ]
      exact (List.Perm.swap _ _ _).trans (List.Perm.cons x (ih k (by simpa using h)))
theorem perm_first (M : List Grp) (h : 0 < M.length) : (firstG M :: restG M).Perm M := perm_erase M _ (least_lt M h)
theorem perm_two (M : List Grp) (h : 1 < M.length) : (firstG M :: firstG (restG M) :: restG (restG M)).Perm M := by
  have hr := rest_len M (by omega)
  exact (List.Perm.cons _ (perm_first (restG M) (by omega))).trans (perm_first M (by omega))
theorem flat_perm {A B : List Grp} (h : A.Perm B) : (flatS A).Perm (flatS B) := by
  induction h with
  | nil => exact List.Perm.refl _
  | cons x _ ih =>
    simp only [flatS, List.flatMap_cons] at ih ⊢
    exact List.Perm.append_left _ ih
  | swap x y l =>
    simp only [flatS, List.flatMap_cons]
    rw [← List.append_assoc, ← List.append_assoc]
    exact List.Perm.append_right _ List.perm_append_comm
  | trans _ _ h1 h2 => exact h1.trans h2
theorem flat_step (M : List Grp) (h : 1 < M.length) : (flatS (stepG M)).Perm (flatS M) := by
  refine List.Perm.trans ?_ (flat_perm (perm_two M h))
  unfold stepG flatS
  rw [List.flatMap_append]
  refine List.perm_append_comm.trans ?_
  simp [joinG]
theorem flat_seed (l : List Int) (k : Nat) : (flatS (seed l k)).Nodup ∧ ∀ x ∈ flatS (seed l k), 0 ≤ x ∧ x < (k : Int) := by
  induction k with
  | zero => simp [seed, flatS]
  | succ k ih =>
    simp only [seed]
    split
    · have e : flatS (seed l k ++ [⟨l.getD k 0, (k : Int), [(k : Int)], .slice none 0 0⟩]) = flatS (seed l k) ++ [(k : Int)] := by simp [flatS]
      rw [e]
      refine ⟨?_, ?_⟩
      · rw [List.nodup_append]
        refine ⟨ih.1, by simp, ?_⟩
        intro x hx y hy
        simp only [List.mem_singleton] at hy
        subst hy
        have := (ih.2 x hx).2
        omega
      · intro x hx
        simp only [List.mem_append, List.mem_singleton] at hx
        rcases hx with hx | rfl
        · have := ih.2 x hx; omega
        · omega
    · exact ⟨ih.1, fun x hx => by have := ih.2 x hx; omega⟩
theorem flat_hufI (l : List Int) (k : Nat) (hk : k < (seed l l.length).length ∨ k = 0) : (flatS (hufI l k).1).Nodup ∧ ∀ x ∈ flatS (hufI l k).1, 0 ≤ x ∧ x < (l.length : Int) := by
  induction k with
  | zero => exact flat_seed l _
  | succ k ih =>
    have hi := ih (by omega)
    have hl := (hufI_inv l k (by omega)).2.2.2
    have hp := flat_step (hufI l k).1 (by omega)
    exact ⟨(hp.nodup_iff).2 hi.1, fun x hx => hi.2 x (hp.mem_iff.1 hx)⟩
theorem syms_sub (M : List Grp) (h : 1 < M.length) : ((symsG M) ++ flatS (restG (restG M))).Perm (flatS M) := by
  refine List.Perm.trans ?_ (flat_perm (perm_two M h))
  simp [symsG, flatS]
theorem syms_nodup {M : List Grp} (h : 1 < M.length) (hn : (flatS M).Nodup) : (symsG M).Nodup ∧ ∀ g ∈ restG (restG M), ∀ s ∈ g.syms, s ∉ symsG M := by
  have h2 := ((syms_sub M h).nodup_iff).2 hn
  rw [List.nodup_append] at h2
  refine ⟨h2.1, fun g hg s hs hm => ?_⟩
  exact h2.2.2 s hm s (by simp only [flatS, List.mem_flatMap]; exact ⟨g, hg, hs⟩) rfl
/-- No code is longer than how often two were put together. -/
theorem hufI_depth (l : List Int) (k : Nat) (hk : k < (seed l l.length).length ∨ k = 0) : maxL (hufI l k).2 (k : Int) := by
  induction k with
  | zero =>
    intro i hi
    have : (hufI l 0).2.getD i 0 = 0 := by
      simp only [hufI, List.getD]
      simp only [hufI, List.length_replicate] at hi
      simp [hi]
    rw [this]; omega
  | succ k ih =>
    have hi := ih (by omega)
    have hl := (hufI_inv l k (by omega)).2.2.2
    have hf := flat_hufI l k (by omega)
    have hn := syms_nodup (M := (hufI l k).1) (by omega) hf.1
    intro i hil
    simp only [hufI] at hil ⊢
    rw [bump_len] at hil
    have hpos : ∀ x ∈ symsG (hufI l k).1, 0 ≤ x := fun x hx => (hf.2 x ((syms_sub _ (by omega)).mem_iff.1 (by simp [hx]))).1
    rw [bump_get _ _ i hn.1 hpos hil]
    have := hi i hil
    split <;> omega

/-! Where all come as often. -/
/-- A group of a level: how often it comes, and how long its codes are. -/
def lvlA (K : Nat) (o : List Int) (g : Grp) : Prop := g.cnt = (p2 K : Nat) ∧ ∀ s ∈ g.syms, o.getD s.toNat 0 ≤ (K : Int)
def lvlB (K : Nat) (o : List Int) (g : Grp) : Prop := g.cnt = (p2 (K + 1) : Nat) ∧ ∀ s ∈ g.syms, o.getD s.toNat 0 ≤ (K : Int) + 1
def lvlO (K : Nat) (o : List Int) (g : Grp) : Prop := (p2 K : Nat) < g.cnt ∧ g.cnt < (p2 (K + 1) : Nat) ∧ ∀ s ∈ g.syms, o.getD s.toNat 0 ≤ (K : Int) + 1
def Lvl (K : Nat) (o : List Int) (M : List Grp) : Prop := (∀ g ∈ M, lvlA K o g ∨ lvlB K o g ∨ lvlO K o g) ∧ M.Pairwise (fun x y => ¬ (lvlO K o x ∧ lvlO K o y))
theorem leastF_min (L : List Grp) (k j : Nat) (hj : j ≤ k) : (L.getD (leastF L k) g0).cnt ≤ (L.getD j g0).cnt := by
  induction k with
  | zero => have : j = 0 := by omega
            subst this; exact Int.le_refl _
  | succ k ih =>
    simp only [leastF]
    by_cases e : j = k + 1
    · subst e
      split
      · exact Int.le_refl _
      · rename_i h
        simp only [lessG, Bool.or_eq_true, decide_eq_true_eq, not_or] at h
        have := h.1
        omega
    · have := ih (by omega)
      split
      · rename_i h
        simp only [lessG, Bool.or_eq_true, Bool.and_eq_true, decide_eq_true_eq] at h
        omega
      · exact this
theorem first_min (M : List Grp) (g : Grp) (hg : g ∈ M) : (firstG M).cnt ≤ g.cnt := by
  obtain ⟨i, hi, rfl⟩ := List.getElem_of_mem hg
  have := leastF_min M (M.length - 1) i (by omega)
  have e : M.getD i g0 = M[i] := by simp [List.getD, hi]
  rw [e] at this
  exact this
theorem lvlO_cnt {K : Nat} {o : List Int} {g : Grp} (h : lvlO K o g) : ((p2 K : Nat) : Int) < g.cnt ∧ g.cnt < ((p2 (K + 1) : Nat) : Int) := ⟨h.1, h.2.1⟩
theorem lvl_step {K : Nat} {o : List Int} {M : List Grp} (h : 1 < M.length) (hL : Lvl K o M) (hn : (flatS M).Nodup) (hx : ∀ x ∈ flatS M, 0 ≤ x ∧ x < (o.length : Int)) : Lvl K (bump o (symsG M)) (stepG M) ∨ Lvl (K + 1) (bump o (symsG M)) (stepG M) := by
  have hr := rest_len M (by omega)
  obtain ⟨hs1, hs2⟩ := syms_nodup h hn
  have hsub := syms_sub M h
  have hpos : ∀ x ∈ symsG M, 0 ≤ x := fun x hm => (hx x (hsub.mem_iff.1 (by simp [hm]))).1
  have ha := first_mem M (by omega)
  have hb := rest_sub M _ (first_mem (restG M) (by omega))
  have hR : ∀ g ∈ restG (restG M), g ∈ M := fun g hg => rest_sub M _ (rest_sub _ _ hg)
  have hab : (firstG M).cnt ≤ (firstG (restG M)).cnt := first_min M _ hb
  have hbR : ∀ g ∈ restG (restG M), (firstG (restG M)).cnt ≤ g.cnt := fun g hg => first_min (restG M) g (rest_sub _ _ hg)
  have hp2 : p2 (K + 1) = p2 K * 2 := p2_succ K
  have hp3 : p2 (K + 1 + 1) = p2 (K + 1) * 2 := p2_succ (K + 1)
  have hp0 := p2_pos K
  have hget : ∀ x, x ∈ flatS M → (bump o (symsG M)).getD x.toNat 0 = o.getD x.toNat 0 + (if x ∈ symsG M then 1 else 0) := by
    intro x hm
    have hb := hx x hm
    rw [bump_get o (symsG M) x.toNat hs1 hpos (by omega)]
    have e : ((x.toNat : Nat) : Int) = x := by omega
    rw [e]
  have hmem : ∀ g ∈ M, ∀ x ∈ g.syms, x ∈ flatS M := fun g hg x hxm => by simp only [flatS, List.mem_flatMap]; exact ⟨g, hg, hxm⟩
  have hold : ∀ g ∈ restG (restG M), ∀ x ∈ g.syms, (bump o (symsG M)).getD x.toNat 0 = o.getD x.toNat 0 := by
    intro g hg x hxm
    rw [hget x (hmem g (hR g hg) x hxm), if_neg (hs2 g hg x hxm)]
    omega
  have hnew : ∀ x, x ∈ symsG M → (bump o (symsG M)).getD x.toNat 0 = o.getD x.toNat 0 + 1 := by
    intro x hm
    rw [hget x (hsub.mem_iff.1 (by simp [hm])), if_pos hm]
  have hpw : (firstG M :: firstG (restG M) :: restG (restG M)).Pairwise (fun x y => ¬ (lvlO K o x ∧ lvlO K o y)) :=
    ((perm_two M h).pairwise_iff (fun {x y} hxy hyx => hxy ⟨hyx.2, hyx.1⟩)).2 hL.2
  rw [List.pairwise_cons, List.pairwise_cons] at hpw
  obtain ⟨pw1, pw2, pw3⟩ := hpw
  have hjc : (joinG (firstG M) (firstG (restG M))).cnt = (firstG M).cnt + (firstG (restG M)).cnt := rfl
  have hjs : ∀ x, x ∈ (joinG (firstG M) (firstG (restG M))).syms ↔ x ∈ symsG M := fun x => Iff.rfl
  by_cases hAA : lvlA K o (firstG M) ∧ lvlA K o (firstG (restG M))
  · left
    obtain ⟨⟨a1, a2⟩, b1, b2⟩ := hAA
    have hj : lvlB K (bump o (symsG M)) (joinG (firstG M) (firstG (restG M))) := by
      refine ⟨by rw [hjc, a1, b1, hp2]; omega, fun x hm => ?_⟩
      have hm2 := (hjs x).1 hm
      rw [hnew x hm2]
      simp only [symsG, List.mem_append] at hm2
      rcases hm2 with hm2 | hm2
      · have := a2 x hm2; omega
      · have := b2 x hm2; omega
    have hO : ∀ g ∈ restG (restG M), lvlO K (bump o (symsG M)) g → lvlO K o g := fun g hg hO => ⟨hO.1, hO.2.1, fun x hm => by have := hO.2.2 x hm; rw [hold g hg x hm] at this; exact this⟩
    refine ⟨fun g hg => ?_, ?_⟩
    · simp only [stepG, List.mem_append, List.mem_singleton] at hg
      rcases hg with hg | rfl
      · rcases hL.1 g (hR g hg) with h1 | h1 | h1
        · exact .inl ⟨h1.1, fun x hm => by rw [hold g hg x hm]; exact h1.2 x hm⟩
        · exact .inr (.inl ⟨h1.1, fun x hm => by rw [hold g hg x hm]; exact h1.2 x hm⟩)
        · exact .inr (.inr ⟨h1.1, h1.2.1, fun x hm => by rw [hold g hg x hm]; exact h1.2.2 x hm⟩)
      · exact .inr (.inl hj)
    · unfold stepG
      rw [List.pairwise_append]
      refine ⟨?_, by simp, ?_⟩
      · refine List.Pairwise.imp_of_mem ?_ pw3
        intro x y hxm hym hxy hxy2
        exact hxy ⟨hO x hxm hxy2.1, hO y hym hxy2.2⟩
      · intro x _ y hy hxy
        simp only [List.mem_singleton] at hy
        subst hy
        have h1 := hj.1
        have h2 := hxy.2.2.1
        omega
  · right
    have hbig : ((p2 K : Nat) : Int) ≤ (firstG M).cnt ∧ (firstG M).cnt ≤ ((p2 (K + 1) : Nat) : Int) ∧ ((p2 K : Nat) : Int) < (firstG (restG M)).cnt ∧ (firstG (restG M)).cnt ≤ ((p2 (K + 1) : Nat) : Int) ∧ ∀ g ∈ restG (restG M), lvlB K o g := by
      rcases hL.1 _ ha with a1 | a1 | a1
      · rcases hL.1 _ hb with b1 | b1 | b1
        · exact absurd ⟨a1, b1⟩ hAA
        · refine ⟨by rw [a1.1]; omega, by rw [a1.1]; omega, by rw [b1.1]; omega, by rw [b1.1]; omega, fun g hg => ?_⟩
          have hge := hbR g hg
          rcases hL.1 g (hR g hg) with h1 | h1 | h1
          · have := h1.1; have := b1.1; omega
          · exact h1
          · have := h1.2.1; have := b1.1; omega
        · refine ⟨by rw [a1.1]; omega, by rw [a1.1]; omega, b1.1, by have := b1.2.1; omega, fun g hg => ?_⟩
          have hge := hbR g hg
          rcases hL.1 g (hR g hg) with h1 | h1 | h1
          · have := h1.1; have := b1.1; omega
          · exact h1
          · exact absurd ⟨b1, h1⟩ (pw2 g hg)
      · rcases hL.1 _ hb with b1 | b1 | b1
        · have := a1.1; have := b1.1; omega
        · refine ⟨by rw [a1.1]; omega, by rw [a1.1]; omega, by rw [b1.1]; omega, by rw [b1.1]; omega, fun g hg => ?_⟩
          have hge := hbR g hg
          rcases hL.1 g (hR g hg) with h1 | h1 | h1
          · have := h1.1; have := b1.1; omega
          · exact h1
          · have := h1.2.1; have := b1.1; omega
        · have := a1.1; have := b1.2.1; omega
      · rcases hL.1 _ hb with b1 | b1 | b1
        · have := a1.1; have := b1.1; omega
        · refine ⟨by have := a1.1; omega, by have := a1.2.1; omega, by rw [b1.1]; omega, by rw [b1.1]; omega, fun g hg => ?_⟩
          have hge := hbR g hg
          rcases hL.1 g (hR g hg) with h1 | h1 | h1
          · have := h1.1; have := b1.1; omega
          · exact h1
          · have := h1.2.1; have := b1.1; omega
        · exact absurd ⟨a1, b1⟩ (pw1 _ (by simp))
    obtain ⟨q1, q2, q3, q4, q5⟩ := hbig
    have hK1 : ∀ g ∈ M, ∀ x ∈ g.syms, o.getD x.toNat 0 ≤ (K : Int) + 1 := by
      intro g hg x hm
      rcases hL.1 g hg with h1 | h1 | h1
      · have := h1.2 x hm; omega
      · exact h1.2 x hm
      · exact h1.2.2 x hm
    have hjd : ∀ x ∈ (joinG (firstG M) (firstG (restG M))).syms, (bump o (symsG M)).getD x.toNat 0 ≤ ((K + 1 : Nat) : Int) + 1 := by
      intro x hm
      have hm2 := (hjs x).1 hm
      rw [hnew x hm2]
      simp only [symsG, List.mem_append] at hm2
      rcases hm2 with hm2 | hm2
      · have := hK1 _ ha x hm2; omega
      · have := hK1 _ hb x hm2; omega
    have hRA : ∀ g ∈ restG (restG M), lvlA (K + 1) (bump o (symsG M)) g := fun g hg => ⟨(q5 g hg).1, fun x hm => by rw [hold g hg x hm]; have := (q5 g hg).2 x hm; omega⟩
    refine ⟨fun g hg => ?_, ?_⟩
    · simp only [stepG, List.mem_append, List.mem_singleton] at hg
      rcases hg with hg | rfl
      · exact .inl (hRA g hg)
      · by_cases e : (joinG (firstG M) (firstG (restG M))).cnt = ((p2 (K + 1 + 1) : Nat) : Int)
        · exact .inr (.inl ⟨e, hjd⟩)
        · refine .inr (.inr ⟨?_, ?_, hjd⟩)
          · rw [hjc]; omega
          · rw [hjc] at e ⊢; omega
    · unfold stepG
      have hnO : ∀ g ∈ restG (restG M), ¬ lvlO (K + 1) (bump o (symsG M)) g := fun g hg hO => by
        have h1 := (hRA g hg).1
        have h2 := hO.1
        omega
      rw [List.pairwise_append]
      refine ⟨?_, by simp, ?_⟩
      · refine List.Pairwise.imp_of_mem ?_ pw3
        intro x y hxm _ _ hxy2
        exact hnO x hxm hxy2.1
      · intro x hxm y _ hxy
        exact hnO x hxm hxy.1
/-- All counts are 0 or 1. -/
def ones (l : List Int) : Prop := ∀ i, i < l.length → l.getD i 0 ≤ 1
theorem lvl_seed (l : List Int) (h1 : ones l) (k : Nat) (hk : k ≤ l.length) : ∀ g ∈ seed l k, lvlA 0 (List.replicate l.length 0) g := by
  induction k with
  | zero => intro g hg; simp [seed] at hg
  | succ k ih =>
    simp only [seed]
    split
    case isTrue h =>
      intro g hg
      simp only [List.mem_append, List.mem_singleton] at hg
      rcases hg with hg | rfl
      · exact ih (by omega) g hg
      · refine ⟨?_, ?_⟩
        · have := h1 k (by omega)
          have e : p2 0 = 1 := rfl
          simp only; rw [e]; omega
        · intro s hs
          simp only [List.mem_singleton] at hs
          subst hs
          rw [Int.toNat_natCast]
          have : (List.replicate l.length (0 : Int)).getD k 0 = 0 := by simp [List.getD, show k < l.length by omega]
          rw [this]; exact Int.le_refl _
    case isFalse => exact ih (by omega)
theorem lvl_hufI (l : List Int) (h1 : ones l) (k : Nat) (hk : k < (seed l l.length).length ∨ k = 0) : ∃ K, Lvl K (hufI l k).2 (hufI l k).1 := by
  induction k with
  | zero =>
    refine ⟨0, fun g hg => .inl (lvl_seed l h1 _ (Nat.le_refl _) g hg), ?_⟩
    refine List.Pairwise.imp_of_mem ?_ (List.pairwise_of_forall (R := fun _ _ => True) (fun _ _ => trivial))
    intro x y hxm _ _ hxy
    have := (lvl_seed l h1 _ (Nat.le_refl _) x hxm).1
    have := hxy.1.1
    omega
  | succ k ih =>
    obtain ⟨K, hK⟩ := ih (by omega)
    have hl := (hufI_inv l k (by omega)).2.2.2
    have hf := flat_hufI l k (by omega)
    rcases lvl_step (by omega) hK hf.1 (fun x hx => by rw [hufI_len]; exact hf.2 x hx) with h | h
    · exact ⟨K, h⟩
    · exact ⟨K + 1, h⟩

end Go.Proofs.Ytnomiopdpmecbaa
/- Lengths that fit: plain mathematics, over this seat's program. -/
namespace Go.Proofs.Ytnomiopdpmecbaa
open Go.RowKit

theorem flat_same (l : List Int) (k : Nat) (hk : k < (seed l l.length).length ∨ k = 0) : (flatS (hufI l k).1).Perm (flatS (seed l l.length)) := by
  induction k with
  | zero => exact List.Perm.refl _
  | succ k ih =>
    have hl := (hufI_inv l k (by omega)).2.2.2
    exact (flat_step (hufI l k).1 (by omega)).trans (ih (by omega))
theorem hufI_zero (l : List Int) (i : Nat) (hi : i < l.length) (hn : (i : Int) ∉ flatS (seed l l.length)) (k : Nat) (hk : k < (seed l l.length).length ∨ k = 0) : (hufI l k).2.getD i 0 = 0 := by
  induction k with
  | zero => simp [hufI, List.getD, hi]
  | succ k ih =>
    have h0 := ih (by omega)
    have hl := (hufI_inv l k (by omega)).2.2.2
    have hf := flat_hufI l k (by omega)
    have hs := syms_nodup (M := (hufI l k).1) (by omega) hf.1
    have hsub := syms_sub (hufI l k).1 (by omega)
    simp only [hufI]
    rw [bump_get _ _ i hs.1 (fun x hx => (hf.2 x (hsub.mem_iff.1 (by simp [hx]))).1) (by rw [hufI_len]; exact hi), h0, if_neg]
    · rfl
    · intro hm
      exact hn ((flat_same l k (by omega)).mem_iff.1 (hsub.mem_iff.1 (by simp [hm])))
theorem totC_ones (M : List Grp) (h : ∀ g ∈ M, g.cnt = 1) : totC M = (M.length : Int) := by
  induction M with
  | nil => rfl
  | cons g M ih =>
    have := ih (fun x hx => h x (by simp [hx]))
    have hg := h g (by simp)
    simp only [totC, List.map_cons, List.sum_cons, List.length_cons] at this ⊢
    omega
theorem p2_mono {a b : Nat} (h : p2 a ≤ p2 b) : a ≤ b := by
  rcases Nat.lt_or_ge b a with h2 | h2
  · have h3 : p2 (b + 1) ≤ p2 a := Nat.pow_le_pow_right (by omega) (by omega)
    have h4 := p2_succ b
    have h5 := p2_pos b
    omega
  · exact h2
theorem p2_lt {a b : Nat} (h : p2 a < p2 b) : a < b := by
  rcases Nat.lt_or_ge a b with h2 | h2
  · exact h2
  · have h3 : p2 b ≤ p2 a := Nat.pow_le_pow_right (by omega) h2
    omega
/-- Where all come as often, none is too long. -/
theorem ones_fit (l : List Int) (h1 : ones l) (m : Nat) (hU : (seed l l.length).length ≤ p2 m) : maxL (hufL l) ((m : Int) + 1) := by
  have hzero : ∀ i, i < l.length → (List.replicate l.length (0 : Int)).getD i 0 = 0 := fun i hi => by simp [List.getD, hi]
  intro i hi
  rw [hufL_len] at hi
  unfold hufL
  by_cases hone : (seed l l.length).length = 1
  · rw [if_pos hone]
    generalize ((seed l l.length).getD 0 g0).fst.toNat = q
    by_cases e : q = i
    · simp only [List.getD]
      rw [← e, List.getElem?_set_self (by rw [List.length_replicate, e]; exact hi), Option.getD_some]
      omega
    · simp only [List.getD]
      rw [List.getElem?_set_ne e]
      have := hzero i hi
      simp only [List.getD] at this
      omega
  · rw [if_neg hone]
    generalize hk : (seed l l.length).length - 1 = k
    have hkU : k < (seed l l.length).length ∨ k = 0 := by omega
    have hmx := hufI_depth l k hkU i (by rw [hufI_len]; exact hi)
    by_cases hmem : (i : Int) ∈ flatS (seed l l.length)
    · obtain ⟨K, hK⟩ := lvl_hufI l h1 k hkU
      have hinv := hufI_inv l k hkU
      have hpos : 0 < (seed l l.length).length := by
        rcases Nat.eq_zero_or_pos (seed l l.length).length with h | h
        · have : seed l l.length = [] := List.eq_nil_of_length_eq_zero h
          rw [this] at hmem
          simp [flatS] at hmem
        · exact h
      have hlen : (hufI l k).1.length = 1 := by rw [hinv.2.2.2]; omega
      obtain ⟨g, hg⟩ := List.length_eq_one_iff.1 hlen
      have hm2 := (flat_same l k hkU).mem_iff.2 hmem
      rw [hg] at hm2 hK
      have hsy : (i : Int) ∈ g.syms := by simpa [flatS] using hm2
      have hc : g.cnt = ((seed l l.length).length : Int) := by
        have h2 := hinv.2.1
        rw [hg, totC_ones (seed l l.length) (fun x hx => by have := (lvl_seed l h1 _ (Nat.le_refl _) x hx).1; simpa [p2] using this)] at h2
        simpa [totC] using h2
      have hgm : g ∈ [g] := by simp
      rcases hK.1 g hgm with h | h | h
      · have h3 := h.2 _ hsy
        rw [Int.toNat_natCast] at h3
        have h4 : p2 K ≤ p2 m := by have := h.1; omega
        have := p2_mono h4
        exact ⟨hmx.1, by omega⟩
      · have h3 := h.2 _ hsy
        rw [Int.toNat_natCast] at h3
        have h4 : p2 (K + 1) ≤ p2 m := by have := h.1; omega
        have := p2_mono h4
        exact ⟨hmx.1, by omega⟩
      · have h3 := h.2.2 _ hsy
        rw [Int.toNat_natCast] at h3
        have h4 : p2 K < p2 m := by have := h.1; omega
        have := p2_lt h4
        exact ⟨hmx.1, by omega⟩
    · rw [hufI_zero l i hi hmem k hkU]
      omega

/-! Counts are halved. -/
def halfI (x : Int) : Int := (x + 1) / 2
def halfL (l : List Int) : List Int := l.map halfI
theorem halfL_len (l : List Int) : (halfL l).length = l.length := by simp [halfL]
theorem halfL_get (l : List Int) (i : Nat) (hi : i < l.length) : (halfL l).getD i 0 = halfI (l.getD i 0) := by simp [halfL, List.getD, hi]
theorem seed_half (l : List Int) (h0 : ∀ i, i < l.length → 0 ≤ l.getD i 0) (k : Nat) (hk : k ≤ l.length) : (seed (halfL l) k).length = (seed l k).length := by
  induction k with
  | zero => rfl
  | succ k ih =>
    have hh := halfL_get l k (by omega)
    have hp := h0 k (by omega)
    simp only [seed]
    by_cases h : 0 < l.getD k 0
    · rw [if_pos h, if_pos (by rw [hh]; unfold halfI; omega)]
      simp only [List.length_append, List.length_singleton]
      rw [ih (by omega)]
    · rw [if_neg h, if_neg (by rw [hh]; unfold halfI; omega), ih (by omega)]
def sumP (l : List Int) : Nat := (l.map Int.toNat).sum
theorem sum_half (l : List Int) (h0 : ∀ x ∈ l, 0 ≤ x) : sumP (halfL l) ≤ sumP l ∧ ((∃ x ∈ l, 1 < x) → sumP (halfL l) < sumP l) := by
  induction l with
  | nil => simp [sumP, halfL]
  | cons x l ih =>
    have h1 := ih (fun y hy => h0 y (by simp [hy]))
    have hx := h0 x (by simp)
    simp only [sumP, halfL, List.map_cons, List.sum_cons] at h1 ⊢
    have e : (halfI x).toNat ≤ x.toNat := by unfold halfI; omega
    refine ⟨by omega, ?_⟩
    rintro ⟨y, hy, hy1⟩
    simp only [List.mem_cons] at hy
    rcases hy with rfl | hy
    · have : (halfI y).toNat < y.toNat := by unfold halfI; omega
      omega
    · have := h1.2 ⟨y, hy, hy1⟩
      omega
/-- The greatest of some. -/
def mostL (o : List Int) : Nat → Int
  | 0 => 0
  | k + 1 => if mostL o k < o.getD k 0 then o.getD k 0 else mostL o k
def fits (o : List Int) (m : Int) : Bool := decide (mostL o o.length ≤ m)
theorem mostL_le {o : List Int} {B : Int} (hB : 0 ≤ B) (h : maxL o B) (k : Nat) (hk : k ≤ o.length) : mostL o k ≤ B := by
  induction k with
  | zero => exact hB
  | succ k ih =>
    have h1 := ih (by omega)
    have h2 := (h k (by omega)).2
    simp only [mostL]
    split <;> assumption
theorem fits_of {o : List Int} {m : Int} (hm : 0 ≤ m) (h : maxL o m) : fits o m = true := by
  unfold fits
  exact decide_eq_true (mostL_le hm h _ (Nat.le_refl _))
/-- Lengths that fit, counts being halved so many times at most. -/
def fitF (m : Int) : Nat → List Int → List Int
  | 0, l => hufL l
  | f + 1, l => if fits (hufL l) m then hufL l else fitF m f (halfL l)
theorem fitF_len (m : Int) (f : Nat) (l : List Int) : (fitF m f l).length = l.length := by
  induction f generalizing l with
  | zero => exact hufL_len l
  | succ f ih =>
    simp only [fitF]
    split
    · exact hufL_len l
    · rw [ih, halfL_len]
/-- What is too long is halved: there is one that is greater than 1. -/
theorem not_ones {l : List Int} {m : Nat} (hU : (seed l l.length).length ≤ p2 m) (hf : fits (hufL l) ((m : Int) + 1) = false) : ∃ x ∈ l, 1 < x := by
  apply Classical.byContradiction
  intro hno
  have h1 : ones l := by
    intro i hi
    have hm : l.getD i 0 ∈ l := by simp [List.getD, hi]
    rcases Int.lt_or_le 1 (l.getD i 0) with h | h
    · exact absurd ⟨_, hm, h⟩ hno
    · exact h
  have := fits_of (by omega) (ones_fit l h1 m hU)
  rw [this] at hf
  cases hf

end Go.Proofs.Ytnomiopdpmecbaa
