/- Rows of pieces that are marked and held, over this seat's program. -/
import Derived.Test.YtlanjchckcbjcaaPr1
namespace Go.Proofs.Ytlanjchckcbjcaa
open Go.RowKit

theorem pcells_set (l : List (Int × Int)) (j : Nat) (x y : Int) : ((pcells l).set (j * 2) (.int .i64 x)).set (j * 2 + 1) (.int .i64 y) = pcells (l.set j (x, y)) := by
  induction l generalizing j with
  | nil => simp [pcells]
  | cons p l ih =>
    cases j with
    | zero => simp [pcells]
    | succ j =>
      rw [show (j + 1) * 2 = j * 2 + 1 + 1 by omega]
      simp only [pcells, List.set_cons_succ]
      rw [ih j]
theorem Pcs.put {w : World} {base g cap n j : Nat} {l : List (Int × Int)} (hn : l.length = n) (h : Pcs w base (.slice (some ⟨g, 0, none⟩) n cap) l) (x y : Int) :
    Pcs ((w.setCell ⟨g, j * 2, none⟩ (.int .i64 x)).setCell ⟨g, j * 2 + 1, none⟩ (.int .i64 y)) base (.slice (some ⟨g, 0, none⟩) n cap) (l.set j (x, y)) := by
  subst hn
  have h1 := (World.ownsRow.stored h (j * 2) (.int .i64 x)).1
  have h2 := (World.ownsRow.stored h1 (j * 2 + 1) (.int .i64 y)).1
  rw [pcells_set] at h2
  show World.ownsRow _ _ _ _ _ (l.set j (x, y)).length _
  rw [List.length_set]
  exact h2
theorem Pcs.at {w : World} {base g cap n j : Nat} {l : List (Int × Int)} (hn : l.length = n) (h : Pcs w base (.slice (some ⟨g, 0, none⟩) n cap) l) (hj : j < n) :
    w.cell? ⟨g, j * 2, none⟩ = some (.int .i64 (l.getD j (0, 0)).1) ∧ w.cell? ⟨g, j * 2 + 1, none⟩ = some (.int .i64 (l.getD j (0, 0)).2) ∧ w.frozen? ⟨g, j * 2, none⟩ = false ∧ w.frozen? ⟨g, j * 2 + 1, none⟩ = false ∧ base ≤ g ∧ g < w.heap.size := by
  subst hn
  have hp := pcells_get l j hj
  exact ⟨(World.ownsRow.cellAt h (j * 2) (by omega)).trans hp.1, (World.ownsRow.cellAt h (j * 2 + 1) (by omega)).trans hp.2, World.ownsRow.frozenAt h _, World.ownsRow.frozenAt h _, World.ownsRow.lt h g rfl⟩
theorem Pcs.somes {w : World} {base cap n : Nat} {a : Option Addr} {l : List (Int × Int)} (h : Pcs w base (.slice a n cap) l) (hl : 0 < l.length) : ∃ g, a = some ⟨g, 0, none⟩ := by
  rcases h.2 with ⟨_, e⟩ | ⟨g, cap', cur, e, _⟩
  · omega
  · simp only [Value.slice.injEq] at e
    exact ⟨g, e.1⟩
theorem Pcs.touch {w w' : World} {a : Option Addr} {base : Nat} {v : Value} {l : List (Int × Int)} (h : Pcs w base v l) (ht : Touch a w w') (hne : ∀ g, a = some ⟨g, 0, none⟩ → g < base) : Pcs w' base v l := by
  refine ⟨h.1, ?_⟩
  rcases h.2 with hn | ⟨g, cap, cur, rfl, hbg, hgg, rest⟩
  · exact .inl hn
  · refine .inr ⟨g, cap, cur, rfl, hbg, ?_, rest⟩
    rw [ht.2 g (fun g' e => by have := hne g' e; omega)]
    exact hgg
def upsP (k : Int) (n : Nat) : List (Int × Int) := (List.range n).map fun i => (k + 2 * (i : Nat), k + 2 * (i : Nat) + 1)
theorem upsP_len (k : Int) (n : Nat) : (upsP k n).length = n := by simp [upsP]
theorem upsP_get (k : Int) (n i : Nat) (h : i < n) : (upsP k n).getD i (0, 0) = (k + 2 * (i : Nat), k + 2 * (i : Nat) + 1) := by simp [upsP, List.getD, h]
theorem upsP_step (k : Int) (l : List (Int × Int)) (j : Nat) (h : j < l.length) : (upsP k j ++ l.drop j).set j (k + 2 * (j : Nat), k + 2 * (j : Nat) + 1) = upsP k (j + 1) ++ l.drop (j + 1) := by
  rw [List.set_append_right _ _ (by rw [upsP_len]; exact Nat.le_refl _), upsP_len, Nat.sub_self]
  have h1 : l.drop j = l[j] :: l.drop (j + 1) := List.drop_eq_getElem_cons h
  rw [h1, List.set_cons_zero]
  simp [upsP, List.range_succ]

set_option maxHeartbeats 800000 in
theorem markPieceS_any (a : Option Addr) (cap n base : Nat) (l : List (Int × Int)) (w : World) (hn : l.length = n) (h : Pcs w base (.slice a n cap) l) (hm : n ≤ 2000000) :
    Calls Try.prog 18 #[.slice a n cap, .int .i64 1] w fun e w' => e = .returned (.int .i64 (1 + 2 * (n : Int))) ∧ Pcs w' base (.slice a n cap) (upsP 1 n) ∧ Below base w w' ∧ Touch a w w' := by
  have hm' : (n : Int) ≤ 2000000 := by omega
  have Hn := hide hn
  clear hn hm
  go_enter Try.func18, Try.ntmps18
  go_wp2_with fail
  go_loopw [1, 5] (fun m i wr => ∃ k : Nat, k ≤ n ∧ i = .int .i64 k ∧ m = .int .i64 (1 + 2 * (k : Int)) ∧ Pcs wr base (.slice a n cap) (upsP 1 k ++ l.drop k) ∧ Below base w wr ∧ Touch a w wr) (fun _ i _ => n - (intOf i).toNat)
  case atStart => exact ⟨0, Nat.zero_le _, rfl, rfl, h, Below.refl _ _, Touch.refl _ _⟩
  case round =>
    obtain ⟨k, hk, rfl, rfl, hp, hbel, htch⟩ := hrel
    clear h
    have hlen : Hid ((upsP 1 k ++ l.drop k).length = n) := by
      show (upsP 1 k ++ l.drop k).length = n
      have := unhide Hn
      rw [List.length_append, upsP_len, List.length_drop]; omega
    by_cases hlt : k < n
    · obtain ⟨g, rfl⟩ := hp.somes (by rw [unhide hlen]; omega)
      have hput := hp.put (j := k) (unhide hlen) (1 + 2 * (k : Nat)) (1 + 2 * (k : Nat) + 1)
      rw [upsP_step 1 l k (by rw [unhide Hn]; exact hlt)] at hput
      obtain ⟨d0, d1, f0, f1, hbg, _⟩ := hp.at (unhide hlen) hlt
      have hbel2 := below_set (below_set hbel (b := g) (o := k * 2) hbg (.int .i64 (1 + 2 * (k : Nat)))) (b := g) (o := k * 2 + 1) hbg (.int .i64 (1 + 2 * (k : Nat) + 1))
      have htch2 := (htch.set (o := k * 2) rfl (.int .i64 (1 + 2 * (k : Nat)))).set (o := k * 2 + 1) rfl (.int .i64 (1 + 2 * (k : Nat) + 1))
      have HK := hide hk
      have Hput := hide hput
      clear hk hput hp hbel htch hbg
      generalize ((upsP 1 k ++ l.drop k).getD k (0, 0)).1 = y at *
      generalize ((upsP 1 k ++ l.drop k).getD k (0, 0)).2 = z at *
      go_wp2
      go_roundw
      case rel => exact ⟨k + 1, by omega, by go_num, by go_num, unhide Hput, hbel2, htch2⟩
      case measure => simp [intOf]; omega
    · have hkl : k = n := by omega
      subst hkl
      have e : upsP 1 k ++ l.drop k = upsP 1 k := by
        have := unhide Hn
        rw [List.drop_of_length_le (by omega)]; simp
      rw [e] at hp
      clear e hlen
      go_wp2
      go_ret
      exact ⟨rfl, hp, hbel, htch⟩

set_option maxHeartbeats 800000 in
theorem heldPieceS_any (a : Option Addr) (cap n : Nat) (w : World) (h : PRow w a (upsP 1 n)) (hm : n ≤ 2000000) :
    Calls Try.prog 19 #[.slice a n cap, .int .i64 1] w fun e w' => e = .returned (.int .i64 (1 + 2 * (n : Int))) ∧ Below w.heap.size w w' := by
  have hm' : (n : Int) ≤ 2000000 := by omega
  clear hm
  go_enter Try.func19, Try.ntmps19
  go_wp2_with fail
  go_loopw [1, 5] (fun m i wr => ∃ k : Nat, k ≤ n ∧ i = .int .i64 k ∧ m = .int .i64 (1 + 2 * (k : Int)) ∧ Below w.heap.size w wr) (fun _ i _ => n - (intOf i).toNat)
  case atStart => exact ⟨0, Nat.zero_le _, rfl, rfl, Below.refl _ _⟩
  case round =>
    obtain ⟨k, hk, rfl, rfl, hbel⟩ := hrel
    by_cases hlt : k < n
    · obtain ⟨g, o, rfl, hg, hc⟩ := (h.later hbel) (by rw [upsP_len]; omega)
      obtain ⟨c0, c1⟩ := hc k (by rw [upsP_len]; exact hlt)
      rw [upsP_get 1 n k hlt] at c0 c1
      simp only at c0 c1
      have HK := hide hk
      clear hc h hk
      go_wp2
      go_roundw
      case rel => exact ⟨k + 1, by omega, by go_num, by go_num, hbel⟩
      case measure => simp [intOf]; omega
    · have hkl : k = n := by omega
      subst hkl
      clear h
      go_wp2
      go_ret
      exact ⟨rfl, hbel⟩
set_option maxHeartbeats 800000 in
theorem markIntS_from (K : Int) (a : Option Addr) (cap n base : Nat) (l : List Int) (w : World) (hn : l.length = n) (h : IOwn w base (.slice a n cap) l) (hm : n ≤ 2000000) (K0 : 0 ≤ K) (K1 : K ≤ 100000000) :
    Calls Try.prog 13 #[.slice a n cap, .int .i64 K] w fun e w' => e = .returned (.int .i64 (K + (n : Int))) ∧ IOwn w' base (.slice a n cap) (ups K n) ∧ Below base w w' ∧ Touch a w w' := by
  have hm' : (n : Int) ≤ 2000000 := by omega
  have Hn := hide hn
  clear hn hm
  go_enter Try.func13, Try.ntmps13
  go_wp2_with fail
  go_loopw [1, 5] (fun m i wr => ∃ k : Nat, k ≤ n ∧ i = .int .i64 k ∧ m = .int .i64 (K + (k : Int)) ∧ IOwn wr base (.slice a n cap) (ups K k ++ l.drop k) ∧ Below base w wr ∧ Touch a w wr) (fun _ i _ => n - (intOf i).toNat)
  case atStart => exact ⟨0, Nat.zero_le _, rfl, by go_num, h, Below.refl _ _, Touch.refl _ _⟩
  case round =>
    obtain ⟨k, hk, rfl, rfl, hp, hbel, htch⟩ := hrel
    clear h
    have hlen : Hid ((ups K k ++ l.drop k).length = n) := by
      show (ups K k ++ l.drop k).length = n
      have := unhide Hn
      rw [List.length_append, ups_len, List.length_drop]; omega
    by_cases hlt : k < n
    · obtain ⟨g, rfl⟩ := hp.somes (by rw [unhide hlen]; omega)
      have hput := hp.put (j := k) (unhide hlen) (K + (k : Nat))
      rw [ups_step K l k (by rw [unhide Hn]; exact hlt)] at hput
      obtain ⟨d0, f0, hbg, _⟩ := hp.at (unhide hlen) hlt
      have hbel2 := below_set hbel (b := g) (o := k) hbg (.int .i64 (K + (k : Nat)))
      have htch2 := htch.set (o := k) rfl (.int .i64 (K + (k : Nat)))
      have HK := hide hk
      have Hput := hide hput
      clear hk hput hp hbel htch hbg
      generalize (ups K k ++ l.drop k).getD k 0 = y at *
      go_wp2
      go_roundw
      case rel => exact ⟨k + 1, by omega, by go_num, by go_num, unhide Hput, hbel2, htch2⟩
      case measure => simp [intOf]; omega
    · have hkl : k = n := by omega
      subst hkl
      have e : ups K k ++ l.drop k = ups K k := by
        have := unhide Hn
        rw [List.drop_of_length_le (by omega)]; simp
      rw [e] at hp
      clear e hlen
      go_wp2
      go_ret
      exact ⟨rfl, hp, hbel, htch⟩

end Go.Proofs.Ytlanjchckcbjcaa
