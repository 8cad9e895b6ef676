/- The walks of laws of bits: a number that has more bits than it tells; numbers of no bits. -/
import Derived.Test.YtmhpfnknamimbaaDp1
namespace Go.Proofs.Ytmhpfnknamimbaa
open Go.RowKit Corb

theorem implBitsPut_n (a : Option Addr) (cap n : Nat) (l : List (Int × Int)) (w : World) (hn : l.length = n) (h : PRow w a l) (hm : n ≤ 1000000000) :
    Calls Try.prog 18 #[.slice a n cap] w fun e w' => e = .returned (.string ⟨(putS l).toArray⟩) ∧ Below w.heap.size w w' := by
  subst hn; exact implBitsPut_any a cap l w h hm
theorem implBitsLong_n (a : Option Addr) (cap n : Nat) (l : List (Int × Int)) (w : World) (hn : l.length = n) (h : PRow w a l) (hm : n ≤ 1000000000) :
    Calls Try.prog 19 #[.slice a n cap] w fun e w' => e = .returned (.int .i64 (longI l)) ∧ Below w.heap.size w w' := by
  subst hn; exact implBitsLong_any a cap l w h hm

theorem over_bad (l : List (Int × Int)) : putS (l ++ [(4, 2)]) = [] ∧ longI (l ++ [(4, 2)]) = -1 := by
  have h : lOk (l ++ [(4, 2)]) = false := by
    have : pOk 4 2 = false := by decide
    simp [lOk, allOk_snoc, this]
  exact ⟨putS_no h, longI_no h⟩
theorem over_good (l : List (Int × Int)) (hl : l.length ≤ 12) (h : 0 ≤ longI l) : longI (l ++ [(3, 2)]) = longI l + 2 := by
  have h1 : lOk l = true := by
    rw [← Bool.not_eq_false]
    intro hf
    rw [longI_no hf] at h
    omega
  have h2 : lOk (l ++ [(3, 2)]) = true := by
    have hp : pOk 3 2 = true := by decide
    simp only [lOk, Bool.and_eq_true] at h1
    simp [lOk, allOk_snoc, hp, h1.1]; omega
  rw [longI_yes h1, longI_yes h2]
  simp [sumBits]

theorem longI_ge (l : List (Int × Int)) : -1 ≤ longI l ∧ (l.length ≤ 4000 → longI l ≤ 64000) := by
  cases h : lOk l
  · rw [longI_no h]; omega
  · rw [longI_yes h]
    simp only [lOk, Bool.and_eq_true] at h
    have := sum_bd h.1
    omega

/-- The cells of pieces, from where they lie. -/
theorem Pcs.news {w : World} {base g cap : Nat} {l : List (Int × Int)} (h : Pcs w base (.slice (some ⟨g, 0, none⟩) l.length cap) l) : ∀ j u, (pcells l)[j]? = some u → w.cell? ((⟨g, 0, none⟩ : Addr).add j) = some u :=
  World.ownsRow.cells h rfl
theorem pcells_one (l : List (Int × Int)) : ∀ u ∈ pcells l, u.oneCell' = true := by
  induction l with
  | nil => intro u hu; simp [pcells] at hu
  | cons p l ih =>
    intro u hu
    simp only [pcells, List.mem_cons] at hu
    rcases hu with rfl | rfl | hu
    · rfl
    · rfl
    · exact ih u hu

theorem pcs_copy {x : World} {base : Nat} {v : Value} {l : List (Int × Int)} (h : x.ownsRow base 29 2 v (0 + l.length) ([] ++ pcells l)) : Pcs x base v l := by
  unfold Pcs
  rw [Nat.zero_add, List.nil_append] at h
  exact h
theorem pcs_snoc {x : World} {base : Nat} {v : Value} {l : List (Int × Int)} {a b : Int} (h : x.ownsRow base 29 2 v (l.length + 1) (pcells l ++ [.int .i64 a, .int .i64 b])) : Pcs x base v (l ++ [(a, b)]) := by
  show World.ownsRow _ _ _ _ _ (l ++ [(a, b)]).length _
  rw [pcells_append]
  simpa [pcells] using h
theorem copy_below {x x' : World} {t : TypeId} {c : Nat} (hg : (x.alloc (.cells #[] t)).grownBy x' (Value.slice (some ⟨x.heap.size, 0, none⟩) 0 c).ownBlock) : Below x.heap.size x x' :=
  ((Below.refl _ _).alloc (Nat.le_refl _) _).grown hg (by simp) (fun k h => by simp [Value.ownBlock] at h; omega)
theorem own_below {x y y' : World} {o : Obj} {v : Value} {e : TypeId} {size n : Nat} {xs : List Value} (hg : (y.alloc o).grownBy y' v.ownBlock) (ho : (y.alloc o).ownsRow x.heap.size e size v n xs) (hb : Below x.heap.size x y) : Below x.heap.size x y' :=
  (hb.alloc hb.size _).grown hg (by have := hb.size; simp; omega) (fun k h => (ho.lt k h).1)

set_option maxHeartbeats 1000000 in
theorem fnBitsOver_walk (a : Option Addr) (len cap : Nat) (zs : List Int) (w : World) (w0 : IsRow .u8 w a len cap zs) :
    Calls Try.prog 9 #[.slice a len cap] w fun e w' => e = .returned (.bool true) ∧ Below w.heap.size w w' := by
  obtain ⟨⟨z, hsrc⟩, hc, hm⟩ := src_of w0
  have hm' := hide hm
  unfold maxLen at hm
  clear w0
  obtain ⟨i0, hi, hz0, hz1, hz2⟩ := info_parts Try.infoPiece
  by_cases hl : (len : Int) ≤ 1048576
  · go_enter Try.func9, Try.ntmps9
    go_wp2_with fail
    refine (drawBitsLong_any a len cap z _ hsrc hc (unhide hm')).mono ?_
    rintro e x1 ⟨⟨l, g, lcap, rfl, hp1, hl12⟩, hb1⟩
    have hN := longI_ge l
    have HL := hide hl12
    have hl12' : (l.length : Int) ≤ 12 := by omega
    have hg64 : longI l ≤ 64000 := hN.2 (by omega)
    have hg1 : -1 ≤ longI l := hN.1
    have hgood := hide (over_good l hl12)
    obtain ⟨hbad1, hbad2⟩ := over_bad l
    have Hb1 := hide hbad1
    have Hb2 := hide hbad2
    clear hbad1 hbad2 hN hl12
    generalize hn : longI l = n at *
    have Hn := hide hn
    clear hn
    go_wp2_with fail
    refine (implBitsLong_any _ _ l _ hp1.row (by have := unhide HL; omega)).mono ?_
    rintro e x2 ⟨rfl, hb2⟩
    rw [unhide Hn]
    have hp2 := hp1.later hb2 (Nat.le_refl _)
    go_wp2_with fail
    refine (specBitsLong_any _ _ l _ hp2.row (by have := unhide HL; omega)).mono ?_
    rintro e x3 ⟨rfl, hb3⟩
    rw [unhide Hn]
    have hp3 := hp2.later hb3 (Nat.le_refl _)
    have hb123 := bnext (bnext hb1 hb2) hb3
    clear hp1 hp2 hb1 hb2 hb3
    go_wp2_with (first | (at_builtin; refine wpList_append_own _ rfl (.tmp 18) (.tmp 19) 23 rfl x3.heap.size 29 i0 (.agg #[.int .i64 0, .int .i64 0]) 2 16 Try.underlying23 hi hz0 hz1 hz2 rfl (by decide) _ _ _ rfl (World.ownsRow_lit x3 #[] 0 (Nat.le_refl _) (by unfold maxLen; omega) rfl) ⟨g, 0, none⟩ l.length lcap (pcells l) rfl (pcells_len l) (Pcs.news (World.ownsRow.alloc hp3 _)) (pcells_one l) (by have := unhide HL; unfold maxLen; omega) (by have := unhide HL; omega) (by simp) ?_; intro v' x4 hown hgrow hnil; clear hnil; have hb4 := copy_below hgrow; have hq4 := pcs_copy hown; have hp4 := Pcs.later hp3 hb4 (Nat.le_refl _); clear hown hgrow; obtain ⟨_, _, rfl⟩ := hq4.form) | (at_builtin; refine wpList_append_own _ rfl (.tmp 20) (.tmp 22) 23 rfl x3.heap.size 29 i0 (.agg #[.int .i64 0, .int .i64 0]) 2 16 Try.underlying23 hi hz0 hz1 hz2 rfl (by decide) _ _ _ rfl (World.ownsRow.alloc hq4 _) ⟨_, 0, none⟩ 1 1 [.int .i64 4, .int .i64 2] rfl rfl (by intro j u hj; match j, hj with | 0, hj => simp at hj; subst hj; simp [Addr.add] | 1, hj => simp at hj; subst hj; simp [Addr.add]) (by intro u hu; simp at hu; rcases hu with rfl | rfl <;> rfl) (by have := unhide HL; unfold maxLen; omega) (by have := unhide HL; omega) (by have := hb4.size; simp; omega) ?_; intro v' x5 hown hgrow hnil; clear hnil; have hb5 := own_below hgrow (World.ownsRow.alloc hq4 _) hb4; have hq5 := pcs_snoc hown; have hp5 := Pcs.later hp3 hb5 (Nat.le_refl _); clear hown hgrow; obtain ⟨_, _, rfl⟩ := hq5.form) | (at_builtin; refine wpList_append_own _ rfl (.tmp 24) (.tmp 25) 23 rfl x5.heap.size 29 i0 (.agg #[.int .i64 0, .int .i64 0]) 2 16 Try.underlying23 hi hz0 hz1 hz2 rfl (by decide) _ _ _ rfl (World.ownsRow_lit x5 #[] 0 (Nat.le_refl _) (by unfold maxLen; omega) rfl) ⟨g, 0, none⟩ l.length lcap (pcells l) rfl (pcells_len l) (Pcs.news (World.ownsRow.alloc hp5 _)) (pcells_one l) (by have := unhide HL; unfold maxLen; omega) (by have := unhide HL; omega) (by simp) ?_; intro v' x6 hown hgrow hnil; clear hnil; have hb6 := copy_below hgrow; have hq6 := pcs_copy hown; have hp6 := Pcs.later hp5 hb6 (Nat.le_refl _); clear hown hgrow; obtain ⟨_, _, rfl⟩ := hq6.form) | (at_builtin; refine wpList_append_own _ rfl (.tmp 26) (.tmp 28) 23 rfl x5.heap.size 29 i0 (.agg #[.int .i64 0, .int .i64 0]) 2 16 Try.underlying23 hi hz0 hz1 hz2 rfl (by decide) _ _ _ rfl (World.ownsRow.alloc hq6 _) ⟨_, 0, none⟩ 1 1 [.int .i64 3, .int .i64 2] rfl rfl (by intro j u hj; match j, hj with | 0, hj => simp at hj; subst hj; simp [Addr.add] | 1, hj => simp at hj; subst hj; simp [Addr.add]) (by intro u hu; simp at hu; rcases hu with rfl | rfl <;> rfl) (by have := unhide HL; unfold maxLen; omega) (by have := unhide HL; omega) (by have := hb6.size; simp; omega) ?_; intro v' x7 hown hgrow hnil; clear hnil; have hb7 := own_below hgrow (World.ownsRow.alloc hq6 _) hb6; have hq7 := pcs_snoc hown; have hq57 := Pcs.later hq5 hb7 (Nat.le_refl _); clear hown hgrow; obtain ⟨_, _, rfl⟩ := hq7.form))
    refine (implBitsPut_n _ _ _ (l ++ [(4, 2)]) _ (by simp) hq57.row (by have := unhide HL; omega)).mono ?_
    rintro e x8 ⟨rfl, hb8⟩
    rw [unhide Hb1]
    have hq58 := hq57.later hb8 (Nat.le_refl _)
    have hq78 := hq7.later hb8 (Nat.le_refl _)
    have hbA := bnext (bnext (bnext hb123 hb5) hb7) hb8
    go_wp2_with fail
    refine (implBitsLong_n _ _ _ (l ++ [(4, 2)]) _ (by simp) hq58.row (by have := unhide HL; omega)).mono ?_
    rintro e x9 ⟨rfl, hb9⟩
    rw [unhide Hb2]
    have hq79 := hq78.later hb9 (Nat.le_refl _)
    have hbB := bnext hbA hb9
    by_cases hn0 : n < 0
    · go_wp2
      go_ret
      exact ⟨rfl, hbB⟩
    · have hg := hide (unhide hgood (by omega))
      go_wp2_with fail
      refine (implBitsLong_n _ _ _ (l ++ [(3, 2)]) _ (by simp) hq79.row (by have := unhide HL; omega)).mono ?_
      rintro e xa ⟨rfl, hba⟩
      rw [unhide hg]
      go_wp2
      go_ret
      exact ⟨ret_bool (by simp), bnext hbB hba⟩
  · go_enter Try.func9, Try.ntmps9
    go_wp2
    go_ret
    exact ⟨rfl, Below.refl _ _⟩

end Go.Proofs.Ytmhpfnknamimbaa
