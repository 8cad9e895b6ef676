/- The walk of a law of bits: numbers of no bits are nothing. -/
import Derived.Test.YtmhpfnknamimbaaLc1
namespace Go.Proofs.Ytmhpfnknamimbaa
open Go.RowKit Corb

/-- With numbers of no bits in between. -/
def noneL (l : List (Int × Int)) : List (Int × Int) := (0, 0) :: l.flatMap (fun p => [p, (0, 0)])
theorem noneL_snoc (l : List (Int × Int)) (p : Int × Int) : noneL (l ++ [p]) = noneL l ++ [p, (0, 0)] := by simp [noneL]
theorem noneL_len (l : List (Int × Int)) : (noneL l).length = 2 * l.length + 1 := by
  induction l with
  | nil => rfl
  | cons p l ih =>
    simp only [noneL, List.flatMap_cons, List.length_cons, List.length_append] at ih ⊢
    simp only [List.length_nil]
    omega
theorem noneL_val (l : List (Int × Int)) : valP (noneL l) = valP l := by
  have key : ∀ (m : List (Int × Int)) (s : Nat × Nat), putV s (natP (m.flatMap (fun p => [p, (0, 0)]))) = putV s (natP m) := by
    intro m
    induction m with
    | nil => intro s; rfl
    | cons p m ih =>
      intro s
      simp only [List.flatMap_cons, natP, List.map_cons, List.cons_append, List.nil_append, putV, Int.toNat_zero, Nat.zero_mul, Nat.add_zero]
      exact ih _
  have := key l (0, 0)
  simpa [valP, noneL, natP, putV] using this
theorem noneL_ok (l : List (Int × Int)) (h : allOk l = true) : allOk (noneL l) = true := by
  simp only [allOk, List.all_eq_true] at h ⊢
  intro x hx
  simp only [noneL, List.mem_cons, List.mem_flatMap, List.not_mem_nil, or_false] at hx
  rcases hx with rfl | ⟨p, hp, rfl | rfl⟩
  · decide
  · exact h _ hp
  · decide
theorem noneL_sum (l : List (Int × Int)) : sumBits (noneL l) = sumBits l := by
  induction l with
  | nil => rfl
  | cons p l ih =>
    simp only [noneL, sumBits, List.flatMap_cons, List.map_cons, List.map_append, List.sum_cons, List.sum_append, List.map_nil, List.sum_nil] at ih ⊢
    omega
theorem none_law (l : List (Int × Int)) (hl : l.length ≤ 12) (h : lOk l = true) : putS (noneL l) = putS l ∧ longI (noneL l) = longI l := by
  have h2 : lOk (noneL l) = true := by
    simp only [lOk, Bool.and_eq_true, decide_eq_true_iff] at h ⊢
    exact ⟨noneL_ok l h.1, by rw [noneL_len]; omega⟩
  rw [putS_yes h, putS_yes h2, longI_yes h, longI_yes h2, textP, textP, noneL_val, noneL_sum]
  exact ⟨rfl, rfl⟩

theorem pcs_two {x : World} {base : Nat} {v : Value} {l : List (Int × Int)} {a b c d : Int} {n : Nat} (hn : l.length = n) (h : x.ownsRow base 29 2 v (n + 2) (pcells l ++ [.int .i64 a, .int .i64 b, .int .i64 c, .int .i64 d])) : Pcs x base v (l ++ [(a, b), (c, d)]) := by
  subst hn
  show World.ownsRow _ _ _ _ _ (l ++ [(a, b), (c, d)]).length _
  rw [pcells_append]
  simpa [pcells] using h
theorem lok_of {l : List (Int × Int)} (h : 0 ≤ longI l) : lOk l = true := by
  rw [← Bool.not_eq_false]
  intro hf
  rw [longI_no hf] at h
  omega
theorem take_snocP (l : List (Int × Int)) (k : Nat) (h : k < l.length) : l.take (k + 1) = l.take k ++ [((l.getD k (0, 0)).1, (l.getD k (0, 0)).2)] := by
  rw [List.take_succ_eq_append_getElem h]
  congr 1
  simp [List.getD, h]

set_option maxHeartbeats 1600000 in
theorem fnBitsNone_walk (a : Option Addr) (len cap : Nat) (zs : List Int) (w : World) (w0 : IsRow .u8 w a len cap zs) :
    Calls Try.prog 7 #[.slice a len cap] w fun e w' => e = .returned (.bool true) ∧ Below w.heap.size w w' := by
  obtain ⟨⟨z, hsrc⟩, hc, hm⟩ := src_of w0
  have hm' := hide hm
  unfold maxLen at hm
  clear w0
  obtain ⟨i0, hi, hz0, hz1, hz2⟩ := info_parts Try.infoPiece
  by_cases hl : (len : Int) ≤ 1048576
  · go_enter Try.func7, Try.ntmps7
    go_wp2_with fail
    refine (drawBitsPut_any a len cap z _ hsrc hc (unhide hm')).mono ?_
    rintro e x1 ⟨⟨l, g, lcap, rfl, hp1, hl12⟩, hb1⟩
    have HL := hide hl12
    have hl12' : (l.length : Int) ≤ 12 := by omega
    have hlaw := hide (fun h => none_law l hl12 h)
    have hlok := hide (lok_of (l := l))
    clear hl12
    generalize hs : putS l = S at *
    generalize hn : longI l = n at *
    have Hs := hide hs
    have Hn := hide hn
    clear hs hn
    go_wp2_with fail
    refine (implBitsPut_any _ _ l _ hp1.row (by have := unhide HL; omega)).mono ?_
    rintro e x2 ⟨rfl, hb2⟩
    rw [unhide Hs]
    have hp2 := hp1.later hb2 (Nat.le_refl _)
    go_wp2_with fail
    refine (specBitsPut_any _ _ l _ hp2.row (by have := unhide HL; omega)).mono ?_
    rintro e x3 ⟨rfl, hb3⟩
    rw [unhide Hs]
    have hp3 := hp2.later hb3 (Nat.le_refl _)
    go_wp2_with fail
    refine (implBitsLong_any _ _ l _ hp3.row (by have := unhide HL; omega)).mono ?_
    rintro e x4 ⟨rfl, hb4⟩
    rw [unhide Hn]
    have hp4 := hp3.later hb4 (Nat.le_refl _)
    have hbA := bnext (bnext (bnext hb1 hb2) hb3) hb4
    clear hp1 hp2 hp3 hb1 hb2 hb3 hb4
    by_cases hn0 : n < 0
    · go_wp2_with fail
      refine (specBitsPut_any _ _ l _ hp4.row (by have := unhide HL; omega)).mono ?_
      rintro e x5 ⟨rfl, hb5⟩
      rw [unhide Hs]
      go_wp2
      go_ret
      exact ⟨ret_bool (by simp), bnext hbA hb5⟩
    · have hlk := unhide hlok (by omega)
      obtain ⟨e1, e2⟩ := unhide hlaw hlk
      have E1 := hide e1
      have E2 := hide e2
      clear e1 e2 hlk hlaw hlok
      have hq0 : Pcs (x4.alloc (.cells #[.int .i64 0, .int .i64 0] 29)) x4.heap.size (.slice (some ⟨x4.heap.size, 0, none⟩) 1 1) (noneL []) :=
        World.ownsRow_lit x4 #[.int .i64 0, .int .i64 0] 1 (Nat.le_refl _) (by unfold maxLen; omega) rfl
      have hb0 : Below x4.heap.size x4 (x4.alloc (.cells #[.int .i64 0, .int .i64 0] 29)) := (Below.refl _ _).alloc (Nat.le_refl _) _
      go_wp2_with fail
      go_loopw [5, 6] (fun v i wr => ∃ k : Nat, k ≤ l.length ∧ i = .int .i64 k ∧ Pcs wr x4.heap.size v (noneL (l.take k)) ∧ Below x4.heap.size x4 wr) (fun _ i _ => l.length - (intOf i).toNat)
      case atStart => exact ⟨0, Nat.zero_le _, rfl, hq0, hb0⟩
      case round =>
        obtain ⟨k, hk, rfl, hq, hbel⟩ := hrel
        clear hq0 hb0
        have hlenk : Hid ((noneL (l.take k)).length = 2 * k + 1) := by
          show (noneL (l.take k)).length = 2 * k + 1
          rw [noneL_len]; simp; omega
        have hbs := hbel.size
        by_cases hlt : k < l.length
        · obtain ⟨g', o, ea, hg', hcells⟩ := (hp4.row.later hbel) (by omega)
          obtain ⟨c0, c1⟩ := hcells k hlt
          simp only [Option.some.injEq, Addr.mk.injEq, and_true] at ea
          obtain ⟨rfl, rfl⟩ := ea
          have htk := hide (take_snocP l k hlt)
          have HK := hide hk
          clear hcells hk
          generalize (l.getD k (0, 0)).1 = x at *
          generalize (l.getD k (0, 0)).2 = y at *
          rw [Nat.zero_add] at c0 c1
          go_wp2_with (at_builtin; refine wpList_append_own _ rfl _ _ 23 rfl x4.heap.size 29 i0 (.agg #[.int .i64 0, .int .i64 0]) 2 16 Try.underlying23 hi hz0 hz1 hz2 rfl (by decide) _ _ _ rfl (World.ownsRow.alloc hq _) ⟨wr.heap.size, 0, none⟩ 2 2 [.int .i64 x, .int .i64 y, .int .i64 0, .int .i64 0] rfl rfl (by intro j u hj; match j, hj with | 0, hj => simp at hj; subst hj; simp [Addr.add] | 1, hj => simp at hj; subst hj; simp [Addr.add] | 2, hj => simp at hj; subst hj; simp [Addr.add] | 3, hj => simp at hj; subst hj; simp [Addr.add]) (by intro u hu; simp at hu; rcases hu with rfl | rfl | rfl <;> rfl) (by have := unhide HL; have := unhide hlenk; unfold maxLen; omega) (by have := unhide HL; have := unhide hlenk; omega) (by simp; omega) ?_; intro v' x5 hown hgrow hnil; clear hnil)
          have hb5 := own_below hgrow (World.ownsRow.alloc hq _) hbel
          have hq5 := pcs_two rfl hown
          rw [← noneL_snoc, ← unhide htk] at hq5
          clear hown hgrow hq
          go_wp2
          go_roundw
          case rel => exact ⟨k + 1, by have := unhide HK; omega, by go_num, hq5, hb5⟩
          case measure => simp [intOf]; omega
        · have hlk2 : Hid (l.take k = l) := List.take_of_length_le (by omega)
          rw [unhide hlk2] at hq
          have hlen2 : Hid ((noneL l).length = 2 * l.length + 1) := noneL_len l
          obtain ⟨va, vc, rfl⟩ := hq.form
          have hbB := bnext hbA hbel
          have hp5 := hp4.later hbel (Nat.le_refl _)
          clear hp4 hbel hbA
          go_wp2_with fail
          refine (implBitsPut_any _ _ (noneL l) _ hq.row (by have := unhide HL; have := unhide hlen2; omega)).mono ?_
          rintro e y1 ⟨rfl, hc1⟩
          rw [unhide E1]
          have hq1 := hq.later hc1 (Nat.le_refl _)
          have hp6 := hp5.later hc1 (Nat.le_refl _)
          go_wp2_with fail
          refine (implBitsLong_any _ _ (noneL l) _ hq1.row (by have := unhide HL; have := unhide hlen2; omega)).mono ?_
          rintro e y2 ⟨rfl, hc2⟩
          rw [unhide E2]
          have hp7 := hp6.later hc2 (Nat.le_refl _)
          go_wp2_with fail
          refine (implBitsLong_any _ _ l _ hp7.row (by have := unhide HL; omega)).mono ?_
          rintro e y3 ⟨rfl, hc3⟩
          rw [unhide Hn]
          go_wp2_with fail
          refine (implBitsPut_n _ _ 0 [] _ rfl (fun h => absurd h (by simp)) (by omega)).mono ?_
          rintro e y4 ⟨rfl, hc4⟩
          rw [show putS [] = [] from by decide]
          go_wp2
          go_ret
          exact ⟨ret_bool (by simp), bnext (bnext (bnext (bnext hbB hc1) hc2) hc3) hc4⟩
  · go_enter Try.func7, Try.ntmps7
    go_wp2
    go_ret
    exact ⟨rfl, Below.refl _ _⟩

end Go.Proofs.Ytmhpfnknamimbaa
