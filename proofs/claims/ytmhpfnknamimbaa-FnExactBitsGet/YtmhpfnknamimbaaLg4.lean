/- What draws a text and how many bits are read of it. -/
import Derived.Test.YtmhpfnknamimbaaLg3
namespace Go.Proofs.Ytmhpfnknamimbaa
open Go.RowKit Corb

/-- Rows of other elements lie apart. -/
theorem type_apart {w : World} {b1 b2 e1 e2 s1 s2 n1 n2 : Nat} {v1 v2 : Value} {x1 x2 : List Value} (h1 : w.ownsRow b1 e1 s1 v1 n1 x1) (h2 : w.ownsRow b2 e2 s2 v2 n2 x2) (he : e1 ≠ e2) : v1.ownBlock = none ∨ v1.ownBlock ≠ v2.ownBlock := by
  rcases h1.2 with ⟨rfl, _⟩ | ⟨g, cap, cur, rfl, _, hg, _⟩
  · exact .inl rfl
  · refine .inr ?_
    rcases h2.2 with ⟨rfl, _⟩ | ⟨g', cap', cur', rfl, _, hg', _⟩
    · simp [Value.ownBlock]
    · simp only [Value.ownBlock, ne_eq, Option.some.injEq]
      rintro rfl
      rw [hg] at hg'
      simp only [Option.some.injEq, Obj.cells.injEq] at hg'
      exact he hg'.2.1

theorem specPut_n (a : Option Addr) (cap n : Nat) (l : List (Int × Int)) (w : World) (hn : l.length = n) (h : PRow w a l) (hm : n ≤ 1000000000) :
    Calls Try.prog 20 #[.slice a n cap] w fun e w' => e = .returned (.string ⟨(putS l).toArray⟩) ∧ Below w.heap.size w w' := by
  subst hn
  exact specBitsPut_any a cap l w h hm
theorem snoc_len {α : Type} {l : List α} {x : α} {n : Nat} (h : l.length = n) : (l ++ [x]).length = n + 1 := by simp [h]
theorem putS_small (l : List (Int × Int)) (h : l.length ≤ 4000) : (⟨(putS l).toArray⟩ : ByteArray).size ≤ 8001 := by
  rw [arr_size]; exact putS_len l h

set_option maxHeartbeats 3200000 in
theorem drawBitsGet_any (a : Option Addr) (len cap : Nat) (z : Nat → Int) (w : World) (h : Src w a len z) (hc : len ≤ cap) (hm : len ≤ maxLen) :
    Calls Try.prog 24 #[.slice a len cap] w fun e w' => (∃ (s : ByteArray) (l : List Int) (va : Option Addr) (vc n : Nat), e = .returned (.tuple #[.string s, .slice va n vc]) ∧ l.length = n ∧ IOwn w' w.heap.size (.slice va n vc) l ∧ s.size ≤ 9000 ∧ l.length ≤ 13) ∧ Below w.heap.size w w' := by
  obtain ⟨i0, hi, hz0, hz1, hz2⟩ := info_parts Try.infoInt
  obtain ⟨j0, hj, hy0, hy1, hy2⟩ := info_parts Try.infoPiece
  go_enter Try.func24, Try.ntmps24
  go_wp2_with fail
  refine (l1Open_any a len cap z _ h hc hm).mono ?_
  rintro e w1 ⟨rfl, hrd, hbel, hsz⟩
  go_wp2_with fail
  refine (l11Pieces_any _ _ 0 _ hrd (by omega)).mono ?_
  rintro e w2 ⟨⟨l, g, lcap, rfl, hp2, hl11, hall⟩, hrd2, hbel2⟩
  have HL := hide hl11
  have hl11' : (l.length : Int) ≤ 11 := by omega
  have hbA := hbel.trans hbel2
  have hrl := hrd2.lt
  have hI0 := IOwn.lit w2 w2.heap.size (Nat.le_refl _)
  have hb0 : Below w2.heap.size w2 (w2.alloc (.cells #[] 3)) := (Below.refl _ _).alloc (Nat.le_refl _) _
  have hbl := hide (bitsOf_len l)
  clear hl11 hall hrd hbel hbel2 hsz h hm
  go_wp2_with fail
  go_loopw [6, 7] (fun v i wr => ∃ k : Nat, k ≤ l.length ∧ i = .int .i64 k ∧ IOwn wr w2.heap.size v (bitsOf (l.take k)) ∧ Below w2.heap.size w2 wr) (fun _ i _ => l.length - (intOf i).toNat)
  case atStart => exact ⟨0, Nat.zero_le _, rfl, hI0, hb0⟩
  case round =>
    obtain ⟨k, hk, rfl, hq, hbel⟩ := hrel
    clear hI0 hb0
    have hbs := hbel.size
    by_cases hlt : k < l.length
    · obtain ⟨g', o, ea, hg', hcells⟩ := (hp2.row.later hbel) (by omega)
      obtain ⟨c0, c1⟩ := hcells k hlt
      simp only [Option.some.injEq, Addr.mk.injEq, and_true] at ea
      obtain ⟨rfl, rfl⟩ := ea
      have htk := hide (bitsOf_take l k hlt)
      have hlenk : Hid ((bitsOf (l.take k)).length = k) := by show (bitsOf (l.take k)).length = k; rw [bitsOf_len]; simp; omega
      have HK := hide hk
      clear hcells hk
      generalize (l.getD k (0, 0)).1 = x at *
      generalize (l.getD k (0, 0)).2 = y at *
      rw [Nat.zero_add] at c0 c1
      go_wp2_with (at_builtin; refine wpList_append_own _ rfl _ _ 27 rfl w2.heap.size 3 i0 (.int .i64 0) 1 8 Try.underlying27 hi hz0 hz1 hz2 rfl (by decide) _ _ _ rfl (World.ownsRow.alloc hq _) ⟨wr.heap.size, 0, none⟩ 1 1 [.int .i64 y] rfl rfl (by intro j u hj; match j, hj with | 0, hj => simp at hj; subst hj; simp [Addr.add]) (by intro u hu; simp at hu; subst hu; rfl) (by have := unhide HL; have := unhide hlenk; unfold maxLen; omega) (by have := unhide HL; have := unhide hlenk; omega) (by simp; omega) ?_; intro v' x5 hown hgrow hnil; clear hnil)
      have hb5 := grown_step (v := u6) hgrow hq (Nat.le_refl _) hbs hbel
      have hq5 := iown_snoc hown
      rw [← unhide htk] at hq5
      clear hown hgrow hq
      go_wp2
      go_roundw
      case rel => exact ⟨k + 1, by have := unhide HK; omega, by go_num, hq5, hb5⟩
      case measure => simp [intOf]; omega
    · have hlk2 : l.take k = l := List.take_of_length_le (by omega)
      rw [hlk2] at hq
      obtain ⟨va, vc, rfl⟩ := hq.formN (unhide hbl)
      have hp3 := hp2.later hbel (Nat.le_refl _)
      have hrd3 := hrd2.kept (hbel.mono hrl)
      have hbB := hbA.trans (hbel.mono (by have := hbA.size; omega))
      have hbse : w.heap.size ≤ w2.heap.size := hbA.size
      clear hlk2 hp2 hbel hrd2 hbA
      go_wp2_with fail
      refine (pick_any _ _ 50 6 _ hrd3 (by omega) (by omega) (by omega)).mono ?_
      rintro e x4 ⟨r, rfl, r0, r1, hrd4, hon4⟩
      have hq4 : IOwn x4 w2.heap.size (.slice va l.length vc) (bitsOf l) := owns_only hq hon4 hrl
      have hp4 : Pcs x4 (w.heap.size + 1) (.slice (some ⟨g, 0, none⟩) l.length lcap) l := owns_only hp3 hon4 (Nat.lt_succ_self _)
      have hb4 := hbB.trans hon4.1
      have hb4s := hb4.size
      have h24 : w2.heap.size ≤ x4.heap.size := Nat.le_trans hbs hon4.1.size
      have hpb := hide (putS_small l (by have := unhide HL; omega))
      clear hq hp3 hrd3 hbB hon4
      by_cases h0 : r = 0
      · subst h0
        go_wp2_with fail
        refine (one_only _ _ 51 4 [1, 7, 17, -1] _ _ rfl hrd4 (by omega) (by omega) (by omega)).mono ?_
        rintro e x5 ⟨y, _, rfl, hrd5, hon5⟩
        have hq5 : IOwn x5 w2.heap.size (.slice va l.length vc) (bitsOf l) := owns_only (World.ownsRow.alloc hq4 _) hon5 hrl
        have hp5 : Pcs x5 (w.heap.size + 1) (.slice (some ⟨g, 0, none⟩) l.length lcap) l := owns_only (World.ownsRow.alloc hp4 _) hon5 (Nat.lt_succ_self _)
        have hb5 := (hb4.alloc (by omega) _).trans hon5.1
        have hb5s := hb5.size
        have h25 : w2.heap.size ≤ x5.heap.size := Nat.le_trans (by simp; omega) hon5.1.size
        have hne := hide (type_apart hp5 hq5 (by decide))
        clear hq4 hp4 hon5 hrd5 hb4
        go_wp2_with (at_builtin; go_loud (refine wpList_append_own _ rfl _ _ 27 rfl w2.heap.size 3 i0 (.int .i64 0) 1 8 Try.underlying27 hi hz0 hz1 hz2 rfl (by decide) _ l.length _ rfl (World.ownsRow.alloc (hq5.own (unhide hbl)) _) ⟨x5.heap.size, 0, none⟩ 1 1 [.int .i64 y] rfl rfl (by intro j u hj; match j, hj with | 0, hj => simp at hj; subst hj; simp [Addr.add]) (by intro u hu; simp at hu; subst hu; rfl) (by have := unhide HL; unfold maxLen; omega) (by have := unhide HL; omega) (by simp; omega) ?_; intro v' x6 hown hgrow hnil; clear hnil; have hq6 := iown_snocN (unhide hbl) hown; have hp6 : Pcs x6 (w.heap.size + 1) (.slice (some ⟨g, 0, none⟩) l.length lcap) l := (World.ownsRow.alloc hp5 _).kept hgrow (unhide hne); have hb6 : Below w.heap.size w x6 := grown_step (v := .slice va l.length vc) hgrow hq5 hbse hb5s hb5; clear hown hgrow hq5 hp5 hb5; obtain ⟨va', vc', rfl⟩ := hq6.formN (snoc_len (unhide hbl))))
        refine (specBitsPut_any _ _ l _ hp6.row (by have := unhide HL; omega)).mono ?_
        rintro e x7 ⟨rfl, hb7⟩
        have hq7 := hq6.later hb7 (Nat.le_refl _)
        go_wp2
        go_ret2
        exact ⟨⟨_, bitsOf l ++ [y], va', vc', _, rfl, snoc_len (unhide hbl), hq7.mono hbse, by have := unhide hpb; omega, by rw [snoc_len (unhide hbl)]; have := unhide HL; omega⟩, bnext hb6 hb7⟩
      · have g0 : (r == 0) = false := by simpa using h0
        by_cases h1 : r = 1
        · subst h1
          go_wp2_with fail
          refine (specBitsPut_any _ _ l _ hp4.row (by have := unhide HL; omega)).mono ?_
          rintro e x5 ⟨rfl, hb5⟩
          have hq5 := hq4.later hb5 (Nat.le_refl _)
          have hsum : Hid (((⟨(putS l).toArray⟩ : ByteArray) ++ (⟨#[0]⟩ : ByteArray)).size ≤ 9000) := by
            show ((⟨(putS l).toArray⟩ : ByteArray) ++ (⟨#[0]⟩ : ByteArray)).size ≤ 9000
            rw [ByteArray.size_append]
            have := unhide hpb
            show _ + 1 ≤ 9000
            omega
          have hzl := arr_size (putS l)
          have hsl : ((putS l).length : Int) ≤ 8001 := by rw [← hzl]; have := unhide hpb; omega
          go_wp2
          go_ret2
          exact ⟨⟨_, bitsOf l, va, vc, _, rfl, unhide hbl, hq5.mono hbse, unhide hsum, by rw [unhide hbl]; omega⟩, bnext hb4 hb5⟩
        · have g1 : (r == 1) = false := by simpa using h1
          by_cases h2 : r = 2
          · subst h2
            have hne := hide (type_apart hq4 hp4 (by decide))
            go_wp2_with (at_builtin; go_loud (refine wpList_append_own _ rfl _ _ 23 rfl (w.heap.size + 1) 29 j0 (.agg #[.int .i64 0, .int .i64 0]) 2 16 Try.underlying23 hj hy0 hy1 hy2 rfl (by decide) _ _ _ rfl (World.ownsRow.alloc hp4 _) ⟨x4.heap.size, 0, none⟩ 1 1 [.int .i64 1, .int .i64 1] rfl rfl (by intro j u hj; match j, hj with | 0, hj => simp at hj; subst hj; simp [Addr.add] | 1, hj => simp at hj; subst hj; simp [Addr.add]) (by intro u hu; simp at hu; subst hu; rfl) (by have := unhide HL; unfold maxLen; omega) (by have := unhide HL; omega) (by simp; omega) ?_; intro v' x6 hown hgrow hnil; clear hnil; have hp6 := pcs_snoc hown; have hq6 : IOwn x6 w2.heap.size (.slice va l.length vc) (bitsOf l) := (World.ownsRow.alloc hq4 _).kept hgrow (unhide hne); have hb6 : Below w.heap.size w x6 := grown_step (v := .slice (some ⟨g, 0, none⟩) l.length lcap) hgrow hp4 (Nat.le_succ _) hb4s hb4; clear hown hgrow hq4 hp4 hb4; obtain ⟨va', vc', rfl⟩ := hp6.formN (snoc_len rfl)))
            have hpl : (l ++ [((1 : Int), (1 : Int))]).length = l.length + 1 := by simp
            refine (specPut_n _ _ _ (l ++ [(1, 1)]) _ hpl (hp6.rowN hpl) (by have := unhide HL; omega)).mono ?_
            rintro e x7 ⟨rfl, hb7⟩
            have hq7 := hq6.later hb7 (Nat.le_refl _)
            have hpb' := hide (putS_small (l ++ [(1, 1)]) (by rw [hpl]; have := unhide HL; omega))
            go_wp2
            go_ret2
            exact ⟨⟨_, bitsOf l, va, vc, _, rfl, unhide hbl, hq7.mono hbse, by have := unhide hpb'; omega, by rw [unhide hbl]; omega⟩, bnext hb6 hb7⟩
          · have g2 : (r == 2) = false := by simpa using h2
            clear h0 h1 h2
            go_wp2_with fail
            refine (specBitsPut_any _ _ l _ hp4.row (by have := unhide HL; omega)).mono ?_
            rintro e x5 ⟨rfl, hb5⟩
            have hq5 := hq4.later hb5 (Nat.le_refl _)
            go_wp2
            go_ret2
            exact ⟨⟨_, bitsOf l, va, vc, _, rfl, unhide hbl, hq5.mono hbse, by have := unhide hpb; omega, by rw [unhide hbl]; omega⟩, bnext hb4 hb5⟩

end Go.Proofs.Ytmhpfnknamimbaa
