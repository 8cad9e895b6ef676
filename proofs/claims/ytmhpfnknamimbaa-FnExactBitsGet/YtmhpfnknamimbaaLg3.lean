/- The walk of a law of bits: numbers are read back from their bits. -/
import Derived.Test.YtmhpfnknamimbaaLg2
import Derived.Maps.AppendAt
namespace Go.Proofs.Ytmhpfnknamimbaa
open Go.RowKit Corb

/-- Two rows of the call's own, the one grown: the other stays, and they stay apart. -/
theorem two_push {w w' : World} {o : Obj} {a a' b : Value} {base : Nat} {e : TypeId} {size n : Nat} {xs : List Value} (hB : w.ownsRow base e size b n xs) (hap : b.ownBlock = none ∨ b.ownBlock ≠ a.ownBlock)
    (hg : (w.alloc o).grownBy w' a.ownBlock) (hat : a'.ownBlock = a.ownBlock ∨ a'.ownBlock = some (w.alloc o).heap.size) : w'.ownsRow base e size b n xs ∧ (b.ownBlock = none ∨ b.ownBlock ≠ a'.ownBlock) := by
  refine ⟨(hB.alloc o).kept hg hap, ?_⟩
  rcases hap with h | h
  · exact .inl h
  · refine .inr ?_
    rcases hat with e | e
    · rw [e]; exact h
    · rw [e]
      intro he
      have := (World.ownsRow.lt (hB.alloc o) _ he).2
      omega
theorem apart_symm {a b : Value} (h : b.ownBlock = none ∨ b.ownBlock ≠ a.ownBlock) (ha : a.ownBlock ≠ none) : a.ownBlock = none ∨ a.ownBlock ≠ b.ownBlock := by
  rcases h with h | h
  · exact .inr (by rw [h]; exact ha)
  · exact .inr (fun e => h e.symm)
theorem own_some {v : Value} (h : v ≠ .slice none 0 0) {w : World} {base : Nat} {e : TypeId} {size n : Nat} {xs : List Value} (ho : w.ownsRow base e size v n xs) : v.ownBlock ≠ none := by
  rcases ho.2 with ⟨e, _⟩ | ⟨g, cap, cur, rfl, _⟩
  · exact absurd e h
  · simp [Value.ownBlock]

theorem implGet_yes (s : ByteArray) (a : Option Addr) (cap n : Nat) (l r : List Int) (w : World) (hn : l.length = n) (h : IRow w a l) (hs : s.size ≤ 2000000) (hl : l.length ≤ 2000000) (hok : getOk s.data.toList l = true ∧ getL s.data.toList l = r) (hr : r.length = n) :
    Calls Try.prog 22 #[.string s, .slice a n cap] w fun e w' => (∃ b c, e = .returned (.tuple #[.slice b n c, .bool true]) ∧ IOwn w' w.heap.size (.slice b n c) r) ∧ Below w.heap.size w w' := by
  subst hn
  refine (implBitsGet_any s a cap l w h hs hl).mono ?_
  rintro e w' ⟨v, rfl, ho, hb⟩
  rw [hok.2] at ho
  obtain ⟨va, vc, rfl⟩ := ho.formN hr
  rw [hok.1]
  exact ⟨⟨_, _, rfl, ho⟩, hb⟩
theorem cbInts_n (a b : Option Addr) (c d n : Nat) (l : List Int) (w : World) (hn : l.length = n) (ha : IRow w a l) (hb : IRow w b l) (hl : l.length ≤ 2000000) :
    Calls Try.prog 23 #[.slice a n c, .slice b n d] w fun e w' => e = .returned (.bool true) ∧ Below w.heap.size w w' := by
  subst hn
  exact cbInts_same a b c d l w ha hb hl

set_option maxHeartbeats 3200000 in
theorem fnBits_walk (a : Option Addr) (len cap : Nat) (zs : List Int) (w : World) (w0 : IsRow .u8 w a len cap zs) :
    Calls Try.prog 3 #[.slice a len cap] w fun e w' => e = .returned (.bool true) ∧ Below w.heap.size w w' := by
  obtain ⟨⟨z, hsrc⟩, hc, hm⟩ := src_of w0
  have hm' := hide hm
  unfold maxLen at hm
  clear w0
  obtain ⟨i0, hi, hz0, hz1, hz2⟩ := info_parts Try.infoInt
  by_cases hl : (len : Int) ≤ 1048576
  · go_enter Try.func3, Try.ntmps3
    go_wp2_with fail
    refine (drawBitsPut_any a len cap z _ hsrc hc (unhide hm')).mono ?_
    rintro e x1 ⟨⟨l, g, lcap, rfl, hp1, hl12⟩, hb1⟩
    have HL := hide hl12
    have hl12' : (l.length : Int) ≤ 12 := by omega
    obtain ⟨B, hB⟩ : ∃ B : ByteArray, B.data.toList = putS l := ⟨⟨(putS l).toArray⟩, by simp⟩
    have HB := hide hB
    have hsl := putS_len l (by omega)
    have hsz := size_list B
    have hBI : (B.size : Int) ≤ 8001 := by rw [← hsz, hB]; omega
    have hN := longI_ge l
    have hg64 : longI l ≤ 64000 := hN.2 (by omega)
    have hg1 : -1 ≤ longI l := hN.1
    have hlok := hide (lok_of (l := l))
    have hyes := hide (longI_yes (l := l))
    have hsb := hide (valP_bits l)
    have hsz' := hide hsz
    generalize hn : longI l = n at *
    have Hn := hide hn
    clear hl12 hsl hB hsz hN hn
    go_wp2_with fail
    refine (implPut_eq _ _ l B _ hp1.row (by have := unhide HL; omega) (unhide HB)).mono ?_
    rintro e x2 ⟨rfl, hb2⟩
    have hp2 := hp1.later hb2 (Nat.le_refl _)
    go_wp2_with fail
    refine (implBitsLong_any _ _ l _ hp2.row (by have := unhide HL; omega)).mono ?_
    rintro e x3 ⟨rfl, hb3⟩
    rw [unhide Hn]
    have hp3 := hp2.later hb3 (Nat.le_refl _)
    go_wp2_with fail
    refine (specPut_eq _ _ l B _ hp3.row (by have := unhide HL; omega) (unhide HB)).mono ?_
    rintro e x4 ⟨rfl, hb4⟩
    have hp4 := hp3.later hb4 (Nat.le_refl _)
    go_wp2_with fail
    refine (specBitsLong_any _ _ l _ hp4.row (by have := unhide HL; omega)).mono ?_
    rintro e x5 ⟨rfl, hb5⟩
    rw [unhide Hn]
    have hp5 := hp4.later hb5 (Nat.le_refl _)
    have hbA := bnext (bnext (bnext (bnext hb1 hb2) hb3) hb4) hb5
    clear hp1 hp2 hp3 hp4 hb1 hb2 hb3 hb4 hb5
    by_cases hn0 : n < 0
    · go_wp2_with fail
      refine (specPut_eq _ _ l B _ hp5.row (by have := unhide HL; omega) (unhide HB)).mono ?_
      rintro e x6 ⟨rfl, hb6⟩
      have hp6 := hp5.later hb6 (Nat.le_refl _)
      go_wp2_with fail
      refine (specBitsLong_any _ _ l _ hp6.row (by have := unhide HL; omega)).mono ?_
      rintro e x7 ⟨rfl, hb7⟩
      rw [unhide Hn]
      go_wp2
      go_ret
      exact ⟨ret_bool (by simp), bnext (bnext hbA hb6) hb7⟩
    · have hlk := unhide hlok (by omega)
      have hgp := get_put hlk
      rw [← unhide HB] at hgp
      have HGP := hide hgp
      have hall : allOk l = true := by simp only [lOk, Bool.and_eq_true] at hlk; exact hlk.1
      have hBn : (B.size : Int) = (n + 7) / 8 := by
        have h1 := putS_len' hlk
        rw [sumN_bits hall, ← unhide HB, unhide hsz'] at h1
        have h2 := unhide hsb hall
        have h3 := unhide hyes hlk
        omega
      have hbl := hide (bitsOf_len l)
      have hnl := hide (numsOf_len l)
      have hB2 : Hid (B.size ≤ 2000000) := by show B.size ≤ 2000000; omega
      clear hlk hgp hall hlok hyes hsb hsz'
      have hI0 := IOwn.lit x5 x5.heap.size (Nat.le_refl _)
      have hJ0 := IOwn.lit (x5.alloc (.cells #[] 3)) x5.heap.size (by simp)
      have hI1 : IOwn ((x5.alloc (.cells #[] 3)).alloc (.cells #[] 3)) x5.heap.size (.slice (some ⟨x5.heap.size, 0, none⟩) 0 0) [] := World.ownsRow.alloc hI0 _
      have hsz1 : (x5.alloc (.cells #[] 3)).heap.size = x5.heap.size + 1 := by simp
      rw [hsz1] at hJ0
      have hb0 : Below x5.heap.size x5 ((x5.alloc (.cells #[] 3)).alloc (.cells #[] 3)) := ((Below.refl _ _).alloc (Nat.le_refl _) _).alloc (by simp) _
      have hap0 : (Value.slice (some ⟨x5.heap.size + 1, 0, none⟩) 0 0).ownBlock ≠ (Value.slice (some ⟨x5.heap.size, 0, none⟩) 0 0).ownBlock := by simp [Value.ownBlock]
      clear hI0 hsz1
      go_wp2_with fail
      go_loopw [6, 7, 8] (fun v u i wr => ∃ k : Nat, k ≤ l.length ∧ i = .int .i64 k ∧ IOwn wr x5.heap.size v (bitsOf (l.take k)) ∧ IOwn wr x5.heap.size u (numsOf (l.take k)) ∧ v ≠ .slice none 0 0 ∧ u ≠ .slice none 0 0 ∧ u.ownBlock ≠ v.ownBlock ∧ Below x5.heap.size x5 wr) (fun _ _ i _ => l.length - (intOf i).toNat)
      case atStart => exact ⟨0, Nat.zero_le _, rfl, hI1, hJ0, by simp, by simp, hap0, hb0⟩
      case round =>
        obtain ⟨k, hk, rfl, hq, hq', hv, hu, hap, hbel⟩ := hrel
        clear hI1 hJ0 hb0 hap0
        have hbs := hbel.size
        by_cases hlt : k < l.length
        · have HC : ∀ W, Below x5.heap.size x5 W → W.cell? ⟨g, k * 2, none⟩ = some (.int .i64 (l.getD k (0, 0)).1) ∧ W.cell? ⟨g, k * 2 + 1, none⟩ = some (.int .i64 (l.getD k (0, 0)).2) := by
            intro W hW
            obtain ⟨g', o, ea, hg', hcells⟩ := (hp5.row.later hW) (by omega)
            obtain ⟨c0, c1⟩ := hcells k hlt
            simp only [Option.some.injEq, Addr.mk.injEq, and_true] at ea
            obtain ⟨rfl, rfl⟩ := ea
            rw [Nat.zero_add] at c0 c1
            exact ⟨c0, c1⟩
          obtain ⟨c0, c1⟩ := HC _ hbel
          have htk := hide (bitsOf_take l k hlt)
          have htn := hide (numsOf_take l k hlt)
          have hlenk : Hid ((bitsOf (l.take k)).length = k) := by show (bitsOf (l.take k)).length = k; rw [bitsOf_len]; simp; omega
          have hlenn : Hid ((numsOf (l.take k)).length = k) := by show (numsOf (l.take k)).length = k; rw [numsOf_len]; simp; omega
          have HK := hide hk
          clear hk
          generalize (l.getD k (0, 0)).1 = x at *
          generalize (l.getD k (0, 0)).2 = y at *
          go_wp2_with (first | (at_builtin; refine wpList_append_own_at _ rfl (.tmp 52) (.tmp 58) 27 rfl x5.heap.size 3 i0 (.int .i64 0) 1 8 Try.underlying27 hi hz0 hz1 hz2 rfl (by decide) u6 _ _ rfl (World.ownsRow.alloc hq _) ⟨wr.heap.size, 0, none⟩ 1 1 [.int .i64 y] rfl rfl (by intro j u hj; match j, hj with | 0, hj => simp at hj; subst hj; simp [Addr.add]) (by intro u hu; simp at hu; subst hu; rfl) (by have := unhide HL; have := unhide hlenk; unfold maxLen; omega) (by have := unhide HL; have := unhide hlenk; omega) (by simp; omega) ?_; intro v6 x6 hown hgrow hnil hat; have hb6 := grown_step (v := u6) hgrow hq (Nat.le_refl _) hbs hbel; have hq6 := iown_snoc hown; rw [← unhide htk] at hq6; obtain ⟨hq'6, hap6⟩ := two_push hq' (Or.inr hap) hgrow hat; have hap6' : u7.ownBlock ≠ v6.ownBlock := hap6.resolve_left (own_some hu hq'); have hv6 : v6 ≠ .slice none 0 0 := fun e => hv (hnil.1 e).1; obtain ⟨d0, d1⟩ := HC _ hb6; have hbs6 := hb6.size; clear hown hgrow hnil hat hq hap hap6 hv c0 c1 hbel) | (at_builtin; refine wpList_append_own_at _ rfl (.tmp 60) (.tmp 66) 27 rfl x5.heap.size 3 i0 (.int .i64 0) 1 8 Try.underlying27 hi hz0 hz1 hz2 rfl (by decide) u7 _ _ rfl (World.ownsRow.alloc hq'6 _) ⟨x6.heap.size, 0, none⟩ 1 1 [.int .i64 x] rfl rfl (by intro j u hj; match j, hj with | 0, hj => simp at hj; subst hj; simp [Addr.add]) (by intro u hu; simp at hu; subst hu; rfl) (by have := unhide HL; have := unhide hlenn; unfold maxLen; omega) (by have := unhide HL; have := unhide hlenn; omega) (by simp; omega) ?_; intro v7 x7 hown hgrow hnil hat))
          have hb7 := grown_step (v := u7) hgrow hq'6 (Nat.le_refl _) hbs6 hb6
          have hq'7 := iown_snoc hown
          rw [← unhide htn] at hq'7
          obtain ⟨hq7, hap7⟩ := two_push hq6 (Or.inr (fun e => hap6' e.symm)) hgrow hat
          have hap7' : v7.ownBlock ≠ v6.ownBlock := fun e => (hap7.resolve_left (own_some hv6 hq6)) e.symm
          have hu7 : v7 ≠ .slice none 0 0 := by intro e; exact hu (hnil.1 e).1
          clear hown hgrow hnil hat hq6 hap7 hu d0 d1 hb6 hq'6 HC
          go_wp2
          go_roundw
          case rel => exact ⟨k + 1, by have := unhide HK; omega, by go_num, hq7, hq'7, hv6, hu7, hap7', hb7⟩
          case measure => simp [intOf]; omega
        · have hlk2 : Hid (l.take k = l) := List.take_of_length_le (by omega)
          rw [unhide hlk2] at hq hq'
          obtain ⟨va, vc, rfl⟩ := hq.formN (unhide hbl)
          obtain ⟨ua, uc, rfl⟩ := hq'.formN (unhide hnl)
          have hbB := bnext hbA hbel
          clear hp5 hbel hbA hap hv hu
          go_wp2_with fail
          refine (implGet_yes B _ _ _ (bitsOf l) (numsOf l) _ (unhide hbl) (hq.rowN (unhide hbl)) (unhide hB2) (by have := unhide hbl; have := unhide HL; omega) (unhide HGP) (unhide hnl)).mono ?_
          rintro e y1 ⟨⟨b1, c1, rfl, ho1⟩, hd1⟩
          have hq1 := hq'.later hd1 (Nat.le_refl _)
          go_wp2_with fail
          refine (cbInts_n _ _ _ _ _ (numsOf l) _ (unhide hnl) (ho1.rowN (unhide hnl)) (hq1.rowN (unhide hnl)) (by have := unhide hnl; have := unhide HL; omega)).mono ?_
          rintro e y2 ⟨rfl, hd2⟩
          go_wp2
          go_ret
          exact ⟨ret_bool (by simp), bnext (bnext hbB hd1) hd2⟩
  · go_enter Try.func3, Try.ntmps3
    go_wp2
    go_ret
    exact ⟨rfl, Below.refl _ _⟩

end Go.Proofs.Ytmhpfnknamimbaa
