/- The walk of a law of bits: a text that is cut, or longer, is not read. -/
import Derived.Test.YtmhpfnknamimbaaLg1
import Derived.Test.YtmhpfnknamimbaaLc3
namespace Go.Proofs.Ytmhpfnknamimbaa
open Go.RowKit Corb

theorem implGet_no (s : ByteArray) (a : Option Addr) (cap n : Nat) (l : List Int) (w : World) (hn : l.length = n) (h : IRow w a l) (hs : s.size ≤ 2000000) (hl : l.length ≤ 2000000) (hno : getOk s.data.toList l = false) :
    Calls Try.prog 22 #[.string s, .slice a n cap] w fun e w' => (∃ b m c, e = .returned (.tuple #[.slice b m c, .bool false])) ∧ Below w.heap.size w w' := by
  subst hn
  refine (implBitsGet_any s a cap l w h hs hl).mono ?_
  rintro e w' ⟨v, rfl, ho, hb⟩
  obtain ⟨va, vc, rfl⟩ := ho.form
  rw [hno]
  exact ⟨⟨_, _, _, rfl⟩, hb⟩
theorem IOwn.rowN {w : World} {base n : Nat} {a : Option Addr} {cap : Nat} {l : List Int} (hn : l.length = n) (h : IOwn w base (.slice a n cap) l) : IRow w a l := by
  subst hn
  exact h.row
theorem IOwn.formN {w : World} {base n : Nat} {v : Value} {l : List Int} (hn : l.length = n) (h : IOwn w base v l) : ∃ a cap, v = .slice a n cap := by
  subst hn
  exact h.form
theorem IOwn.own {w : World} {base n : Nat} {v : Value} {l : List Int} (hn : l.length = n) (h : IOwn w base v l) : w.ownsRow base 3 1 v n (l.map (Value.int .i64)) := by
  subst hn
  exact h
theorem iown_snocN {x : World} {base n : Nat} {v : Value} {l : List Int} {a : Int} (hn : l.length = n) (h : x.ownsRow base 3 1 v (n + 1) (l.map (Value.int .i64) ++ [.int .i64 a])) : IOwn x base v (l ++ [a]) := by
  subst hn
  exact iown_snoc h

theorem implPut_eq (a : Option Addr) (cap : Nat) (l : List (Int × Int)) (B : ByteArray) (w : World) (h : PRow w a l) (hm : l.length ≤ 1000000000) (hB : B.data.toList = putS l) :
    Calls Try.prog 18 #[.slice a l.length cap] w fun e w' => e = .returned (.string B) ∧ Below w.heap.size w w' := by
  have e : B = ⟨(putS l).toArray⟩ := by rw [← hB]
  rw [e]
  exact implBitsPut_any a cap l w h hm
theorem specPut_eq (a : Option Addr) (cap : Nat) (l : List (Int × Int)) (B : ByteArray) (w : World) (h : PRow w a l) (hm : l.length ≤ 1000000000) (hB : B.data.toList = putS l) :
    Calls Try.prog 20 #[.slice a l.length cap] w fun e w' => e = .returned (.string B) ∧ Below w.heap.size w w' := by
  have e : B = ⟨(putS l).toArray⟩ := by rw [← hB]
  rw [e]
  exact specBitsPut_any a cap l w h hm

theorem size_list (B : ByteArray) : B.data.toList.length = B.size := by simp
theorem lok_put {l : List (Int × Int)} (h : putS l ≠ []) : lOk l = true := by
  rcases hk : lOk l with _ | _
  · exact absurd (putS_no hk) h
  · rfl
theorem empty_yes {s : ByteArray} (h : s.size = 0) : s.toList.isEmpty = true := by
  have : s = ByteArray.empty := ByteArray.size_eq_zero_iff.1 h
  subst this
  unfold ByteArray.toList ByteArray.toList.loop
  rfl
theorem empty_not {B : ByteArray} (h : 0 < B.size) : ¬ B = ByteArray.empty := by
  rintro rfl
  exact absurd h (by decide)
theorem take_list (s : ByteArray) (k : Nat) : (s.extract 0 k).data.toList = s.data.toList.take k := by
  rw [ByteArray.data_extract, Array.toList_extract]
  simp [List.extract]

set_option maxHeartbeats 1600000 in
theorem fnBitsCut_walk (a : Option Addr) (len cap : Nat) (zs : List Int) (w : World) (w0 : IsRow .u8 w a len cap zs) :
    Calls Try.prog 10 #[.slice a len cap] w fun e w' => e = .returned (.bool true) ∧ Below w.heap.size w w' := by
  obtain ⟨⟨z, hsrc⟩, hc, hm⟩ := src_of w0
  have hm' := hide hm
  unfold maxLen at hm
  clear w0
  obtain ⟨i0, hi, hz0, hz1, hz2⟩ := info_parts Try.infoInt
  by_cases hl : (len : Int) ≤ 1048576
  · go_enter Try.func10, Try.ntmps10
    go_wp2_with fail
    refine (drawBitsPut_any a len cap z _ hsrc hc (unhide hm')).mono ?_
    rintro e x1 ⟨⟨l, g, lcap, rfl, hp1, hl12⟩, hb1⟩
    have HL := hide hl12
    have hl12' : (l.length : Int) ≤ 12 := by omega
    obtain ⟨B, hB⟩ : ∃ B : ByteArray, B.data.toList = putS l := ⟨⟨(putS l).toArray⟩, by simp⟩
    have HB := hide hB
    have hsl := putS_len l (by omega)
    have hsz := size_list B
    have hBI : (B.size : Int) ≤ 8001 := by rw [← hsz, hB]; omega
    clear hl12 hsl hB
    go_wp2_with fail
    refine (implPut_eq _ _ l B _ hp1.row (by have := unhide HL; omega) (unhide HB)).mono ?_
    rintro e x2 ⟨rfl, hb2⟩
    have hp2 := hp1.later hb2 (Nat.le_refl _)
    go_wp2_with fail
    refine (specPut_eq _ _ l B _ hp2.row (by have := unhide HL; omega) (unhide HB)).mono ?_
    rintro e x3 ⟨rfl, hb3⟩
    have hp3 := hp2.later hb3 (Nat.le_refl _)
    have hbA := bnext (bnext hb1 hb2) hb3
    clear hp1 hp2 hb1 hb2 hb3
    by_cases hE : B.toList.isEmpty = true
    · go_wp2_with fail
      refine (specPut_eq _ _ l B _ hp3.row (by have := unhide HL; omega) (unhide HB)).mono ?_
      rintro e x4 ⟨rfl, hb4⟩
      go_wp2
      go_ret
      exact ⟨ret_bool (by simp), bnext hbA hb4⟩
    · have hpos : 0 < B.size := by
        rcases Nat.eq_zero_or_pos B.size with h0 | h0
        · exact absurd (empty_yes h0) hE
        · exact h0
      have hE' : B.toList.isEmpty = false := by simpa using hE
      have hne := empty_not hpos
      have hlk : lOk l = true := lok_put (by rw [← unhide HB]; intro h; rw [h] at hsz; simp only [List.length_nil] at hsz; omega)
      obtain ⟨N, hN⟩ : ∃ N, B.size = N + 1 := ⟨B.size - 1, by omega⟩
      have n1 : (B.size : Int) - 1 = (N : Int) := by omega
      have n2 : IntKind.i64.wrap ((B.size : Int) - 1) = (N : Int) := by rw [n1]; exact wrap_id _ (by omega) (by omega)
      have n3 : (N : Int) ≤ (B.size : Int) := by omega
      have n4 : (0 : Int) ≤ (N : Int) := by omega
      have hno1 : Hid (getOk (B.extract 0 N).data.toList (bitsOf l) = false) := get_cut hlk (by rw [take_list, unhide HB, List.length_take, ← unhide HB, hsz]; omega)
      have hno2 : Hid (getOk (B ++ (⟨#[0]⟩ : ByteArray)).data.toList (bitsOf l) = false) := get_cut hlk (by rw [← unhide HB]; simp)
      have hs1 : Hid ((B.extract 0 N).size ≤ 2000000) := by show (B.extract 0 N).size ≤ 2000000; rw [ByteArray.size_extract]; omega
      have hs2 : Hid ((B ++ (⟨#[0]⟩ : ByteArray)).size ≤ 2000000) := by show (B ++ (⟨#[0]⟩ : ByteArray)).size ≤ 2000000; rw [ByteArray.size_append]; show B.size + 1 ≤ _; omega
      have hbl := hide (bitsOf_len l)
      clear hE hpos hlk hN hsz
      have hI0 := IOwn.lit x3 x3.heap.size (Nat.le_refl _)
      have hb0 : Below x3.heap.size x3 (x3.alloc (.cells #[] 3)) := (Below.refl _ _).alloc (Nat.le_refl _) _
      go_wp2_with fail
      go_loopw [5, 6] (fun v i wr => ∃ k : Nat, k ≤ l.length ∧ i = .int .i64 k ∧ IOwn wr x3.heap.size v (bitsOf (l.take k)) ∧ Below x3.heap.size x3 wr) (fun _ i _ => l.length - (intOf i).toNat)
      case atStart => exact ⟨0, Nat.zero_le _, rfl, hI0, hb0⟩
      case round =>
        obtain ⟨k, hk, rfl, hq, hbel⟩ := hrel
        clear hI0 hb0
        have hbs := hbel.size
        by_cases hlt : k < l.length
        · obtain ⟨g', o, ea, hg', hcells⟩ := (hp3.row.later hbel) (by omega)
          obtain ⟨c0, c1⟩ := hcells k hlt
          simp only [Option.some.injEq, Addr.mk.injEq, and_true] at ea
          obtain ⟨rfl, rfl⟩ := ea
          have htk := hide (bitsOf_take l k hlt)
          have hlenk : Hid ((bitsOf (l.take k)).length = k) := by show (bitsOf (l.take k)).length = k; rw [bitsOf_len]; simp; omega
          have HK := hide hk
          clear hcells hk
          generalize (l.getD k (0, 0)).1 = x at *
          generalize (l.getD k (0, 0)).2 = y at *
          rw [Nat.zero_add] at c0 c1
          go_wp2_with (at_builtin; refine wpList_append_own _ rfl _ _ 27 rfl x3.heap.size 3 i0 (.int .i64 0) 1 8 Try.underlying27 hi hz0 hz1 hz2 rfl (by decide) _ _ _ rfl (World.ownsRow.alloc hq _) ⟨wr.heap.size, 0, none⟩ 1 1 [.int .i64 y] rfl rfl (by intro j u hj; match j, hj with | 0, hj => simp at hj; subst hj; simp [Addr.add]) (by intro u hu; simp at hu; subst hu; rfl) (by have := unhide HL; have := unhide hlenk; unfold maxLen; omega) (by have := unhide HL; have := unhide hlenk; omega) (by simp; omega) ?_; intro v' x5 hown hgrow hnil; clear hnil)
          have hb5 := grown_step (v := u5) hgrow hq (Nat.le_refl _) hbs hbel
          have hq5 := iown_snoc hown
          rw [← unhide htk] at hq5
          clear hown hgrow hq
          go_wp2
          go_roundw
          case rel => exact ⟨k + 1, by have := unhide HK; omega, by go_num, hq5, hb5⟩
          case measure => simp [intOf]; omega
        · have hlk2 : Hid (l.take k = l) := List.take_of_length_le (by omega)
          rw [unhide hlk2] at hq
          obtain ⟨va, vc, rfl⟩ := hq.formN (unhide hbl)
          have hbB := bnext hbA hbel
          clear hp3 hbel hbA
          go_wp2_with fail
          refine (implGet_no (B.extract 0 N) _ _ _ (bitsOf l) _ (unhide hbl) (hq.rowN (unhide hbl)) (unhide hs1) (by have := unhide hbl; have := unhide HL; omega) (unhide hno1)).mono ?_
          rintro e y1 ⟨⟨b1, m1, c1, rfl⟩, hd1⟩
          have hq1 := hq.later hd1 (Nat.le_refl _)
          go_wp2_with fail
          refine (implGet_no (B ++ (⟨#[0]⟩ : ByteArray)) _ _ _ (bitsOf l) _ (unhide hbl) (hq1.rowN (unhide hbl)) (unhide hs2) (by have := unhide hbl; have := unhide HL; omega) (unhide hno2)).mono ?_
          rintro e y2 ⟨⟨b2, m2, c2, rfl⟩, hd2⟩
          go_wp2
          go_ret
          exact ⟨rfl, bnext (bnext hbB hd1) hd2⟩
  · go_enter Try.func10, Try.ntmps10
    go_wp2
    go_ret
    exact ⟨rfl, Below.refl _ _⟩

end Go.Proofs.Ytmhpfnknamimbaa
