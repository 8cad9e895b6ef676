/- The contract of the program's writer of bits: a piece is written, over this seat's program. -/
import Derived.Test.YtmocfpjcknmhlaaPw1
namespace Go.Proofs.Ytmocfpjcknmhlaa
open Go.RowKit Corb

theorem u8_or_join (B X r : Nat) (hB : B < p2 r) (hr : r < 8) (hX : X = 0 ∨ X = p2 r) : bits .or .u8 (B : Int) (X : Int) = ((B + X : Nat) : Int) := by
  have h7 := p2_le r 7 (by omega)
  have h3 : p2 7 = 128 := rfl
  rw [u8_or_nat B X (by omega) (by omega)]
  congr 1
  rw [Nat.or_comm]
  rcases hX with rfl | rfl
  · simp
  · rw [nat_join r (p2 r) B (by unfold p2; simp) hB]; omega

theorem Two.other {w : World} {b g o : Nat} {v0 v1 : Value} (h : Two w b v0 v1) (hg : g ≠ b) (u : Value) : Two (w.setCell ⟨g, o, none⟩ u) b v0 v1 := by
  obtain ⟨c0, c1, f0, f1, hb⟩ := h
  refine ⟨?_, ?_, by simpa using f0, by simpa using f1, by simpa using hb⟩
  · rw [World.cell?_setCell_other _ _ _ _ (by simp only [ne_eq, Addr.mk.injEq]; omega)]; exact c0
  · rw [World.cell?_setCell_other _ _ _ _ (by simp only [ne_eq, Addr.mk.injEq]; omega)]; exact c1

theorem wout_step {w wr : World} {b g cap V1 m1 x L X : Nat} {P : Nat} {p q : Int} (htr : Two wr b (.slice (some ⟨g, 0, none⟩) (leS (m1 / 8 + 1) V1).length cap) (.int .i64 (m1 : Int)))
    (hput : Bys (wr.setCell ⟨g, m1 / 8, none⟩ (.int .u8 ((UInt8.ofNat (L + X)).toNat : Int))) b (.slice (some ⟨g, 0, none⟩) (leS (m1 / 8 + 1) V1).length cap) ((leS (m1 / 8 + 1) V1).set (m1 / 8) (UInt8.ofNat (L + X))))
    (hw1 : V1 + x * p2 m1 < p2 (m1 + 1)) (hw2 : leS ((m1 + 1 + 7) / 8) (V1 + x * p2 m1) = (leS (m1 / 8 + 1) V1).set (m1 / 8) (UInt8.ofNat (L + X)))
    (hbv : (UInt8.ofNat (L + X)).toNat = L + X) (hgb : b < g) (hgP : g ≠ P) (hPb : P ≠ b) (hbox : Box wr P p q) (hbel : Below b w wr) (hby0 : Bys wr b (.slice (some ⟨g, 0, none⟩) (leS (m1 / 8 + 1) V1).length cap) (leS (m1 / 8 + 1) V1)) (hkp : Keep5 b w wr) :
    WOut ((wr.setCell ⟨g, m1 / 8, none⟩ (.int .u8 ((L : Int) + (X : Int)))).setCell ⟨b, 1, none⟩ (.int .i64 ((m1 : Int) + 1))).drew b (V1 + x * p2 m1) (m1 + 1) ∧
    Box ((wr.setCell ⟨g, m1 / 8, none⟩ (.int .u8 ((L : Int) + (X : Int)))).setCell ⟨b, 1, none⟩ (.int .i64 ((m1 : Int) + 1))).drew P p q ∧
    Below b w ((wr.setCell ⟨g, m1 / 8, none⟩ (.int .u8 ((L : Int) + (X : Int)))).setCell ⟨b, 1, none⟩ (.int .i64 ((m1 : Int) + 1))).drew ∧
    Keep5 b w ((wr.setCell ⟨g, m1 / 8, none⟩ (.int .u8 ((L : Int) + (X : Int)))).setCell ⟨b, 1, none⟩ (.int .i64 ((m1 : Int) + 1))).drew := by
  have e : ((UInt8.ofNat (L + X)).toNat : Int) = (L : Int) + (X : Int) := by rw [hbv]; omega
  rw [e] at hput
  refine ⟨⟨hw1, .slice (some ⟨g, 0, none⟩) (leS (m1 / 8 + 1) V1).length cap, ?_, ?_⟩, ?_, ?_, ?_⟩
  · exact ((htr.other (by omega) _).set1 _).drew
  · rw [hw2]
    exact (hput.set _).drew
  · exact ((hbox.set (by omega) _).set (by omega) _).drew
  · exact (below_set (below_set hbel (by omega) _) (Nat.le_refl _) _).drew
  · exact ((hkp.setRow hby0 _).set _).drew

set_option maxHeartbeats 6400000 in
theorem pass_any (b V m : Nat) (num bits : Int) (w : World) (h : WOut w b V m) (hp : pOk num bits = true) (hm : m ≤ 100000) :
    Calls Try.prog 31 #[.pointer (some ⟨b, 0, none⟩), .agg #[.int .i64 num, .int .i64 bits]] w fun e w' => e = .returned (.int .i64 num) ∧
      WOut w' b (V + num.toNat * p2 m) (m + bits.toNat) ∧ Below b w w' ∧ Keep5 b w w' := by
  obtain ⟨⟨b0, b1⟩, n0, n1⟩ := pOk_true.1 hp
  have hq := (pow_bd bits b1).2
  obtain ⟨n, rfl⟩ := Int.eq_ofNat_of_zero_le n0
  obtain ⟨c, rfl⟩ := Int.eq_ofNat_of_zero_le b0
  rw [Int.toNat_natCast, Int.toNat_natCast]
  rw [Int.toNat_natCast] at n1 hq
  have hnmod : Hid (n % p2 c = n) := Nat.mod_eq_of_lt (by omega)
  have hn2 : (n : Int) < 65536 := by omega
  obtain ⟨i0, hi, hz0, hz1, hz2⟩ := info_parts Try.infoByte
  have hbw : b < w.heap.size := by obtain ⟨_, v, ht, _⟩ := h; exact ht.2.2.2.2
  have hbox0 := box_new w (n : Int) (c : Int)
  have h0 : WOut (w.alloc (.cells #[.int .i64 (n : Int), .int .i64 (c : Int)] 27)) b V m := by
    obtain ⟨hV, v, ht, hy⟩ := h
    exact ⟨hV, v, ht.kept ((Below.refl _ _).alloc (by omega) _), World.ownsRow.alloc hy _⟩
  have hbel0 : Below b w (w.alloc (.cells #[.int .i64 (n : Int), .int .i64 (c : Int)] 27)) := (Below.refl _ _).alloc (by omega) _
  clear n1 hq h hp
  go_enter Try.func31, Try.ntmps31
  go_wp2_with fail
  go_loopw [5, 8] (fun _ i wr => ∃ k : Nat, k ≤ c ∧ i = .int .i64 k ∧ WOut wr b (V + n % p2 k * p2 m) (m + k) ∧ Box wr w.heap.size n c ∧ Below b w wr ∧ Keep5 b w wr) (fun _ i _ => c - (intOf i).toNat)
  case atStart => exact ⟨0, Nat.zero_le _, rfl, by simpa [p2, Nat.mod_one] using h0, hbox0, hbel0, (Keep5.refl _ _).alloc _⟩
  case round =>
    obtain ⟨k, hk, rfl, hout, hbox, hbel, hkp⟩ := hrel
    clear h0 hbox0 hbel0
    obtain ⟨bc0, bc1, bclt⟩ := hbox.cells
    by_cases hlt : k < c
    · have hval := hide (put_val V n k m)
      have hnk : n / p2 k ≤ n := Nat.div_le_self _ _
      have Hsh : Hid ((n : Int) / 2 ^ k = ((n / p2 k : Nat) : Int)) := (Int.natCast_ediv n (2 ^ k)).symm
      obtain ⟨hV, v, htr, hby⟩ := hout
      obtain ⟨sa, scap, rfl⟩ := hby.form
      have hlb := last_bd (V + n % p2 k * p2 m) (m + k) hV
      generalize V + n % p2 k * p2 m = V1 at *
      generalize hm1 : m + k = m1 at *
      have hx : n / p2 k % 2 ≤ 1 := by omega
      have hnkI : ((n / p2 k : Nat) : Int) < 65536 := by omega
      have hone := i64_and_one ((n / p2 k : Nat) : Int) (Int.natCast_nonneg _) (Int.lt_trans hnkI (by omega))
      have hxI : ((n / p2 k : Nat) : Int) % 2 = ((n / p2 k % 2 : Nat) : Int) := by omega
      rw [hxI] at hone
      have hp7 : p2 (m1 % 8) ≤ 128 := p2_le (m1 % 8) 7 (by omega)
      have hXle : n / p2 k % 2 * p2 (m1 % 8) ≤ 1 * p2 (m1 % 8) := Nat.mul_le_mul_right _ hx
      have hmul : ((n / p2 k % 2 : Nat) : Int) * (2 : Int) ^ (m1 % 8) = ((n / p2 k % 2 * p2 (m1 % 8) : Nat) : Int) := by rw [Int.natCast_mul, p2_int]
      have hX01 : n / p2 k % 2 * p2 (m1 % 8) = 0 ∨ n / p2 k % 2 * p2 (m1 % 8) = p2 (m1 % 8) := by
        rcases (show n / p2 k % 2 = 0 ∨ n / p2 k % 2 = 1 by omega) with e | e <;> rw [e] <;> simp
      obtain ⟨hw1, hw2⟩ := wset V1 m1 (n / p2 k % 2) hV hx
      have hwb := wbyte V1 m1 hV
      have hor := u8_or_join (V1 / p2 (8 * (m1 / 8))) (n / p2 k % 2 * p2 (m1 % 8)) (m1 % 8) hlb (by omega) hX01
      have hpad := hide (wpad V1 m1 hV)
      have hsame := hide (wsame V1 m1)
      have hlen : (leS (m1 / 8 + 1) V1).length = m1 / 8 + 1 := leS_len _ _
      have hlen0 : (leS ((m1 + 7) / 8) V1).length = (m1 + 7) / 8 := leS_len _ _
      have hm1le : m1 ≤ 100016 := by omega
      have hb256 : V1 / p2 (8 * (m1 / 8)) + n / p2 k % 2 * p2 (m1 % 8) < 256 := by omega
      have hbv := byte_val _ hb256
      have hkc : (k : Int) < (c : Int) := by omega
      have hk16 : (k : Int) ≤ 16 := by omega
      have hr0 : m1 % 8 = 0 ↔ ((m1 : Int) % 8 = 0) := by omega
      have hr8 : (m1 : Int) % 8 < 8 := by omega
      have hm1I : (m1 : Int) ≤ 100016 := by omega
      have hBI : ((V1 / p2 (8 * (m1 / 8)) : Nat) : Int) < 256 := by omega
      have hXI : ((n / p2 k % 2 * p2 (m1 % 8) : Nat) : Int) ≤ 128 := by omega
      have hx1I : ((n / p2 k % 2 : Nat) : Int) ≤ 1 := by omega
      have Hm1 := hide hm1
      have HK := hide hk
      have Hlen := hide hlen
      have Hlen0 := hide hlen0
      have Hm1le := hide hm1le
      have Hw1 := hide hw1
      have Hw2 := hide hw2
      have Hwb := hide hwb
      have Hbv := hide hbv
      have hsh := unhide Hsh
      clear Hsh hxI hX01 hlb hp7 hXle hw1 hw2 hwb hlen hlen0 hm1le hb256 hbv hnk hx hm1 hk hV hlt
      generalize n / p2 k = nk at *
      generalize nk % 2 = x at *
      generalize x * p2 (m1 % 8) = X at *
      generalize V1 / p2 (8 * (m1 / 8)) = L at *
      have htr' := hide htr
      obtain ⟨k0, k1, f0, f1, hbw'⟩ := htr
      have hPb : w.heap.size ≠ b := by omega
      by_cases hr : m1 % 8 = 0
      · have hrI : ((m1 : Int) % 8 == 0) = true := by simp; omega
        have hpd := hide (unhide hpad hr)
        clear hr0 hr hpad hsame hr8 hm
        have hl0 : (leS ((m1 + 7) / 8) V1).length ≤ 20000 := by have := unhide Hlen0; have := unhide Hm1le; omega
        have Hl0 := hide hl0
        clear hl0
        go_wp2_with (at_builtin; refine wpList_append_own _ rfl _ _ 28 rfl (b + 1) 5 i0 (.int .u8 0) 1 1 Try.underlying28 hi hz0 hz1 hz2 rfl (by decide) _ _ _ rfl (World.ownsRow.alloc hby _) ⟨wr.heap.size, 0, none⟩ 1 1 [.int .u8 0] rfl rfl (by intro j u hj; match j, hj with | 0, hj => simp at hj; subst hj; simp [Addr.add]) (by intro u hu; simp at hu; subst hu; rfl) (by have := unhide Hl0; unfold maxLen; omega) (by have := unhide Hl0; omega) (by simp; omega) ?_; intro v' w' hown hgrow hnil; clear hnil; have hbox' := (hbox.alloc _).grown (World.ownsRow.alloc hby _) hgrow; have hkp' := (hkp.alloc (.cells #[.int .u8 0] 5)).grown (World.ownsRow.alloc hby _) hgrow; obtain ⟨⟨g, cap, rfl⟩, T3, Y3, B3⟩ := push_two (x := 0) (unhide htr') hby hbel ((Below.refl _ _).alloc (by omega) _) hown hgrow; clear hown hgrow hby hbox hbel hkp htr' k0 k1 f0 f1; have T3' := hide T3; obtain ⟨k0, k1, f0, f1, hb3⟩ := T3)
        have hlenA : (leS ((m1 + 7) / 8) V1).length + 1 = (leS (m1 / 8 + 1) V1).length := by rw [← unhide hpd, List.length_append]; rfl
        rw [hlenA] at Y3 ⊢
        have T4 := (unhide T3').set0 (.slice (some ⟨g, 0, none⟩) (leS (m1 / 8 + 1) V1).length cap)
        have hby := Y3.set (o := 0) (.slice (some ⟨g, 0, none⟩) (leS (m1 / 8 + 1) V1).length cap)
        rw [unhide hpd] at hby
        have hbox := hbox'.set (b := b) (o := 0) (by omega) (.slice (some ⟨g, 0, none⟩) (leS (m1 / 8 + 1) V1).length cap)
        have hkp := hkp'.set (o := 0) (.slice (some ⟨g, 0, none⟩) (leS (m1 / 8 + 1) V1).length cap)
        have hbel : Below b w _ := below_set B3 (o := 0) (Nat.le_refl _) (.slice (some ⟨g, 0, none⟩) (leS (m1 / 8 + 1) V1).length cap)
        clear Y3 B3 T3' k0 k1 f0 f1 hbox' hkp' bc0 bc1 bclt hlenA hb3
        generalize w'.setCell ⟨b, 0, none⟩ (.slice (some ⟨g, 0, none⟩) (leS (m1 / 8 + 1) V1).length cap) = wA at *
        have htr' := hide T4
        obtain ⟨k0, k1, f0, f1, hb3⟩ := T4
        obtain ⟨bc0, bc1, bclt⟩ := hbox.cells
        obtain ⟨gc, gf, gb⟩ := hby.at (j := m1 / 8) (by have := unhide Hlen; omega)
        rw [unhide Hwb] at gc
        have hput := hide (hby.put (j := m1 / 8) (UInt8.ofNat (L + X)))
        have hgP : g ≠ w.heap.size := hbox.ne hby g rfl
        have Hby := hide hby
        have Hkp := hide hkp
        clear hkp
        have hlenN := unhide Hlen
        rw [hlenN] at k0
        generalize hN : m1 / 8 + 1 = N at k0
        have hNI : (N : Int) = (m1 : Int) / 8 + 1 := by omega
        have hidx : (m1 : Int) / 8 < (N : Int) := by omega
        have hgb : g ≠ b := by omega
        clear hN hNI hlenN hby
        go_region
        all_goals
          go_wp2
          go_roundw
          case rel =>
            have hst := wout_step (unhide htr') (unhide hput) (unhide Hw1) (unhide Hw2) (unhide Hbv) gb hgP hPb hbox hbel (unhide Hby) (unhide Hkp)
            refine ⟨k + 1, by have := unhide HK; omega, by go_num, ?_, hst.2.1, hst.2.2.1, hst.2.2.2⟩
            rw [unhide hval, show m + (k + 1) = m1 + 1 by have := unhide Hm1; omega]
            exact hst.1
          case measure => simp [intOf]; omega
      · have hrI : ((m1 : Int) % 8 == 0) = false := by simp; omega
        have hsm := unhide hsame hr
        rw [hsm] at hby k0 htr'
        obtain ⟨g, cap, hform⟩ : ∃ g cap, Value.slice sa (leS (m1 / 8 + 1) V1).length scap = .slice (some ⟨g, 0, none⟩) (leS (m1 / 8 + 1) V1).length cap := by
          rcases hby.2 with ⟨_, h0⟩ | ⟨g, cap, _, e, _⟩
          · have := unhide Hlen; omega
          · exact ⟨g, cap, e⟩
        rw [hform] at hby k0 htr'
        obtain ⟨gc, gf, gb⟩ := hby.at (j := m1 / 8) (by have := unhide Hlen; omega)
        rw [unhide Hwb] at gc
        have hput := hide (hby.put (j := m1 / 8) (UInt8.ofNat (L + X)))
        have hgP : g ≠ w.heap.size := hbox.ne hby g rfl
        have Hby := hide hby
        have Hkp := hide hkp
        clear hkp
        have hlenN := unhide Hlen
        rw [hlenN] at k0
        generalize hN : m1 / 8 + 1 = N at k0
        have hNI : (N : Int) = (m1 : Int) / 8 + 1 := by omega
        have hidx : (m1 : Int) / 8 < (N : Int) := by omega
        have HN := hide hN
        have HNI := hide hNI
        have hgb : g ≠ b := by omega
        have Hf := hide hform
        clear hN hNI hlenN hform hsm hr0 hr hpad hsame hby hm hr8
        go_wp2_with fail
        go_region
        all_goals
          go_wp2
          go_roundw
          case rel =>
            have hst := wout_step (unhide htr') (unhide hput) (unhide Hw1) (unhide Hw2) (unhide Hbv) gb hgP hPb hbox hbel (unhide Hby) (unhide Hkp)
            refine ⟨k + 1, by have := unhide HK; omega, by go_num, ?_, hst.2.1, hst.2.2.1, hst.2.2.2⟩
            rw [unhide hval, show m + (k + 1) = m1 + 1 by have := unhide Hm1; omega]
            exact hst.1
          case measure => simp [intOf]; omega
    · have hkc : k = c := by omega
      subst hkc
      rw [unhide hnmod] at hout
      go_wp2
      go_ret
      exact ⟨rfl, hout, hbel, hkp⟩

end Go.Proofs.Ytmocfpjcknmhlaa
