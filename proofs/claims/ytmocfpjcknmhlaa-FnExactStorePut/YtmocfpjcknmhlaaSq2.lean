/- Contracts of the program's StorePut; the walk of its exact statement. -/
import Derived.Test.YtmocfpjcknmhlaaSq1
import Derived.Test.YtmocfpjcknmhlaaKt1
namespace Go.Proofs.Ytmocfpjcknmhlaa
open Go.RowKit Corb

theorem flateHead_any (k : Int) (w : World) :
    Calls Try.prog 7 #[.int .i64 k] w fun e w' => e = .returned (.slice (some ⟨w.heap.size, 0, none⟩) 2 2) ∧ w' = w.alloc (.cells #[.int .i64 1, .int .i64 1, .int .i64 k, .int .i64 2] 27) := by
  go_enter Try.func7, Try.ntmps7
  go_wp2
  go_ret
  exact ⟨rfl, rfl⟩
theorem six_new (w : World) (a b c d e f : Value) (t : TypeId) (g : Nat) (hg : w.heap.size = g) : ∀ (j : Nat) (u : Value), [a, b, c, d, e, f][j]? = some u → (w.alloc (.cells #[a, b, c, d, e, f] t)).cell? ((⟨g, 0, none⟩ : Addr).add j) = some u := by
  subst hg
  intro j u hj
  match j, hj with
  | 0, hj => simp at hj; subst hj; simp [Addr.add]
  | 1, hj => simp at hj; subst hj; simp [Addr.add]
  | 2, hj => simp at hj; subst hj; simp [Addr.add]
  | 3, hj => simp at hj; subst hj; simp [Addr.add]
  | 4, hj => simp at hj; subst hj; simp [Addr.add]
  | 5, hj => simp at hj; subst hj; simp [Addr.add]
theorem six_int (a b c d e f : Int) : ∀ u ∈ [Value.int .i64 a, .int .i64 b, .int .i64 c, .int .i64 d, .int .i64 e, .int .i64 f], u.oneCell' = true := by
  intro u hu
  simp at hu
  rcases hu with rfl | rfl | rfl | rfl | rfl | rfl <;> rfl
theorem str_byte (s : ByteArray) (i : Nat) (h : i < s.size) : s.data.toList.take (i + 1) = s.data.toList.take i ++ [s[i]] := by
  have hl := str_bytes s
  rw [List.take_add_one, List.getElem?_eq_getElem (by omega)]
  simp
  rfl
theorem bytesP_snoc (m : List UInt8) (b : UInt8) : bytesP m ++ [((b.toNat : Int), (8 : Int))] = bytesP (m ++ [b]) := by simp [bytesP]

/-- A text's bytes as a row of their own. -/
theorem conv_text (s : ByteArray) (w : World) : ∃ (c : Nat) (x : World) (cs : Array Value) (f : Nat × Nat), (convert 9 28 (.string s)).run Try.prog w = .ok (.slice (some ⟨w.heap.size, 0, none⟩) s.size c) x ∧ Below w.heap.size w x ∧ x.heap[w.heap.size]? = some (.cells cs 5 f) ∧ ∀ i (h : i < s.size), cs[i]? = some (.int .u8 (s[i].toNat : Int)) := by
  refine ⟨_, _, bytesRow s (grownCap w s.size 0 5), ((bytesRow s (grownCap w s.size 0 5)).size, (bytesRow s (grownCap w s.size 0 5)).size + 1), run_bytes_of_string w _ _ _ s Try.underlying9 Try.underlying28 Try.underlying5, ?_, ?_, ?_⟩
  · exact ((Below.refl _ w).drew).alloc (by simp) _
  · exact Array.getElem?_push_size
  · intro i h
    exact bytesRow_at s (grownCap w s.size 0 5) i h
theorem row_cell {w : World} {b i : Nat} {cs : Array Value} {t : TypeId} {f : Nat × Nat} {v : Value} (h : w.heap[b]? = some (.cells cs t f)) (hc : cs[i]? = some v) : w.cell? ⟨b, i, none⟩ = some v := by
  unfold World.cell?
  rw [h]
  exact hc

set_option maxHeartbeats 3200000 in
theorem implStore_any (s : ByteArray) (w : World) (hs : s.size ≤ 300) :
    Calls Try.prog 5 #[.string s] w fun e w' => e = .returned (.string ⟨(leS 5 (headV s.size) ++ s.data.toList).toArray⟩) ∧ Below w.heap.size w w' := by
  obtain ⟨i0, hi, hz0, hz1, hz2⟩ := info_parts Try.infoPiece
  have hsI : (s.size : Int) ≤ 300 := by omega
  have hI : ¬ (300 : Int) < (s.size : Int) := by omega
  obtain ⟨N, hN⟩ : ∃ N : Nat, 65535 - s.size = N := ⟨_, rfl⟩
  have hx : bits .xor .i64 (s.size : Int) 65535 = (N : Int) := by
    have := i64_xor_nat s.size 65535 (by omega) (by omega)
    rw [xor_half s.size hs, hN] at this
    exact this
  have HH : Hid (headP s.size = [(1, 1), (0, 2)] ++ [(0, 5), ((s.size : Int), 16), ((N : Int), 16)]) := by show _ = _; unfold headP; rw [hN]; rfl
  have hP0 : Hid ((w.alloc (.cells #[.int .i64 1, .int .i64 1, .int .i64 0, .int .i64 2] 27)).ownsRow w.heap.size 27 2 (.slice (some ⟨w.heap.size, 0, none⟩) 2 2) 2 [.int .i64 1, .int .i64 1, .int .i64 0, .int .i64 2]) := World.ownsRow_lit w #[.int .i64 1, .int .i64 1, .int .i64 0, .int .i64 2] 2 (Nat.le_refl _) (by unfold maxLen; omega) rfl
  have hB0 : Hid (Below w.heap.size w (w.alloc (.cells #[.int .i64 1, .int .i64 1, .int .i64 0, .int .i64 2] 27))) := (Below.refl _ _).alloc (Nat.le_refl _) _
  have hput := hide (store_put s.data.toList (by rw [str_bytes]; exact hs))
  have hL := hide (str_bytes s)
  have HS := hide hs
  have bd : Hid (2 + 3 ≤ maxLen ∧ (2 + 3) * 16 ≤ 140737488355328) := by show _ ∧ _; unfold maxLen; omega
  clear hs hN
  go_enter Try.func5, Try.ntmps5
  go_wp2_with fail
  refine (flateHead_any 0 w).mono ?_
  rintro e x1 ⟨rfl, hx1⟩
  have h1P := hide (show x1.ownsRow w.heap.size 27 2 (.slice (some ⟨w.heap.size, 0, none⟩) 2 2) 2 [.int .i64 1, .int .i64 1, .int .i64 0, .int .i64 2] by rw [hx1]; exact unhide hP0)
  have h1B := hide (show Below w.heap.size w x1 by rw [hx1]; exact unhide hB0)
  have hbs1 := (unhide h1B).size
  clear hx1
  go_wp2_with (at_builtin; refine wpList_append_own _ rfl _ _ 24 rfl w.heap.size 27 i0 (.agg #[.int .i64 0, .int .i64 0]) 2 16 Try.underlying24 hi hz0 hz1 hz2 rfl (by decide) (.slice (some ⟨w.heap.size, 0, none⟩) 2 2) _ _ rfl (World.ownsRow.alloc (unhide h1P) _) ⟨x1.heap.size, 0, none⟩ 3 3 [.int .i64 0, .int .i64 5, .int .i64 (s.size : Nat), .int .i64 16, .int .i64 (N : Nat), .int .i64 16] rfl rfl (six_new _ _ _ _ _ _ _ _ _ rfl) (six_int _ _ _ _ _ _) (unhide bd).1 (unhide bd).2 (size_alloc_le hbs1 _) ?_; intro v' x2 hown hgrow hnil; clear hnil; obtain ⟨c3, x3, cs, fz, hcv, hb3, hh3, hc3⟩ := conv_text s x2)
  have hb2 : Below w.heap.size w x2 := grown_step (v := .slice (some ⟨w.heap.size, 0, none⟩) 2 2) hgrow (unhide h1P) (Nat.le_refl _) hbs1 (unhide h1B)
  have hq2 : Pcs x2 w.heap.size v' (headP s.size) := by rw [unhide HH]; exact hown
  have hq3 := hide (hq2.later hb3 (Nat.le_refl _))
  have hB3 := hide (bnext hb2 hb3)
  have hC3 : Hid (∀ W, KeepT 5 x3 W → ∀ i (hi : i < s.size), W.cell? ⟨x2.heap.size, i, none⟩ = some (.int .u8 (s[i].toNat : Int))) := fun W h i hi => row_cell (h _ _ _ hh3) (hc3 i hi)
  generalize x2.heap.size = G at *
  obtain ⟨va, vc, rfl⟩ := (unhide hq3).form
  have hhl : Hid ((headP s.size).length = 5) := rfl
  clear hown hgrow hb2 hq2 hcv hb3 hc3 hh3
  go_loopw [4, 6, 23] (fun v _ i wr => ∃ k : Nat, k ≤ s.size ∧ i = .int .i64 k ∧ Pcs wr w.heap.size v (headP s.size ++ bytesP (s.data.toList.take k)) ∧ KeepT 5 x3 wr ∧ Below w.heap.size w wr) (fun _ _ i _ => s.size - (intOf i).toNat)
  case atStart => exact ⟨0, Nat.zero_le _, rfl, by simpa [bytesP] using unhide hq3, KeepT.refl _ _, unhide hB3⟩
  case round =>
    obtain ⟨k, hk, rfl, hq, hkt, hbel⟩ := hrel
    have hlen : Hid ((headP s.size ++ bytesP (s.data.toList.take k)).length = 5 + k) := by
      show _ = _
      rw [List.length_append, unhide hhl, bytesP_len, List.length_take, unhide hL]
      omega
    obtain ⟨ra, rc, rfl⟩ := hq.formN (unhide hlen)
    by_cases hlt : k < s.size
    · have hltI : (k : Int) < (s.size : Int) := by omega
      have hcell := unhide hC3 wr hkt k hlt
      have hx256 : (s[k].toNat : Int) < 256 := by have := UInt8.toNat_lt s[k]; omega
      have hst : Hid (headP s.size ++ bytesP (s.data.toList.take k) ++ [((s[k].toNat : Int), (8 : Int))] = headP s.size ++ bytesP (s.data.toList.take (k + 1))) := by show _ = _; rw [List.append_assoc, bytesP_snoc, str_byte s k hlt]
      have bdk : Hid (5 + k + 1 ≤ maxLen ∧ (5 + k + 1) * 16 ≤ 140737488355328) := by show _ ∧ _; unfold maxLen; omega
      have hqo := hide (hq.own (unhide hlen))
      have hbs := hbel.size
      have HBel := hide (And.intro hbel hkt)
      clear hq hbel hkt
      go_wp2_with (at_builtin; refine wpList_append_own _ rfl _ _ 24 rfl w.heap.size 27 i0 (.agg #[.int .i64 0, .int .i64 0]) 2 16 Try.underlying24 hi hz0 hz1 hz2 rfl (by decide) (.slice ra (5 + k) rc) _ _ rfl (World.ownsRow.alloc (unhide hqo) _) ⟨wr.heap.size, 0, none⟩ 1 1 [.int .i64 (s[k].toNat : Int), .int .i64 8] rfl rfl (two_new _ _ _ _) (two_int _ _) (unhide bdk).1 (unhide bdk).2 (size_alloc_le hbs _) ?_; intro v' y2 hown hgrow hnil; clear hnil)
      have hb2 := grown_step (v := .slice ra (5 + k) rc) hgrow (unhide hqo) (Nat.le_refl _) hbs (unhide HBel).1
      have hq2 := pcs_snocN (unhide hlen) hown
      rw [unhide hst] at hq2
      have hkt2 := ((unhide HBel).2.alloc (.cells #[.int .i64 (s[k].toNat : Int), .int .i64 8] 27)).grown (World.ownsRow.alloc (unhide hqo) _) (by decide) hgrow
      clear hown hgrow
      go_wp2
      go_roundw
      case rel => exact ⟨k + 1, by omega, by go_num, hq2, hkt2, hb2⟩
      case measure => simp [intOf]; omega
    · obtain rfl : k = s.size := by omega
      have hall : Hid (s.data.toList.take s.size = s.data.toList) := List.take_of_length_le (by rw [unhide hL]; exact Nat.le_refl _)
      rw [unhide hall] at hq hlen
      have hp2 : Hid (putS (headP s.size ++ bytesP s.data.toList) = leS 5 (headV s.size) ++ s.data.toList) := by have := unhide hput; rw [unhide hL] at this; exact this
      have HP := hide (implBitsPut_any ra rc (headP s.size ++ bytesP s.data.toList) wr (hq.rowN (unhide hlen)) (by rw [unhide hlen]; omega))
      rw [unhide hlen, unhide hp2] at HP
      clear hq hk hlt hkt
      go_wp2_with fail
      refine (unhide HP).mono ?_
      rintro e y1 ⟨rfl, hy⟩
      go_wp2
      go_ret
      exact ⟨rfl, bnext hbel hy⟩
theorem implStorePut_any (s : ByteArray) (w : World) (hs : s.size ≤ 1048576) :
    Calls Try.prog 5 #[.string s] w fun e w' => e = .returned (.string ⟨(storeL s.data.toList).toArray⟩) ∧ Below w.heap.size w w' := by
  have hsI : (s.size : Int) ≤ 1048576 := by omega
  by_cases h3 : s.size ≤ 300
  · have e : storeL s.data.toList = leS 5 (headV s.size) ++ s.data.toList := by unfold storeL; rw [str_bytes, if_pos h3]
    rw [e]
    exact implStore_any s w h3
  · have hI : (300 : Int) < (s.size : Int) := by omega
    have e : storeL s.data.toList = [] := by unfold storeL; rw [str_bytes, if_neg h3]
    rw [e]
    clear hs h3 e
    go_enter Try.func5, Try.ntmps5
    go_wp2
    go_ret
    exact ⟨rfl, Below.refl _ _⟩

theorem exStorePut_walk (s : ByteArray) (hs : s.size ≤ maxLen) (w : World) :
    Calls Try.prog 3 #[.string s] w fun e w' => e = .returned (.bool true) ∧ Below w.heap.size w w' := by
  unfold maxLen at hs
  by_cases hl : (s.size : Int) ≤ 1048576
  · have hspec := hide (fun W => specStorePut_any s W (by omega))
    have himpl := hide (fun W => implStorePut_any s W (by omega))
    generalize (⟨(storeL s.data.toList).toArray⟩ : ByteArray) = X at *
    clear hs
    go_enter Try.func3, Try.ntmps3
    go_wp2_with fail
    refine (unhide hspec _).mono ?_
    rintro e x1 ⟨rfl, hb1⟩
    go_wp2_with fail
    refine (unhide himpl _).mono ?_
    rintro e x2 ⟨rfl, hb2⟩
    go_wp2
    go_ret
    exact ⟨rfl, bnext hb1 hb2⟩
  · have hlI : (1048576 : Int) < (s.size : Int) := by omega
    go_enter Try.func3, Try.ntmps3
    go_wp2
    go_ret
    exact ⟨rfl, Below.refl _ _⟩

end Go.Proofs.Ytmocfpjcknmhlaa
