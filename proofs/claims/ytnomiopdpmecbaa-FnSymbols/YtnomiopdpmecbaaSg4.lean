/- Symbols read by a code: the model's and the program's, over this seat's program. -/
import Derived.Test.YtnomiopdpmecbaaSg3
import Derived.Test.YtnomiopdpmecbaaPr1
namespace Go.Proofs.Ytnomiopdpmecbaa
open Go.RowKit Corb

/-- So many symbols, and how many bits they take. -/
def decs (l : List Int) (V sz : Nat) : Nat → Option (List Int × Nat)
  | 0 => some ([], 0)
  | k + 1 => match decs l V sz k with
    | none => none
    | some (L, p) => match dec l V sz p with
      | none => none
      | some (i, q) => some (L ++ [i], q)
theorem decs_none {l : List Int} {V sz k m : Nat} (h : decs l V sz k = none) (hm : k ≤ m) : decs l V sz m = none := by
  induction m with
  | zero => have : k = 0 := by omega
            subst this; exact h
  | succ m ih =>
    by_cases e : k = m + 1
    · subst e; exact h
    · simp only [decs]; rw [ih (by omega)]
theorem decs_some {l : List Int} {V sz k p q : Nat} {L : List Int} {i : Int} (h : decs l V sz k = some (L, p)) (hd : dec l V sz p = some (i, q)) : decs l V sz (k + 1) = some (L ++ [i], q) := by
  simp only [decs, h, hd]
theorem decs_stop {l : List Int} {V sz k p : Nat} {L : List Int} (h : decs l V sz k = some (L, p)) (hd : dec l V sz p = none) : decs l V sz (k + 1) = none := by
  simp only [decs, h, hd]
theorem decs_len {l : List Int} {V sz k p : Nat} {L : List Int} (h : decs l V sz k = some (L, p)) : L.length = k := by
  induction k generalizing L p with
  | zero => simp only [decs, Option.some.injEq, Prod.mk.injEq] at h; rw [← h.1]; rfl
  | succ k ih =>
    simp only [decs] at h
    split at h
    · cases h
    · split at h
      · cases h
      · rename_i L' p' hL _ i q hd
        simp only [Option.some.injEq, Prod.mk.injEq] at h
        rw [← h.1, List.length_append, ih hL]; rfl
def sgOk (l : List Int) (s : ByteArray) (m : Int) : Bool := lensOk l && inB m 0 4000 && (decs l (numB s) (8 * s.size) m.toNat).isSome
def sgL (l : List Int) (s : ByteArray) (m : Int) : List Int := if lensOk l && inB m 0 4000 then (match decs l (numB s) (8 * s.size) m.toNat with | none => [] | some (L, _) => L) else []
theorem sg_no1 {l : List Int} {s : ByteArray} {m : Int} (h : lensOk l = false ∨ inB m 0 4000 = false) : sgOk l s m = false ∧ sgL l s m = [] := by
  unfold sgOk sgL
  rcases h with h | h
  · rw [h]; simp
  · rw [h]; simp
theorem sg_no2 {l : List Int} {s : ByteArray} {m : Int} (h : decs l (numB s) (8 * s.size) m.toNat = none) : sgOk l s m = false ∧ sgL l s m = [] := by
  unfold sgOk sgL
  rw [h]
  simp
theorem sg_yes {l : List Int} {s : ByteArray} {m : Int} {L : List Int} {p : Nat} (h1 : lensOk l = true) (h2 : inB m 0 4000 = true) (h : decs l (numB s) (8 * s.size) m.toNat = some (L, p)) : sgOk l s m = true ∧ sgL l s m = L := by
  unfold sgOk sgL
  rw [h1, h2, h]
  simp
theorem dec_le {l : List Int} {V sz p q : Nat} {i : Int} (h : dec l V sz p = some (i, q)) : q ≤ sz := (decF_le h).1

theorem Keep1.below {b : Nat} {w w1 w2 : World} (h : Keep1 b w w1) (hb : Below w.heap.size w1 w2) (hbw : b ≤ w.heap.size) : Keep1 b w w2 :=
  ⟨h.1.trans (hb.mono hbw), fun k hk hne => (hb.block k hk).trans (h.2 k hk hne)⟩

set_option maxHeartbeats 3200000 in
theorem implSymbolsGet_any (a : Option Addr) (cap n : Nat) (l : List Int) (s : ByteArray) (m : Int) (w : World) (hn : l.length = n) (h : IRow w a l) (hm : n ≤ 1048576) (hs : s.size ≤ 2000000) :
    Calls Try.prog 11 #[.slice a n cap, .string s, .int .i64 m] w fun e w' => ∃ v, e = .returned (.tuple #[v, .bool (sgOk l s m)]) ∧ IOwn w' w.heap.size v (sgL l s m) ∧ Below w.heap.size w w' := by
  have Hn := hide hn
  have HS := hide hs
  have HL := hide (implLensOk_any a cap n l w hn h hm)
  obtain ⟨i0, hi, hz0, hz1, hz2⟩ := info_parts Try.infoInt
  clear hn hm hs
  cases hok : lensOk l
  · have Hr := hide (sg_no1 (s := s) (m := m) (Or.inl hok))
    go_enter Try.func11, Try.ntmps11
    go_wp2_with fail
    refine (unhide HL).mono ?_
    rintro e x1 ⟨rfl, hx⟩
    subst hx
    rw [hok]
    go_wp2
    go_ret2
    exact ⟨_, ret_tup rfl (unhide Hr).1.symm, by rw [(unhide Hr).2]; exact IOwn.nil _ _, Below.refl _ _⟩
  · cases hmb : inB m 0 4000
    · have Hr := hide (sg_no1 (l := l) (s := s) (m := m) (Or.inr hmb))
      rcases inB_false.1 hmb with h0 | h0
      · have d0 : decide (m < 0) = true := decide_eq_true h0
        go_enter Try.func11, Try.ntmps11
        go_wp2_with fail
        refine (unhide HL).mono ?_
        rintro e x1 ⟨rfl, hx⟩
        subst hx
        rw [hok]
        go_wp2
        go_ret2
        exact ⟨_, ret_tup rfl (unhide Hr).1.symm, by rw [(unhide Hr).2]; exact IOwn.nil _ _, Below.refl _ _⟩
      · have d0 : decide (m < 0) = false := decide_eq_false (by omega)
        have d1 : decide (4000 < m) = true := decide_eq_true h0
        go_enter Try.func11, Try.ntmps11
        go_wp2_with fail
        refine (unhide HL).mono ?_
        rintro e x1 ⟨rfl, hx⟩
        subst hx
        rw [hok]
        go_wp2
        go_ret2
        exact ⟨_, ret_tup rfl (unhide Hr).1.symm, by rw [(unhide Hr).2]; exact IOwn.nil _ _, Below.refl _ _⟩
    · obtain ⟨m0, m1⟩ := inB_true.1 hmb
      obtain ⟨M, rfl⟩ := Int.eq_ofNat_of_zero_le m0
      have hl := lensOk_len hok
      have hm3 : Hid (n ≤ 300) := by show n ≤ 300; rw [← unhide Hn]; exact hl
      have HC := hide (codeBook_any a cap n l w (unhide Hn) h (unhide hm3))
      have HK := hide hok
      have HMB := hide hmb
      have d0 : decide ((M : Int) < 0) = false := decide_eq_false (by omega)
      have d1 : decide (4000 < (M : Int)) = false := decide_eq_false (by omega)
      clear hl hmb m0
      go_enter Try.func11, Try.ntmps11
      go_wp2_with fail
      refine (unhide HL).mono ?_
      rintro e x1 ⟨rfl, hx⟩
      subst hx
      rw [hok]
      clear hok HL
      go_wp2_with fail
      refine (unhide HC).mono ?_
      rintro e x2 ⟨vs, C, rfl, hC, _, hs2, hb2⟩
      obtain ⟨sa, sc, rfl⟩ := hs2.form
      have HCC := hide hC
      have h12 := hb2.size
      clear hC HC
      go_wp2_with (refine wpList_store_book rfl 45 (.tmp 8) (.tmp 25) rfl x2.heap.size _ _ _ _ _ rfl rfl (unhide HCC) (there_new x2 _ _ _ rfl) (frozen_new x2 _ _) Try.infoBook ⟨rfl, rfl, rfl⟩ ?_; intro x3 hbk hbl hsz hap)
      have hb3 : Below x1.heap.size x1 x3 := (bnext hb2 ((Below.refl _ _).alloc (Nat.le_refl _) _)).trans (hbl.mono h12)
      have hs3 : IOwn x3 (x1.heap.size + 1) (.slice sa (symsN l 15).length sc) (symsN l 15) := by
        refine ⟨hs2.1, ?_⟩
        rcases hs2.2 with hnil | ⟨g, c, u, e, hbg, hg, hr⟩
        · exact .inl hnil
        · have hlt := (Array.getElem?_eq_some_iff.1 hg).1
          refine .inr ⟨g, c, u, e, hbg, ?_, hr⟩
          rw [hap g (by omega), heap_alloc_old _ _ hlt]
          exact hg
      have e3 : x3.heap.size = x2.heap.size + 1 := by rw [hsz]; simp
      have hr3 : Rdr (x3.alloc (.cells #[.string s, .int .i64 0, .bool false] 57)) (x2.heap.size + 1) s 0 := by rw [← e3]; exact rdr_new x3 s 57
      have hb4 : Below x1.heap.size x1 (x3.alloc (.cells #[.string s, .int .i64 0, .bool false] 57)) := bnext hb3 ((Below.refl _ _).alloc (Nat.le_refl _) _)
      have hbk4 := hbk.kept (show Below (x2.heap.size + 1) x3 (x3.alloc (.cells #[.string s, .int .i64 0, .bool false] 57)) from (Below.refl _ _).alloc (by omega) _)
      have hs4 : IOwn (x3.alloc (.cells #[.string s, .int .i64 0, .bool false] 57)) (x1.heap.size + 1) (.slice sa (symsN l 15).length sc) (symsN l 15) := hs3.later ((Below.refl x3.heap.size x3).alloc (Nat.le_refl _) _) (Nat.le_refl _)
      have hsb : Hid (∀ g o, sa = some ⟨g, o, none⟩ → g ≠ x2.heap.size + 1) := by
        show ∀ g o, sa = some ⟨g, o, none⟩ → g ≠ x2.heap.size + 1
        intro g o e
        subst e
        have := (World.ownsRow.lt hs3 g rfl).2
        omega
      have hz4 : (x3.alloc (.cells #[.string s, .int .i64 0, .bool false] 57)).heap.size = x2.heap.size + 2 := by simp; omega
      obtain ⟨B, hB⟩ : ∃ B, x2.heap.size = B := ⟨_, rfl⟩
      rw [hB] at hr3 hbk4 hsb hz4 h12 ⊢
      generalize hsn : (symsN l 15).length = sn at *
      have HSN := hide hsn
      clear hsn
      generalize x3.alloc (.cells #[.string s, .int .i64 0, .bool false] 57) = x4 at *
      clear hap hsz hbl hs2 hb2 hb3 hs3 hbk e3 hB
      go_loopw [10, 11, 12, 30] (fun v _ _ i wr => ∃ (k p : Nat) (L : List Int), k ≤ M ∧ i = .int .i64 k ∧ decs l (numB s) (8 * s.size) k = some (L, p) ∧ p ≤ 8 * s.size ∧ IOwn wr (B + 2) v L ∧ Rdr wr (B + 1) s p ∧ Keep1 (B + 1) x4 wr) (fun _ _ _ i _ => M - (intOf i).toNat)
      case atStart => exact ⟨0, 0, [], Nat.zero_le _, rfl, rfl, Nat.zero_le _, IOwn.nil _ _, hr3, Keep1.refl _ _⟩
      case round =>
        obtain ⟨k, p, L, hk, rfl, hdecs, hpl, hown, hrd, hkp⟩ := hrel
        clear hr3
        have HD := hide hdecs
        have HLN := hide (decs_len hdecs)
        have HPL := hide hpl
        have hxs := hkp.1.size
        have hb1r : Below x1.heap.size x1 wr := hb4.trans (hkp.1.mono (by omega))
        by_cases hlt : k < M
        · have hsrow := hide (fun W (hW : Keep1 (B + 1) wr W) => IRow.keep (hs4.rowN (unhide HSN)) (hkp.trans hW) (unhide hsb))
          have hbk' := hbk4.heap (hkp.2 B (by omega) (by omega)) hxs
          have HG := hide (bookGet_any a sa cap n sn sc (B + 1) p (.slice (some ⟨x1.heap.size + 1, 0, none⟩) n n) _ l s wr rfl (unhide HK) (unhide HSN) (unhide HS) hrd (unhide HPL) (unhide hsrow))
          have HOWN := hide hown
          have HKP := hide hkp
          have HK2 := hide hk
          have hlI : (L.length : Int) ≤ 4000 := by have := unhide HLN; omega
          clear hdecs hpl hown hrd hkp hk
          cases hd : dec l (numB s) (8 * s.size) p with
          | none =>
            have Hr := hide (sg_no2 (l := l) (s := s) (m := (M : Int)) (by rw [Int.toNat_natCast]; exact decs_none (decs_stop (unhide HD) hd) hlt))
            have HB1 := hide hb1r
            clear hb1r
            go_wp2_with (first
              | (refine wpList_load_mid rfl 45 (.tmp 8) rfl B 0 rfl _ _ hbk'.range Try.underlying45 rfl (by rw [bookCells_len]; exact Try.infoBook) ?_)
              | (go_at_call 29; refine (unhide HG).mono ?_; rintro e x5 ⟨hk5, hpost⟩; rw [hd] at hpost; obtain rfl := hpost))
            go_ret2
            exact ⟨_, ret_tup rfl (unhide Hr).1.symm, by rw [(unhide Hr).2]; exact IOwn.nil _ _, (unhide HB1).trans (hk5.1.mono (by omega))⟩
          | some iq =>
            obtain ⟨i, q⟩ := iq
            have HD2 := hide (decs_some (unhide HD) hd)
            have HQ := hide (dec_le hd)
            have HB1 := hide hb1r
            clear hb1r
            have hlen1 : Hid (L.length + 1 ≤ maxLen ∧ (L.length + 1) * 8 ≤ 140737488355328) := by
              show _ ∧ _
              unfold maxLen
              omega
            go_wp2_with (first
              | (refine wpList_load_mid rfl 45 (.tmp 8) rfl B 0 rfl _ _ hbk'.range Try.underlying45 rfl (by rw [bookCells_len]; exact Try.infoBook) ?_)
              | (go_at_call 29; refine (unhide HG).mono ?_; rintro e x5 ⟨hk5, hpost⟩; rw [hd] at hpost; obtain ⟨rfl, hrd5⟩ := hpost; have hown5 : IOwn x5 (B + 2) u10 L := hk5.own (unhide HOWN) (Nat.lt_succ_self _); have h5s : B + 2 ≤ x5.heap.size := Nat.le_trans (by omega) hk5.1.size)
              | (at_builtin; refine wpList_append_own _ rfl _ _ 23 rfl (B + 2) 3 i0 (.int .i64 0) 1 8 Try.underlying23 hi hz0 hz1 hz2 rfl (by decide) _ _ _ rfl (World.ownsRow.alloc hown5 _) ⟨x5.heap.size, 0, none⟩ 1 1 [.int .i64 i] rfl rfl (one_new _ _ rfl _ _) (one_int _) (unhide hlen1).1 (unhide hlen1).2 (size_alloc_le h5s _) ?_; intro v' x6 hown6 hgrow hnil; clear hnil))
            have hb6 := grown_step (v := u10) hgrow hown5 (Nat.le_refl (B + 2)) h5s (Below.refl _ _)
            have hown7 := iown_snoc hown6
            have hrd6 := hrd5.kept hb6
            have hkp6 := ((unhide HKP).trans hk5).below (show Below x4.heap.size x5 x6 by rw [hz4]; exact hb6) (by omega)
            clear hown6 hgrow hown5 hrd5
            go_roundw
            case rel => exact ⟨k + 1, q, L ++ [i], by have := unhide HK2; omega, by go_num, unhide HD2, unhide HQ, hown7, hrd6, hkp6⟩
            case measure => simp [intOf]; omega
        · have hkM : k = M := by omega
          subst hkM
          have Hr := hide (sg_yes (l := l) (s := s) (m := (k : Int)) (unhide HK) (unhide HMB) (by rw [Int.toNat_natCast]; exact hdecs))
          obtain ⟨va, vc, rfl⟩ := hown.form
          have HOWN := hide hown
          have HB1 := hide hb1r
          clear hown hb1r hdecs hkp hrd
          go_wp2
          go_ret2
          exact ⟨_, ret_tup rfl (unhide Hr).1.symm, by rw [(unhide Hr).2]; exact (unhide HOWN).mono (by omega), unhide HB1⟩

end Go.Proofs.Ytnomiopdpmecbaa
