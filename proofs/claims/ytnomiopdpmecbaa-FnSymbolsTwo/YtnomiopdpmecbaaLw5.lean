/- The walk of a law: symbols of two lists are written one behind the other. -/
import Derived.Test.YtnomiopdpmecbaaDl2
import Derived.Test.YtnomiopdpmecbaaSp3
import Derived.Test.YtnomiopdpmecbaaCp1
namespace Go.Proofs.Ytnomiopdpmecbaa
open Go.RowKit Corb

theorem symPut_two {l t : List Int} (h : (symPut l t).length = t.length) : symPut l (t ++ t) = symPut l t ++ symPut l t := by
  cases hok : lensOk l
  · simp [symPut, hok]
  · cases ha : t.all (hasS l)
    · rw [symPut_no2 ha] at h ⊢
      have : t = [] := List.eq_nil_of_length_eq_zero h.symm
      subst this
      simp at ha
    · rw [symPut_yes hok ha, symPut_yes hok (by rw [List.all_append, ha]; rfl)]
      simp [symP]

set_option maxHeartbeats 3200000 in
theorem fnSymbolsTwo_walk (a : Option Addr) (len cap : Nat) (zs : List Int) (w : World) (w0 : IsRow .u8 w a len cap zs) :
    Calls Try.prog 4 #[.slice a len cap] w fun e w' => e = .returned (.bool true) ∧ Below w.heap.size w w' := by
  obtain ⟨⟨z, hsrc⟩, hc, hm⟩ := src_of w0
  obtain ⟨i0, hi, hz0, hz1, hz2⟩ := info_parts Try.infoPiece
  obtain ⟨j0, ji, jz0, jz1, jz2⟩ := info_parts Try.infoInt
  have hm' := hide hm
  unfold maxLen at hm
  clear w0
  by_cases hl : (len : Int) ≤ 1048576
  · go_enter Try.func4, Try.ntmps4
    go_wp2_with fail
    refine (drawSymbolsPut_any a len cap z _ hsrc hc (unhide hm')).mono ?_
    rintro e x1 ⟨⟨l, t, va, ta, vc, n, tc, k, rfl, hn, ho1, hn3, hk, ht1, hk12⟩, hb1⟩
    have HN := hide hn
    have HKn := hide hk
    have H3 := hide hn3
    have H12 := hide hk12
    have hkI : (k : Int) ≤ 12 := by omega
    have HR := hide (fun (W : World) (h : Below x1.heap.size x1 W) => (ho1.later h (Nat.le_refl _)).rowN hn)
    have HT := hide (fun (W : World) (h : Below x1.heap.size x1 W) => ht1.later h (Nat.le_refl _))
    have HTR := hide (fun (W : World) (h : Below x1.heap.size x1 W) => (ht1.later h (Nat.le_refl _)).rowN hk)
    obtain ⟨q, hq⟩ : ∃ q, (symPut l t).length = q := ⟨_, rfl⟩
    have hqk : q ≤ k := by rw [← hq, ← hk]; exact symPut_len l t
    have hqI : (q : Int) ≤ 12 := by omega
    have HQ := hide hq
    have HIM := hide (implSymbolsPut_n va ta vc tc n k q l t _ x1 hn (unhide HR _ (Below.refl _ _)) (by omega) hk (unhide HTR _ (Below.refl _ _)) (by omega) rfl hq)
    have HSP := hide (fun (W : World) (h : Below x1.heap.size x1 W) => specSymbolsPut_n va ta vc tc n k q l t _ W hn (unhide HR _ h) (by omega) hk (unhide HTR _ h) (by omega) rfl hq)
    have HTWO := hide (fun (h : q = k) => symPut_two (l := l) (t := t) (by rw [hq, hk, h]))
    have Hqk := hide hqk
    have HB1 := hide hb1
    clear hn hn3 ho1 ht1 hk hk12 hsrc hm hc hq hqk hb1
    go_wp2_with fail
    refine (unhide HIM).mono ?_
    rintro e x2 ⟨pa, pc, rfl, hp2, hb2⟩
    have HP := hide (fun (W : World) (h : Below x2.heap.size x2 W) => hp2.later h (Nat.le_refl _))
    have HB2 := hide hb2
    clear hp2 hb2 HIM
    go_wp2_with fail
    refine (unhide HSP x2 (unhide HB2)).mono ?_
    rintro e x3 ⟨sa, sc, rfl, hp3, hb3⟩
    have HP3 := hide hp3
    have HB3 := hide hb3
    clear hp3 hb3
    go_wp2_with fail
    refine (cbPieces_n pa sa pc sc q (symPut l t) x3 (unhide HQ) ((unhide HP _ (unhide HB3)).rowN (unhide HQ)) ((unhide HP3).rowN (unhide HQ)) (by have := unhide Hqk; have := unhide H12; omega)).mono ?_
    rintro e x4 ⟨rfl, hb4⟩
    have HB4 := hide (bnext (unhide HB3) hb4)
    clear hb4 HP3 HB3
    by_cases hqk : q = k
    · subst hqk
      have hbd : Hid (0 + q ≤ maxLen ∧ (0 + q) * 8 ≤ 140737488355328 ∧ q + q ≤ maxLen ∧ (q + q) * 8 ≤ 140737488355328 ∧ (0 + q) * 16 ≤ 140737488355328 ∧ (q + q) * 16 ≤ 140737488355328) := by
        show _ ∧ _
        have := unhide H12
        unfold maxLen
        omega
      have hB24 := hide (bnext (unhide HB2) (unhide HB4))
      have hT4 := (unhide HT x4 (unhide hB24)).ownN (unhide HKn)
      go_wp2_with (first
        | (at_builtin; refine wpList_append_rows _ rfl (.tmp 37) (.tmp 38) 23 rfl x4.heap.size 3 j0 (.int .i64 0) 1 8 Try.underlying23 ji jz0 jz1 jz2 rfl (by decide) _ _ _ rfl (World.ownsRow_lit x4 #[] 0 (Nat.le_refl _) (by unfold maxLen; omega) rfl) _ w.heap.size q (t.map (Value.int .i64)) rfl (World.ownsRow.alloc hT4 _) (ints_one t) (unhide hbd).1 (unhide hbd).2.1 (by simp) ?_; intro v5 x5 hown hgrow; have hb5 := copy_below hgrow; have ho5 := (iown_copyN (unhide HKn) hown).ownN (unhide HKn); have hT5 := (unhide HT x5 (bnext (unhide hB24) hb5)).ownN (unhide HKn); clear hown hgrow hT4)
        | (at_builtin; refine wpList_append_rows _ rfl (.tmp 39) (.tmp 40) 23 rfl x4.heap.size 3 j0 (.int .i64 0) 1 8 Try.underlying23 ji jz0 jz1 jz2 rfl (by decide) _ _ _ rfl ho5 _ w.heap.size q (t.map (Value.int .i64)) rfl hT5 (ints_one t) (unhide hbd).2.2.1 (unhide hbd).2.2.2.1 hb5.size ?_; intro v6 x6 hown hgrow; have hb6 : Below x4.heap.size x4 x6 := hb5.grown hgrow hb5.size (fun k h => (World.ownsRow.lt ho5 k h).1); have ho6 := iown_catN (unhide HKn) (unhide HKn) hown; clear hown hgrow ho5 hT5 hb5; obtain ⟨wa, wc, hv⟩ := ho6.formN (n := q + q) (by rw [List.length_append, unhide HKn]); subst hv))
      have HB6 := hide hb6
      have HO6 := hide ho6
      clear hb6 ho6
      have hB26 := hide (bnext (unhide hB24) (unhide HB6))
      refine (implSymbolsPut_n va wa vc wc n (q + q) (q + q) l (t ++ t) (symPut l t ++ symPut l t) x6 (unhide HN) (unhide HR _ (unhide hB26)) (by have := unhide H3; omega) (by rw [List.length_append, unhide HKn]) ((unhide HO6).rowN (by rw [List.length_append, unhide HKn])) (by have := unhide H12; omega) (unhide HTWO (by simp)) (by rw [List.length_append, unhide HQ])).mono ?_
      rintro e x7 ⟨ya, yc, rfl, hp7, hb7⟩
      have HB7 := hide hb7
      have HP7 := hide (fun (W : World) (h : Below x7.heap.size x7 W) => hp7.later h (Nat.le_refl _))
      have hB27 := hide (bnext (unhide HB4) (bnext (unhide HB6) (unhide HB7)))
      have hT4 := (unhide HP x7 (unhide hB27)).own (unhide HQ)
      clear hp7 hb7
      go_wp2_with (first
        | (at_builtin; refine wpList_append_rows _ rfl (.tmp 44) (.tmp 45) 26 rfl x7.heap.size 50 i0 (.agg #[.int .i64 0, .int .i64 0]) 2 16 Try.underlying26 hi hz0 hz1 hz2 rfl (by decide) _ _ _ rfl (World.ownsRow_lit x7 #[] 0 (Nat.le_refl _) (by unfold maxLen; omega) rfl) _ x1.heap.size q (pcells (symPut l t)) rfl (World.ownsRow.alloc hT4 _) (pcells_one _) (unhide hbd).1 (unhide hbd).2.2.2.2.1 (by simp) ?_; intro v8 x8 hown hgrow; have hb5 := copy_below hgrow; have ho5 := (pcs_copyN (unhide HQ) hown).own (unhide HQ); have hT5 := (unhide HP x8 (bnext (unhide hB27) hb5)).own (unhide HQ); clear hown hgrow hT4)
        | (at_builtin; refine wpList_append_rows _ rfl (.tmp 46) (.tmp 47) 26 rfl x7.heap.size 50 i0 (.agg #[.int .i64 0, .int .i64 0]) 2 16 Try.underlying26 hi hz0 hz1 hz2 rfl (by decide) _ _ _ rfl ho5 _ x1.heap.size q (pcells (symPut l t)) rfl hT5 (pcells_one _) (unhide hbd).2.2.1 (unhide hbd).2.2.2.2.2 hb5.size ?_; intro v9 x9 hown hgrow; have hb6 : Below x7.heap.size x7 x9 := hb5.grown hgrow hb5.size (fun k h => (World.ownsRow.lt ho5 k h).1); have ho6 := pcs_catN (unhide HQ) (unhide HQ) hown; clear hown hgrow ho5 hT5 hb5; obtain ⟨za, zc, hv⟩ := ho6.formN (n := q + q) (by rw [List.length_append, unhide HQ]); subst hv))
      have HB9 := hide hb6
      have HO9 := hide ho6
      clear hb6 ho6
      refine (cbPieces_n ya za yc zc (q + q) (symPut l t ++ symPut l t) x9 (by rw [List.length_append, unhide HQ]) ((unhide HP7 _ (unhide HB9)).rowN (by rw [List.length_append, unhide HQ])) ((unhide HO9).rowN (by rw [List.length_append, unhide HQ])) (by have := unhide H12; omega)).mono ?_
      rintro e x10 ⟨rfl, hb10⟩
      have HB10 := hide hb10
      clear hb10
      go_wp2
      go_ret
      exact ⟨rfl, bnext (unhide HB1) (bnext (unhide HB2) (bnext (unhide hB27) (bnext (unhide HB9) (unhide HB10))))⟩
    · have hne : ((q : Int) == (k : Int)) = false := by simp; omega
      go_wp2_with fail
      refine (unhide HSP x4 (bnext (unhide HB2) (unhide HB4))).mono ?_
      rintro e x5 ⟨sa, sc, rfl, hp5, hb5⟩
      have HP5 := hide hp5
      have HB5 := hide hb5
      clear hp5 hb5
      go_wp2_with fail
      refine (cbPieces_n pa sa pc sc q (symPut l t) x5 (unhide HQ) ((unhide HP _ (bnext (unhide HB4) (unhide HB5))).rowN (unhide HQ)) ((unhide HP5).rowN (unhide HQ)) (by have := unhide Hqk; have := unhide H12; omega)).mono ?_
      rintro e x6 ⟨rfl, hb6⟩
      have HB6 := hide hb6
      clear hb6
      go_wp2
      go_ret
      exact ⟨rfl, bnext (unhide HB1) (bnext (unhide HB2) (bnext (unhide HB4) (bnext (unhide HB5) (unhide HB6))))⟩
  · go_enter Try.func4, Try.ntmps4
    clear hsrc
    go_wp2
    go_ret
    exact ⟨rfl, Below.refl _ _⟩

end Go.Proofs.Ytnomiopdpmecbaa
