/- The walk of a law: symbols that come as often have codes of nearly one length. -/
import Derived.Test.YtkkhaleiehnihaaLw9
namespace Go.Proofs.Ytkkhaleiehnihaa
open Go.RowKit Corb

theorem ones_step (l : List Int) (j : Nat) (h : j < l.length) : (List.replicate j (1 : Int) ++ l.drop j).set j 1 = List.replicate (j + 1) 1 ++ l.drop (j + 1) := by
  rw [List.set_append_right _ _ (by simp), List.length_replicate, Nat.sub_self, List.drop_eq_getElem_cons h, List.set_cons_zero, List.replicate_succ']
  simp
theorem ones_get (n i : Nat) (h : i < n) : (List.replicate n (1 : Int)).getD i 0 = 1 := by
  rw [List.getD_eq_getElem?_getD, List.getElem?_replicate, if_pos h]; rfl

set_option maxHeartbeats 3200000 in
theorem fnLensSame_walk (a : Option Addr) (len cap : Nat) (zs : List Int) (w : World) (w0 : IsRow .u8 w a len cap zs) :
    Calls Try.prog 6 #[.slice a len cap] w fun e w' => e = .returned (.bool true) ∧ Below w.heap.size w w' := by
  obtain ⟨⟨z, hsrc⟩, hc, hm⟩ := src_of w0
  have hm' := hide hm
  unfold maxLen at hm
  clear w0
  by_cases hl : (len : Int) ≤ 1048576
  · go_enter Try.func6, Try.ntmps6
    go_wp2_with fail
    refine (drawLensOf_any a len cap z _ hsrc hc (unhide hm')).mono ?_
    rintro e x1 ⟨⟨l, va, vc, n, mo, rfl, hn, ho1, hn1, hn13, hmo0, hmo1⟩, hb1⟩
    have HN := hide (And.intro hn (And.intro hn1 hn13))
    have hnI : (n : Int) ≤ 13 := by omega
    obtain ⟨g, rfl⟩ := ho1.somes (by omega)
    have H1 := hide (And.intro ho1 hb1)
    clear hn hn1 hn13 ho1 hsrc hm hc hb1 hmo0 hmo1
    go_wp2_with fail
    go_loopw [5] (fun i wr => ∃ k : Nat, k ≤ n ∧ i = .int .i64 k ∧ IOwn wr w.heap.size (.slice (some ⟨g, 0, none⟩) n vc) (List.replicate k 1 ++ l.drop k) ∧ Below w.heap.size w wr) (fun i _ => n - (intOf i).toNat)
    case atStart => exact ⟨0, Nat.zero_le _, rfl, (unhide H1).1, (unhide H1).2⟩
    case round =>
      obtain ⟨k, hk, rfl, hp, hbel⟩ := hrel
      have HK := hide hk
      have hln : Hid ((List.replicate k (1 : Int) ++ l.drop k).length = n) := by
        show _ = n
        have := (unhide HN).1
        rw [List.length_append, List.length_replicate, List.length_drop]
        omega
      by_cases hlt : k < n
      · have hput := hp.put (j := k) (unhide hln) 1
        rw [ones_step l k (by rw [(unhide HN).1]; exact hlt)] at hput
        obtain ⟨d0, f0, hbg, _⟩ := hp.at (unhide hln) hlt
        have hbel2 := below_set hbel (b := g) (o := k) hbg (.int .i64 1)
        have HP := hide (And.intro hput hbel2)
        clear hput hbel2 hp hbel hk hbg
        generalize (List.replicate k (1 : Int) ++ l.drop k).getD k 0 = y at *
        go_wp2
        go_roundw
        case rel => exact ⟨k + 1, by have := unhide HK; omega, by go_num, (unhide HP).1, (unhide HP).2⟩
        case measure => simp [intOf]; omega
      · obtain rfl : k = n := by omega
        have e0 : List.replicate k (1 : Int) ++ l.drop k = List.replicate k 1 := by
          rw [List.drop_of_length_le (by rw [(unhide HN).1]; exact Nat.le_refl _)]; simp
        rw [e0] at hp
        obtain ⟨O, hO⟩ : ∃ O, List.replicate k (1 : Int) = O := ⟨_, rfl⟩
        rw [hO] at hp
        have hOl : O.length = k := by rw [← hO]; simp
        have hOg : ∀ i, i < O.length → O.getD i 0 = 1 := by
          intro i hi
          rw [hOl] at hi
          rw [← hO]
          exact ones_get k i hi
        have hok : okC O := fun i hi => by rw [hOg i hi]; omega
        have hs1 : 1 ≤ (seed O O.length).length := by
          obtain ⟨x, hx, _⟩ := seed_has O O.length 0 (by have := (unhide HN).2.1; omega) (by rw [hOg 0 (by have := (unhide HN).2.1; omega)]; omega)
          exact List.length_pos_of_mem hx
        have hlo : lofOk O 15 = true := by
          have hu := seed_usL O
          have hub := us_le O
          unfold lofOk
          have hinC : inC O = true := by
            unfold inC
            rw [List.all_eq_true]
            intro x hx
            obtain ⟨j, hj, rfl⟩ := List.getElem_of_mem hx
            have := hok j hj
            have e : O.getD j 0 = O[j] := by simp [List.getD, hj]
            rw [e] at this
            exact inB_true.2 this
          have e15 : p2 (15 : Int).toNat / 2 = 16384 := rfl
          rw [hinC, decide_eq_true (by omega), e15]
          simp only [Bool.true_and, Bool.and_true, Bool.and_eq_true]
          refine ⟨by decide, inB_true.2 ⟨by omega, by omega⟩⟩
        obtain ⟨R, hRe⟩ : ∃ R, lensOfL O 15 = R := ⟨_, rfl⟩
        have hRh : R = hufL O := by
          rw [← hRe]
          unfold lensOfL
          rw [hlo, if_pos rfl, fit_few hok hs1 (by omega)]
        have hq : R.length = k := by rw [hRh, hufL_len, hOl]
        have hLk : lensOk R = true := by
          have h1 := (lens_law (m := 14) hok (by omega) hs1 (by have := seed_lenle O O.length; have h2 : p2 14 = 16384 := rfl; omega) (Nat.le_refl _)).2.1
          have h2 : fitL ((14 : Nat) + 1 : Int) O = R := by
            rw [← hRe]
            unfold lensOfL
            rw [hlo]; rfl
          rw [h2] at h1
          exact h1
        have hsame : ∀ i j, i < k → j < k → R.getD i 0 ≤ R.getD j 0 + 1 := by
          intro i j hi hj
          rw [hRh]
          exact same_law hok (by omega) hOg (by omega) (by omega)
        have hbd : ∀ i, i < k → 0 ≤ R.getD i 0 ∧ R.getD i 0 ≤ 15 := by
          intro i hi
          have h1 := (lens_law (m := 14) hok (by omega) hs1 (by have := seed_lenle O O.length; have h2 : p2 14 = 16384 := rfl; omega) (Nat.le_refl _)).2.2 i (by omega)
          have h2 : fitL ((14 : Nat) + 1 : Int) O = R := by
            rw [← hRe]
            unfold lensOfL
            rw [hlo]; rfl
          rw [h2] at h1
          exact ⟨h1.1, by have := h1.2.1; omega⟩
        have hrowO := hide (fun (W : World) (h : Below wr.heap.size wr W) => (hp.later h (Nat.le_refl _)).rowN hOl)
        have HIM := hide (implLens_n (some ⟨g, 0, none⟩) vc k k O R 15 wr hOl (unhide hrowO wr (Below.refl _ _)) (by omega) hRe hq)
        have HSP := hide (fun (W : World) (h : Below wr.heap.size wr W) => specLens_n (some ⟨g, 0, none⟩) vc k k O R 15 W hOl (unhide hrowO W h) (by omega) hRe hq)
        have HQ := hide (And.intro hq (And.intro hLk (And.intro hsame (And.intro hbd hbel))))
        clear hp hbel hO hOl hOg hok hs1 hlo hRe hRh hq hLk hsame hbd e0 hlt hk
        go_wp2_with fail
        refine (unhide HIM).mono ?_
        rintro e x2 ⟨ra, rc, rfl, hr2, hb2⟩
        go_wp2_with fail
        refine (unhide HSP x2 hb2).mono ?_
        rintro e x3 ⟨sa, sc, rfl, hs3, hb3⟩
        have hr3 := hr2.later hb3 (Nat.le_refl _)
        have hB3 := bnext hb2 hb3
        go_wp2_with fail
        refine (cbInts_n _ _ _ _ k R _ (unhide HQ).1 (hr3.rowN (unhide HQ).1) (hs3.rowN (unhide HQ).1) (by have := (unhide HQ).1; omega)).mono ?_
        rintro e x4 ⟨rfl, hb4⟩
        have hr4 := hide ((hr3.later hb4 (Nat.le_refl _)).rowN (unhide HQ).1)
        have HB4 := hide (bnext hB3 hb4)
        clear hr2 hb2 hs3 hb3 hr3 hb4 hB3 HIM HSP
        go_wp2_with fail
        go_loopw [7] (fun i wq => ∃ j : Nat, j ≤ k ∧ i = .int .i64 j ∧ Below x4.heap.size x4 wq) (fun i _ => k - (intOf i).toNat)
        case atStart => exact ⟨0, Nat.zero_le _, rfl, Below.refl _ _⟩
        case round =>
          obtain ⟨j, hj, rfl, hbr⟩ := hrel
          have HJ := hide hj
          by_cases hltj : j < k
          · obtain ⟨g1, o1, rfl, hg1, hc1⟩ := ((unhide hr4).later hbr) (by rw [(unhide HQ).1]; omega)
            have c0 := hc1 j (by rw [(unhide HQ).1]; exact hltj)
            have c1 := hc1 0 (by rw [(unhide HQ).1]; omega)
            rw [Nat.add_zero] at c1
            obtain ⟨hq, hLk, hsame, hbd, _⟩ := unhide HQ
            have s1 := hsame j 0 hltj (by omega)
            have s2 := hsame 0 j (by omega) hltj
            obtain ⟨t0, t1⟩ := hbd j hltj
            obtain ⟨t2, t3⟩ := hbd 0 (by omega)
            clear hc1 hj hq hLk hsame hbd
            generalize R.getD j 0 = xj at *
            generalize R.getD 0 0 = x0 at *
            have hw1 : IntKind.i64.wrap (xj - x0) = xj - x0 := wrap_id _ (by omega) (by omega)
            have hw2 : IntKind.i64.wrap (x0 - xj) = x0 - xj := wrap_id _ (by omega) (by omega)
            have e1 : decide (1 < xj - x0) = false := decide_eq_false (by omega)
            have e2 : decide (1 < x0 - xj) = false := decide_eq_false (by omega)
            go_wp2_with fail
            go_quiet (fail)
            go_wp2
            go_roundw
            case rel => exact ⟨j + 1, by have := unhide HJ; omega, by go_num, below_drewN hbr _⟩
            case measure => simp [intOf]; omega
          · have HLo := hide (implLensOk_any ra rc k R wr (unhide HQ).1 ((unhide hr4).later hbr) (by have := (unhide HN).2.2; omega))
            rw [(unhide HQ).2.1] at HLo
            go_wp2_with fail
            refine (unhide HLo).mono ?_
            rintro e y1 ⟨rfl, hy1⟩
            rw [hy1]
            clear hy1 y1
            go_wp2
            go_ret
            exact ⟨rfl, bnext (unhide HQ).2.2.2.2 (bnext (unhide HB4) hbr)⟩
  · go_enter Try.func6, Try.ntmps6
    go_wp2
    go_ret
    exact ⟨rfl, Below.refl _ _⟩

end Go.Proofs.Ytkkhaleiehnihaa
