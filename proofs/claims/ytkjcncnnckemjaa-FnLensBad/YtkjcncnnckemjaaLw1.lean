/- The walk of a law: what is too much for a code makes none. -/
import Derived.Test.YtkjcncnnckemjaaDl1
import Derived.Test.YtkjcncnnckemjaaLk2
import Derived.Test.YtkjcncnnckemjaaCb1
import Derived.Test.YtkjcncnnckemjaaAppG
namespace Go.Proofs.Ytkjcncnnckemjaa
open Go.RowKit Corb

theorem iown_copyN {x : World} {base n : Nat} {v : Value} {l : List Int} (hn : l.length = n) (h : x.ownsRow base 3 1 v (0 + n) ([] ++ l.map (Value.int .i64))) : IOwn x base v l := by
  subst hn
  show World.ownsRow _ _ _ _ _ l.length _
  simpa using h
theorem IOwn.news {w : World} {base g n c : Nat} {l : List Int} (hn : l.length = n) (h : IOwn w base (.slice (some ⟨g, 0, none⟩) n c) l) : ∀ j u, (l.map (Value.int .i64))[j]? = some u → w.cell? ((⟨g, 0, none⟩ : Addr).add j) = some u := by
  subst hn
  exact World.ownsRow.cells h rfl
theorem bad_one {l : List Int} (h : lensOk l = true) (hu : 2 ≤ us l) (hl : l.length < 300) : lensOk (l ++ [1]) = false ∧ lensOk (l ++ [0]) = true ∧ lensOk (l ++ [-1]) = false := by
  simp only [lensOk, wholeL, Bool.and_eq_true, Bool.or_eq_true, decide_eq_true_iff] at h
  obtain ⟨⟨hin, hlen⟩, hw⟩ := h
  have hk : kr l = 32768 := by omega
  have k1 : kr (l ++ [1]) = kr l + 16384 := by simp [kr, krN, p2]
  have k0 : kr (l ++ [0]) = kr l := by simp [kr, krN]
  have u1 : us (l ++ [1]) = us l + 1 := by simp [us]
  have i0 : inL (l ++ [0]) = true := by simp [inL, inB]; simpa [inL, inB] using hin
  refine ⟨?_, ?_, ?_⟩
  · simp only [lensOk, wholeL]
    rw [k1, u1, hk, decide_eq_false (by omega : ¬ 32768 + 16384 = 32768), decide_eq_false (by omega : ¬ us l + 1 = 1)]
    simp
  · simp only [lensOk, wholeL]
    rw [i0, k0, hk]
    simp; omega
  · have : inL (l ++ [-1]) = false := by simp [inL, inB]
    simp [lensOk, this]
theorem ne_self (b : Bool) : (b != b) = false := by cases b <;> rfl

set_option maxRecDepth 100000 in
set_option maxHeartbeats 3200000 in
theorem fnLensBad_walk (a : Option Addr) (len cap : Nat) (zs : List Int) (w : World) (w0 : IsRow .u8 w a len cap zs) :
    Calls Try.prog 5 #[.slice a len cap] w fun e w' => e = .returned (.bool true) ∧ Below w.heap.size w w' := by
  obtain ⟨⟨z, hsrc⟩, hc, hm⟩ := src_of w0
  have hm' := hide hm
  unfold maxLen at hm
  clear w0
  obtain ⟨i0, hi, hz0, hz1, hz2⟩ := info_parts Try.infoInt
  by_cases hl : (len : Int) ≤ 1048576
  · go_enter Try.func5, Try.ntmps5
    go_wp2_with fail
    refine (drawLensOk_any a len cap z _ hsrc hc (unhide hm')).mono ?_
    rintro e x1 ⟨⟨l, va, vc, n, rfl, hn, ho1, hn3⟩, hb1⟩
    have HN := hide hn
    have H3 := hide hn3
    have hnI : (n : Int) ≤ 301 := by omega
    have HR := hide (fun (W : World) (h : Below x1.heap.size x1 W) => (ho1.later h (Nat.le_refl _)).rowN hn)
    have HIM := hide (fun (W : World) (h : Below x1.heap.size x1 W) => implLensOk_any va vc n l W hn (unhide HR W h) (by omega))
    have HSP := hide (fun (W : World) (h : Below x1.heap.size x1 W) => specLensOk_any va vc n l W hn (unhide HR W h) (by omega))
    have HUS := hide (fun (W : World) (h : Below x1.heap.size x1 W) => cbUsed_any va vc n l W hn (unhide HR W h) (by omega))
    have hub := us_le l
    have huI : ((us l : Nat) : Int) ≤ 301 := by omega
    have HO := hide ho1
    clear hn hn3 ho1 hsrc hub
    cases hok : lensOk l
    · go_wp2_with (first
        | (go_at_call 9; refine (unhide HIM x1 (Below.refl _ _)).mono ?_; rintro e y1 ⟨rfl, hy1⟩; rw [hy1, hok]; clear hy1)
        | (go_at_call 10; refine (unhide HSP x1 (Below.refl _ _)).mono ?_; rintro e y2 ⟨rfl, hy2⟩; rw [hy2, hok]; clear hy2))
      go_ret
      exact ⟨rfl, hb1⟩
    · by_cases hu2 : ((us l : Nat) : Int) < 2
      · go_wp2_with (first
          | (go_at_call 9; refine (unhide HIM x1 (Below.refl _ _)).mono ?_; rintro e y1 ⟨rfl, hy1⟩; rw [hy1, hok]; clear hy1)
          | (go_at_call 14; refine (unhide HUS x1 (Below.refl _ _)).mono ?_; rintro e y3 ⟨rfl, hy3⟩; rw [hy3]; clear hy3)
          | (go_at_call 10; refine (unhide HSP x1 (Below.refl _ _)).mono ?_; rintro e y2 ⟨rfl, hy2⟩; rw [hy2, hok]; clear hy2))
        go_ret
        exact ⟨rfl, hb1⟩
      · by_cases hl3 : (300 : Int) ≤ (n : Int)
        · go_wp2_with (first
            | (go_at_call 9; refine (unhide HIM x1 (Below.refl _ _)).mono ?_; rintro e y1 ⟨rfl, hy1⟩; rw [hy1, hok]; clear hy1)
            | (go_at_call 14; refine (unhide HUS x1 (Below.refl _ _)).mono ?_; rintro e y3 ⟨rfl, hy3⟩; rw [hy3]; clear hy3)
            | (go_at_call 10; refine (unhide HSP x1 (Below.refl _ _)).mono ?_; rintro e y2 ⟨rfl, hy2⟩; rw [hy2, hok]; clear hy2))
          go_ret
          exact ⟨rfl, hb1⟩
        · have hbad := hide (bad_one hok (by omega) (by rw [unhide HN]; omega))
          obtain ⟨g, hg⟩ := (unhide HO).somes (by have := us_le l; omega)
          subst hg
          have HB1 := hide hb1
          have hlen : Hid ((l.map (Value.int .i64)).length = n * 1 ∧ 0 + n ≤ maxLen ∧ (0 + n) * 8 ≤ 140737488355328 ∧ n + 1 ≤ maxLen ∧ (n + 1) * 8 ≤ 140737488355328) := by
            show _ ∧ _ ∧ _ ∧ _ ∧ _
            have := unhide HN
            have := unhide H3
            unfold maxLen
            refine ⟨by simp; omega, by omega, by omega, by omega, by omega⟩
          have hbz0 : Below x1.heap.size x1 x1 := Below.refl _ _
          have hn0 := hide (unhide HN)
          have hne : Hid (∀ (y : World) (W : World), Below x1.heap.size x1 y → Below y.heap.size y W → ∀ j u, (l.map (Value.int .i64))[j]? = some u → W.cell? ((⟨g, 0, none⟩ : Addr).add j) = some u) := fun y W hy hW => ((unhide HO).later (bnext hy hW) (Nat.le_refl _)).news (unhide HN)
          have hlit : Hid (∀ (y : World), World.ownsRow (y.alloc (.cells #[] 3)) y.heap.size 3 1 (.slice (some ⟨y.heap.size, 0, none⟩) 0 0) 0 [] ∧ Below y.heap.size y (y.alloc (.cells #[] 3))) := fun y => ⟨World.ownsRow_lit y #[] 0 (Nat.le_refl _) (by unfold maxLen; omega) rfl, (Below.refl _ _).alloc (Nat.le_refl _) _⟩
          have hcall : Hid (∀ (x : Int) (b : Bool) (W : World) (base : Nat) (va : Option Addr) (vc : Nat), lensOk (l ++ [x]) = b → IOwn W base (.slice va (n + 1) vc) (l ++ [x]) → Calls Try.prog 9 #[.slice va (n + 1) vc] W fun e w' => e = .returned (.bool b) ∧ w' = W) := by
            intro x b W base va vc hb ho
            have hnn : (l ++ [x]).length = n + 1 := snoc_len (unhide HN)
            have := implLensOk_any va vc (n + 1) (l ++ [x]) W hnn (ho.rowN hnn) (by have := unhide H3; omega)
            rw [hb] at this
            exact this
          clear hn0 hb1
          go_wp2_with fail
          refine (unhide HIM x1 (Below.refl _ _)).mono ?_
          rintro e y1 ⟨rfl, hy1⟩
          rw [hy1, hok]
          clear hy1
          go_wp2_with fail
          refine (unhide HSP x1 (Below.refl _ _)).mono ?_
          rintro e y2 ⟨rfl, hy2⟩
          rw [hy2, hok]
          clear hy2
          go_wp2_with fail
          refine (unhide HUS x1 (Below.refl _ _)).mono ?_
          rintro e y3 ⟨rfl, hy3⟩
          rw [hy3]
          clear hy3
          go_wp2_with (first
            | (at_builtin; refine wpList_append_own _ rfl (.tmp 34) (.tmp 35) 23 rfl x1.heap.size 3 i0 (.int .i64 0) 1 8 Try.underlying23 hi hz0 hz1 hz2 rfl (by decide) _ _ _ rfl (unhide hlit x1).1 ⟨g, 0, none⟩ n vc (l.map (Value.int .i64)) rfl (unhide hlen).1 (unhide hne x1 _ hbz0 (unhide hlit x1).2) (ints_oneCell .i64 _) (unhide hlen).2.1 (unhide hlen).2.2.1 (unhide hlit x1).2.size ?_; intro v0 z0 hown0 hgrow0 hnil0; clear hnil0; have hc0 := iown_copyN (unhide HN) hown0; have hbc0 := copy_below hgrow0; have hco0 := hc0.own (unhide HN))
            | (at_builtin; refine wpList_append_own _ rfl (.tmp 36) (.tmp 37) 23 rfl x1.heap.size 3 i0 (.int .i64 0) 1 8 Try.underlying23 hi hz0 hz1 hz2 rfl (by decide) _ _ _ rfl (World.ownsRow.alloc hco0 _) ⟨z0.heap.size, 0, none⟩ 1 1 [(.int .i64 (1))] rfl rfl (one_new _ _ rfl _ _) (one_int _) (unhide hlen).2.2.2.1 (unhide hlen).2.2.2.2 (size_alloc_le hbc0.size _) ?_; intro u0 s0 hown0' hgrow0' hnil0'; clear hnil0'))
          have hs0 := iown_snocN (unhide HN) hown0'
          have hbs0 := own_below hgrow0' (World.ownsRow.alloc hco0 _) hbc0
          have hbz1 := bnext hbz0 hbs0
          obtain ⟨sa0, sc0, hsv0⟩ := hs0.formN (snoc_len (unhide HN))
          rw [hsv0] at hs0 ⊢
          clear hown0 hgrow0 hown0' hgrow0' hc0 hco0 hsv0 hbc0
          refine (unhide hcall (1) _ s0 _ sa0 sc0 (unhide hbad).1 hs0).mono ?_
          rintro e q0 ⟨rfl, hq0⟩
          rw [hq0]
          clear hq0 hs0
          go_wp2_with (first
            | (at_builtin; refine wpList_append_own_g _ (by first | rfl | simp [Region.wanted, yielded]) (.tmp 42) (.tmp 43) 23 rfl s0.heap.size 3 i0 (.int .i64 0) 1 8 Try.underlying23 hi hz0 hz1 hz2 rfl (by decide) _ _ _ rfl (unhide hlit s0).1 ⟨g, 0, none⟩ n vc (l.map (Value.int .i64)) rfl (unhide hlen).1 (unhide hne s0 _ hbz1 (unhide hlit s0).2) (ints_oneCell .i64 _) (unhide hlen).2.1 (unhide hlen).2.2.1 (unhide hlit s0).2.size ?_; intro v1 z1 hown1 hgrow1 hnil1; clear hnil1; have hc1 := iown_copyN (unhide HN) hown1; have hbc1 := copy_below hgrow1; have hco1 := hc1.own (unhide HN))
            | (at_builtin; refine wpList_append_own_g _ (by first | rfl | simp [Region.wanted, yielded]) (.tmp 44) (.tmp 45) 23 rfl s0.heap.size 3 i0 (.int .i64 0) 1 8 Try.underlying23 hi hz0 hz1 hz2 rfl (by decide) _ _ _ rfl (World.ownsRow.alloc hco1 _) ⟨z1.heap.size, 0, none⟩ 1 1 [(.int .i64 (0))] rfl rfl (one_new _ _ rfl _ _) (one_int _) (unhide hlen).2.2.2.1 (unhide hlen).2.2.2.2 (size_alloc_le hbc1.size _) ?_; intro u1 s1 hown1' hgrow1' hnil1'; clear hnil1'))
          have hs1 := iown_snocN (unhide HN) hown1'
          have hbs1 := own_below hgrow1' (World.ownsRow.alloc hco1 _) hbc1
          have hbz2 := bnext hbz1 hbs1
          obtain ⟨sa1, sc1, hsv1⟩ := hs1.formN (snoc_len (unhide HN))
          rw [hsv1] at hs1 ⊢
          clear hown1 hgrow1 hown1' hgrow1' hc1 hco1 hsv1 hbc1
          refine (unhide hcall (0) _ s1 _ sa1 sc1 (unhide hbad).2.1 hs1).mono ?_
          rintro e q1 ⟨rfl, hq1⟩
          rw [hq1]
          clear hq1 hs1
          go_wp2_with (first
            | (at_builtin; refine wpList_append_own_g _ (by first | rfl | simp [Region.wanted, yielded]) (.tmp 50) (.tmp 51) 23 rfl s1.heap.size 3 i0 (.int .i64 0) 1 8 Try.underlying23 hi hz0 hz1 hz2 rfl (by decide) _ _ _ rfl (unhide hlit s1).1 ⟨g, 0, none⟩ n vc (l.map (Value.int .i64)) rfl (unhide hlen).1 (unhide hne s1 _ hbz2 (unhide hlit s1).2) (ints_oneCell .i64 _) (unhide hlen).2.1 (unhide hlen).2.2.1 (unhide hlit s1).2.size ?_; intro v2 z2 hown2 hgrow2 hnil2; clear hnil2; have hc2 := iown_copyN (unhide HN) hown2; have hbc2 := copy_below hgrow2; have hco2 := hc2.own (unhide HN))
            | (at_builtin; refine wpList_append_own_g _ (by first | rfl | simp [Region.wanted, yielded]) (.tmp 52) (.tmp 53) 23 rfl s1.heap.size 3 i0 (.int .i64 0) 1 8 Try.underlying23 hi hz0 hz1 hz2 rfl (by decide) _ _ _ rfl (World.ownsRow.alloc hco2 _) ⟨z2.heap.size, 0, none⟩ 1 1 [(.int .i64 (-1))] rfl rfl (one_new _ _ rfl _ _) (one_int _) (unhide hlen).2.2.2.1 (unhide hlen).2.2.2.2 (size_alloc_le hbc2.size _) ?_; intro u2 s2 hown2' hgrow2' hnil2'; clear hnil2'))
          have hs2 := iown_snocN (unhide HN) hown2'
          have hbs2 := own_below hgrow2' (World.ownsRow.alloc hco2 _) hbc2
          have hbz3 := bnext hbz2 hbs2
          obtain ⟨sa2, sc2, hsv2⟩ := hs2.formN (snoc_len (unhide HN))
          rw [hsv2] at hs2 ⊢
          clear hown2 hgrow2 hown2' hgrow2' hc2 hco2 hsv2 hbc2
          refine (unhide hcall (-1) _ s2 _ sa2 sc2 (unhide hbad).2.2 hs2).mono ?_
          rintro e q2 ⟨rfl, hq2⟩
          rw [hq2]
          clear hq2 hs2
          go_wp2
          go_ret
          exact ⟨rfl, bnext (unhide HB1) hbz3⟩
  · go_enter Try.func5, Try.ntmps5
    go_wp2
    go_ret
    exact ⟨rfl, Below.refl _ _⟩

end Go.Proofs.Ytkjcncnnckemjaa
