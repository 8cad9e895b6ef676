/- Of what the proof is made: 16 texts, one behind the other. -/
import Derived.Test.YtgpghapnmalipaaGreatDoorM12
import Derived.Test.YtgpghapnmalipaaGreatDoorRb1
import Derived.Test.YtgpghapnmalipaaGreatDoorM6
import Derived.BigRegion
import Derived.Test.YtgpghapnmalipaaGreatDoorStepLaw
namespace Go.Proofs.YtgpghapnmalipaaGreatDoor
open Go.RowKit
def sliceLen : Value → Nat
  | .slice _ n _ => n
  | _ => 0
theorem seed_yes {l : List Int} {k : Nat} (h : 0 < l.getD k 0) : seed l (k + 1) = seed l k ++ [⟨l.getD k 0, (k : Int), [(k : Int)], .slice none 0 0⟩] := by simp only [seed]; rw [if_pos h]
theorem seed_no {l : List Int} {k : Nat} (h : ¬ 0 < l.getD k 0) : seed l (k + 1) = seed l k := by simp only [seed]; rw [if_neg h]
theorem three_new (w : World) (x y z : Value) (t : TypeId) (g : Nat) (hg : w.heap.size = g) : ∀ (j : Nat) (u : Value), [x, y, z][j]? = some u → (w.alloc (.cells #[x, y, z] t)).cell? ((⟨g, 0, none⟩ : Addr).add j) = some u := by
  subst hg
  intro j u hj
  match j, hj with
  | 0, hj => simp at hj; subst hj; simp [Addr.add]
  | 1, hj => simp at hj; subst hj; simp [Addr.add]
  | 2, hj => simp at hj; subst hj; simp [Addr.add]
theorem three_one (x y : Int) (a : Option Addr) (n c : Nat) : ∀ u ∈ [Value.int .i64 x, Value.int .i64 y, Value.slice a n c], u.oneCell' = true := by
  intro u hu
  simp at hu
  rcases hu with rfl | rfl | rfl <;> rfl
theorem trow_snoc {t : TypeId} {x : World} {base : Nat} {v : Value} {l : List Grp} (g : Grp) (h : x.ownsRow base t 3 v (l.length + 1) (tcells l ++ [.int .i64 g.cnt, .int .i64 g.fst, g.val])) : Trow t x base v (l ++ [g]) := by
  show World.ownsRow _ _ _ _ _ (l ++ [g]).length _
  rw [tcells_append]
  simpa [tcells] using h
theorem IOwn.one (w : World) (base : Nat) (hb : base ≤ w.heap.size) (x : Int) : IOwn (w.alloc (.cells #[.int .i64 x] 3)) base (.slice (some ⟨w.heap.size, 0, none⟩) 1 1) [x] :=
  World.ownsRow_lit w #[.int .i64 x] 1 hb (by unfold maxLen; omega) rfl
theorem syms_nil (w : World) (ob : Nat) : Syms w ob [] := fun g hg => by simp at hg
theorem Syms.snoc {w : World} {ob : Nat} {l : List Grp} {g : Grp} (h : Syms w ob l) (hg : IOwn w ob g.val g.syms) : Syms w ob (l ++ [g]) := by
  intro x hx
  simp only [List.mem_append, List.mem_singleton] at hx
  rcases hx with hx | rfl
  · exact h x hx
  · exact hg
theorem Syms.grown {t : TypeId} {w w' : World} {ob base : Nat} {v : Value} {l m : List Grp} (h : Syms w ob l) (hr : Trow t w base v m) (ht : 3 ≠ t) (hg : w.grownBy w' v.ownBlock) : Syms w' ob l :=
  fun g hgm => World.ownsRow.kept (h g hgm) hg (type_apart (h g hgm) hr ht)
theorem ints_grown {t : TypeId} {w w' : World} {ob base : Nat} {v u : Value} {l : List Int} {m : List Grp} (h : IOwn w ob u l) (hr : Trow t w base v m) (ht : 3 ≠ t) (hg : w.grownBy w' v.ownBlock) : IOwn w' ob u l :=
  World.ownsRow.kept h hg (type_apart h hr ht)
theorem three_of (w : World) (x y z : Value) (t : TypeId) : Three (w.alloc (.cells #[x, y, z] t)) w.heap.size x y z := ⟨by simp, by simp, by simp, by simp, by simp, by simp, by simp⟩
theorem Three.later {w w' : World} {b : Nat} {v0 v1 v2 : Value} (h : Three w b v0 v1 v2) (hb : Below w.heap.size w w') : Three w' b v0 v1 v2 := h.kept (hb.mono h.2.2.2.2.2.2)
theorem Trow.mono {t : TypeId} {w : World} {base base' : Nat} {v : Value} {l : List Grp} (h : Trow t w base v l) (hb : base' ≤ base) : Trow t w base' v l :=
  ⟨h.1, h.2.imp id fun ⟨g, c, u, e, hbg, r⟩ => ⟨g, c, u, e, Nat.le_trans hb hbg, r⟩⟩
theorem Syms.sub {w : World} {ob : Nat} {l m : List Grp} (h : Syms w ob l) (hs : ∀ g ∈ m, g ∈ l) : Syms w ob m := fun g hg => h g (hs g hg)
theorem ownsRow_touch {w w' : World} {a : Option Addr} {base size n : Nat} {e : TypeId} {v : Value} {xs : List Value} (h : w.ownsRow base e size v n xs) (ht : Touch a w w') (hne : ∀ g, a = some ⟨g, 0, none⟩ → g < base) : w'.ownsRow base e size v n xs := by
  refine ⟨h.1, ?_⟩
  rcases h.2 with hn | ⟨g, cap, cur, rfl, hbg, hgg, rest⟩
  · exact .inl hn
  · refine .inr ⟨g, cap, cur, rfl, hbg, ?_, rest⟩
    rw [ht.2 g (fun g' e => by have := hne g' e; omega)]
    exact hgg
theorem touch_cell {w w' : World} {b : Nat} {p : Addr} (ht : Touch (some ⟨b, 0, none⟩) w w') (hp : p.block ≠ b) : w'.cell? p = w.cell? p :=
  World.cell?_of_block (ht.2 p.block (fun g e => by simp only [Option.some.injEq, Addr.mk.injEq, and_true] at e; omega))
theorem touch_lt (b B : Nat) (h : b < B) : ∀ g, (some ⟨b, 0, none⟩ : Option Addr) = some ⟨g, 0, none⟩ → g < B := by
  intro g e
  simp only [Option.some.injEq, Addr.mk.injEq, and_true] at e
  omega
set_option maxRecDepth 100000 in
set_option maxHeartbeats 6400000 in
theorem l3Lens_any (a : Option Addr) (cap n : Nat) (l : List Int) (w : World) (hn : l.length = n) (h : IRow w a l) (hm : n ≤ 300) (hc : ∀ i, i < l.length → 0 ≤ l.getD i 0 ∧ l.getD i 0 ≤ 100000) :
    Calls Tryz.prog 154 #[.slice a n cap] w fun e w' => e = .returned (.slice (some ⟨w.heap.size, 0, none⟩) n n) ∧ IOwn w' w.heap.size (.slice (some ⟨w.heap.size, 0, none⟩) n n) (hufL l) ∧ Below w.heap.size w w' := by
  have hmI : (n : Int) ≤ 300 := by omega
  obtain ⟨i0, hi, hz0, hz1, hz2⟩ := info_parts Tryz.infoInt
  obtain ⟨j0, hj, hy0, hy1, hy2⟩ := info_parts Tryz.infoTree
  have HN := hide hn
  have HC := hide hc
  have HM := hide hm
  clear hc
  go_enter Tryz.func154, Tryz.ntmps154
  go_wp2_with (at_make; refine wpList_make_full _ rfl _ _ 107 rfl w.heap.size 3 i0 (.int .i64 0) 1 Tryz.underlying107 hi hz0 hz1 .i64 .i64 _ _ n rfl rfl rfl rfl (by rw [hz2]; omega) (by unfold maxLen; omega) (Nat.le_refl _) ?_; intro w1 hown hgrow)
  have hp0 : IOwn (w1.alloc (.cells #[] 252)) w.heap.size (.slice (some ⟨w.heap.size, 0, none⟩) n n) (List.replicate l.length 0) := by
    rw [hn]
    exact (made_ints hown).later ((Below.refl w1.heap.size w1).alloc (Nat.le_refl _) _) (Nat.le_refl _)
  have hlt1 : w.heap.size + 1 ≤ w1.heap.size := (made_ints hown).below.2
  have hb0 : Below w.heap.size w (w1.alloc (.cells #[] 252)) := ((Below.refl _ _).grown hgrow (Nat.le_refl _) (fun k h => by cases h)).alloc (by omega) _
  have ht0 : Trow 252 (w1.alloc (.cells #[] 252)) (w.heap.size + 1) (.slice (some ⟨w1.heap.size, 0, none⟩) 0 0) [] := World.ownsRow_lit w1 #[] 0 hlt1 (by unfold maxLen; omega) rfl
  clear hown hgrow hn hm
  go_loopw [4, 5] (fun v i wr => ∃ (k : Nat) (L : List Grp), k ≤ n ∧ i = .int .i64 k ∧ L.map bare = seed l k ∧ Trow 252 wr (w.heap.size + 1) v L ∧ Syms wr (w.heap.size + 1) L ∧ IOwn wr w.heap.size (.slice (some ⟨w.heap.size, 0, none⟩) n n) (List.replicate l.length 0) ∧ Below w.heap.size w wr) (fun _ i _ => n - (intOf i).toNat)
  case atStart => exact ⟨0, [], Nat.zero_le _, rfl, rfl, ht0, syms_nil _ _, hp0, hb0⟩
  case round =>
    obtain ⟨k, L, hk, rfl, hL, ht, hs, hp, hbel⟩ := hrel
    clear hp0 hb0 ht0
    have HL := hide hL
    have hbs : w.heap.size + 1 ≤ wr.heap.size := hp.below.2
    clear hL
    by_cases hlt : k < n
    · obtain ⟨g, o, rfl, hg, hcc⟩ := (h.later hbel) (by rw [unhide HN]; omega)
      have c0 := hcc k (by rw [unhide HN]; exact hlt)
      have HK := hide hk
      have hlenL : L.length ≤ 300 := by
        have h1 : (L.map bare).length = (seed l k).length := by rw [unhide HL]
        have h2 := (seed_tot l 100000 (by omega) (fun i hi => (unhide HC i hi).2) k (by rw [unhide HN]; omega)).2.2
        rw [List.length_map] at h1
        have := unhide HM
        omega
      clear hcc hk
      by_cases hy : 0 < l.getD k 0
      · have hst := hide (seed_yes hy)
        generalize l.getD k 0 = y at *
        have hA : IOwn (wr.alloc (.cells #[.int .i64 (k : Int)] 3)) (w.heap.size + 1) (.slice (some ⟨wr.heap.size, 0, none⟩) 1 1) [(k : Int)] := IOwn.one wr _ hbs _
        have hB1 : Below wr.heap.size wr (wr.alloc (.cells #[.int .i64 (k : Int)] 3)) := (Below.refl _ _).alloc (Nat.le_refl _) _
        have hsz1 : (wr.alloc (.cells #[.int .i64 (k : Int)] 3)).heap.size = wr.heap.size + 1 := by simp
        have ht1 := ht.later hB1 (Nat.le_refl _)
        have hs1 := hs.later hB1 (Nat.le_refl _)
        have hp1 := hp.later hB1 (Nat.le_refl _)
        have hbel1 := bnext hbel ((Below.refl wr.heap.size wr).alloc (Nat.le_refl _) (.cells #[.int .i64 (k : Int)] 3))
        have HX := hide (And.intro hA (And.intro ht1 (And.intro hs1 (And.intro hp1 (And.intro hbel1 hsz1)))))
        have hlen1 : Hid (L.length + 1 ≤ maxLen ∧ (L.length + 1) * 40 ≤ 140737488355328) := by show _ ∧ _; unfold maxLen; omega
        clear hA hB1 ht1 hs1 hp1 hbel1 ht hs hp hbel hsz1
        go_wp2_with (at_builtin; refine wpList_append_own _ rfl _ _ 250 rfl (w.heap.size + 1) 252 j0 (.agg #[.int .i64 0, .int .i64 0, .slice none 0 0]) 3 40 Tryz.underlying250 hj hy0 hy1 hy2 rfl (by decide) _ _ _ rfl (World.ownsRow.alloc (unhide HX).2.1 _) ⟨wr.heap.size + 1, 0, none⟩ 1 1 [.int .i64 y, .int .i64 (k : Int), .slice (some ⟨wr.heap.size, 0, none⟩) 1 1] rfl rfl (three_new _ _ _ _ _ _ (unhide HX).2.2.2.2.2) (three_one _ _ _ _ _) (unhide hlen1).1 (unhide hlen1).2 (size_alloc_le (by rw [(unhide HX).2.2.2.2.2]; omega) _) ?_; intro v' x3 hown hgrow hnil; clear hnil)
        obtain ⟨hA, ht1, hs1, hp1, hbel1, hsz1⟩ := unhide HX
        have hAl : ∀ {B : Nat} {o : Obj}, B = wr.heap.size + 1 → Below B (wr.alloc (.cells #[.int .i64 (k : Int)] 3)) ((wr.alloc (.cells #[.int .i64 (k : Int)] 3)).alloc o) := fun {B} {o} e => (Below.refl _ _).alloc (by rw [hsz1]; omega) _
        have ht2 : Trow 252 ((wr.alloc (.cells #[.int .i64 (k : Int)] 3)).alloc (.cells #[.int .i64 y, .int .i64 (k : Int), .slice (some ⟨wr.heap.size, 0, none⟩) 1 1] 252)) (w.heap.size + 1) u4 L := World.ownsRow.alloc ht1 _
        have hs3 := (hs1.later (hAl rfl) (by rw [hsz1]; exact Nat.le_refl _)).grown ht2 (by decide) hgrow
        have hA3 := ints_grown (hA.later (hAl rfl) (by rw [hsz1]; exact Nat.le_refl _)) ht2 (by decide) hgrow
        have hp3 := ints_grown (hp1.later (hAl rfl) (by rw [hsz1]; exact Nat.le_refl _)) ht2 (by decide) hgrow
        have hb3 : Below w.heap.size w x3 := grown_step (v := u4) hgrow ht1 (by omega) (by rw [hsz1]; omega) hbel1
        have ht3 := trow_snoc ⟨y, (k : Int), [(k : Int)], .slice (some ⟨wr.heap.size, 0, none⟩) 1 1⟩ hown
        have hs4 := hs3.snoc (g := ⟨y, (k : Int), [(k : Int)], .slice (some ⟨wr.heap.size, 0, none⟩) 1 1⟩) hA3
        clear hown hgrow HX hA ht1 hs1 hp1 hbel1 hAl ht2 hs3 hA3
        go_wp2
        go_roundw
        case rel => exact ⟨k + 1, L ++ [⟨y, (k : Int), [(k : Int)], .slice (some ⟨wr.heap.size, 0, none⟩) 1 1⟩], by omega, by go_num, by rw [unhide hst, List.map_append, unhide HL]; rfl, ht3, hs4, hp3, hb3⟩
        case measure => simp [intOf]; omega
      · have hst := hide (seed_no hy)
        generalize l.getD k 0 = y at *
        go_wp2
        go_roundw
        case rel => exact ⟨k + 1, L, by omega, by go_num, by rw [unhide hst]; exact unhide HL, ht, hs, hp, hbel⟩
        case measure => simp [intOf]; omega
    · obtain rfl : k = n := by omega
      have hseed : Hid (L.map bare = seed l l.length) := by show L.map bare = seed l l.length; rw [unhide HN]; exact unhide HL
      have hU : Hid (L.length = (seed l l.length).length) := by show L.length = (seed l l.length).length; rw [← unhide hseed, List.length_map]
      have hUb : L.length ≤ 300 := by
        have h2 := (seed_tot l 100000 (by omega) (fun i hi => (unhide HC i hi).2) l.length (Nat.le_refl _)).2.2
        have := unhide hU
        have := unhide HM
        have := unhide HN
        omega
      have hwf := hide (seed_wf l l.length (Nat.le_refl _))
      obtain ⟨va, vc, rfl⟩ := ht.form
      clear h
      by_cases hone : L.length = 1
      · obtain ⟨g, rfl⟩ := ht.somes (by omega)
        obtain ⟨_, c1, _, _, _⟩ := ht.at rfl 0 (by omega)
        have hm0 := unhide hwf ((seed l l.length).getD 0 g0) (getD_mem _ 0 (by have := unhide hU; omega))
        have hf0 : (L.getD 0 g0).fst = ((seed l l.length).getD 0 g0).fst := by rw [← unhide hseed, getD_bare]; rfl
        obtain ⟨_, f0, f1, _, _⟩ := hm0
        rw [← hf0, unhide HN] at f1
        rw [← hf0] at f0
        have hres : Hid (hufL l = (List.replicate l.length 0).set (L.getD 0 g0).fst.toNat 1) := by
          show hufL l = _
          unfold hufL
          rw [if_pos (by rw [← unhide hU]; exact hone), hf0]
        generalize (L.getD 0 g0).fst = f at *
        obtain ⟨q, rfl⟩ := Int.eq_ofNat_of_zero_le f0
        rw [Int.toNat_natCast] at hres
        have hlenr : (List.replicate l.length (0 : Int)).length = k := by simp [unhide HN]
        obtain ⟨d0, e0, _, _⟩ := hp.at (j := q) hlenr (by omega)
        have hput := hp.put (j := q) hlenr 1
        have hbel2 := below_set hbel (b := w.heap.size) (o := q) (Nat.le_refl _) (.int .i64 1)
        rw [← unhide hres] at hput
        have HP := hide hput
        have HB := hide hbel2
        have c1' : wr.cell? ⟨g, 1, none⟩ = some (.int .i64 (q : Int)) := by simpa using c1
        clear hput hbel2 hlenr hres hbel hp hs ht c1 hf0
        rw [hone]
        generalize (List.replicate l.length (0 : Int)).getD q 0 = y at *
        go_wp2_with fail
        go_loopw [4, 6, 7, 8, 9, 10, 11] (fun v _ _ _ _ _ _ wq => v = .slice (some ⟨g, 0, none⟩) 1 vc ∧ wq = wr.setCell ⟨w.heap.size, q, none⟩ (.int .i64 1)) (fun _ _ _ _ _ _ _ _ => 0)
        case atStart => exact ⟨rfl, rfl⟩
        case round =>
          obtain ⟨rfl, hw⟩ := hrel
          subst hw
          go_wp2
          go_ret
          exact ⟨rfl, unhide HP, unhide HB⟩
      · have hne : ((L.length : Int) == 1) = false := by rw [beq_eq_false_iff_ne]; omega
        have hfin : Hid (∀ k, (seed l l.length).length - k ≤ 1 → (k < (seed l l.length).length ∨ k = 0) → hufL l = (hufI l k).2) := by
          intro k h1 h2
          unfold hufL
          have := unhide hU
          rw [if_neg (by omega)]
          congr 2; omega
        have HUB := hide hUb
        clear hUb
        have hp' : IOwn wr w.heap.size (.slice (some ⟨w.heap.size, 0, none⟩) k k) (hufI l 0).2 := hp
        have hL0 : L.map bare = (hufI l 0).1 := unhide hseed
        generalize hUe : (seed l l.length).length = U at *
        have HUE := hide hUe
        clear hUe hwf hseed HL hp
        go_wp2_with fail
        go_loopw [4, 6, 7, 8, 9, 10, 11] (fun v _ _ _ _ _ _ wq => ∃ (j : Nat) (M : List Grp), (j < U ∨ j = 0) ∧ M.map bare = (hufI l j).1 ∧ Trow 252 wq (w.heap.size + 1) v M ∧ Syms wq (w.heap.size + 1) M ∧ IOwn wq w.heap.size (.slice (some ⟨w.heap.size, 0, none⟩) k k) (hufI l j).2 ∧ Below w.heap.size w wq) (fun v _ _ _ _ _ _ _ => sliceLen v)
        case atStart => exact ⟨0, L, .inr rfl, hL0, ht, hs, hp', hbel⟩
        case round =>
          obtain ⟨j, M, hj, hM, htm, hsm, hpm, hbm⟩ := hrel
          clear ht hs hp' hbel hL0 hne hone
          have hInv := hufI_inv l j (by rw [unhide HUE]; exact hj)
          rw [← hM, unhide HUE] at hInv
          obtain ⟨iw, ic, is, il⟩ := hInv
          rw [List.length_map] at il
          obtain ⟨ma, mc, rfl⟩ := htm.form
          have HM2 := hide hM
          have HJ := hide hj
          clear hM hj
          by_cases hgo : 1 < M.length
          · have hgoI : (1 : Int) < (M.length : Int) := by omega
            have hUB := unhide HUB
            have hM300 : M.length ≤ 300 := by have := unhide hU; omega
            have hMI : (M.length : Int) ≤ 300 := by omega
            have hw0 : w.heap.size + 1 ≤ wr.heap.size := hpm.below.2
            have hq1 := least_lt M (by omega)
            have iw' : WFL k M := by
              intro g hg
              have h1 := iw (bare g) (List.mem_map_of_mem hg)
              rw [unhide HN] at h1
              exact h1
            have hwa := iw' _ (first_mem M (by omega))
            have hrl := rest_len M (by omega)
            have hwb := iw' _ (rest_sub M _ (first_mem (restU M) (by omega)))
            have hq2 := least_lt (restU M) (by omega)
            have htot : totC M ≤ 30000000 := by
              have h1 := (seed_tot l 100000 (by omega) (fun i hi => (unhide HC i hi).2) l.length (Nat.le_refl _)).1
              have h2 : totC (M.map bare) = totC M := by simp [totC, Function.comp_def, bare]
              rw [h2] at ic
              have := unhide HN
              have h3 : (100000 : Int) * (l.length : Int) ≤ 100000 * 300 := Int.mul_le_mul_of_nonneg_left (by omega) (by omega)
              omega
            have htwo := two_cnt iw' hgo
            have HLe := hide (l3Least_any ma mc M.length (w.heap.size + 1) M wr rfl htm (by omega) hM300)
            obtain ⟨g, rfl⟩ := htm.somes (by omega)
            have hfm : Hid (firstG M = M.getD (least M) g0) := rfl
            have hrm : Hid (restU M = M.eraseIdx (least M)) := rfl
            have HQ := hide (And.intro htm (And.intro hsm (And.intro hpm hbm)))
            have HFA := hide (And.intro hwa (And.intro hrl (And.intro hwb (And.intro hq2 (And.intro htot htwo)))))
            have HGO := hide (And.intro hgo (And.intro hM300 (And.intro hq1 (And.intro hw0 il))))
            have HIW := hide iw'
            clear htm hsm hpm hbm ic is iw hwa hrl hwb hq2 htot htwo hgo hM300 hq1 hw0 il iw' hUB
            go_wp2_with fail
            refine (unhide HLe).mono ?_
            rintro e x1 ⟨rfl, hb1⟩
            obtain ⟨htm, hsm, hpm, hbm⟩ := unhide HQ
            obtain ⟨hgo, hM300, hq1, hw0, il⟩ := unhide HGO
            obtain ⟨hwa, hrl, hwb, hq2, htot, htwo⟩ := unhide HFA
            have ht1 := htm.later hb1 (Nat.le_refl _)
            have hs1 := hsm.later hb1 (Nat.le_refl _)
            have hp1 := hpm.later hb1 (Nat.le_refl _)
            have hB1 := bnext hbm hb1
            have hz1' := hb1.size
            obtain ⟨c0, c1, c2, _, hgx⟩ := ht1.at rfl (least M) hq1
            rw [← unhide hfm] at c0 c1 c2
            have hvA := hs1 _ (first_mem M (by omega))
            obtain ⟨aa, ac, hav⟩ := hvA.form
            obtain ⟨ga, hga⟩ := (hav ▸ hvA).somes hwa.2.2.2.2
            rw [hga] at hav
            rw [hav] at c2 hvA
            have hqI : ((least M : Nat) : Int) < (M.length : Int) := by omega
            have HLs := hide (l3Less_any (some ⟨g, 0, none⟩) mc M.length (w.heap.size + 1) (w.heap.size + 1) (least M) M (x1.alloc (.cells #[.int .i64 (firstG M).cnt, .int .i64 (firstG M).fst, .slice (some ⟨ga, 0, none⟩) (firstG M).syms.length ac] 252)) rfl (ht1.later ((Below.refl x1.heap.size x1).alloc (Nat.le_refl _) _) (Nat.le_refl _)) (hs1.later ((Below.refl x1.heap.size x1).alloc (Nat.le_refl _) _) (Nat.le_refl _)) hq1 hM300)
            have HQ1 := hide (And.intro ht1 (And.intro hs1 (And.intro hp1 (And.intro hB1 hvA))))
            have hgxI := hide hgx
            have hq1w : w.heap.size + 1 ≤ x1.heap.size := hp1.below.2
            clear htm hsm hpm hbm HQ HLe ht1 hs1 hp1 hB1 hvA hav hwa hrl hwb hq2 htot htwo hgo hM300 hq1 hw0 il hga hgx hz1'
            generalize hA0 : firstG M = A at *
            have HA0 := hide hA0
            clear hA0
            go_wp2_with fail
            refine (unhide HLs).mono ?_
            rintro e x2 ⟨⟨v1, rfl, ht2⟩, hb2⟩
            obtain ⟨ht1, hs1, hp1, hB1, hvA⟩ := unhide HQ1
            obtain ⟨hgo, hM300, hq1, hw0, il⟩ := unhide HGO
            obtain ⟨hwa, hrl, hwb, hq2, htot, htwo⟩ := unhide HFA
            rw [← unhide hrm] at ht2
            have hba : Below x1.heap.size x1 (x1.alloc (.cells #[.int .i64 A.cnt, .int .i64 A.fst, .slice (some ⟨ga, 0, none⟩) A.syms.length ac] 252)) := (Below.refl _ _).alloc (Nat.le_refl _) _
            have hb12 := bnext hba hb2
            have hA2 := (three_of x1 (.int .i64 A.cnt) (.int .i64 A.fst) (.slice (some ⟨ga, 0, none⟩) A.syms.length ac) 252).later hb2
            have hs2 := hs1.later hb12 (Nat.le_refl _)
            have hp2 := hp1.later hb12 (Nat.le_refl _)
            have hvA2 := hvA.later hb12 (Nat.le_refl _)
            have hB2 := bnext hB1 hb12
            have ht2' := ht2.mono (show w.heap.size + 1 ≤ _ by have := hp1.below.2; have := hba.size; omega)
            obtain ⟨ra, rc, hrv⟩ := ht2'.form
            subst hrv
            obtain ⟨g2, hg2⟩ := ht2'.somes (by omega)
            subst hg2
            have hlr : (restU M).length = M.length - 1 := hrl
            have HLe2 := hide (l3Least_any (some ⟨g2, 0, none⟩) rc (restU M).length (w.heap.size + 1) (restU M) x2 rfl ht2' (by omega) (by omega))
            have hrI : ((restU M).length : Int) ≤ 300 := by omega
            have HQ2 := hide (And.intro ht2' (And.intro hs2 (And.intro hp2 (And.intro hB2 (And.intro hvA2 hA2)))))
            clear ht1 hs1 hp1 hB1 hvA HQ1 HLs hba hb12 hA2 hs2 hp2 hvA2 hB2 ht2' ht2 hb2 c0 c1 c2 hqI hwa hrl hwb hq2 htot htwo hgo hM300 hq1 hw0 il hlr
            go_wp2_with fail
            refine (unhide HLe2).mono ?_
            rintro e x3 ⟨rfl, hb3⟩
            obtain ⟨ht2, hs2, hp2, hB2, hvA2, hA2⟩ := unhide HQ2
            obtain ⟨hgo, hM300, hq1, hw0, il⟩ := unhide HGO
            obtain ⟨hwa, hrl, hwb, hq2, htot, htwo⟩ := unhide HFA
            have ht3 := ht2.later hb3 (Nat.le_refl _)
            have hs3 := hs2.later hb3 (Nat.le_refl _)
            have hp3 := hp2.later hb3 (Nat.le_refl _)
            have hvA3 := hvA2.later hb3 (Nat.le_refl _)
            have hA3 := hA2.later hb3
            have hB3 := bnext hB2 hb3
            have hfm2 : firstG (restU M) = (restU M).getD (least (restU M)) g0 := rfl
            obtain ⟨c0, c1, c2, _, hgx⟩ := ht3.at rfl (least (restU M)) hq2
            rw [← hfm2] at c0 c1 c2
            have hvB := hs3 _ (rest_sub M _ (first_mem (restU M) (by omega)))
            obtain ⟨bb, bc, hbv⟩ := hvB.form
            obtain ⟨gb, hgb⟩ := (hbv ▸ hvB).somes hwb.2.2.2.2
            rw [hgb] at hbv
            rw [hbv] at c2 hvB
            have hqI : ((least (restU M) : Nat) : Int) < ((restU M).length : Int) := by omega
            have HLs := hide (l3Less_any (some ⟨g2, 0, none⟩) rc (restU M).length (w.heap.size + 1) (w.heap.size + 1) (least (restU M)) (restU M) (x3.alloc (.cells #[.int .i64 (firstG (restU M)).cnt, .int .i64 (firstG (restU M)).fst, .slice (some ⟨gb, 0, none⟩) (firstG (restU M)).syms.length bc] 252)) rfl (ht3.later ((Below.refl x3.heap.size x3).alloc (Nat.le_refl _) _) (Nat.le_refl _)) ((hs3.sub (rest_sub M)).later ((Below.refl x3.heap.size x3).alloc (Nat.le_refl _) _) (Nat.le_refl _)) hq2 (by omega))
            have HQ3 := hide (And.intro ht3 (And.intro hs3 (And.intro hp3 (And.intro hB3 (And.intro hvA3 (And.intro hA3 hvB))))))
            clear ht2 hs2 hp2 hB2 hvA2 hA2 HQ2 HLe2 ht3 hs3 hp3 hvA3 hA3 hB3 hvB hbv hb3 hwa hrl hwb hq2 htot htwo hgo hM300 hq1 hw0 il hgb hgx hfm2
            generalize hB0 : firstG (restU M) = Bg at *
            have HB0 := hide hB0
            clear hB0
            go_wp2_with fail
            refine (unhide HLs).mono ?_
            rintro e x4 ⟨⟨v2, rfl, ht4⟩, hb4⟩
            obtain ⟨ht3, hs3, hp3, hB3, hvA3, hA3, hvB⟩ := unhide HQ3
            obtain ⟨hgo, hM300, hq1, hw0, il⟩ := unhide HGO
            obtain ⟨hwa, hrl, hwb, hq2, htot, htwo⟩ := unhide HFA
            have hrm2 : (restU M).eraseIdx (least (restU M)) = restU (restU M) := rfl
            rw [hrm2] at ht4
            have hba : Below x3.heap.size x3 (x3.alloc (.cells #[.int .i64 Bg.cnt, .int .i64 Bg.fst, .slice (some ⟨gb, 0, none⟩) Bg.syms.length bc] 252)) := (Below.refl _ _).alloc (Nat.le_refl _) _
            have hb34 := bnext hba hb4
            have hBb4 := (three_of x3 (.int .i64 Bg.cnt) (.int .i64 Bg.fst) (.slice (some ⟨gb, 0, none⟩) Bg.syms.length bc) 252).later hb4
            have hA4 := hA3.later hb34
            have hs4 := hs3.later hb34 (Nat.le_refl _)
            have hp4 := hp3.later hb34 (Nat.le_refl _)
            have hvA4 := hvA3.later hb34 (Nat.le_refl _)
            have hvB4 := hvB.later hb34 (Nat.le_refl _)
            have hB4 := bnext hB3 hb34
            have hw4 : w.heap.size + 1 ≤ x4.heap.size := hp4.below.2
            have hq3w : w.heap.size + 1 ≤ x3.heap.size := hp3.below.2
            have ht4' := ht4.mono (show w.heap.size + 1 ≤ _ by have := hp3.below.2; have := hba.size; omega)
            have hrl2 := rest_len (restU M) (by omega)
            obtain ⟨ra, rc', hrv⟩ := ht4'.form
            subst hrv
            have hcA : Hid ((A.syms.map (Value.int .i64)).length = A.syms.length * 1) := by show _ = _; simp
            have hcB : Hid ((Bg.syms.map (Value.int .i64)).length = Bg.syms.length * 1) := by show _ = _; simp
            have hlA : A.syms.length + Bg.syms.length ≤ 300 := by
              have h1 := htwo.2
              have h2 : (symsG M).length = A.syms.length + Bg.syms.length := by
                unfold symsG
                rw [List.length_append, unhide HA0, unhide HB0]
              have h3 := (hufI_inv l j (by rw [unhide HUE]; exact unhide HJ)).2.2.1
              have h4 : totS (M.map bare) = totS M := by simp [totS, Function.comp_def, bare]
              rw [← unhide HM2, h4] at h3
              have h5 := (seed_tot l 100000 (by omega) (fun i hi => (unhide HC i hi).2) l.length (Nat.le_refl _)).2.1
              have := unhide HN
              have := unhide HM
              omega
            have HSA : Hid (∀ W, Below x4.heap.size x4 W → ∀ j u, (A.syms.map (Value.int .i64))[j]? = some u → W.cell? ((⟨ga, 0, none⟩ : Addr).add j) = some u) := fun W hW => World.ownsRow.cells (hvA4.later hW (Nat.le_refl _)) rfl
            have HSB : Hid (∀ W, Below x4.heap.size x4 W → ∀ j u, (Bg.syms.map (Value.int .i64))[j]? = some u → W.cell? ((⟨gb, 0, none⟩ : Addr).add j) = some u) := fun W hW => World.ownsRow.cells (hvB4.later hW (Nat.le_refl _)) rfl
            have HCC : ∀ W, Below x4.heap.size x4 W → W.cell? ⟨x1.heap.size, 2, none⟩ = some (.slice (some ⟨ga, 0, none⟩) A.syms.length ac) ∧ W.cell? ⟨x3.heap.size, 2, none⟩ = some (.slice (some ⟨gb, 0, none⟩) Bg.syms.length bc) := fun W hW => ⟨(hA4.later hW).2.2.1, (hBb4.later hW).2.2.1⟩
            have hR0 : World.ownsRow (x4.alloc (.cells #[] 3)).drew x4.heap.size 3 1 (.slice (some ⟨x4.heap.size, 0, none⟩) 0 0) 0 [] := World.ownsRow_lit x4 #[] 0 (Nat.le_refl _) (by unfold maxLen; omega) rfl
            have hBd : Below x4.heap.size x4 (x4.alloc (.cells #[] 3)).drew := ((Below.refl _ _).alloc (Nat.le_refl _) _).drew
            have hb1 : Hid (0 + A.syms.length ≤ maxLen ∧ (0 + A.syms.length) * 8 ≤ 140737488355328) := by show _ ∧ _; unfold maxLen; omega
            have hb2 : Hid (0 + A.syms.length + Bg.syms.length ≤ maxLen ∧ (0 + A.syms.length + Bg.syms.length) * 8 ≤ 140737488355328) := by show _ ∧ _; unfold maxLen; omega
            obtain ⟨a0, a1, a2, _, _, _, abl⟩ := hA4
            obtain ⟨b0, b1, b2, _, _, _, bbl⟩ := hBb4
            have HNE1 : x1.heap.size ≠ w.heap.size := by have := hq1w; omega
            have HNE3 : x3.heap.size ≠ w.heap.size := by have := hq3w; omega
            have hB4d : Below x4.heap.size x4 x4.drew := (Below.refl _ _).drew
            have hmin : Hid ((joinG A Bg).fst = if Bg.fst < A.fst then Bg.fst else A.fst) := rfl
            have HLA := hide hlA
            have HTT := hide (And.intro htot (And.intro htwo.1 (And.intro hwa hwb)))
            have HRL := hide (And.intro hrl2 (And.intro hrl (And.intro hgo (And.intro hM300 il))))
            have HQ4 := hide (And.intro ht4' (And.intro hs4 (And.intro hp4 hB4)))
            clear ht3 hs3 hp3 hB3 hvA3 hA3 hvB HQ3 HLs hba hb34 hs4 hp4 hvA4 hvB4 hB4 ht4' ht4 hb4 c0 c1 c2 hqI hwa hrl hwb hq2 htot htwo hgo hM300 hq1 hw0 il hrl2 hlA hrm2
            have hfst : ∃ F : Int, (joinG A Bg).fst = F := ⟨_, rfl⟩
            obtain ⟨F, hF⟩ := hfst
            have HF := hide hF
            clear hF
            by_cases hlt2 : Bg.fst < A.fst
            · have hFe : Hid (Bg.fst = F) := by have := unhide hmin; rw [unhide HF, if_pos hlt2] at this; exact this.symm
              go_wp2_with fail
              go_region_held3 (fun W => W.cell? ⟨x1.heap.size, 2, none⟩ = some (.slice (some ⟨ga, 0, none⟩) A.syms.length ac) ∧ W.cell? ⟨x3.heap.size, 2, none⟩ = some (.slice (some ⟨gb, 0, none⟩) Bg.syms.length bc)) (first | exact HCC _ hB4d | assumption | exact HCC _ hBd) (first
                | (refine step_append_own rfl (.tmp 76) (.tmp 78) 107 rfl x4.heap.size 3 i0 (.int .i64 0) 1 8 Tryz.underlying107 hi hz0 hz1 hz2 rfl (Nat.zero_lt_succ 0) (.slice (some ⟨x4.heap.size, 0, none⟩) 0 0) _ _ rfl hR0 ⟨ga, 0, none⟩ A.syms.length ac (A.syms.map (Value.int .i64)) rfl (unhide hcA) (unhide HSA _ hBd) (ints_oneCell .i64 _) (unhide hb1).1 (unhide hb1).2 hBd.size ?_; intro v5 x5 hown5 hgrow5 hnil5; clear hnil5; have hB5 : Below x4.heap.size x4 x5 := hBd.grown hgrow5 hBd.size (fun j hj => (World.ownsRow.lt hR0 j hj).1); have hC5 := HCC _ hB5)
                | (refine step_append_own rfl (.tmp 79) (.tmp 81) 107 rfl x4.heap.size 3 i0 (.int .i64 0) 1 8 Tryz.underlying107 hi hz0 hz1 hz2 rfl (Nat.zero_lt_succ 0) v5 _ _ rfl hown5 ⟨gb, 0, none⟩ Bg.syms.length bc (Bg.syms.map (Value.int .i64)) rfl (unhide hcB) (unhide HSB _ hB5) (ints_oneCell .i64 _) (unhide hb2).1 (unhide hb2).2 hB5.size ?_; intro v6 x6 hown6 hgrow6 hnil6; clear hnil6; have hB6 : Below x4.heap.size x4 x6 := hB5.grown hgrow6 hB5.size (fun j hj => (World.ownsRow.lt hown5 j hj).1); have hC6 := HCC _ hB6))
              obtain ⟨ht4, hs4, hp4, hB4⟩ := unhide HQ4
              have hw4 : w.heap.size + 1 ≤ x4.heap.size := hp4.below.2
              have hsy : IOwn x6 x4.heap.size v6 (A.syms ++ Bg.syms) := by
                show World.ownsRow _ _ _ _ _ (A.syms ++ Bg.syms).length ((A.syms ++ Bg.syms).map (Value.int .i64))
                rw [List.length_append, List.map_append]
                simpa using hown6
              have hSl : Hid ((A.syms ++ Bg.syms).length ≤ 300 ∧ 0 < (A.syms ++ Bg.syms).length) := by
                show _ ∧ _
                rw [List.length_append]
                have := unhide HLA
                have := (unhide HTT).2.2.1.2.2.2.2
                omega
              have hSw : Hid (∀ x ∈ A.syms ++ Bg.syms, 0 ≤ x ∧ x < (k : Int)) := by
                intro x hx
                simp only [List.mem_append] at hx
                rcases hx with hx | hx
                · exact (unhide HTT).2.2.1.2.2.2.1 x hx
                · exact (unhide HTT).2.2.2.2.2.2.1 x hx
              have hSe : Hid (symsG M = A.syms ++ Bg.syms) := by
                show symsG M = _
                unfold symsG
                rw [unhide HA0, unhide HB0]
              have hJs : Hid ((joinG A Bg).syms = A.syms ++ Bg.syms) := rfl
              generalize A.syms ++ Bg.syms = S at *
              obtain ⟨sv, sc, hvv⟩ := hsy.form
              obtain ⟨gs, hgs⟩ := (hvv ▸ hsy).somes (unhide hSl).2
              rw [hgs] at hvv
              rw [hvv]
              rw [hvv] at hsy
              have ht6 := ht4.later hB6 (Nat.le_refl _)
              have hs6 := hs4.later hB6 (Nat.le_refl _)
              have hp6 := hp4.later hB6 (Nat.le_refl _)
              have hBB6 := bnext hB4 hB6
              have hgsb := hsy.below
              have a0' := (hB6.cell (p := ⟨x1.heap.size, 0, none⟩) abl).trans a0
              have b0' := (hB6.cell (p := ⟨x3.heap.size, 0, none⟩) bbl).trans b0
              have hmx := hide (hufI_max l (fun i hi => (unhide HC i hi).2) (by rw [unhide HN]; exact unhide HM) j (by rw [unhide HUE]; exact unhide HJ))
              have hjb : Hid ((j : Int) ≤ 300) := by show (j : Int) ≤ 300; have := unhide HJ; have := unhide hU; have := unhide HUB; omega
              have hx13 : x1.heap.size ≠ w.heap.size ∧ x3.heap.size ≠ w.heap.size := ⟨HNE1, HNE3⟩
              have HSY := hide hsy
              have HT6 := hide ht6
              have HS6 := hide hs6
              have HX13 := hide hx13
              have HAB := hide (And.intro a0' b0')
              have HGS := hide hgsb
              have sI : (S.length : Int) ≤ 300 := by have := (unhide hSl).1; omega
              clear hown5 hown6 hgrow5 hgrow6 hC5 hC6 hB5 ht4 hs4 hp4 hB4 ht6 hs6 hsy HCC HSA HSB hR0 hBd hB4d hvv hgs a0 a1 a2 b0 b1 b2 hx13 a0' b0' hgsb hcA hcB
              go_wp2_with fail
              go_loopw [11] (fun i wq => ∃ t : Nat, t ≤ S.length ∧ i = .int .i64 t ∧ IOwn wq w.heap.size (.slice (some ⟨w.heap.size, 0, none⟩) k k) (bump (hufI l j).2 (S.take t)) ∧ Touch (some ⟨w.heap.size, 0, none⟩) x6 wq ∧ Below w.heap.size w wq) (fun i _ => S.length - (intOf i).toNat)
              case atStart => exact ⟨0, Nat.zero_le _, rfl, hp6, Touch.refl _ _, hBB6⟩
              case round =>
                obtain ⟨t, ht, rfl, hpt, htch, hbt⟩ := hrel
                clear hp6 hBB6
                have hln : Hid ((bump (hufI l j).2 (S.take t)).length = k) := by show (bump (hufI l j).2 (S.take t)).length = k; rw [bump_len, hufI_len, unhide HN]
                have htk : Hid (t ≤ S.length) := ht
                clear ht
                by_cases hlt3 : t < S.length
                · have hsyt := (unhide HSY).touch htch (by intro g e; simp only [Option.some.injEq, Addr.mk.injEq, and_true] at e; have := hw4; omega)
                  obtain ⟨c0, _, _, _⟩ := hsyt.at rfl hlt3
                  have hx := unhide hSw (S.getD t 0) (by simp [List.getD, hlt3])
                  have hbt1 := hide (bump_take (hufI l j).2 S t hlt3)
                  have hmx2 := hide (bump_max (unhide hmx) (S.take t))
                  obtain ⟨q, hq⟩ := Int.eq_ofNat_of_zero_le hx.1
                  rw [hq] at c0 hbt1
                  have hqk : q < k := by omega
                  obtain ⟨d0, f0, _, _⟩ := hpt.at (unhide hln) hqk
                  have hyb := unhide hmx2 q (by rw [unhide hln]; exact hqk)
                  have hput := hpt.put (j := q) (unhide hln) ((bump (hufI l j).2 (S.take t)).getD q 0 + 1)
                  have hst : Hid (bump (hufI l j).2 (S.take (t + 1)) = (bump (hufI l j).2 (S.take t)).set q ((bump (hufI l j).2 (S.take t)).getD q 0 + 1)) := by
                    show bump (hufI l j).2 (S.take (t + 1)) = _
                    rw [unhide hbt1]
                    unfold bump1
                    rw [Int.toNat_natCast]
                  have hyI : (bump (hufI l j).2 (S.take t)).getD q 0 ≤ 100000 := by
                    have h1 := hyb.2
                    have h2 : (S.take t).length ≤ 300 := by rw [List.length_take]; have := (unhide hSl).1; omega
                    have := unhide hjb
                    omega
                  have hy0 := hyb.1
                  have hbt2 := below_set hbt (b := w.heap.size) (o := q) (Nat.le_refl _) (.int .i64 ((bump (hufI l j).2 (S.take t)).getD q 0 + 1))
                  have htch2 := htch.set (o := q) rfl (.int .i64 ((bump (hufI l j).2 (S.take t)).getD q 0 + 1))
                  generalize (bump (hufI l j).2 (S.take t)).getD q 0 = y at *
                  have HPUT := hide (And.intro hput (And.intro hbt2 htch2))
                  have hqI : (q : Int) < (k : Int) := by omega
                  have htI : (t : Int) < (S.length : Int) := by omega
                  clear hput hbt2 htch2 hpt hsyt hbt htch hyb hx hq hqk
                  go_wp2_with fail
                  go_region
                  obtain ⟨hput, hbt2, htch2⟩ := unhide HPUT
                  rw [← unhide hst] at hput
                  go_wp2
                  go_roundw
                  case rel => exact ⟨t + 1, by have := unhide htk; omega, by go_num, hput, htch2, hbt2.drew⟩
                  case measure => simp [intOf]; omega
                · have htS : S.take t = S := List.take_of_length_le (by omega)
                  rw [htS] at hpt
                  have htq : Trow 252 wr (w.heap.size + 1) (.slice ra (restU (restU M)).length rc') (restU (restU M)) := ownsRow_touch (unhide HT6) htch (touch_lt _ _ (Nat.lt_succ_self _))
                  have hsq : Syms wr (w.heap.size + 1) (restU (restU M)) := fun g hg => (unhide HS6 g (rest_sub M _ (rest_sub _ _ hg))).touch htch (touch_lt _ _ (Nat.lt_succ_self _))
                  have hvq : IOwn wr (w.heap.size + 1) (.slice (some ⟨gs, 0, none⟩) S.length sc) S := ((unhide HSY).touch htch (touch_lt _ _ (by omega))).mono hw4
                  have a0q := (touch_cell (p := ⟨x1.heap.size, 0, none⟩) htch (unhide HX13).1).trans (unhide HAB).1
                  have b0q := (touch_cell (p := ⟨x3.heap.size, 0, none⟩) htch (unhide HX13).2).trans (unhide HAB).2
                  have hnext : Hid ((hufI l (j + 1)).2 = bump (hufI l j).2 S) := by
                    show (hufI l (j + 1)).2 = _
                    simp only [hufI]
                    rw [← unhide HM2, syms_bare, unhide hSe]
                  have hnext1 : Hid ((hufI l (j + 1)).1 = (restU (restU M)).map bare ++ [joinG A Bg]) := by
                    show (hufI l (j + 1)).1 = _
                    simp only [hufI]
                    rw [← unhide HM2, step_bare, unhide HA0, unhide HB0]
                  rw [← unhide hnext] at hpt
                  obtain ⟨hrl2, hrl, hgo, hM300, il⟩ := unhide HRL
                  have hj1 : Hid (j + 1 < U) := by show j + 1 < U; omega
                  have hlr2 : Hid ((restU (restU M)).length + 1 < M.length + 0) := by show _ < _; omega
                  have hlen1 : Hid ((restU (restU M)).length + 1 ≤ maxLen ∧ ((restU (restU M)).length + 1) * 40 ≤ 140737488355328) := by show _ ∧ _; unfold maxLen; omega
                  have hcs := unhide HTT
                  have hcI : A.cnt + Bg.cnt ≤ 30000000 := by have := hcs.1; have := hcs.2.1; omega
                  have hcA0 := hcs.2.2.1.1
                  have hcB0 := hcs.2.2.2.1
                  have hbq : w.heap.size + 1 ≤ wr.heap.size := hpt.below.2
                  have HPQ := hide (And.intro htq (And.intro hsq (And.intro hvq (And.intro hpt hbt))))
                  have hgrp : Hid ((joinG A Bg).cnt = A.cnt + Bg.cnt) := rfl
                  clear hrl2 hrl hgo hM300 il htq hsq hvq hpt hbt htch htS hcs HTT HRL HT6 HS6 HSY HAB
                  rw [unhide hFe]
                  go_wp2_with (at_builtin; refine wpList_append_own _ rfl _ _ 250 rfl (w.heap.size + 1) 252 j0 (.agg #[.int .i64 0, .int .i64 0, .slice none 0 0]) 3 40 Tryz.underlying250 hj hy0 hy1 hy2 rfl (by decide) _ _ _ rfl (World.ownsRow.alloc (unhide HPQ).1 _) ⟨wr.heap.size, 0, none⟩ 1 1 [.int .i64 (A.cnt + Bg.cnt), .int .i64 F, .slice (some ⟨gs, 0, none⟩) S.length sc] rfl rfl (three_new _ _ _ _ _ _ rfl) (three_one _ _ _ _ _) (unhide hlen1).1 (unhide hlen1).2 (size_alloc_le hbq _) ?_; intro v7 x7 hown7 hgrow7 hnil7; clear hnil7)
                  obtain ⟨htq, hsq, hvq, hpt, hbt⟩ := unhide HPQ
                  have hal : Below wr.heap.size wr (wr.alloc (.cells #[.int .i64 (A.cnt + Bg.cnt), .int .i64 F, .slice (some ⟨gs, 0, none⟩) S.length sc] 252)) := (Below.refl _ _).alloc (Nat.le_refl _) _
                  have htq2 := htq.later hal (Nat.le_refl _)
                  have hs7 := (hsq.later hal (Nat.le_refl _)).grown htq2 (by decide) hgrow7
                  have hv7 := ints_grown (hvq.later hal (Nat.le_refl _)) htq2 (by decide) hgrow7
                  have hp7 := ints_grown (hpt.later hal (Nat.le_refl _)) htq2 (by decide) hgrow7
                  have hb7 : Below w.heap.size w x7 := grown_step (v := .slice ra (restU (restU M)).length rc') hgrow7 htq (by omega) (by omega) hbt
                  have ht7 := trow_snoc ⟨A.cnt + Bg.cnt, F, S, .slice (some ⟨gs, 0, none⟩) S.length sc⟩ hown7
                  have hs8 := hs7.snoc (g := ⟨A.cnt + Bg.cnt, F, S, .slice (some ⟨gs, 0, none⟩) S.length sc⟩) hv7
                  have hbr : Hid ((restU (restU M) ++ [(⟨A.cnt + Bg.cnt, F, S, .slice (some ⟨gs, 0, none⟩) S.length sc⟩ : Grp)]).map bare = (hufI l (j + 1)).1) := by
                    show _ = (hufI l (j + 1)).1
                    rw [unhide hnext1, List.map_append]
                    congr 1
                    have e : joinG A Bg = ⟨A.cnt + Bg.cnt, F, S, .slice none 0 0⟩ := by
                      rw [← unhide HF, ← unhide hJs]
                      rfl
                    rw [e]
                    rfl
                  have hsl7 : Hid (sliceLen v7 < M.length) := by
                    show sliceLen v7 < M.length
                    obtain ⟨fa, fc, hv⟩ := ht7.form
                    rw [hv]
                    have := unhide hlr2
                    simp only [sliceLen, List.length_append, List.length_singleton]
                    omega
                  clear hown7 hgrow7 hal htq2 hs7 hv7 htq hsq hvq hpt hbt HPQ
                  go_wp2
                  go_roundw
                  case rel => exact ⟨j + 1, _, .inl (unhide hj1), unhide hbr, ht7, hs8, hp7, hb7⟩
                  case measure => exact unhide hsl7
            · have hFe : Hid (A.fst = F) := by have := unhide hmin; rw [unhide HF, if_neg hlt2] at this; exact this.symm
              go_wp2_with fail
              go_region_held3 (fun W => W.cell? ⟨x1.heap.size, 2, none⟩ = some (.slice (some ⟨ga, 0, none⟩) A.syms.length ac) ∧ W.cell? ⟨x3.heap.size, 2, none⟩ = some (.slice (some ⟨gb, 0, none⟩) Bg.syms.length bc)) (first | exact HCC _ hB4d | assumption | exact HCC _ hBd) (first
                | (refine step_append_own rfl (.tmp 76) (.tmp 78) 107 rfl x4.heap.size 3 i0 (.int .i64 0) 1 8 Tryz.underlying107 hi hz0 hz1 hz2 rfl (Nat.zero_lt_succ 0) (.slice (some ⟨x4.heap.size, 0, none⟩) 0 0) _ _ rfl hR0 ⟨ga, 0, none⟩ A.syms.length ac (A.syms.map (Value.int .i64)) rfl (unhide hcA) (unhide HSA _ hBd) (ints_oneCell .i64 _) (unhide hb1).1 (unhide hb1).2 hBd.size ?_; intro v5 x5 hown5 hgrow5 hnil5; clear hnil5; have hB5 : Below x4.heap.size x4 x5 := hBd.grown hgrow5 hBd.size (fun j hj => (World.ownsRow.lt hR0 j hj).1); have hC5 := HCC _ hB5)
                | (refine step_append_own rfl (.tmp 79) (.tmp 81) 107 rfl x4.heap.size 3 i0 (.int .i64 0) 1 8 Tryz.underlying107 hi hz0 hz1 hz2 rfl (Nat.zero_lt_succ 0) v5 _ _ rfl hown5 ⟨gb, 0, none⟩ Bg.syms.length bc (Bg.syms.map (Value.int .i64)) rfl (unhide hcB) (unhide HSB _ hB5) (ints_oneCell .i64 _) (unhide hb2).1 (unhide hb2).2 hB5.size ?_; intro v6 x6 hown6 hgrow6 hnil6; clear hnil6; have hB6 : Below x4.heap.size x4 x6 := hB5.grown hgrow6 hB5.size (fun j hj => (World.ownsRow.lt hown5 j hj).1); have hC6 := HCC _ hB6))
              obtain ⟨ht4, hs4, hp4, hB4⟩ := unhide HQ4
              have hw4 : w.heap.size + 1 ≤ x4.heap.size := hp4.below.2
              have hsy : IOwn x6 x4.heap.size v6 (A.syms ++ Bg.syms) := by
                show World.ownsRow _ _ _ _ _ (A.syms ++ Bg.syms).length ((A.syms ++ Bg.syms).map (Value.int .i64))
                rw [List.length_append, List.map_append]
                simpa using hown6
              have hSl : Hid ((A.syms ++ Bg.syms).length ≤ 300 ∧ 0 < (A.syms ++ Bg.syms).length) := by
                show _ ∧ _
                rw [List.length_append]
                have := unhide HLA
                have := (unhide HTT).2.2.1.2.2.2.2
                omega
              have hSw : Hid (∀ x ∈ A.syms ++ Bg.syms, 0 ≤ x ∧ x < (k : Int)) := by
                intro x hx
                simp only [List.mem_append] at hx
                rcases hx with hx | hx
                · exact (unhide HTT).2.2.1.2.2.2.1 x hx
                · exact (unhide HTT).2.2.2.2.2.2.1 x hx
              have hSe : Hid (symsG M = A.syms ++ Bg.syms) := by
                show symsG M = _
                unfold symsG
                rw [unhide HA0, unhide HB0]
              have hJs : Hid ((joinG A Bg).syms = A.syms ++ Bg.syms) := rfl
              generalize A.syms ++ Bg.syms = S at *
              obtain ⟨sv, sc, hvv⟩ := hsy.form
              obtain ⟨gs, hgs⟩ := (hvv ▸ hsy).somes (unhide hSl).2
              rw [hgs] at hvv
              rw [hvv]
              rw [hvv] at hsy
              have ht6 := ht4.later hB6 (Nat.le_refl _)
              have hs6 := hs4.later hB6 (Nat.le_refl _)
              have hp6 := hp4.later hB6 (Nat.le_refl _)
              have hBB6 := bnext hB4 hB6
              have hgsb := hsy.below
              have a0' := (hB6.cell (p := ⟨x1.heap.size, 0, none⟩) abl).trans a0
              have b0' := (hB6.cell (p := ⟨x3.heap.size, 0, none⟩) bbl).trans b0
              have hmx := hide (hufI_max l (fun i hi => (unhide HC i hi).2) (by rw [unhide HN]; exact unhide HM) j (by rw [unhide HUE]; exact unhide HJ))
              have hjb : Hid ((j : Int) ≤ 300) := by show (j : Int) ≤ 300; have := unhide HJ; have := unhide hU; have := unhide HUB; omega
              have hx13 : x1.heap.size ≠ w.heap.size ∧ x3.heap.size ≠ w.heap.size := ⟨HNE1, HNE3⟩
              have HSY := hide hsy
              have HT6 := hide ht6
              have HS6 := hide hs6
              have HX13 := hide hx13
              have HAB := hide (And.intro a0' b0')
              have HGS := hide hgsb
              have sI : (S.length : Int) ≤ 300 := by have := (unhide hSl).1; omega
              clear hown5 hown6 hgrow5 hgrow6 hC5 hC6 hB5 ht4 hs4 hp4 hB4 ht6 hs6 hsy HCC HSA HSB hR0 hBd hB4d hvv hgs a0 a1 a2 b0 b1 b2 hx13 a0' b0' hgsb hcA hcB
              go_wp2_with fail
              go_loopw [11] (fun i wq => ∃ t : Nat, t ≤ S.length ∧ i = .int .i64 t ∧ IOwn wq w.heap.size (.slice (some ⟨w.heap.size, 0, none⟩) k k) (bump (hufI l j).2 (S.take t)) ∧ Touch (some ⟨w.heap.size, 0, none⟩) x6 wq ∧ Below w.heap.size w wq) (fun i _ => S.length - (intOf i).toNat)
              case atStart => exact ⟨0, Nat.zero_le _, rfl, hp6, Touch.refl _ _, hBB6⟩
              case round =>
                obtain ⟨t, ht, rfl, hpt, htch, hbt⟩ := hrel
                clear hp6 hBB6
                have hln : Hid ((bump (hufI l j).2 (S.take t)).length = k) := by show (bump (hufI l j).2 (S.take t)).length = k; rw [bump_len, hufI_len, unhide HN]
                have htk : Hid (t ≤ S.length) := ht
                clear ht
                by_cases hlt3 : t < S.length
                · have hsyt := (unhide HSY).touch htch (by intro g e; simp only [Option.some.injEq, Addr.mk.injEq, and_true] at e; have := hw4; omega)
                  obtain ⟨c0, _, _, _⟩ := hsyt.at rfl hlt3
                  have hx := unhide hSw (S.getD t 0) (by simp [List.getD, hlt3])
                  have hbt1 := hide (bump_take (hufI l j).2 S t hlt3)
                  have hmx2 := hide (bump_max (unhide hmx) (S.take t))
                  obtain ⟨q, hq⟩ := Int.eq_ofNat_of_zero_le hx.1
                  rw [hq] at c0 hbt1
                  have hqk : q < k := by omega
                  obtain ⟨d0, f0, _, _⟩ := hpt.at (unhide hln) hqk
                  have hyb := unhide hmx2 q (by rw [unhide hln]; exact hqk)
                  have hput := hpt.put (j := q) (unhide hln) ((bump (hufI l j).2 (S.take t)).getD q 0 + 1)
                  have hst : Hid (bump (hufI l j).2 (S.take (t + 1)) = (bump (hufI l j).2 (S.take t)).set q ((bump (hufI l j).2 (S.take t)).getD q 0 + 1)) := by
                    show bump (hufI l j).2 (S.take (t + 1)) = _
                    rw [unhide hbt1]
                    unfold bump1
                    rw [Int.toNat_natCast]
                  have hyI : (bump (hufI l j).2 (S.take t)).getD q 0 ≤ 100000 := by
                    have h1 := hyb.2
                    have h2 : (S.take t).length ≤ 300 := by rw [List.length_take]; have := (unhide hSl).1; omega
                    have := unhide hjb
                    omega
                  have hy0 := hyb.1
                  have hbt2 := below_set hbt (b := w.heap.size) (o := q) (Nat.le_refl _) (.int .i64 ((bump (hufI l j).2 (S.take t)).getD q 0 + 1))
                  have htch2 := htch.set (o := q) rfl (.int .i64 ((bump (hufI l j).2 (S.take t)).getD q 0 + 1))
                  generalize (bump (hufI l j).2 (S.take t)).getD q 0 = y at *
                  have HPUT := hide (And.intro hput (And.intro hbt2 htch2))
                  have hqI : (q : Int) < (k : Int) := by omega
                  have htI : (t : Int) < (S.length : Int) := by omega
                  clear hput hbt2 htch2 hpt hsyt hbt htch hyb hx hq hqk
                  go_wp2_with fail
                  go_region
                  obtain ⟨hput, hbt2, htch2⟩ := unhide HPUT
                  rw [← unhide hst] at hput
                  go_wp2
                  go_roundw
                  case rel => exact ⟨t + 1, by have := unhide htk; omega, by go_num, hput, htch2, hbt2.drew⟩
                  case measure => simp [intOf]; omega
                · have htS : S.take t = S := List.take_of_length_le (by omega)
                  rw [htS] at hpt
                  have htq : Trow 252 wr (w.heap.size + 1) (.slice ra (restU (restU M)).length rc') (restU (restU M)) := ownsRow_touch (unhide HT6) htch (touch_lt _ _ (Nat.lt_succ_self _))
                  have hsq : Syms wr (w.heap.size + 1) (restU (restU M)) := fun g hg => (unhide HS6 g (rest_sub M _ (rest_sub _ _ hg))).touch htch (touch_lt _ _ (Nat.lt_succ_self _))
                  have hvq : IOwn wr (w.heap.size + 1) (.slice (some ⟨gs, 0, none⟩) S.length sc) S := ((unhide HSY).touch htch (touch_lt _ _ (by omega))).mono hw4
                  have a0q := (touch_cell (p := ⟨x1.heap.size, 0, none⟩) htch (unhide HX13).1).trans (unhide HAB).1
                  have b0q := (touch_cell (p := ⟨x3.heap.size, 0, none⟩) htch (unhide HX13).2).trans (unhide HAB).2
                  have hnext : Hid ((hufI l (j + 1)).2 = bump (hufI l j).2 S) := by
                    show (hufI l (j + 1)).2 = _
                    simp only [hufI]
                    rw [← unhide HM2, syms_bare, unhide hSe]
                  have hnext1 : Hid ((hufI l (j + 1)).1 = (restU (restU M)).map bare ++ [joinG A Bg]) := by
                    show (hufI l (j + 1)).1 = _
                    simp only [hufI]
                    rw [← unhide HM2, step_bare, unhide HA0, unhide HB0]
                  rw [← unhide hnext] at hpt
                  obtain ⟨hrl2, hrl, hgo, hM300, il⟩ := unhide HRL
                  have hj1 : Hid (j + 1 < U) := by show j + 1 < U; omega
                  have hlr2 : Hid ((restU (restU M)).length + 1 < M.length + 0) := by show _ < _; omega
                  have hlen1 : Hid ((restU (restU M)).length + 1 ≤ maxLen ∧ ((restU (restU M)).length + 1) * 40 ≤ 140737488355328) := by show _ ∧ _; unfold maxLen; omega
                  have hcs := unhide HTT
                  have hcI : A.cnt + Bg.cnt ≤ 30000000 := by have := hcs.1; have := hcs.2.1; omega
                  have hcA0 := hcs.2.2.1.1
                  have hcB0 := hcs.2.2.2.1
                  have hbq : w.heap.size + 1 ≤ wr.heap.size := hpt.below.2
                  have HPQ := hide (And.intro htq (And.intro hsq (And.intro hvq (And.intro hpt hbt))))
                  have hgrp : Hid ((joinG A Bg).cnt = A.cnt + Bg.cnt) := rfl
                  clear hrl2 hrl hgo hM300 il htq hsq hvq hpt hbt htch htS hcs HTT HRL HT6 HS6 HSY HAB
                  rw [unhide hFe]
                  go_wp2_with (at_builtin; refine wpList_append_own _ rfl _ _ 250 rfl (w.heap.size + 1) 252 j0 (.agg #[.int .i64 0, .int .i64 0, .slice none 0 0]) 3 40 Tryz.underlying250 hj hy0 hy1 hy2 rfl (by decide) _ _ _ rfl (World.ownsRow.alloc (unhide HPQ).1 _) ⟨wr.heap.size, 0, none⟩ 1 1 [.int .i64 (A.cnt + Bg.cnt), .int .i64 F, .slice (some ⟨gs, 0, none⟩) S.length sc] rfl rfl (three_new _ _ _ _ _ _ rfl) (three_one _ _ _ _ _) (unhide hlen1).1 (unhide hlen1).2 (size_alloc_le hbq _) ?_; intro v7 x7 hown7 hgrow7 hnil7; clear hnil7)
                  obtain ⟨htq, hsq, hvq, hpt, hbt⟩ := unhide HPQ
                  have hal : Below wr.heap.size wr (wr.alloc (.cells #[.int .i64 (A.cnt + Bg.cnt), .int .i64 F, .slice (some ⟨gs, 0, none⟩) S.length sc] 252)) := (Below.refl _ _).alloc (Nat.le_refl _) _
                  have htq2 := htq.later hal (Nat.le_refl _)
                  have hs7 := (hsq.later hal (Nat.le_refl _)).grown htq2 (by decide) hgrow7
                  have hv7 := ints_grown (hvq.later hal (Nat.le_refl _)) htq2 (by decide) hgrow7
                  have hp7 := ints_grown (hpt.later hal (Nat.le_refl _)) htq2 (by decide) hgrow7
                  have hb7 : Below w.heap.size w x7 := grown_step (v := .slice ra (restU (restU M)).length rc') hgrow7 htq (by omega) (by omega) hbt
                  have ht7 := trow_snoc ⟨A.cnt + Bg.cnt, F, S, .slice (some ⟨gs, 0, none⟩) S.length sc⟩ hown7
                  have hs8 := hs7.snoc (g := ⟨A.cnt + Bg.cnt, F, S, .slice (some ⟨gs, 0, none⟩) S.length sc⟩) hv7
                  have hbr : Hid ((restU (restU M) ++ [(⟨A.cnt + Bg.cnt, F, S, .slice (some ⟨gs, 0, none⟩) S.length sc⟩ : Grp)]).map bare = (hufI l (j + 1)).1) := by
                    show _ = (hufI l (j + 1)).1
                    rw [unhide hnext1, List.map_append]
                    congr 1
                    have e : joinG A Bg = ⟨A.cnt + Bg.cnt, F, S, .slice none 0 0⟩ := by
                      rw [← unhide HF, ← unhide hJs]
                      rfl
                    rw [e]
                    rfl
                  have hsl7 : Hid (sliceLen v7 < M.length) := by
                    show sliceLen v7 < M.length
                    obtain ⟨fa, fc, hv⟩ := ht7.form
                    rw [hv]
                    have := unhide hlr2
                    simp only [sliceLen, List.length_append, List.length_singleton]
                    omega
                  clear hown7 hgrow7 hal htq2 hs7 hv7 htq hsq hvq hpt hbt HPQ
                  go_wp2
                  go_roundw
                  case rel => exact ⟨j + 1, _, .inl (unhide hj1), unhide hbr, ht7, hs8, hp7, hb7⟩
                  case measure => exact unhide hsl7
          · have hexit := hide (unhide hfin j (by omega) (unhide HJ))
            have hgoI : ¬ (1 : Int) < (M.length : Int) := by omega
            have HP := hide hpm
            clear htm hsm hpm ic is
            go_wp2
            go_ret
            exact ⟨rfl, by rw [unhide hexit]; exact unhide HP, hbm⟩
end Go.Proofs.YtgpghapnmalipaaGreatDoor
namespace Go.Proofs.YtgpghapnmalipaaGreatDoor
open Go.RowKit
set_option maxRecDepth 100000 in
set_option maxHeartbeats 400000 in
theorem l3Most_any (a : Option Addr) (cap n : Nat) (o : List Int) (w : World) (hn : o.length = n) (h : IRow w a o) (hm : n ≤ 300) :
    Calls Tryz.prog 155 #[.slice a n cap] w fun e w' => e = .returned (.int .i64 (mostL o n)) ∧ w' = w := by
  subst hn
  have hmI : (o.length : Int) ≤ 300 := by omega
  clear hm
  go_enter Tryz.func155, Tryz.ntmps155
  go_wp2_with fail
  go_loop [3, 4] (fun m i => ∃ k : Nat, k ≤ o.length ∧ i = .int .i64 k ∧ m = .int .i64 (mostL o k)) (fun _ i => o.length - (intOf i).toNat)
  case atStart => exact ⟨0, Nat.zero_le _, rfl, rfl⟩
  case round =>
    obtain ⟨k, hk, rfl, rfl⟩ := hrel
    have HK := hide hk
    by_cases hlt : k < o.length
    · obtain ⟨g, f, rfl, hg, hc⟩ := h (by omega)
      have c0 := hc k hlt
      have hst : Hid (mostL o (k + 1) = if mostL o k < o.getD k 0 then o.getD k 0 else mostL o k) := rfl
      clear hc hk h
      generalize o.getD k 0 = y at *
      generalize mostL o k = m at *
      by_cases hy : m < y
      · have hst' : Hid (mostL o (k + 1) = y) := by have := unhide hst; rw [if_pos hy] at this; exact this
        go_wp2
        go_round
        case rel => exact ⟨k + 1, by omega, by go_num, by rw [unhide hst']⟩
        case measure => simp [intOf]; omega
      · have hst' : Hid (mostL o (k + 1) = m) := by have := unhide hst; rw [if_neg hy] at this; exact this
        go_wp2
        go_round
        case rel => exact ⟨k + 1, by omega, by go_num, by rw [unhide hst']⟩
        case measure => simp [intOf]; omega
    · obtain rfl : k = o.length := by omega
      clear h
      go_wp2
      go_ret
      exact ⟨rfl, rfl⟩
def sumW (w : World) (b n : Nat) : Nat := ((List.range n).map (fun i => (intOf ((w.cell? ⟨b, i, none⟩).getD (.int .i64 0))).toNat)).sum
theorem sumW_eq {w : World} {base b n c : Nat} {l : List Int} (hn : l.length = n) (h : IOwn w base (.slice (some ⟨b, 0, none⟩) n c) l) : sumW w b n = sumP l := by
  unfold sumW sumP
  congr 1
  apply List.ext_getElem
  · simp [hn]
  · intro i h1 h2
    have hi : i < n := by simpa using h1
    have := (h.at hn hi).1
    simp only [List.getElem_map, List.getElem_range]
    rw [this]
    have e : l.getD i 0 = l[i] := by simp [List.getD, show i < l.length by omega]
    rw [e]
    rfl
theorem half_step (l : List Int) (j : Nat) (h : j < l.length) : (halfL (l.take j) ++ l.drop j).set j (halfI (l.getD j 0)) = halfL (l.take (j + 1)) ++ l.drop (j + 1) := by
  have hl : (halfL (l.take j)).length = j := by simp [halfL]; omega
  rw [List.set_append_right _ _ (by omega), hl, Nat.sub_self, take_snocI l j h]
  have h1 : l.drop j = l[j] :: l.drop (j + 1) := List.drop_eq_getElem_cons h
  rw [h1, List.set_cons_zero]
  simp [halfL]
theorem half_mid (l : List Int) (j : Nat) (h : j < l.length) : (halfL (l.take j) ++ l.drop j).getD j 0 = l.getD j 0 := by
  have hl : (halfL (l.take j)).length = j := by simp [halfL]; omega
  simp only [List.getD]
  rw [List.getElem?_append_right (by omega), hl, Nat.sub_self, List.getElem?_drop]
  simp
def okC (l : List Int) : Prop := ∀ i, i < l.length → 0 ≤ l.getD i 0 ∧ l.getD i 0 ≤ 100000
theorem okC_half {l : List Int} (h : okC l) : okC (halfL l) := by
  intro i hi
  rw [halfL_len] at hi
  rw [halfL_get l i hi]
  have := h i hi
  unfold halfI
  omega
theorem okC_pos {l : List Int} (h : okC l) : ∀ x ∈ l, 0 ≤ x := by
  intro x hx
  obtain ⟨i, hi, rfl⟩ := List.getElem_of_mem hx
  have := (h i hi).1
  have e : l.getD i 0 = l[i] := by simp [List.getD, hi]
  rw [e] at this
  exact this
def fitL (m : Int) (l : List Int) : List Int := fitF m (sumP l) l
set_option maxRecDepth 100000 in
set_option maxHeartbeats 1600000 in
theorem l3Fit_any (a : Option Addr) (cap n mm : Nat) (l : List Int) (w : World) (hn : l.length = n) (h : IRow w a l) (h1 : 1 ≤ n) (hm : n ≤ 300) (hc : okC l) (hU : (seed l l.length).length ≤ p2 mm) (hmm : mm ≤ 14) :
    Calls Tryz.prog 125 #[.slice a n cap, .int .i64 ((mm : Int) + 1)] w fun e w' => (∃ v, e = .returned v ∧ IOwn w' w.heap.size v (fitL ((mm : Int) + 1) l)) ∧ Below w.heap.size w w' := by
  obtain ⟨i0, hi, hz0, hz1, hz2⟩ := info_parts Tryz.infoInt
  obtain ⟨g, o, rfl, hg, hcl⟩ := h (by omega)
  have hmI : (n : Int) ≤ 300 := by omega
  have hmmI : (mm : Int) ≤ 14 := by omega
  have HN := hide hn
  have HC := hide hc
  have HU := hide hU
  have HM := hide (And.intro h1 hm)
  have hB0 : Below w.heap.size w (w.alloc (.cells #[] 3)) := (Below.refl _ _).alloc (Nat.le_refl _) _
  have hR0 : World.ownsRow (w.alloc (.cells #[] 3)) w.heap.size 3 1 (.slice (some ⟨w.heap.size, 0, none⟩) 0 0) 0 [] := World.ownsRow_lit w #[] 0 (Nat.le_refl _) (by unfold maxLen; omega) rfl
  have hnews : Hid (∀ j u, (l.map (Value.int .i64))[j]? = some u → (w.alloc (.cells #[] 3)).cell? ((⟨g, o, none⟩ : Addr).add j) = some u) := by
    intro j u hj
    have hjl : j < l.length := by have := (List.getElem?_eq_some_iff.1 hj).1; simpa using this
    have hadd : (⟨g, o, none⟩ : Addr).add j = ⟨g, o + j, none⟩ := by unfold Addr.add; split <;> simp_all
    rw [hadd, hB0.cell (p := ⟨g, o + j, none⟩) hg, hcl j hjl, ← hj]
    simp [List.getD, hjl]
  have hll : Hid ((l.map (Value.int .i64)).length = n * 1) := by show _ = _; simp [hn]
  have hb1 : Hid (0 + n ≤ maxLen ∧ (0 + n) * 8 ≤ 140737488355328) := by show _ ∧ _; unfold maxLen; omega
  clear hn hc hU h1 hm hcl hmm h
  go_enter Tryz.func125, Tryz.ntmps125
  go_wp2_with (at_builtin; refine wpList_append_own _ rfl _ _ 107 rfl w.heap.size 3 i0 (.int .i64 0) 1 8 Tryz.underlying107 hi hz0 hz1 hz2 rfl (by decide) _ _ _ rfl hR0 ⟨g, o, none⟩ n cap (l.map (Value.int .i64)) rfl (unhide hll) (unhide hnews) (ints_oneCell .i64 _) (unhide hb1).1 (unhide hb1).2 hB0.size ?_; intro v1 x1 hown hgrow hnil; clear hnil)
  have hv1 : IOwn x1 w.heap.size v1 l := by
    show World.ownsRow _ _ _ _ _ l.length _
    rw [unhide HN]
    simpa using hown
  have hB1 : Below w.heap.size w x1 := hB0.grown hgrow hB0.size (fun j hj => (World.ownsRow.lt hR0 j hj).1)
  obtain ⟨va, vc, hvv⟩ := hv1.formN (unhide HN)
  rw [hvv]
  rw [hvv] at hv1
  refine (l3Lens_any va vc n l x1 (unhide HN) (hv1.rowN (unhide HN)) (unhide HM).2 (unhide HC)).mono ?_
  rintro e x2 ⟨rfl, ho2, hb2⟩
  have hv2 := hv1.later hb2 (Nat.le_refl _)
  have hB2 := bnext hB1 hb2
  have hx12 : w.heap.size ≤ x1.heap.size := hB1.size
  obtain ⟨lb, hlb⟩ := hv1.somes (by rw [unhide HN]; exact (unhide HM).1)
  subst hlb
  have hlbx := hv1.below
  have HX := hide (And.intro hx12 hlbx)
  clear hv1 hb2 hown hgrow hvv hR0 hB0 hlbx
  go_wp2_with fail
  go_loopw [6, 7] (fun v _ wr => ∃ (cur : List Int) (f ob : Nat), cur.length = n ∧ okC cur ∧ (seed cur cur.length).length ≤ p2 mm ∧ sumP cur ≤ f ∧ fitL ((mm : Int) + 1) l = fitF ((mm : Int) + 1) f cur ∧ v = .slice (some ⟨ob, 0, none⟩) n n ∧ lb < ob ∧ IOwn wr ob (.slice (some ⟨ob, 0, none⟩) n n) (hufL cur) ∧ IOwn wr w.heap.size (.slice (some ⟨lb, 0, none⟩) n vc) cur ∧ Below w.heap.size w wr) (fun _ _ wr => sumW wr lb n)
  case atStart => exact ⟨l, sumP l, x1.heap.size, unhide HN, unhide HC, unhide HU, Nat.le_refl _, rfl, rfl, (unhide HX).2.2, ho2, hv2, hB2⟩
  case round =>
    obtain ⟨cur, f, ob, hcn, hcok, hcU, hcf, hfit, rfl, hlo, hou, hcv, hbel⟩ := hrel
    clear ho2 hv2 hB2
    have hlenh : (hufL cur).length = n := (hufL_len cur).trans hcn
    have HMo := hide (l3Most_any (some ⟨ob, 0, none⟩) n n (hufL cur) wr hlenh (hou.rowN hlenh) (unhide HM).2)
    have hmost : Hid (fits (hufL cur) ((mm : Int) + 1) = decide (mostL (hufL cur) n ≤ (mm : Int) + 1)) := by show _ = _; unfold fits; rw [hlenh]
    have HQ := hide (And.intro hcn (And.intro hcok (And.intro hcU (And.intro hcf hfit))))
    have HO := hide (And.intro hou (And.intro hcv hbel))
    have HS := hide (sumW_eq hcn hcv)
    have hlo' := hide hlo
    clear hcn hcok hcU hcf hfit hlenh hlo
    generalize mostL (hufL cur) n = mo at *
    by_cases hbig : (mm : Int) + 1 < mo
    · have hnf : fits (hufL cur) ((mm : Int) + 1) = false := by rw [unhide hmost]; exact decide_eq_false (by omega)
      obtain ⟨hcn, hcok, hcU, hcf, hfit⟩ := unhide HQ
      have hex := not_ones hcU hnf
      have hsum := (sum_half cur (okC_pos hcok)).2 hex
      have hf' : ∃ f', f = f' + 1 := ⟨f - 1, by omega⟩
      obtain ⟨f', hff⟩ := hf'
      have hfit2 : Hid (fitL ((mm : Int) + 1) l = fitF ((mm : Int) + 1) f' (halfL cur)) := by
        show _ = _
        rw [hfit, hff]
        simp only [fitF]
        rw [hnf]; rfl
      have hcf2 : Hid (sumP (halfL cur) ≤ f') := by show _ ≤ _; omega
      have HSL := hide hsum
      have hcok2 := hide (okC_half hcok)
      have hcU2 : Hid ((seed (halfL cur) (halfL cur).length).length ≤ p2 mm) := by show _ ≤ _; rw [halfL_len, seed_half cur (fun i hi => (hcok i hi).1) _ (Nat.le_refl _)]; exact hcU
      have hcn2 : Hid ((halfL cur).length = n) := (halfL_len cur).trans hcn
      clear hcn hcok hcU hcf hfit hex hsum hff
      go_wp2_with fail
      refine (unhide HMo).mono ?_
      rintro e x3 ⟨rfl, hx3⟩
      subst hx3
      obtain ⟨hou, hcv, hbel⟩ := unhide HO
      have hc0 : IOwn x3 w.heap.size (.slice (some ⟨lb, 0, none⟩) n vc) (halfL (cur.take 0) ++ cur.drop 0) := by simpa [halfL] using hcv
      clear hou hcv
      go_wp2_with fail
      go_loopw [7] (fun i wq => ∃ t : Nat, t ≤ n ∧ i = .int .i64 t ∧ IOwn wq w.heap.size (.slice (some ⟨lb, 0, none⟩) n vc) (halfL (cur.take t) ++ cur.drop t) ∧ Below w.heap.size w wq) (fun i _ => n - (intOf i).toNat)
      case atStart => exact ⟨0, Nat.zero_le _, rfl, hc0, hbel⟩
      case round =>
        obtain ⟨t, ht, rfl, hct, hbt⟩ := hrel
        clear hc0 hbel
        obtain ⟨hcn, hcok, _, _, _⟩ := unhide HQ
        have hln : Hid ((halfL (cur.take t) ++ cur.drop t).length = n) := by show _ = n; rw [List.length_append, halfL_len, List.length_take, List.length_drop]; omega
        by_cases hlt : t < n
        · have hput := hct.put (j := t) (unhide hln) (halfI (cur.getD t 0))
          rw [half_step cur t (by omega)] at hput
          obtain ⟨d0, f0, hbg, _⟩ := hct.at (unhide hln) hlt
          rw [half_mid cur t (by omega)] at d0
          have hy := hcok t (by omega)
          have hbt2 := below_set hbt (b := lb) (o := t) hbg (.int .i64 (halfI (cur.getD t 0)))
          unfold halfI at hput hbt2
          have HPUT := hide (And.intro hput hbt2)
          have htI : (t : Int) < (n : Int) := by omega
          have Ht := hide ht
          generalize cur.getD t 0 = y at *
          obtain ⟨y0, y1⟩ := hy
          have e1 : IntKind.i64.wrap ((y + 1).tdiv 2) = (y + 1) / 2 := by rw [Int.tdiv_eq_ediv_of_nonneg (by omega)]; simp [IntKind.wrap, IntKind.bits, IntKind.signed]; omega
          clear hput hbt2 hct hbt hcn hcok ht hbg
          go_wp2
          go_roundw
          case rel => exact ⟨t + 1, by have := unhide Ht; omega, by go_num, (unhide HPUT).1, (unhide HPUT).2⟩
          case measure => simp [intOf]; omega
        · have htn : t = n := by omega
          have hfull : halfL (cur.take t) ++ cur.drop t = halfL cur := by rw [List.take_of_length_le (by omega), List.drop_of_length_le (by omega)]; simp
          rw [hfull] at hct
          have hle := hide (l3Lens_any (some ⟨lb, 0, none⟩) vc n (halfL cur) wr (unhide hcn2) (hct.rowN (unhide hcn2)) (unhide HM).2 (unhide hcok2))
          have hlb2 := hct.below
          have HCT := hide (And.intro hct (And.intro hbt hlb2))
          have htI : ¬ (t : Int) < (n : Int) := by omega
          clear hct hbt hcn hcok hfull hlb2
          go_wp2_with fail
          refine (unhide hle).mono ?_
          rintro e x4 ⟨rfl, ho4, hb4⟩
          obtain ⟨hct, hbt, hlb2⟩ := unhide HCT
          have hc4 := hct.later hb4 (Nat.le_refl _)
          have hB4 := bnext hbt hb4
          have hms : Hid (sumW x4 lb n < sumW x3 lb n) := by
            show sumW x4 lb n < sumW x3 lb n
            rw [sumW_eq (unhide hcn2) hc4, unhide HS]
            exact unhide HSL
          clear hct hbt hb4
          go_wp2
          go_roundw
          case rel => exact ⟨halfL cur, f', wr.heap.size, unhide hcn2, unhide hcok2, unhide hcU2, unhide hcf2, unhide hfit2, rfl, hlb2.2, ho4, hc4, hB4⟩
          case measure => exact unhide hms
    · have hnf : fits (hufL cur) ((mm : Int) + 1) = true := by rw [unhide hmost]; exact decide_eq_true (by omega)
      have hres : Hid (fitL ((mm : Int) + 1) l = hufL cur) := by
        show _ = _
        rw [(unhide HQ).2.2.2.2]
        cases f with
        | zero => rfl
        | succ f => simp only [fitF]; rw [hnf]; rfl
      go_wp2_with fail
      refine (unhide HMo).mono ?_
      rintro e x3 ⟨rfl, hx3⟩
      subst hx3
      obtain ⟨hou, hcv, hbel⟩ := unhide HO
      have hbo : w.heap.size ≤ ob := by have := hcv.below.1; have := unhide hlo'; omega
      go_wp2
      go_ret
      exact ⟨⟨_, rfl, by rw [unhide hres]; exact hou.mono hbo⟩, hbel⟩
end Go.Proofs.YtgpghapnmalipaaGreatDoor
namespace Go.Proofs.YtgpghapnmalipaaGreatDoor
open Go.RowKit
def inC (l : List Int) : Bool := l.all (fun b => inB b 0 100000)
def lofOk (l : List Int) (m : Int) : Bool := decide (l.length ≤ 300) && inB m 1 15 && inC l && inB (us l : Nat) 1 ((p2 m.toNat / 2 : Nat) : Int)
def lensOfL (l : List Int) (m : Int) : List Int := if lofOk l m then fitL m l else []
theorem inC_take (l : List Int) (k : Nat) (h : k < l.length) : inC (l.take (k + 1)) = (inC (l.take k) && inB (l.getD k 0) 0 100000) := by
  rw [take_snocI l k h]; simp [inC]
theorem inC_get {l : List Int} {k : Nat} (h : k < l.length) (hn : inB (l.getD k 0) 0 100000 = false) : inC l = false := by
  rcases hb : inC l with _ | _
  · rfl
  · have := List.all_eq_true.1 hb (l.getD k 0) (by simp [List.getD, h])
    rw [hn] at this
    exact absurd this (by simp)
theorem okC_of {l : List Int} (h : inC l = true) : okC l := by
  intro i hi
  have := List.all_eq_true.1 h (l.getD i 0) (by simp [List.getD, hi])
  exact inB_true.1 this
theorem seed_us (l : List Int) (k : Nat) (hk : k ≤ l.length) : (seed l k).length = us (l.take k) := by
  induction k with
  | zero => rfl
  | succ k ih =>
    rw [us_take l k (by omega), ← ih (by omega)]
    simp only [seed]
    split
    · simp
    · rfl
theorem seed_usL (l : List Int) : (seed l l.length).length = us l := by
  rw [seed_us l _ (Nat.le_refl _), List.take_length]
theorem p2_half (m : Nat) : p2 (m + 1) / 2 = p2 m := by rw [p2_succ]; omega
end Go.Proofs.YtgpghapnmalipaaGreatDoor
namespace Go.Proofs.YtgpghapnmalipaaGreatDoor
open Go.RowKit
theorem less_asymm {x y : Grp} (h : lessG x y = true) : lessG y x = false := by
  simp only [lessG, Bool.or_eq_true, Bool.and_eq_true, decide_eq_true_eq] at h
  simp only [lessG, Bool.or_eq_false_iff, Bool.and_eq_false_iff, decide_eq_false_iff_not]
  omega
theorem less_ntrans {x y z : Grp} (h : lessG x y = false) (h2 : lessG y z = false) : lessG x z = false := by
  simp only [lessG, Bool.or_eq_false_iff, Bool.and_eq_false_iff, decide_eq_false_iff_not] at h h2 ⊢
  omega
theorem less_cut {x y z : Grp} (h : lessG x y = false) (h2 : lessG z y = true) : lessG x z = false := by
  simp only [lessG, Bool.or_eq_true, Bool.and_eq_true, decide_eq_true_eq] at h2
  simp only [lessG, Bool.or_eq_false_iff, Bool.and_eq_false_iff, decide_eq_false_iff_not] at h ⊢
  omega
theorem less_irrefl (x : Grp) : lessG x x = false := by
  simp only [lessG, Bool.or_eq_false_iff, Bool.and_eq_false_iff, decide_eq_false_iff_not]
  omega
def swapG (L : List Grp) (i j : Nat) : List Grp := (L.set i (L.getD j g0)).set j (L.getD i g0)
theorem swapG_len (L : List Grp) (i j : Nat) : (swapG L i j).length = L.length := by simp [swapG]
theorem swapG_fst {L : List Grp} {i j : Nat} (hi : i < L.length) : (swapG L i j).getD i g0 = L.getD j g0 := by
  unfold swapG
  rw [List.getD_eq_getElem?_getD, List.getElem?_set]
  by_cases h : j = i
  · subst h; simp [hi]
  · rw [if_neg h, List.getElem?_set_self hi]; rfl
theorem swapG_snd {L : List Grp} {i j : Nat} (hj : j < L.length) : (swapG L i j).getD j g0 = L.getD i g0 := by
  unfold swapG
  rw [List.getD_eq_getElem?_getD, List.getElem?_set_self (by simpa using hj)]; rfl
theorem swapG_other {L : List Grp} {i j k : Nat} (h1 : k ≠ i) (h2 : k ≠ j) : (swapG L i j).getD k g0 = L.getD k g0 := by
  unfold swapG
  rw [List.getD_eq_getElem?_getD, List.getElem?_set_ne (fun e => h2 e.symm), List.getElem?_set_ne (fun e => h1 e.symm), ← List.getD_eq_getElem?_getD]
theorem set_perm (L : List Grp) (i : Nat) (x : Grp) (h : i < L.length) : (L.getD i g0 :: L.set i x).Perm (x :: L) := by
  induction L generalizing i with
  | nil => simp at h
  | cons g L ih =>
    cases i with
    | zero => simp only [List.getD_cons_zero, List.set_cons_zero]; exact List.Perm.swap _ _ _
    | succ i =>
      simp only [List.getD_cons_succ, List.set_cons_succ]
      have h1 := ih i (by simpa using h)
      exact (List.Perm.swap _ _ _).trans ((h1.cons g).trans (List.Perm.swap _ _ _))
theorem swapG_perm {L : List Grp} {i j : Nat} (hi : i < L.length) (hj : j < L.length) : (swapG L i j).Perm L := by
  have h1 := set_perm L i (L.getD j g0) hi
  have h2 := set_perm (L.set i (L.getD j g0)) j (L.getD i g0) (by simpa using hj)
  have e : (L.set i (L.getD j g0)).getD j g0 = L.getD j g0 := by
    rw [List.getD_eq_getElem?_getD, List.getElem?_set]
    by_cases hij : i = j
    · subst hij; simp [hi]
    · rw [if_neg hij, ← List.getD_eq_getElem?_getD]
  rw [e] at h2
  exact (h2.trans h1).cons_inv
def HP (L : List Grp) : Prop := ∀ i, 0 < i → i < L.length → lessG (L.getD i g0) (L.getD ((i - 1) / 2) g0) = false
def UpI (L : List Grp) (k : Nat) : Prop :=
  (∀ i, 0 < i → i < L.length → i ≠ k → lessG (L.getD i g0) (L.getD ((i - 1) / 2) g0) = false) ∧
  (∀ i, 0 < i → i < L.length → (i - 1) / 2 = k → 0 < k → lessG (L.getD i g0) (L.getD ((k - 1) / 2) g0) = false)
def DnI (L : List Grp) (k : Nat) : Prop :=
  (∀ i, 0 < i → i < L.length → (i - 1) / 2 ≠ k → lessG (L.getD i g0) (L.getD ((i - 1) / 2) g0) = false) ∧
  (∀ i, 0 < i → i < L.length → (i - 1) / 2 = k → 0 < k → lessG (L.getD i g0) (L.getD ((k - 1) / 2) g0) = false)
theorem up_end {L : List Grp} {k : Nat} (h : UpI L k) (hk : k = 0 ∨ lessG (L.getD k g0) (L.getD ((k - 1) / 2) g0) = false) : HP L := by
  intro i h0 hi
  by_cases e : i = k
  · subst e
    rcases hk with hk | hk
    · omega
    · exact hk
  · exact h.1 i h0 hi e
theorem up_step {L : List Grp} {k : Nat} (h : UpI L k) (h0 : 0 < k) (hk : k < L.length) (hl : lessG (L.getD k g0) (L.getD ((k - 1) / 2) g0) = true) : UpI (swapG L k ((k - 1) / 2)) ((k - 1) / 2) := by
  have hq : (k - 1) / 2 < k := by omega
  have hqn : (k - 1) / 2 < L.length := by omega
  have sk := swapG_fst (L := L) (j := (k - 1) / 2) hk
  have sq := swapG_snd (L := L) (i := k) hqn
  refine ⟨?_, ?_⟩
  · intro i i0 hi hiq
    rw [swapG_len] at hi
    by_cases e : i = k
    · subst e
      rw [sk, sq]
      exact less_asymm hl
    · rw [swapG_other e hiq]
      by_cases p : (i - 1) / 2 = (k - 1) / 2
      · rw [p, sq]
        have := h.1 i i0 hi e
        rw [p] at this
        exact less_cut this hl
      · by_cases p2 : (i - 1) / 2 = k
        · rw [p2, sk]
          exact h.2 i i0 hi p2 h0
        · rw [swapG_other p2 p]
          exact h.1 i i0 hi e
  · intro i i0 hi hp hq0
    rw [swapG_len] at hi
    have hpp : ((k - 1) / 2 - 1) / 2 < (k - 1) / 2 := by omega
    rw [swapG_other (k := ((k - 1) / 2 - 1) / 2) (by omega) (by omega)]
    have hqq := h.1 ((k - 1) / 2) hq0 hqn (by omega)
    by_cases e : i = k
    · subst e
      rw [sk]
      exact hqq
    · rw [swapG_other e (by omega)]
      have := h.1 i i0 hi e
      rw [hp] at this
      exact less_ntrans this hqq
theorem dn_end {L : List Grp} {k : Nat} (h : DnI L k) (hk : ∀ c, 0 < c → c < L.length → (c - 1) / 2 = k → lessG (L.getD c g0) (L.getD k g0) = false) : HP L := by
  intro i h0 hi
  by_cases e : (i - 1) / 2 = k
  · rw [e]; exact hk i h0 hi e
  · exact h.1 i h0 hi e
theorem dn_step {L : List Grp} {k c : Nat} (h : DnI L k) (hk : k < L.length) (hc : c < L.length) (hc0 : 0 < c) (hp : (c - 1) / 2 = k) (hm : ∀ i, 0 < i → i < L.length → (i - 1) / 2 = k → lessG (L.getD i g0) (L.getD c g0) = false) (hl : lessG (L.getD c g0) (L.getD k g0) = true) : DnI (swapG L c k) c := by
  have hkc : k < c := by omega
  have sc := swapG_fst (L := L) (j := k) hc
  have sk := swapG_snd (L := L) (i := c) hk
  refine ⟨?_, ?_⟩
  · intro i i0 hi hip
    rw [swapG_len] at hi
    by_cases e : i = c
    · subst e
      rw [hp, sc, sk]
      exact less_asymm hl
    · by_cases p : (i - 1) / 2 = k
      · rw [p, sk, swapG_other e (by omega)]
        exact hm i i0 hi p
      · rw [swapG_other hip p]
        by_cases e2 : i = k
        · subst e2
          rw [sk]
          exact h.2 c hc0 hc hp i0
        · rw [swapG_other e e2]
          exact h.1 i i0 hi p
  · intro i i0 hi hip _
    rw [swapG_len] at hi
    rw [hp, sk, swapG_other (by omega) (by omega)]
    have := h.1 i i0 hi (by omega)
    rw [hip] at this
    exact this
theorem hp_top {L : List Grp} (h : HP L) : ∀ i, i < L.length → lessG (L.getD i g0) (L.getD 0 g0) = false := by
  intro i
  induction i using Nat.strongRecOn with
  | ind i ih =>
    intro hi
    by_cases e : i = 0
    · subst e; exact less_irrefl _
    · exact less_ntrans (h i (by omega) hi) (ih ((i - 1) / 2) (by omega) (by omega))
theorem hp_snoc {L : List Grp} (h : HP L) (g : Grp) : UpI (L ++ [g]) L.length := by
  refine ⟨?_, ?_⟩
  · intro i i0 hi hn
    have hi' : i < L.length := by simp at hi; omega
    have e1 : ∀ k, k < L.length → (L ++ [g]).getD k g0 = L.getD k g0 := by
      intro k hk
      rw [List.getD_eq_getElem?_getD, List.getElem?_append_left hk, ← List.getD_eq_getElem?_getD]
    rw [e1 i hi', e1 _ (by omega)]
    exact h i i0 hi'
  · intro i i0 hi hp _
    simp at hi
    omega
theorem getD_takeG (L : List Grp) (m k : Nat) (h : k < m) : (L.take m).getD k g0 = L.getD k g0 := by
  rw [List.getD_eq_getElem?_getD, List.getElem?_take_of_lt h, ← List.getD_eq_getElem?_getD]
theorem hp_cut {L : List Grp} (h : HP L) : DnI ((swapG L 0 (L.length - 1)).take (L.length - 1)) 0 := by
  refine ⟨?_, fun i _ _ _ h0 => absurd h0 (Nat.lt_irrefl 0)⟩
  intro i i0 hi hp
  have hi' : i < L.length - 1 := by rw [List.length_take, swapG_len] at hi; omega
  rw [getD_takeG _ _ _ hi', getD_takeG _ _ _ (by omega), swapG_other (by omega) (by omega), swapG_other hp (by omega)]
  exact h i i0 (by omega)
theorem take_snocG (L : List Grp) (n : Nat) (h : L.length = n + 1) : L = L.take n ++ [L.getD n g0] := by
  have e : L.take (n + 1) = L := List.take_of_length_le (by omega)
  have h2 : L.take (n + 1) = L.take n ++ [L.getD n g0] := by
    rw [List.take_succ_eq_append_getElem (by omega)]
    congr 2
    simp [List.getD, h]
  rw [e] at h2
  exact h2
theorem cut_perm {L : List Grp} (h : 0 < L.length) : (L.getD 0 g0 :: (swapG L 0 (L.length - 1)).take (L.length - 1)).Perm L := by
  have h1 := swapG_perm (L := L) (i := 0) (j := L.length - 1) h (by omega)
  have h2 := take_snocG (swapG L 0 (L.length - 1)) (L.length - 1) (by rw [swapG_len]; omega)
  rw [swapG_snd (by omega)] at h2
  have h3 : (L.getD 0 g0 :: (swapG L 0 (L.length - 1)).take (L.length - 1)).Perm ((swapG L 0 (L.length - 1)).take (L.length - 1) ++ [L.getD 0 g0]) := (List.perm_append_singleton _ _).symm
  rw [← h2] at h3
  exact h3.trans h1
theorem leastF_less (L : List Grp) (k j : Nat) (hj : j ≤ k) : lessG (L.getD j g0) (L.getD (leastF L k) g0) = false := by
  induction k with
  | zero =>
    obtain rfl : j = 0 := by omega
    exact less_irrefl _
  | succ k ih =>
    simp only [leastF]
    cases hl : lessG (L.getD (k + 1) g0) (L.getD (leastF L k) g0)
    · simp only [Bool.false_eq_true, if_false]
      by_cases e : j = k + 1
      · subst e; exact hl
      · exact ih (by omega)
    · simp only [if_true]
      by_cases e : j = k + 1
      · subst e; exact less_irrefl _
      · exact less_cut (ih (by omega)) hl
theorem first_less (M : List Grp) (g : Grp) (hg : g ∈ M) : lessG g (firstG M) = false := by
  obtain ⟨i, hi, rfl⟩ := List.getElem_of_mem hg
  have := leastF_less M (M.length - 1) i (by omega)
  have e : M.getD i g0 = M[i] := by simp [List.getD, hi]
  rw [e] at this
  exact this
def fstIn (M : List Grp) : Prop := ∀ g ∈ M, g.fst ∈ g.syms
theorem seed_fst (l : List Int) (k : Nat) : fstIn (seed l k) := by
  induction k with
  | zero => intro g hg; simp [seed] at hg
  | succ k ih =>
    simp only [seed]
    split
    · intro g hg
      simp only [List.mem_append, List.mem_singleton] at hg
      rcases hg with hg | rfl
      · exact ih g hg
      · simp
    · exact ih
theorem step_fst {M : List Grp} (h : fstIn M) (hl : 1 < M.length) : fstIn (stepG M) := by
  have hr := rest_len M (by omega)
  intro g hg
  simp only [stepG, List.mem_append, List.mem_singleton] at hg
  rcases hg with hg | rfl
  · exact h g (rest_sub M _ (rest_sub _ _ hg))
  · have ha := h _ (first_mem M (by omega))
    have hb := h _ (rest_sub M _ (first_mem (restU M) (by omega)))
    simp only [joinG, List.mem_append]
    split
    · exact .inr hb
    · exact .inl ha
theorem hufI_fst (l : List Int) (k : Nat) (hk : k < (seed l l.length).length ∨ k = 0) : fstIn (hufI l k).1 := by
  induction k with
  | zero => exact seed_fst l _
  | succ k ih =>
    have hlen : 1 < (hufI l k).1.length := by have := (hufI_inv l k (by omega)).2.2.2; omega
    exact step_fst (ih (by omega)) hlen
theorem same_fst {M : List Grp} (hn : (flatS M).Nodup) (hf : fstIn M) {x y : Grp} (hx : x ∈ M) (hy : y ∈ M) (e : x.fst = y.fst) : x = y := by
  induction M with
  | nil => cases hx
  | cons g M ih =>
    have hs : flatS (g :: M) = g.syms ++ flatS M := by simp [flatS]
    rw [hs, List.nodup_append] at hn
    obtain ⟨_, n2, n3⟩ := hn
    have hfM : fstIn M := fun z hz => hf z (by simp [hz])
    have hin : ∀ z ∈ M, z.fst ∈ flatS M := fun z hz => List.mem_flatMap.2 ⟨z, hz, hfM z hz⟩
    have hfg : g.fst ∈ g.syms := hf g (by simp)
    simp only [List.mem_cons] at hx hy
    rcases hx with rfl | hx
    · rcases hy with rfl | hy
      · rfl
      · exact absurd e (n3 _ hfg _ (hin y hy))
    · rcases hy with rfl | hy
      · exact absurd e.symm (n3 _ hfg _ (hin x hx))
      · exact ih n2 hfM hx hy
theorem less_same {x y : Grp} (h : lessG x y = false) (h2 : lessG y x = false) : x.fst = y.fst := by
  simp only [lessG, Bool.or_eq_false_iff, Bool.and_eq_false_iff, decide_eq_false_iff_not] at h h2
  omega
theorem top_first {L M : List Grp} {a : Grp} {L1 : List Grp} (hp : (L.map bare).Perm M) (hL : L.Perm (a :: L1)) (hmin : ∀ g ∈ L, lessG g a = false) (h0 : 0 < L.length) (hn : (flatS M).Nodup) (hf : fstIn M) : bare a = firstG M ∧ (L1.map bare).Perm (restU M) := by
  have hl : 0 < M.length := by rw [← hp.length_eq, List.length_map]; exact h0
  have ha : a ∈ L := hL.mem_iff.2 (by simp)
  have haM : bare a ∈ M := hp.mem_iff.1 (List.mem_map_of_mem ha)
  have hfM := first_mem M hl
  obtain ⟨c, hc, hce⟩ := List.mem_map.1 (hp.mem_iff.2 hfM)
  have h1 : lessG (firstG M) (bare a) = false := by rw [← hce, lessG_bare]; exact hmin c hc
  have h2 := first_less M (bare a) haM
  have e : bare a = firstG M := same_fst hn hf haM hfM (less_same h2 h1)
  refine ⟨e, ?_⟩
  have h3 : (bare a :: L1.map bare).Perm M := by
    have := (hL.map bare).symm.trans hp
    simpa using this
  have h4 := h3.trans (perm_first M hl).symm
  rw [e] at h4
  exact h4.cons_inv
theorem flat_rest {M : List Grp} (hl : 0 < M.length) (hn : (flatS M).Nodup) : (flatS (restU M)).Nodup := by
  have h1 := flat_perm (perm_first M hl)
  have h2 := h1.nodup_iff.2 hn
  have e : flatS (firstG M :: restU M) = (firstG M).syms ++ flatS (restU M) := by simp [flatS]
  rw [e, List.nodup_append] at h2
  exact h2.2.1
end Go.Proofs.YtgpghapnmalipaaGreatDoor
namespace Go.Proofs.YtgpghapnmalipaaGreatDoor
open Go.RowKit
theorem nsum_perm {α : Type} (f : α → Nat) {A B : List α} (h : A.Perm B) : (A.map f).sum = (B.map f).sum := by
  induction h with
  | nil => rfl
  | cons x _ ih => simp only [List.map_cons, List.sum_cons]; omega
  | swap x y l => simp only [List.map_cons, List.sum_cons]; omega
  | trans _ _ h1 h2 => omega
def costG : Nat → List Grp → Int
  | 0, _ => 0
  | n + 1, M => if 1 < M.length then (firstG M).cnt + (firstG (restU M)).cnt + costG n (stepG M) else 0
end Go.Proofs.YtgpghapnmalipaaGreatDoor
namespace Go.Proofs.YtgpghapnmalipaaGreatDoor
open Go.RowKit
theorem seed_yes' {l : List Int} {k : Nat} (h : 0 < l.getD k 0) : seed l (k + 1) = seed l k ++ [⟨l.getD k 0, (k : Int), [(k : Int)], .slice none 0 0⟩] := by simp only [seed]; rw [if_pos h]
theorem seed_no' {l : List Int} {k : Nat} (h : ¬ 0 < l.getD k 0) : seed l (k + 1) = seed l k := by simp only [seed]; rw [if_neg h]
def krR (l : List Int) (len : Nat → Nat) (D : Nat) : Nat → Nat
  | 0 => 0
  | n + 1 => krR l len D n + (if 0 < l.getD n 0 then 2 ^ (D - len n) else 0)
theorem seed_cnt (l : List Int) (k : Nat) : ∀ g ∈ seed l k, 0 ≤ g.cnt ∧ ∃ i : Nat, g.fst = (i : Int) ∧ i < k ∧ 0 < l.getD i 0 ∧ g.cnt = l.getD i 0 ∧ g.syms = [(i : Int)] := by
  induction k with
  | zero => intro g hg; simp [seed] at hg
  | succ k ih =>
    intro g hg
    by_cases hp : 0 < l.getD k 0
    · rw [seed_yes' hp] at hg
      simp only [List.mem_append, List.mem_singleton] at hg
      rcases hg with hg | rfl
      · obtain ⟨h1, i, h2, h3, h4⟩ := ih g hg
        exact ⟨h1, i, h2, by omega, h4⟩
      · exact ⟨by simp only; omega, k, rfl, by omega, hp, rfl, rfl⟩
    · rw [seed_no' hp] at hg
      obtain ⟨h1, i, h2, h3, h4⟩ := ih g hg
      exact ⟨h1, i, h2, by omega, h4⟩
theorem flat_seed_sum (l : List Int) (len : Nat → Nat) (D k : Nat) : ((flatS (seed l k)).map fun s => 2 ^ (D - len s.toNat)).sum = krR l len D k := by
  induction k with
  | zero => rfl
  | succ k ih =>
    simp only [krR]
    by_cases h : 0 < l.getD k 0
    · rw [if_pos h, ← ih, seed_yes' h]
      simp [flatS]
    · rw [if_neg h, ← ih, seed_no' h]
      simp
theorem flat_mem (l : List Int) (k : Nat) (x : Int) : x ∈ flatS (seed l k) ↔ ∃ i : Nat, x = (i : Int) ∧ i < k ∧ 0 < l.getD i 0 := by
  constructor
  · intro h
    obtain ⟨g, hg, hx⟩ := List.mem_flatMap.1 h
    obtain ⟨_, i, h1, h2, h3, _, h5⟩ := seed_cnt l k g hg
    rw [h5] at hx
    simp only [List.mem_singleton] at hx
    exact ⟨i, hx, h2, h3⟩
  · rintro ⟨i, rfl, hi, hp⟩
    induction k with
    | zero => omega
    | succ k ih =>
      by_cases e : i = k
      · subst e
        rw [seed_yes' hp]
        simp [flatS]
      · have := ih (by omega)
        by_cases h : 0 < l.getD k 0
        · rw [seed_yes' h]
          simp only [flatS, List.flatMap_append, List.mem_append]
          exact .inl this
        · rw [seed_no' h]
          exact this
/-! What holds behind so many steps. -/
def symSum (l s : List Int) : Int := (s.map fun x => l.getD x.toNat 0).sum
theorem symSum_append (l a b : List Int) : symSum l (a ++ b) = symSum l a + symSum l b := by simp [symSum]
theorem huf_cnt (l : List Int) (k : Nat) (hk : k < (seed l l.length).length ∨ k = 0) : ∀ g ∈ (hufI l k).1, g.cnt = symSum l g.syms := by
  induction k with
  | zero =>
    intro g hg
    obtain ⟨_, i, h1, h2, h3, h4, h5⟩ := seed_cnt l l.length g hg
    rw [h4, h5]
    simp [symSum]
  | succ k ih =>
    have hlen : 1 < (hufI l k).1.length := by have := (hufI_inv l k (by omega)).2.2.2; omega
    have hr := rest_len (hufI l k).1 (by omega)
    have ih' := ih (by omega)
    intro g hg
    have hg' : g ∈ stepG (hufI l k).1 := hg
    simp only [stepG, List.mem_append, List.mem_singleton] at hg'
    rcases hg' with hg' | rfl
    · exact ih' g (rest_sub _ _ (rest_sub _ _ hg'))
    · simp only [joinG]
      rw [symSum_append, ih' _ (first_mem _ (by omega)), ih' _ (rest_sub _ _ (first_mem (restU _) (by omega)))]
def dotL (l o : List Int) : Nat → Int
  | 0 => 0
  | n + 1 => dotL l o n + l.getD n 0 * o.getD n 0
theorem dot_bump1 (l o : List Int) (s : Int) (h0 : 0 ≤ s) (n : Nat) (hn : n ≤ o.length) : dotL l (bump1 o s) n = dotL l o n + (if s < (n : Int) then l.getD s.toNat 0 else 0) := by
  induction n with
  | zero => simp only [dotL]; rw [if_neg (by omega)]; rfl
  | succ n ih =>
    simp only [dotL]
    rw [ih (by omega), bump1_get o s n h0 (by omega)]
    by_cases e : s = (n : Int)
    · subst e
      rw [if_neg (by omega), if_pos rfl, if_pos (by omega), Int.mul_add, Int.mul_one, Int.toNat_natCast]
      omega
    · rw [if_neg e, Int.add_zero]
      by_cases h : s < (n : Int)
      · rw [if_pos h, if_pos (by omega)]; omega
      · rw [if_neg h, if_neg (by omega)]; omega
theorem dot_bump (l s : List Int) (n : Nat) : ∀ (o : List Int), n ≤ o.length → (∀ x ∈ s, 0 ≤ x ∧ x < (n : Int)) → dotL l (bump o s) n = dotL l o n + symSum l s := by
  induction s with
  | nil => intro o _ _; simp [bump, symSum]
  | cons x s ih =>
    intro o hn hs
    show dotL l (bump (bump1 o x) s) n = _
    rw [ih (bump1 o x) (by rw [bump1_len]; exact hn) (fun y hy => hs y (by simp [hy])), dot_bump1 l o x (hs x (by simp)).1 n hn, if_pos (hs x (by simp)).2]
    simp only [symSum, List.map_cons, List.sum_cons]
    omega
theorem dot_zero (l : List Int) (m n : Nat) : dotL l (List.replicate m 0) n = 0 := by
  induction n with
  | zero => rfl
  | succ n ih =>
    simp only [dotL]
    rw [ih]
    have : (List.replicate m (0 : Int)).getD n 0 = 0 := by
      rw [List.getD_eq_getElem?_getD, List.getElem?_replicate]
      split <;> rfl
    rw [this]; omega
theorem huf_dot (l : List Int) (k : Nat) (hk : k < (seed l l.length).length ∨ k = 0) : dotL l (hufI l k).2 l.length + costG ((seed l l.length).length - 1 - k) (hufI l k).1 = costG ((seed l l.length).length - 1) (seed l l.length) := by
  induction k with
  | zero =>
    show dotL l (List.replicate l.length 0) l.length + costG _ (seed l l.length) = _
    rw [dot_zero, Int.zero_add, Nat.sub_zero]
  | succ k ih =>
    have ih' := ih (by omega)
    have hlen : 1 < (hufI l k).1.length := by have := (hufI_inv l k (by omega)).2.2.2; omega
    have hr := rest_len (hufI l k).1 (by omega)
    obtain ⟨m, hm⟩ : ∃ m, (seed l l.length).length - 1 - k = m + 1 := ⟨(seed l l.length).length - 1 - k - 1, by omega⟩
    have hm2 : (seed l l.length).length - 1 - (k + 1) = m := by omega
    rw [hm] at ih'
    rw [hm2]
    simp only [costG] at ih'
    rw [if_pos hlen] at ih'
    have hsy : ∀ x ∈ symsG (hufI l k).1, 0 ≤ x ∧ x < (l.length : Int) := by
      intro x hx
      have hf := (flat_hufI l k (by omega)).2
      exact hf x ((syms_sub _ hlen).mem_iff.1 (by simp [hx]))
    have h1 := dot_bump l (symsG (hufI l k).1) l.length (hufI l k).2 (by rw [hufI_len]; exact Nat.le_refl _) hsy
    have h2 := huf_cnt l k (by omega) _ (first_mem (hufI l k).1 (by omega))
    have h3 := huf_cnt l k (by omega) _ (rest_sub _ _ (first_mem (restU (hufI l k).1) (by omega)))
    have h4 : symSum l (symsG (hufI l k).1) = (firstG (hufI l k).1).cnt + (firstG (restU (hufI l k).1)).cnt := by
      unfold symsG
      rw [symSum_append, ← h2, ← h3]
    show dotL l (bump (hufI l k).2 (symsG (hufI l k).1)) l.length + costG m (stepG (hufI l k).1) = _
    rw [h1, h4]
    omega
def kapS (o s : List Int) (D : Nat) : Nat := (s.map fun x => 2 ^ (D - (o.getD x.toNat 0).toNat)).sum
theorem kapS_append (o a b : List Int) (D : Nat) : kapS o (a ++ b) D = kapS o a D + kapS o b D := by simp [kapS]
theorem kapS_same {o o' s : List Int} {D : Nat} (h : ∀ x ∈ s, o'.getD x.toNat 0 = o.getD x.toNat 0) : kapS o' s D = kapS o s D := by
  unfold kapS
  congr 1
  apply List.map_congr_left
  intro x hx
  rw [h x hx]
theorem kapS_half {o o' s : List Int} {D : Nat} (h : ∀ x ∈ s, 0 ≤ o.getD x.toNat 0 ∧ o.getD x.toNat 0 < (D : Int) ∧ o'.getD x.toNat 0 = o.getD x.toNat 0 + 1) : 2 * kapS o' s D = kapS o s D := by
  induction s with
  | nil => rfl
  | cons x s ih =>
    have ih' := ih (fun y hy => h y (by simp [hy]))
    obtain ⟨h1, h2, h3⟩ := h x (by simp)
    simp only [kapS, List.map_cons, List.sum_cons] at ih' ⊢
    rw [h3]
    obtain ⟨d, hd⟩ : ∃ d, D - (o.getD x.toNat 0).toNat = d + 1 := ⟨D - (o.getD x.toNat 0).toNat - 1, by omega⟩
    have hd2 : D - (o.getD x.toNat 0 + 1).toNat = d := by omega
    rw [hd, hd2, Nat.pow_succ]
    omega
theorem huf_kap (l : List Int) (D : Nat) (hD : (seed l l.length).length ≤ D) (k : Nat) (hk : k < (seed l l.length).length ∨ k = 0) : ∀ g ∈ (hufI l k).1, kapS (hufI l k).2 g.syms D = 2 ^ D := by
  induction k with
  | zero =>
    intro g hg
    obtain ⟨_, i, h1, h2, h3, h4, h5⟩ := seed_cnt l l.length g hg
    rw [h5]
    show kapS (List.replicate l.length 0) [(i : Int)] D = 2 ^ D
    simp [kapS, List.getD, h2]
  | succ k ih =>
    have hlen : 1 < (hufI l k).1.length := by have := (hufI_inv l k (by omega)).2.2.2; omega
    have hr := rest_len (hufI l k).1 (by omega)
    have ih' := ih (by omega)
    have hfl := flat_hufI l k (by omega)
    obtain ⟨hnd, hdis⟩ := syms_nodup hlen hfl.1
    have hdep := hufI_depth l k (by omega)
    have hin : ∀ x ∈ symsG (hufI l k).1, 0 ≤ x ∧ x < (l.length : Int) := fun x hx => hfl.2 x ((syms_sub _ hlen).mem_iff.1 (by simp [hx]))
    have hget := fun (x : Int) (h0 : 0 ≤ x) (h1 : x < (l.length : Int)) => bump_get (hufI l k).2 (symsG (hufI l k).1) x.toNat hnd (fun y hy => (hin y hy).1) (by rw [hufI_len]; omega)
    intro g hg
    show kapS (bump (hufI l k).2 (symsG (hufI l k).1)) g.syms D = 2 ^ D
    have hg' : g ∈ stepG (hufI l k).1 := hg
    simp only [stepG, List.mem_append, List.mem_singleton] at hg'
    rcases hg' with hg' | rfl
    · rw [kapS_same (o := (hufI l k).2)]
      · exact ih' g (rest_sub _ _ (rest_sub _ _ hg'))
      · intro x hx
        have hxf : x ∈ flatS (hufI l k).1 := List.mem_flatMap.2 ⟨g, rest_sub _ _ (rest_sub _ _ hg'), hx⟩
        obtain ⟨x0, x1⟩ := hfl.2 x hxf
        rw [hget x x0 x1, Int.toNat_of_nonneg x0, if_neg (hdis g hg' x hx), Int.add_zero]
    · have hj : (joinG (firstG (hufI l k).1) (firstG (restU (hufI l k).1))).syms = symsG (hufI l k).1 := rfl
      rw [hj]
      have hha := kapS_half (o := (hufI l k).2) (o' := bump (hufI l k).2 (symsG (hufI l k).1)) (s := symsG (hufI l k).1) (D := D) (by
        intro x hx
        obtain ⟨x0, x1⟩ := hin x hx
        have hd := hdep x.toNat (by rw [hufI_len]; omega)
        refine ⟨hd.1, by omega, ?_⟩
        rw [hget x x0 x1, Int.toNat_of_nonneg x0, if_pos hx])
      have h2 : kapS (hufI l k).2 (symsG (hufI l k).1) D = 2 ^ D + 2 ^ D := by
        unfold symsG
        rw [kapS_append, ih' _ (first_mem _ (by omega)), ih' _ (rest_sub _ _ (first_mem (restU _) (by omega)))]
      omega
end Go.Proofs.YtgpghapnmalipaaGreatDoor
namespace Go.Proofs.YtgpghapnmalipaaGreatDoor
open Go.RowKit Corb
def Heap (w : World) (b base : Nat) (v : Value) (L : List Grp) : Prop := w.heap[b]? = some (Obj.cells #[v] 247) ∧ Trow 228 w base v L
theorem Heap.cell {w : World} {b base : Nat} {v : Value} {L : List Grp} (h : Heap w b base v L) : w.cell? ⟨b, 0, none⟩ = some v := by simp [World.cell?, h.1]
theorem Heap.frz {w : World} {b base : Nat} {v : Value} {L : List Grp} (h : Heap w b base v L) : w.frozen? ⟨b, 0, none⟩ = false := by simp [World.frozen?, h.1]
theorem Heap.lt {w : World} {b base : Nat} {v : Value} {L : List Grp} (h : Heap w b base v L) : b < w.heap.size := (Array.getElem?_eq_some_iff.1 h.1).1
theorem heapSize_any (b base n cap : Nat) (a : Option Addr) (L : List Grp) (w : World) (h : Heap w b base (.slice a n cap) L) :
    Calls Tryz.prog 142 #[.pointer (some ⟨b, 0, none⟩)] w fun e w' => e = .returned (.int .i64 (n : Nat)) ∧ w' = w := by
  have c0 := h.cell
  clear h
  go_enter Tryz.func142, Tryz.ntmps142
  go_wp2
  go_ret
  exact ⟨rfl, rfl⟩
set_option maxRecDepth 100000 in
set_option maxHeartbeats 1600000 in
theorem before_any (b base ob g n cap i j : Nat) (L : List Grp) (w : World) (hS : Syms w ob L) (hn : L.length = n) (hm : n ≤ 300) (h : Heap w b base (.slice (some ⟨g, 0, none⟩) n cap) L) (hi : i < n) (hj : j < n) :
    Calls Tryz.prog 225 #[.pointer (some ⟨b, 0, none⟩), .int .i64 (i : Nat), .int .i64 (j : Nat)] w fun e w' => e = .returned (.bool (lessG (L.getD i g0) (L.getD j g0))) ∧ Below w.heap.size w w' := by
  have c0 := h.cell
  obtain ⟨a0, a1, a2, _, hg⟩ := h.2.at hn i hi
  obtain ⟨d0, d1, d2, _, _⟩ := h.2.at hn j hj
  have hbw : b < w.heap.size := World.block_lt_of_cell? w ⟨b, 0, none⟩ c0
  obtain ⟨xa, xq, hxv⟩ := (hS (L.getD i g0) (getD_mem L i (by omega))).form
  obtain ⟨ya, yq, hyv⟩ := (hS (L.getD j g0) (getD_mem L j (by omega))).form
  have hiI : (i : Int) < (n : Int) := by omega
  have hjI : (j : Int) < (n : Int) := by omega
  have hmI : (n : Int) ≤ 300 := by omega
  rw [hxv] at a2
  rw [hyv] at d2
  clear h hn hm hi hj hxv hyv hS
  generalize L.getD i g0 = x at *
  generalize L.getD j g0 = y at *
  obtain ⟨xc, xf, xs, xv⟩ := x
  obtain ⟨yc, yf, ys, yv⟩ := y
  simp only at a0 a1 a2 d0 d1 d2
  generalize xs.length = xn at *
  generalize ys.length = yn at *
  go_enter Tryz.func225, Tryz.ntmps225
  go_wp2_with fail
  go_region
  all_goals
    by_cases he : xc = yc
    · subst he
      go_wp2
      go_ret
      exact ⟨congrArg (fun x => Ending.returned (.bool x)) (by simp [lessG]), (((Below.refl _ _).alloc (Nat.le_refl _) _).alloc (by simp) _).drew⟩
    · have hne : (xc == yc) = false := by simpa using he
      go_wp2
      go_ret
      exact ⟨congrArg (fun x => Ending.returned (.bool x)) (by simp [lessG, he]), (((Below.refl _ _).alloc (Nat.le_refl _) _).alloc (by simp) _).drew⟩
end Go.Proofs.YtgpghapnmalipaaGreatDoor
namespace Go.Proofs.YtgpghapnmalipaaGreatDoor
open Go.RowKit
theorem KeepT.ints {w w' : World} {base : Nat} {v : Value} {l : List Int} (h : KeepT 3 w w') (ho : IOwn w base v l) : IOwn w' base v l := h.own ho
theorem KeepT.syms {w w' : World} {ob : Nat} {l : List Grp} (h : KeepT 3 w w') (hs : Syms w ob l) : Syms w' ob l := fun g hg => h.ints (hs g hg)
theorem Syms.perm {w : World} {ob : Nat} {l m : List Grp} (h : Syms w ob l) (hp : m.Perm l) : Syms w ob m := fun g hg => h g (hp.mem_iff.1 hg)
def KeepG (g : Nat) (w w' : World) : Prop := KeepT 3 w w' ∧ w.heap.size ≤ w'.heap.size ∧ ∀ k, k < w.heap.size → k ≠ g → w'.heap[k]? = w.heap[k]?
theorem KeepG.refl (g : Nat) (w : World) : KeepG g w w := ⟨KeepT.refl _ _, Nat.le_refl _, fun _ _ _ => rfl⟩
theorem KeepG.trans {g : Nat} {w w1 w2 : World} (h : KeepG g w w1) (k : KeepG g w1 w2) : KeepG g w w2 :=
  ⟨h.1.trans k.1, Nat.le_trans h.2.1 k.2.1, fun j hj hg => (k.2.2 j (Nat.lt_of_lt_of_le hj h.2.1) hg).trans (h.2.2 j hj hg)⟩
theorem KeepG.below {g : Nat} {w w' : World} (h : Below w.heap.size w w') : KeepG g w w' := ⟨KeepT.below h, h.size, fun j hj _ => h.block j hj⟩
theorem KeepG.syms {g : Nat} {w w' : World} {ob : Nat} {l : List Grp} (h : KeepG g w w') (hs : Syms w ob l) : Syms w' ob l := h.1.syms hs
theorem KeepG.drew {g : Nat} {w w' : World} (h : KeepG g w w') : KeepG g w w'.drew := h
theorem KeepG.touch {t' : TypeId} {w w' : World} {g : Nat} {c : Array Value} {f : Nat × Nat} (hg : w.heap[g]? = some (.cells c t' f)) (hne : 3 ≠ t') (ht : Touch (some ⟨g, 0, none⟩) w w') : KeepG g w w' :=
  ⟨KeepT.touch hg hne ht, Nat.le_of_eq ht.1.symm, fun j _ hj => ht.2 j (fun g' e => by simp only [Option.some.injEq, Addr.mk.injEq, and_true] at e; omega)⟩
end Go.Proofs.YtgpghapnmalipaaGreatDoor
namespace Go.Proofs.YtgpghapnmalipaaGreatDoor
open Go.RowKit Corb
theorem tcells_set (l : List Grp) (j : Nat) (x : Grp) : (((tcells l).set (j * 3) (.int .i64 x.cnt)).set (j * 3 + 1) (.int .i64 x.fst)).set (j * 3 + 2) x.val = tcells (l.set j x) := by
  induction l generalizing j with
  | nil => simp [tcells]
  | cons p l ih =>
    cases j with
    | zero => simp [tcells]
    | succ j =>
      rw [show (j + 1) * 3 = j * 3 + 1 + 1 + 1 by omega]
      simp only [tcells, List.set_cons_succ]
      rw [ih j]
theorem Trow.put {t : TypeId} {w : World} {base g cap n : Nat} {l : List Grp} (hn : l.length = n) (h : Trow t w base (.slice (some ⟨g, 0, none⟩) n cap) l) (j : Nat) (x : Grp) :
    Trow t (((w.setCell ⟨g, j * 3, none⟩ (.int .i64 x.cnt)).setCell ⟨g, j * 3 + 1, none⟩ (.int .i64 x.fst)).setCell ⟨g, j * 3 + 2, none⟩ x.val) base (.slice (some ⟨g, 0, none⟩) n cap) (l.set j x) := by
  subst hn
  have h1 := (World.ownsRow.stored h (j * 3) (.int .i64 x.cnt)).1
  have h2 := (World.ownsRow.stored h1 (j * 3 + 1) (.int .i64 x.fst)).1
  have h3 := (World.ownsRow.stored h2 (j * 3 + 2) x.val).1
  rw [tcells_set] at h3
  show World.ownsRow _ _ _ _ _ (l.set j x).length _
  rw [List.length_set]
  exact h3
theorem Trow.frozen {t : TypeId} {w : World} {base g cap n : Nat} {l : List Grp} (hn : l.length = n) (h : Trow t w base (.slice (some ⟨g, 0, none⟩) n cap) l) (j : Nat) : w.frozen? ⟨g, j, none⟩ = false := by
  subst hn; exact World.ownsRow.frozenAt h j
theorem Touch.drew {a : Option Addr} {w w' : World} (h : Touch a w w') : Touch a w w'.drew := h
theorem Trow.drew {t : TypeId} {w : World} {base : Nat} {v : Value} {l : List Grp} (h : Trow t w base v l) : Trow t w.drew base v l := h
theorem Heap.drew {w : World} {b base : Nat} {v : Value} {L : List Grp} (h : Heap w b base v L) : Heap w.drew b base v L := ⟨h.1, h.2.drew⟩
set_option maxRecDepth 100000 in
set_option maxHeartbeats 3200000 in
theorem swap_any (b base ob g n cap i j : Nat) (L : List Grp) (w : World) (hS : Syms w ob L) (hn : L.length = n) (hm : n ≤ 300) (h : Heap w b base (.slice (some ⟨g, 0, none⟩) n cap) L) (hbb : b < base) (hi : i < n) (hj : j < n) :
    Calls Tryz.prog 164 #[.pointer (some ⟨b, 0, none⟩), .int .i64 (i : Nat), .int .i64 (j : Nat)] w fun e w' => e = .returned (.tuple #[]) ∧ Heap w' b base (.slice (some ⟨g, 0, none⟩) n cap) (swapG L i j) ∧ Below b w w' ∧ KeepG g w w' := by
  have c0 := h.cell
  have hgl := (World.ownsRow.lt h.2 g rfl).1
  have hbg : b ≠ g := by omega
  obtain ⟨gc, hgc⟩ := own_block (n := n) (by have h2 := h.2; unfold Trow at h2; rw [hn] at h2; exact h2) rfl
  have HGC := hide hgc
  clear hgc
  obtain ⟨a0, a1, a2, _, hg⟩ := h.2.at hn i hi
  obtain ⟨d0, d1, d2, _, _⟩ := h.2.at hn j hj
  have f0 := h.2.frozen hn (i * 3)
  have f1 := h.2.frozen hn (i * 3 + 1)
  have f2 := h.2.frozen hn (i * 3 + 2)
  have k0 := h.2.frozen hn (j * 3)
  have k1 := h.2.frozen hn (j * 3 + 1)
  have k2 := h.2.frozen hn (j * 3 + 2)
  have hbw : b < w.heap.size := World.block_lt_of_cell? w ⟨b, 0, none⟩ c0
  obtain ⟨xa, xq, hxv⟩ := (hS (L.getD i g0) (getD_mem L i (by omega))).form
  obtain ⟨ya, yq, hyv⟩ := (hS (L.getD j g0) (getD_mem L j (by omega))).form
  have hiI : (i : Int) < (n : Int) := by omega
  have hjI : (j : Int) < (n : Int) := by omega
  have hmI : (n : Int) ≤ 300 := by omega
  rw [hxv] at a2
  rw [hyv] at d2
  have H := hide h
  have Hn := hide hn
  clear h hn hm hi hj hS
  have HX := hide hxv
  have HY := hide hyv
  have hgb : g ≠ b := fun e => hbg e.symm
  clear hxv hyv
  generalize hx : L.getD i g0 = x at *
  generalize hy : L.getD j g0 = y at *
  obtain ⟨xc, xf, xs, xv⟩ := x
  obtain ⟨yc, yf, ys, yv⟩ := y
  simp only at a0 a1 a2 d0 d1 d2
  generalize xs.length = xn at *
  generalize ys.length = yn at *
  have Hx := hide hx
  have Hy := hide hy
  clear hx hy
  go_enter Tryz.func164, Tryz.ntmps164
  go_wp2_with fail
  have ex : Hid (L.getD i g0 = ⟨xc, xf, xs, .slice xa xn xq⟩) := by
    have e : xv = .slice xa xn xq := unhide HX
    show L.getD i g0 = _
    rw [unhide Hx, e]
  have ey : Hid (L.getD j g0 = ⟨yc, yf, ys, .slice ya yn yq⟩) := by
    have e : yv = .slice ya yn yq := unhide HY
    show L.getD j g0 = _
    rw [unhide Hy, e]
  have hT := hide (Trow.put (by rw [List.length_set]; exact unhide Hn) (Trow.put (unhide Hn) (unhide H).2 i ⟨yc, yf, ys, .slice ya yn yq⟩) j ⟨xc, xf, xs, .slice xa xn xq⟩)
  have hTo := hide (((((((Touch.refl (some ⟨g, 0, none⟩) w).set (o := i * 3) rfl (.int .i64 yc)).set (o := i * 3 + 1) rfl (.int .i64 yf)).set (o := i * 3 + 2) rfl (.slice ya yn yq)).set (o := j * 3) rfl (.int .i64 xc)).set (o := j * 3 + 1) rfl (.int .i64 xf)).set (o := j * 3 + 2) rfl (.slice xa xn xq))
  have hBe := hide ((below_set (below_set (below_set (below_set (below_set (below_set (Below.refl b w) (b := g) (o := i * 3) (by omega) (.int .i64 yc)) (b := g) (o := i * 3 + 1) (by omega) (.int .i64 yf)) (b := g) (o := i * 3 + 2) (by omega) (.slice ya yn yq)) (b := g) (o := j * 3) (by omega) (.int .i64 xc)) (b := g) (o := j * 3 + 1) (by omega) (.int .i64 xf)) (b := g) (o := j * 3 + 2) (by omega) (.slice xa xn xq)))
  have hKe := hide (KeepG.touch (unhide HGC) (by decide) (unhide hTo))
  have hCe := hide (((unhide hTo).2 b (fun g' e => by simp only [Option.some.injEq, Addr.mk.injEq, and_true] at e; omega)).trans (unhide H).1)
  have hAll : Hid (Heap ((((((w.setCell ⟨g, i * 3, none⟩ (.int .i64 yc)).setCell ⟨g, i * 3 + 1, none⟩ (.int .i64 yf)).setCell ⟨g, i * 3 + 2, none⟩ (.slice ya yn yq)).setCell ⟨g, j * 3, none⟩ (.int .i64 xc)).setCell ⟨g, j * 3 + 1, none⟩ (.int .i64 xf)).setCell ⟨g, j * 3 + 2, none⟩ (.slice xa xn xq)) b base (.slice (some ⟨g, 0, none⟩) n cap) ((L.set i ⟨yc, yf, ys, .slice ya yn yq⟩).set j ⟨xc, xf, xs, .slice xa xn xq⟩)) := ⟨unhide hCe, unhide hT⟩
  clear H
  have hSw : Hid (swapG L i j = (L.set i ⟨yc, yf, ys, .slice ya yn yq⟩).set j ⟨xc, xf, xs, .slice xa xn xq⟩) := by
    show swapG L i j = _
    unfold swapG
    rw [unhide ex, unhide ey]
  by_cases hij : i = j
  · subst hij
    have exy := (unhide ex).symm.trans (unhide ey)
    simp only [Grp.mk.injEq, Value.slice.injEq] at exy
    obtain ⟨rfl, rfl, rfl, rfl, rfl, rfl⟩ := exy
    go_region
    all_goals
      go_wp2
      go_end0
      refine ⟨rfl, ?_, (unhide hBe).drew, (unhide hKe).drew⟩
      rw [unhide hSw]
      exact (unhide hAll).drew
  · have hji : ¬ j = i := fun e => hij e.symm
    have q1 : ¬ j * 3 = i * 3 + 1 := by omega
    have q2 : ¬ j * 3 = i * 3 + 2 := by omega
    have q3 : ¬ j * 3 + 1 = i * 3 := by omega
    have q4 : ¬ j * 3 + 1 = i * 3 + 2 := by omega
    have q5 : ¬ j * 3 + 2 = i * 3 := by omega
    have q6 : ¬ j * 3 + 2 = i * 3 + 1 := by omega
    have q7 : ¬ j * 3 = i * 3 := by omega
    have q8 : ¬ j * 3 + 1 = i * 3 + 1 := by omega
    have q9 : ¬ j * 3 + 2 = i * 3 + 2 := by omega
    go_region
    all_goals
      go_wp2
      go_end0
      refine ⟨rfl, ?_, (unhide hBe).drew, (unhide hKe).drew⟩
      rw [unhide hSw]
      exact (unhide hAll).drew
end Go.Proofs.YtgpghapnmalipaaGreatDoor
namespace Go.Proofs.YtgpghapnmalipaaGreatDoor
open Go.RowKit Corb
theorem methSize (a : Addr) (w : World) : (method 397 225 (.pointer (some a)) "loop.example/corbel/impl.size").run Tryz.prog w = .ok (142, .pointer (some a)) w := by kernel_rfl
theorem methBefore (a : Addr) (w : World) : (method 397 225 (.pointer (some a)) "loop.example/corbel/impl.before").run Tryz.prog w = .ok (225, .pointer (some a)) w := by kernel_rfl
theorem methSwap (a : Addr) (w : World) : (method 397 225 (.pointer (some a)) "loop.example/corbel/impl.swap").run Tryz.prog w = .ok (164, .pointer (some a)) w := by kernel_rfl
theorem Heap.later {w w' : World} {b base : Nat} {v : Value} {L : List Grp} (h : Heap w b base v L) (hb : Below w.heap.size w w') : Heap w' b base v L :=
  ⟨(hb.block b h.lt).trans h.1, h.2.later hb (Nat.le_refl _)⟩
set_option maxRecDepth 100000 in
set_option maxHeartbeats 1600000 in
theorem heapRise_any (b g n cap p : Nat) (L : List Grp) (w : World) (hS : Syms w (b + 1) L) (hn : L.length = n) (hm : n ≤ 300) (h : Heap w b (b + 1) (.slice (some ⟨g, 0, none⟩) n cap) L) (hp : p < n) (hu : UpI L p) :
    Calls Tryz.prog 166 #[.iface 225 (.pointer (some ⟨b, 0, none⟩)), .int .i64 (p : Nat)] w fun e w' => e = .returned (.tuple #[]) ∧ ∃ M : List Grp, M.Perm L ∧ HP M ∧ Heap w' b (b + 1) (.slice (some ⟨g, 0, none⟩) n cap) M ∧ Below b w w' ∧ KeepG g w w' := by
  have m1 := methBefore ⟨b, 0, none⟩
  have m2 := methSwap ⟨b, 0, none⟩
  have hmI : (n : Int) ≤ 300 := by omega
  have HS := hide hS
  have HN := hide (And.intro hn hm)
  have H0 := hide (And.intro h (And.intro hp hu))
  clear hS hn hm h hp hu
  go_enter Tryz.func166, Tryz.ntmps166
  go_wp2_with fail
  go_loopw [1] (fun p wr => ∃ (k : Nat) (M : List Grp), p = .int .i64 k ∧ k < n ∧ M.Perm L ∧ UpI M k ∧ Heap wr b (b + 1) (.slice (some ⟨g, 0, none⟩) n cap) M ∧ Below b w wr ∧ KeepG g w wr) (fun p _ => (intOf p).toNat)
  case atStart => exact ⟨p, L, rfl, (unhide H0).2.1, List.Perm.refl _, (unhide H0).2.2, (unhide H0).1, Below.refl _ _, KeepG.refl _ _⟩
  case round =>
    obtain ⟨k, M, rfl, hk, hM, hu, hh, hbel, hke⟩ := hrel
    have hkI : (k : Int) < (n : Int) := by omega
    have hMn : M.length = n := hM.length_eq.trans (unhide HN).1
    have HQ := hide (And.intro hk (And.intro hM (And.intro hu (And.intro hh (And.intro hbel (And.intro hke hMn))))))
    by_cases h0 : k = 0
    · subst h0
      clear hk hM hu hh hbel hke hMn
      go_wp2
      go_end0
      obtain ⟨hk, hM, hu, hh, hbel, hke, hMn⟩ := unhide HQ
      exact ⟨rfl, M, hM, up_end hu (.inl rfl), hh, hbel, hke⟩
    · have hsy : Syms wr (b + 1) M := (hke.syms (unhide HS)).perm hM
      obtain ⟨q, hq⟩ : ∃ q, q = (k - 1) / 2 := ⟨_, rfl⟩
      have hqI : ((k : Int) - 1) / 2 = (q : Int) := by omega
      have hq0 : (q : Int) < (n : Int) := by omega
      have h1I : (1 : Int) ≤ (k : Int) := by omega
      have HB := hide (before_any b (b + 1) (b + 1) g n cap k q M wr hsy hMn (unhide HN).2 hh hk (by omega))
      have HQQ := hide hq
      clear hk hM hu hh hbel hke hMn hq
      cases hl : lessG (M.getD k g0) (M.getD q g0)
      · rw [hl] at HB
        have HL := hide hl
        clear hl
        go_wp2_with fail
        refine (unhide HB).mono ?_
        rintro e x1 ⟨rfl, hb1⟩
        go_wp2
        go_end0
        obtain ⟨hk, hM, hu, hh, hbel, hke, hMn⟩ := unhide HQ
        exact ⟨rfl, M, hM, up_end hu (.inr (by rw [← unhide HQQ]; exact unhide HL)), hh.later hb1, hbel.trans (hb1.mono (Nat.le_of_lt (hh.lt))), hke.trans (KeepG.below hb1)⟩
      · rw [hl] at HB
        have HL := hide hl
        clear hl
        go_wp2_with fail
        refine (unhide HB).mono ?_
        rintro e x1 ⟨rfl, hb1⟩
        have HW : Hid (Calls Tryz.prog 164 #[.pointer (some ⟨b, 0, none⟩), .int .i64 (k : Nat), .int .i64 (q : Nat)] x1 fun e w' => e = .returned (.tuple #[]) ∧ Heap w' b (b + 1) (.slice (some ⟨g, 0, none⟩) n cap) (swapG M k q) ∧ Below b x1 w' ∧ KeepG g x1 w') := by
          obtain ⟨hk, hM, hu, hh, hbel, hke, hMn⟩ := unhide HQ
          exact swap_any b (b + 1) (b + 1) g n cap k q M x1 (((hke.trans (KeepG.below hb1)).syms (unhide HS)).perm hM) hMn (unhide HN).2 (hh.later hb1) (Nat.lt_succ_self _) hk (by omega)
        go_wp2_with fail
        refine (unhide HW).mono ?_
        rintro e x2 ⟨rfl, hh2, hb2, hk2⟩
        go_wp2
        go_roundw
        case rel =>
          obtain ⟨hk, hM, hu, hh, hbel, hke, hMn⟩ := unhide HQ
          have hq := unhide HQQ
          refine ⟨q, swapG M k q, by first | rfl | go_num, by omega, (swapG_perm (by omega) (by omega)).trans hM, ?_, hh2, (hbel.trans (hb1.mono (Nat.le_of_lt (hh.lt)))).trans hb2, (hke.trans (KeepG.below hb1)).trans hk2⟩
          subst hq
          exact up_step hu (by omega) (by omega) (unhide HL)
        case measure =>
          have hq := unhide HQQ
          simp [intOf]; omega
end Go.Proofs.YtgpghapnmalipaaGreatDoor
namespace Go.Proofs.YtgpghapnmalipaaGreatDoor
open Go.RowKit Corb
theorem two_min {L : List Grp} {k c : Nat} (hc : (c = 2 * k + 1 ∧ (L.length ≤ 2 * k + 2 ∨ lessG (L.getD (2 * k + 2) g0) (L.getD (2 * k + 1) g0) = false)) ∨ (c = 2 * k + 2 ∧ lessG (L.getD (2 * k + 2) g0) (L.getD (2 * k + 1) g0) = true)) :
    ∀ i, 0 < i → i < L.length → (i - 1) / 2 = k → lessG (L.getD i g0) (L.getD c g0) = false := by
  intro i i0 hi hp
  have hi2 : i = 2 * k + 1 ∨ i = 2 * k + 2 := by omega
  rcases hc with ⟨rfl, h | h⟩ | ⟨rfl, h⟩
  · rcases hi2 with rfl | rfl
    · exact less_irrefl _
    · omega
  · rcases hi2 with rfl | rfl
    · exact less_irrefl _
    · exact h
  · rcases hi2 with rfl | rfl
    · exact less_asymm h
    · exact less_irrefl _
set_option maxRecDepth 100000 in
set_option maxHeartbeats 3200000 in
theorem heapSink_any (b g n cap p : Nat) (L : List Grp) (w : World) (hS : Syms w (b + 1) L) (hn : L.length = n) (hm : n ≤ 300) (h : Heap w b (b + 1) (.slice (some ⟨g, 0, none⟩) n cap) L) (hp : p ≤ n) (hu : DnI L p) :
    Calls Tryz.prog 165 #[.iface 225 (.pointer (some ⟨b, 0, none⟩)), .int .i64 (p : Nat)] w fun e w' => e = .returned (.tuple #[]) ∧ ∃ M : List Grp, M.Perm L ∧ HP M ∧ Heap w' b (b + 1) (.slice (some ⟨g, 0, none⟩) n cap) M ∧ Below b w w' ∧ KeepG g w w' := by
  have m1 := methBefore ⟨b, 0, none⟩
  have m2 := methSwap ⟨b, 0, none⟩
  have m3 := methSize ⟨b, 0, none⟩
  have hmI : (n : Int) ≤ 300 := by omega
  have HS := hide hS
  have HN := hide (And.intro hn hm)
  have H0 := hide (And.intro h (And.intro hp hu))
  clear hS hn hm h hp hu
  go_enter Tryz.func165, Tryz.ntmps165
  go_wp2_with fail
  go_loopw [1, 4] (fun p _ wr => ∃ (k : Nat) (M : List Grp), p = .int .i64 k ∧ k ≤ n ∧ M.Perm L ∧ DnI M k ∧ Heap wr b (b + 1) (.slice (some ⟨g, 0, none⟩) n cap) M ∧ Below b w wr ∧ KeepG g w wr) (fun p _ _ => n - (intOf p).toNat)
  case atStart => exact ⟨p, L, rfl, (unhide H0).2.1, List.Perm.refl _, (unhide H0).2.2, (unhide H0).1, Below.refl _ _, KeepG.refl _ _⟩
  case round =>
    obtain ⟨k, M, rfl, hk, hM, hu, hh, hbel, hke⟩ := hrel
    have hkI : (k : Int) ≤ (n : Int) := by omega
    have hMn : M.length = n := hM.length_eq.trans (unhide HN).1
    have HQ := hide (And.intro hk (And.intro hM (And.intro hu (And.intro hh (And.intro hbel (And.intro hke hMn))))))
    have HZ := hide (heapSize_any b (b + 1) n cap _ M wr hh)
    have hsy : Syms wr (b + 1) M := (hke.syms (unhide HS)).perm hM
    obtain ⟨c1, hc1⟩ : ∃ q, q = 2 * k + 1 := ⟨_, rfl⟩
    have hc1I : 2 * (k : Int) + 1 = (c1 : Int) := by omega
    have HC1 := hide hc1
    by_cases h1 : c1 < n
    · have h1I : (c1 : Int) < (n : Int) := by omega
      obtain ⟨c2, hc2⟩ : ∃ q, q = 2 * k + 2 := ⟨_, rfl⟩
      have hc2I : (c1 : Int) + 1 = (c2 : Int) := by omega
      have HC2 := hide hc2
      by_cases h2 : c2 < n
      · have h2I : (c2 : Int) < (n : Int) := by omega
        have HB := hide (before_any b (b + 1) (b + 1) g n cap c2 c1 M wr hsy hMn (unhide HN).2 hh h2 h1)
        clear hk hM hu hh hbel hke hMn hc1 hc2 h1 h2 hsy
        cases hl : lessG (M.getD c2 g0) (M.getD c1 g0)
        · rw [hl] at HB
          have HL := hide hl
          clear hl
          go_wp2_with fail
          refine (unhide HZ).mono ?_
          rintro e y1 ⟨rfl, hy1⟩
          rw [hy1]
          clear hy1 y1
          go_wp2_with fail
          refine (unhide HZ).mono ?_
          rintro e y1 ⟨rfl, hy1⟩
          rw [hy1]
          clear hy1 y1
          go_wp2_with fail
          refine (unhide HB).mono ?_
          rintro e x1 ⟨rfl, hb1⟩
          have HX : Hid (Heap x1 b (b + 1) (.slice (some ⟨g, 0, none⟩) n cap) M ∧ Below b w x1 ∧ KeepG g w x1 ∧ c1 < n ∧ 0 < c1 ∧ (c1 - 1) / 2 = k ∧ (∀ i, 0 < i → i < M.length → (i - 1) / 2 = k → lessG (M.getD i g0) (M.getD c1 g0) = false)) := by
            obtain ⟨hk, hM, hu, hh, hbel, hke, hMn⟩ := unhide HQ
            refine ⟨(hh.later hb1), (hbel.trans (hb1.mono (Nat.le_of_lt (hh.lt)))), (hke.trans (KeepG.below hb1)), by omega, ?_, ?_, two_min (k := k) (.inl ⟨unhide HC1, .inr (by rw [← unhide HC1, ← unhide HC2]; exact unhide HL)⟩)⟩
            · have := unhide HC1; omega
            · have := unhide HC1; omega
          have HB2 : Hid (Calls Tryz.prog 225 #[.pointer (some ⟨b, 0, none⟩), .int .i64 (c1 : Nat), .int .i64 (k : Nat)] x1 fun e w' => e = .returned (.bool (lessG (M.getD c1 g0) (M.getD k g0))) ∧ Below (x1).heap.size x1 w') := by
            obtain ⟨hk, hM, hu, hh, hbel, hke, hMn⟩ := unhide HQ
            obtain ⟨xh, xb, xk, xc, xc0, xp, xm⟩ := unhide HX
            exact before_any b (b + 1) (b + 1) g n cap c1 k M x1 ((xk.syms (unhide HS)).perm hM) hMn (unhide HN).2 xh xc (by omega)
          cases hl2 : lessG (M.getD c1 g0) (M.getD k g0)
          · rw [hl2] at HB2
            have HL2 := hide hl2
            clear hl2
            go_wp2_with fail
            refine (unhide HB2).mono ?_
            rintro e x2 ⟨rfl, hb2⟩
            go_wp2
            refine bodyPost_ret (results_none rfl _ _ _) rfl ?_
            obtain ⟨hk, hM, hu, hh, hbel, hke, hMn⟩ := unhide HQ
            obtain ⟨xh, xb, xk, xc, xc0, xp, xm⟩ := unhide HX
            exact ⟨rfl, M, hM, dn_end hu (fun c c0 hc hp => less_ntrans (xm c c0 hc hp) (unhide HL2)), xh.later hb2, xb.trans (hb2.mono (Nat.le_of_lt (xh.lt))), xk.trans (KeepG.below hb2)⟩
          · rw [hl2] at HB2
            have HL2 := hide hl2
            clear hl2
            go_wp2_with fail
            refine (unhide HB2).mono ?_
            rintro e x2 ⟨rfl, hb2⟩
            have HW : Hid (Calls Tryz.prog 164 #[.pointer (some ⟨b, 0, none⟩), .int .i64 (c1 : Nat), .int .i64 (k : Nat)] x2 fun e w' => e = .returned (.tuple #[]) ∧ Heap w' b (b + 1) (.slice (some ⟨g, 0, none⟩) n cap) (swapG M c1 k) ∧ Below b x2 w' ∧ KeepG g x2 w') := by
              obtain ⟨hk, hM, hu, hh, hbel, hke, hMn⟩ := unhide HQ
              obtain ⟨xh, xb, xk, xc, xc0, xp, xm⟩ := unhide HX
              exact swap_any b (b + 1) (b + 1) g n cap c1 k M x2 (((xk.trans (KeepG.below hb2)).syms (unhide HS)).perm hM) hMn (unhide HN).2 (xh.later hb2) (Nat.lt_succ_self _) xc (by omega)
            go_wp2_with fail
            refine (unhide HW).mono ?_
            rintro e x3 ⟨rfl, hh3, hb3, hk3⟩
            go_wp2
            go_roundw
            case rel =>
              obtain ⟨hk, hM, hu, hh, hbel, hke, hMn⟩ := unhide HQ
              obtain ⟨xh, xb, xk, xc, xc0, xp, xm⟩ := unhide HX
              exact ⟨c1, swapG M c1 k, rfl, by omega, (swapG_perm (by omega) (by omega)).trans hM, dn_step hu (by omega) (by omega) xc0 xp xm (unhide HL2), hh3, (xb.trans (hb2.mono (Nat.le_of_lt (xh.lt)))).trans hb3, (xk.trans (KeepG.below hb2)).trans hk3⟩
            case measure =>
              obtain ⟨xh, xb, xk, xc, xc0, xp, xm⟩ := unhide HX
              simp [intOf]; omega
        · rw [hl] at HB
          have HL := hide hl
          clear hl
          go_wp2_with fail
          refine (unhide HZ).mono ?_
          rintro e y1 ⟨rfl, hy1⟩
          rw [hy1]
          clear hy1 y1
          go_wp2_with fail
          refine (unhide HZ).mono ?_
          rintro e y1 ⟨rfl, hy1⟩
          rw [hy1]
          clear hy1 y1
          go_wp2_with fail
          refine (unhide HB).mono ?_
          rintro e x1 ⟨rfl, hb1⟩
          have HX : Hid (Heap x1 b (b + 1) (.slice (some ⟨g, 0, none⟩) n cap) M ∧ Below b w x1 ∧ KeepG g w x1 ∧ c2 < n ∧ 0 < c2 ∧ (c2 - 1) / 2 = k ∧ (∀ i, 0 < i → i < M.length → (i - 1) / 2 = k → lessG (M.getD i g0) (M.getD c2 g0) = false)) := by
            obtain ⟨hk, hM, hu, hh, hbel, hke, hMn⟩ := unhide HQ
            refine ⟨(hh.later hb1), (hbel.trans (hb1.mono (Nat.le_of_lt (hh.lt)))), (hke.trans (KeepG.below hb1)), by omega, ?_, ?_, two_min (k := k) (.inr ⟨unhide HC2, by rw [← unhide HC1, ← unhide HC2]; exact unhide HL⟩)⟩
            · have := unhide HC2; omega
            · have := unhide HC2; omega
          have HB2 : Hid (Calls Tryz.prog 225 #[.pointer (some ⟨b, 0, none⟩), .int .i64 (c2 : Nat), .int .i64 (k : Nat)] x1 fun e w' => e = .returned (.bool (lessG (M.getD c2 g0) (M.getD k g0))) ∧ Below (x1).heap.size x1 w') := by
            obtain ⟨hk, hM, hu, hh, hbel, hke, hMn⟩ := unhide HQ
            obtain ⟨xh, xb, xk, xc, xc0, xp, xm⟩ := unhide HX
            exact before_any b (b + 1) (b + 1) g n cap c2 k M x1 ((xk.syms (unhide HS)).perm hM) hMn (unhide HN).2 xh xc (by omega)
          cases hl2 : lessG (M.getD c2 g0) (M.getD k g0)
          · rw [hl2] at HB2
            have HL2 := hide hl2
            clear hl2
            go_wp2_with fail
            refine (unhide HB2).mono ?_
            rintro e x2 ⟨rfl, hb2⟩
            go_wp2
            refine bodyPost_ret (results_none rfl _ _ _) rfl ?_
            obtain ⟨hk, hM, hu, hh, hbel, hke, hMn⟩ := unhide HQ
            obtain ⟨xh, xb, xk, xc, xc0, xp, xm⟩ := unhide HX
            exact ⟨rfl, M, hM, dn_end hu (fun c c0 hc hp => less_ntrans (xm c c0 hc hp) (unhide HL2)), xh.later hb2, xb.trans (hb2.mono (Nat.le_of_lt (xh.lt))), xk.trans (KeepG.below hb2)⟩
          · rw [hl2] at HB2
            have HL2 := hide hl2
            clear hl2
            go_wp2_with fail
            refine (unhide HB2).mono ?_
            rintro e x2 ⟨rfl, hb2⟩
            have HW : Hid (Calls Tryz.prog 164 #[.pointer (some ⟨b, 0, none⟩), .int .i64 (c2 : Nat), .int .i64 (k : Nat)] x2 fun e w' => e = .returned (.tuple #[]) ∧ Heap w' b (b + 1) (.slice (some ⟨g, 0, none⟩) n cap) (swapG M c2 k) ∧ Below b x2 w' ∧ KeepG g x2 w') := by
              obtain ⟨hk, hM, hu, hh, hbel, hke, hMn⟩ := unhide HQ
              obtain ⟨xh, xb, xk, xc, xc0, xp, xm⟩ := unhide HX
              exact swap_any b (b + 1) (b + 1) g n cap c2 k M x2 (((xk.trans (KeepG.below hb2)).syms (unhide HS)).perm hM) hMn (unhide HN).2 (xh.later hb2) (Nat.lt_succ_self _) xc (by omega)
            go_wp2_with fail
            refine (unhide HW).mono ?_
            rintro e x3 ⟨rfl, hh3, hb3, hk3⟩
            go_wp2
            go_roundw
            case rel =>
              obtain ⟨hk, hM, hu, hh, hbel, hke, hMn⟩ := unhide HQ
              obtain ⟨xh, xb, xk, xc, xc0, xp, xm⟩ := unhide HX
              exact ⟨c2, swapG M c2 k, rfl, by omega, (swapG_perm (by omega) (by omega)).trans hM, dn_step hu (by omega) (by omega) xc0 xp xm (unhide HL2), hh3, (xb.trans (hb2.mono (Nat.le_of_lt (xh.lt)))).trans hb3, (xk.trans (KeepG.below hb2)).trans hk3⟩
            case measure =>
              obtain ⟨xh, xb, xk, xc, xc0, xp, xm⟩ := unhide HX
              simp [intOf]; omega
      · have h2I : ¬ (c2 : Int) < (n : Int) := by omega
        have hnn : Hid (n ≤ c2) := by show n ≤ c2; omega
        clear hk hM hu hh hbel hke hMn hc1 hc2 h1 h2 hsy
        go_wp2_with fail
        refine (unhide HZ).mono ?_
        rintro e y1 ⟨rfl, hy1⟩
        rw [hy1]
        clear hy1 y1
        go_wp2_with fail
        refine (unhide HZ).mono ?_
        rintro e y1 ⟨rfl, hy1⟩
        rw [hy1]
        clear hy1 y1
        have HX : Hid (Heap wr b (b + 1) (.slice (some ⟨g, 0, none⟩) n cap) M ∧ Below b w wr ∧ KeepG g w wr ∧ c1 < n ∧ 0 < c1 ∧ (c1 - 1) / 2 = k ∧ (∀ i, 0 < i → i < M.length → (i - 1) / 2 = k → lessG (M.getD i g0) (M.getD c1 g0) = false)) := by
          obtain ⟨hk, hM, hu, hh, hbel, hke, hMn⟩ := unhide HQ
          refine ⟨hh, hbel, hke, by omega, ?_, ?_, two_min (k := k) (.inl ⟨unhide HC1, .inl (by rw [hMn, ← unhide HC2]; exact unhide hnn)⟩)⟩
          · have := unhide HC1; omega
          · have := unhide HC1; omega
        have HB2 : Hid (Calls Tryz.prog 225 #[.pointer (some ⟨b, 0, none⟩), .int .i64 (c1 : Nat), .int .i64 (k : Nat)] wr fun e w' => e = .returned (.bool (lessG (M.getD c1 g0) (M.getD k g0))) ∧ Below (wr).heap.size wr w') := by
          obtain ⟨hk, hM, hu, hh, hbel, hke, hMn⟩ := unhide HQ
          obtain ⟨xh, xb, xk, xc, xc0, xp, xm⟩ := unhide HX
          exact before_any b (b + 1) (b + 1) g n cap c1 k M wr ((xk.syms (unhide HS)).perm hM) hMn (unhide HN).2 xh xc (by omega)
        cases hl2 : lessG (M.getD c1 g0) (M.getD k g0)
        · rw [hl2] at HB2
          have HL2 := hide hl2
          clear hl2
          go_wp2_with fail
          refine (unhide HB2).mono ?_
          rintro e x2 ⟨rfl, hb2⟩
          go_wp2
          refine bodyPost_ret (results_none rfl _ _ _) rfl ?_
          obtain ⟨hk, hM, hu, hh, hbel, hke, hMn⟩ := unhide HQ
          obtain ⟨xh, xb, xk, xc, xc0, xp, xm⟩ := unhide HX
          exact ⟨rfl, M, hM, dn_end hu (fun c c0 hc hp => less_ntrans (xm c c0 hc hp) (unhide HL2)), xh.later hb2, xb.trans (hb2.mono (Nat.le_of_lt (xh.lt))), xk.trans (KeepG.below hb2)⟩
        · rw [hl2] at HB2
          have HL2 := hide hl2
          clear hl2
          go_wp2_with fail
          refine (unhide HB2).mono ?_
          rintro e x2 ⟨rfl, hb2⟩
          have HW : Hid (Calls Tryz.prog 164 #[.pointer (some ⟨b, 0, none⟩), .int .i64 (c1 : Nat), .int .i64 (k : Nat)] x2 fun e w' => e = .returned (.tuple #[]) ∧ Heap w' b (b + 1) (.slice (some ⟨g, 0, none⟩) n cap) (swapG M c1 k) ∧ Below b x2 w' ∧ KeepG g x2 w') := by
            obtain ⟨hk, hM, hu, hh, hbel, hke, hMn⟩ := unhide HQ
            obtain ⟨xh, xb, xk, xc, xc0, xp, xm⟩ := unhide HX
            exact swap_any b (b + 1) (b + 1) g n cap c1 k M x2 (((xk.trans (KeepG.below hb2)).syms (unhide HS)).perm hM) hMn (unhide HN).2 (xh.later hb2) (Nat.lt_succ_self _) xc (by omega)
          go_wp2_with fail
          refine (unhide HW).mono ?_
          rintro e x3 ⟨rfl, hh3, hb3, hk3⟩
          go_wp2
          go_roundw
          case rel =>
            obtain ⟨hk, hM, hu, hh, hbel, hke, hMn⟩ := unhide HQ
            obtain ⟨xh, xb, xk, xc, xc0, xp, xm⟩ := unhide HX
            exact ⟨c1, swapG M c1 k, rfl, by omega, (swapG_perm (by omega) (by omega)).trans hM, dn_step hu (by omega) (by omega) xc0 xp xm (unhide HL2), hh3, (xb.trans (hb2.mono (Nat.le_of_lt (xh.lt)))).trans hb3, (xk.trans (KeepG.below hb2)).trans hk3⟩
          case measure =>
            obtain ⟨xh, xb, xk, xc, xc0, xp, xm⟩ := unhide HX
            simp [intOf]; omega
    · have h1I : ¬ (c1 : Int) < (n : Int) := by omega
      have hnn : Hid (n ≤ c1) := by show n ≤ c1; omega
      clear hk hM hu hh hbel hke hMn hc1 h1 hsy
      go_wp2_with fail
      refine (unhide HZ).mono ?_
      rintro e y1 ⟨rfl, hy1⟩
      rw [hy1]
      clear hy1 y1
      go_wp2
      go_end0
      obtain ⟨hk, hM, hu, hh, hbel, hke, hMn⟩ := unhide HQ
      have hc1 := unhide HC1
      have hnn' := unhide hnn
      exact ⟨rfl, M, hM, dn_end hu (fun c c0 hc hp => by omega), hh, hbel, hke⟩
end Go.Proofs.YtgpghapnmalipaaGreatDoor
namespace Go.Proofs.YtgpghapnmalipaaGreatDoor
open Go.RowKit Corb
theorem box_set {w : World} {b : Nat} {v : Value} {t : TypeId} (h : w.heap[b]? = some (Obj.cells #[v] t)) (u : Value) : (w.setCell ⟨b, 0, none⟩ u).heap[b]? = some (Obj.cells #[u] t) := by
  show (w.heap.modify b _)[b]? = _
  rw [Array.getElem?_modify, if_pos rfl, h]
  simp
theorem box_cell {w : World} {b : Nat} {v : Value} {t : TypeId} (h : w.heap[b]? = some (Obj.cells #[v] t)) : w.cell? ⟨b, 0, none⟩ = some v := by simp [World.cell?, h]
theorem box_frz {w : World} {b : Nat} {v : Value} {t : TypeId} (h : w.heap[b]? = some (Obj.cells #[v] t)) : w.frozen? ⟨b, 0, none⟩ = false := by simp [World.frozen?, h]
theorem Tryz.infoGrp : (Tryz.prog.info? 228).map (fun i => (i.zero, i.size, i.bytes)) = some (some (.agg #[.int .i64 0, .int .i64 0, .slice none 0 0]), 3, 40) := by kernel_rfl
theorem laid_after {w W x1 : World} {b n : Nat} {v v' : Value} {L : List Grp} {x : Grp} {o : Obj} (hn : L.length = n) (h : Heap w b (b + 1) v L) (hW : Below w.heap.size w W) (hk : KeepT 3 w W) (hown : x1.ownsRow (b + 1) 228 3 v' (n + 1) (tcells L ++ [.int .i64 x.cnt, .int .i64 x.fst, x.val])) (hg0 : (W.alloc o).drew.grownBy x1 v.ownBlock) :
    (∃ g c, v' = .slice (some ⟨g, 0, none⟩) (n + 1) c) ∧ (x1.heap[b]? = some (Obj.cells #[v] 247)) ∧ Heap (x1.setCell ⟨b, 0, none⟩ v') b (b + 1) v' (L ++ [x]) ∧ Below b w (x1.setCell ⟨b, 0, none⟩ v') ∧ KeepT 3 w (x1.setCell ⟨b, 0, none⟩ v') := by
  have hg : (W.alloc o).grownBy x1 v.ownBlock := ⟨hg0.os, hg0.tape, hg0.output, hg0.size, hg0.block⟩
  have hWs := hW.size
  have hlt := h.lt
  have h1 := h.later hW
  have h2 : Trow 228 (W.alloc o) (b + 1) v L := World.ownsRow.alloc h1.2 _
  have hbk : ∀ k, v.ownBlock = some k → b < k := fun k e => (World.ownsRow.lt h2 k e).1
  have hxb : x1.heap[b]? = some (Obj.cells #[v] 247) := by
    rw [hg.block b (by simp; omega) (fun e => by have := hbk b e.symm; omega), Below.heap_alloc W o b (by omega)]
    exact h1.1
  have hbel : Below b w x1 := (((hW.mono (Nat.le_of_lt hlt)).alloc (by omega) o)).grown hg (by simp; omega) (fun k e => Nat.le_of_lt (hbk k e))
  have hke : KeepT 3 w x1 := (hk.alloc o).grown h2 (by decide) hg
  subst hn
  have hsn := trow_snoc x hown
  obtain ⟨va, vc, e⟩ := hsn.formN (n := L.length + 1) (by simp)
  obtain ⟨g, hga⟩ := (show Trow 228 x1 (b + 1) (.slice va (L.length + 1) vc) (L ++ [x]) by rw [← e]; exact hsn).somes (by simp)
  refine ⟨⟨g, vc, by rw [e, hga]⟩, hxb, ⟨box_set hxb v', ?_⟩, below_set hbel (Nat.le_refl _) _, hke.set hxb (by decide) _⟩
  exact ownsRow_setCell_below hsn (Nat.lt_succ_self _) _
set_option maxRecDepth 100000 in
set_option maxHeartbeats 1600000 in
theorem layH_any (b n cap : Nat) (a : Option Addr) (L : List Grp) (x : Grp) (w : World) (hS : Syms w (b + 1) L) (hx : IOwn w (b + 1) x.val x.syms) (hn : L.length = n) (hm : n < 300) (h : Heap w b (b + 1) (.slice a n cap) L) (hp : HP L) :
    Calls Tryz.prog 144 #[.pointer (some ⟨b, 0, none⟩), .agg #[.int .i64 x.cnt, .int .i64 x.fst, x.val]] w fun e w' => e = .returned (.tuple #[]) ∧ ∃ (M : List Grp) (g cap' : Nat), M.Perm (L ++ [x]) ∧ HP M ∧ Heap w' b (b + 1) (.slice (some ⟨g, 0, none⟩) (n + 1) cap') M ∧ Below b w w' ∧ KeepT 3 w w' := by
  obtain ⟨i0, hi, hz0, hz1, hz2⟩ := info_parts Tryz.infoGrp
  have hmI : (n : Int) < 300 := by omega
  have hlt := h.lt
  have c0 := h.cell
  have f0 := h.frz
  obtain ⟨xa, xq, hxv⟩ := hx.form
  have HS := hide hS
  have HN := hide (And.intro hn hm)
  have H0 := hide (And.intro h hp)
  have HX := hide (And.intro hx hxv)
  obtain ⟨xc, xf, xs, xv⟩ := x
  simp only at hxv
  subst hxv
  generalize hxn : xs.length = xn at *
  have hlen1 : Hid (n + 1 ≤ maxLen ∧ (n + 1) * 40 ≤ 140737488355328) := by show _ ∧ _; unfold maxLen; omega
  have hR : Hid (World.ownsRow ((w.alloc (.cells #[.int .i64 xc, .int .i64 xf, .slice xa xn xq] 228)).alloc (.cells #[.int .i64 xc, .int .i64 xf, .slice xa xn xq] 228)).drew (b + 1) 228 3 (.slice a n cap) n (tcells L)) := by
    have h2 := h.2
    unfold Trow at h2
    rw [hn] at h2
    exact World.ownsRow.alloc (World.ownsRow.alloc h2 _) _
  have hNw : Hid (∀ (j : Nat) (u : Value), [Value.int .i64 xc, .int .i64 xf, .slice xa xn xq][j]? = some u → World.cell? ((w.alloc (.cells #[.int .i64 xc, .int .i64 xf, .slice xa xn xq] 228)).alloc (.cells #[.int .i64 xc, .int .i64 xf, .slice xa xn xq] 228)).drew ((⟨w.heap.size + 1, 0, none⟩ : Addr).add j) = some u) := three_new _ _ _ _ _ _ (by simp)
  have hSz : Hid (b + 1 ≤ ((w.alloc (.cells #[.int .i64 xc, .int .i64 xf, .slice xa xn xq] 228)).alloc (.cells #[.int .i64 xc, .int .i64 xf, .slice xa xn xq] 228)).drew.heap.size) := by show b + 1 ≤ ((w.alloc (.cells #[.int .i64 xc, .int .i64 xf, .slice xa xn xq] 228)).alloc (.cells #[.int .i64 xc, .int .i64 xf, .slice xa xn xq] 228)).drew.heap.size; simp; omega
  clear hS hn hm h hp hx
  go_enter Tryz.func144, Tryz.ntmps144
  go_wp2_with fail
  go_region_law (refine step_append_own rfl (.tmp 8) (.tmp 10) 245 rfl (b + 1) 228 i0 (.agg #[.int .i64 0, .int .i64 0, .slice none 0 0]) 3 40 Tryz.underlying245 hi hz0 hz1 hz2 rfl (by decide) _ _ _ rfl (unhide hR) ⟨w.heap.size + 1, 0, none⟩ 1 1 [.int .i64 xc, .int .i64 xf, .slice xa xn xq] rfl rfl (unhide hNw) (three_one _ _ _ _ _) (unhide hlen1).1 (unhide hlen1).2 (unhide hSz) ?_; intro v' w' hown hgrow hnil; clear hnil; have HL := hide (laid_after (x := ⟨xc, xf, xs, .slice xa xn xq⟩) (unhide HN).1 (unhide H0).1 ((Below.refl _ _).alloc (Nat.le_refl _) _) ((KeepT.refl _ _).alloc _) hown hgrow); obtain ⟨⟨g', c', hv'⟩, HB, HH⟩ := (unhide HL); subst hv'; clear hown hgrow HL; have c1 := box_cell HB; have f1 := box_frz HB; have HH' := hide HH; clear HH HB)
  all_goals
    go_wp2_with fail
    obtain ⟨hh2, hb2, hk2⟩ := unhide HH'
    have hsy2 := (hk2.syms (unhide HS)).snoc (g := ⟨xc, xf, xs, .slice xa xn xq⟩) (hk2.ints (unhide HX).1)
    have HZ := hide (heapSize_any b (b + 1) (n + 1) c' (some ⟨g', 0, none⟩) _ _ hh2)
    have HR := hide (heapRise_any b g' (n + 1) c' n _ _ hsy2 (by rw [List.length_append, (unhide HN).1]; rfl) (by have := (unhide HN).2; omega) hh2 (Nat.lt_succ_self _) (by have h1 := hp_snoc (unhide H0).2 ⟨xc, xf, xs, .slice xa xn xq⟩; rw [(unhide HN).1] at h1; exact h1))
    clear hh2 hb2 hk2 hsy2
    refine (unhide HZ).mono ?_
    rintro e y1 ⟨rfl, hy1⟩
    rw [hy1]
    clear hy1 y1
    go_wp2_with fail
    refine (unhide HR).mono ?_
    rintro e x3 ⟨rfl, M, hM, hHP, hh3, hb3, hk3⟩
    go_wp2
    go_end0
    obtain ⟨hh2, hb2, hk2⟩ := unhide HH'
    exact ⟨rfl, M, g', c', hM, hHP, hh3, hb2.trans hb3, hk2.trans hk3.1⟩
end Go.Proofs.YtgpghapnmalipaaGreatDoor
namespace Go.Proofs.YtgpghapnmalipaaGreatDoor
open Go.RowKit Corb
theorem grp_cut (g n cap k : Nat) (hk : k ≤ cap) (hc : 0 < cap) (W : World) : (Instr.slice 245 (.slice (some ⟨g, 0, none⟩) n cap) none (some (.int .i64 (k : Int))) none).run Tryz.prog W = .ok (.slice (some ⟨g, 0, none⟩) k cap) W := by
  have h1 : (k : Int) ≤ (cap : Int) := by omega
  have h2 : ¬ ((k : Int) < 0) := by omega
  have hk' : (cap == 0) = false := by simp; omega
  go_simp
theorem trow_pop {w : World} {base g cap n : Nat} {l : List Grp} (hn : l.length = n + 1) (h : Trow 228 w base (.slice (some ⟨g, 0, none⟩) (n + 1) cap) l) : Trow 228 w base (.slice (some ⟨g, 0, none⟩) n cap) (l.take n) := by
  have e : tcells l = tcells (l.take n) ++ tcells (l.drop n) := by rw [← tcells_append, List.take_append_drop]
  have hl : (l.take n).length = n := by rw [List.length_take]; omega
  unfold Trow at h ⊢
  rw [hn, e] at h
  rw [hl]
  exact ownsRow_pop (by rw [tcells_len, hl]) h
theorem ownsRow_setOther {w : World} {base size g k o n m cap : Nat} {e : TypeId} {xs : List Value} (h : w.ownsRow base e size (.slice (some ⟨g, 0, none⟩) n cap) m xs) (hg : k ≠ g) (u : Value) : (w.setCell ⟨k, o, none⟩ u).ownsRow base e size (.slice (some ⟨g, 0, none⟩) n cap) m xs := by
  refine ⟨h.1, ?_⟩
  rcases h.2 with hn | ⟨g1, cap, cur, e, hbg, hgg, rest⟩
  · exact .inl hn
  · refine .inr ⟨g1, cap, cur, e, hbg, ?_, rest⟩
    simp only [Value.slice.injEq, Option.some.injEq, Addr.mk.injEq, and_true] at e
    rw [Below.heap_setCell w ⟨k, o, none⟩ u g1 (by show g1 ≠ k; omega)]
    exact hgg
theorem Heap.setOther {w : World} {b base g k o n cap : Nat} {L : List Grp} (h : Heap w b base (.slice (some ⟨g, 0, none⟩) n cap) L) (hb : k ≠ b) (hg : k ≠ g) (u : Value) : Heap (w.setCell ⟨k, o, none⟩ u) b base (.slice (some ⟨g, 0, none⟩) n cap) L :=
  ⟨(Below.heap_setCell w ⟨k, o, none⟩ u b (fun e => hb e.symm)).trans h.1, ownsRow_setOther h.2 hg u⟩
theorem three_cells {w : World} {b : Nat} {x y z : Value} {t : TypeId} (h : w.heap[b]? = some (Obj.cells #[x, y, z] t)) : Three w b x y z :=
  ⟨by simp [World.cell?, h], by simp [World.cell?, h], by simp [World.cell?, h], by simp [World.frozen?, h], by simp [World.frozen?, h], by simp [World.frozen?, h], (Array.getElem?_eq_some_iff.1 h).1⟩
theorem heap_push (w : World) (o : Obj) : (w.alloc o).heap[w.heap.size]? = some o := Array.getElem?_push_size
set_option maxRecDepth 100000 in
set_option maxHeartbeats 1600000 in
theorem take_any (b g N cap : Nat) (L : List Grp) (w : World) (hS : Syms w (b + 1) L) (hn : L.length = N + 1) (hm : N < 300) (h : Heap w b (b + 1) (.slice (some ⟨g, 0, none⟩) (N + 1) cap) L) (hp : HP L) :
    Calls Tryz.prog 143 #[.pointer (some ⟨b, 0, none⟩)] w fun e w' => e = .returned (.agg #[.int .i64 (L.getD 0 g0).cnt, .int .i64 (L.getD 0 g0).fst, (L.getD 0 g0).val]) ∧ ∃ M : List Grp, (L.getD 0 g0 :: M).Perm L ∧ HP M ∧ Heap w' b (b + 1) (.slice (some ⟨g, 0, none⟩) N cap) M ∧ Below b w w' ∧ KeepT 3 w w' := by
  have hmI : (N : Int) < 300 := by omega
  have hlt := h.lt
  have hcap := h.2.cap hn
  have HS := hide hS
  have HN := hide (And.intro hn hm)
  have H0 := hide (And.intro h hp)
  have hB1 : Below w.heap.size w (w.alloc (.cells #[.int .i64 0, .int .i64 0, .slice none 0 0] 228)) := (Below.refl _ _).alloc (Nat.le_refl _) _
  have HZ := hide (heapSize_any b (b + 1) (N + 1) cap (some ⟨g, 0, none⟩) L _ (h.later hB1))
  have HW := hide (swap_any b (b + 1) (b + 1) g (N + 1) cap 0 N L _ ((KeepG.below (g := g) hB1).syms hS) hn (by omega) (h.later hB1) (Nat.lt_succ_self _) (by omega) (by omega))
  have hB1' := hide hB1
  clear hS hn h hp hB1
  go_enter Tryz.func143, Tryz.ntmps143
  go_wp2_with fail
  refine (unhide HZ).mono ?_
  rintro e y1 ⟨rfl, hy1⟩
  rw [hy1]
  clear hy1 y1
  go_wp2_with fail
  refine (unhide HW).mono ?_
  rintro e x1 ⟨rfl, hh1, hb1, hk1⟩
  have hg1 := (World.ownsRow.lt (unhide H0).1.2 g rfl).2
  have hlen1 : (swapG L 0 N).length = N + 1 := by rw [swapG_len]; exact (unhide HN).1
  obtain ⟨c0, c1, c2, _, hgx⟩ := hh1.2.at hlen1 N (Nat.lt_succ_self _)
  rw [swapG_snd (by rw [(unhide HN).1]; exact Nat.lt_succ_self _)] at c0 c1 c2
  have hA := unhide HS (L.getD 0 g0) (getD_mem L 0 (by rw [(unhide HN).1]; exact Nat.succ_pos _))
  obtain ⟨aa, ac, hav⟩ := hA.form
  rw [hav] at c2
  have hbc := hh1.cell
  have hbf := hh1.frz
  have hb2 := hh1.lt
  have hbg : b ≠ g := by have := (World.ownsRow.lt (unhide H0).1.2 g rfl).1; omega
  have hx1s : w.heap.size < x1.heap.size := by have := hk1.2.1; simp at this; omega
  have hcut := grp_cut g (N + 1) cap N (by omega) (by omega)
  have hcapI : (cap : Int) ≤ 9223372036854775807 := by have := hcap.2; unfold maxLen at this; omega
  have hcapI2 : (N : Int) + 1 ≤ (cap : Int) := by have := hcap.1; omega
  have hr0 : x1.heap[w.heap.size]? = some (Obj.cells #[.int .i64 0, .int .i64 0, .slice none 0 0] 228) := by
    rw [hk1.2.2 w.heap.size (by simp) (by omega)]
    exact heap_push _ _
  have HX := hide (And.intro hh1 (And.intro hb1 (And.intro hk1 (And.intro hlen1 (And.intro hav hr0)))))
  clear hh1 hb1 hk1 hlen1 hcap hgx hA hr0 hm HZ HW
  generalize hAA : (L.getD 0 g0).cnt = Ac at *
  generalize hAF : (L.getD 0 g0).fst = Af at *
  generalize hAS : (L.getD 0 g0).syms.length = An at *
  have HAA := hide (And.intro hAA (And.intro hAF hAS))
  clear hAA hAF hAS hav
  go_wp2_with fail
  have HY : Hid (Heap ((x1.setCell ⟨b, 0, none⟩ (.slice (some ⟨g, 0, none⟩) N cap)).alloc (.cells #[.int .i64 Ac, .int .i64 Af, .slice aa An ac] 228)) b (b + 1) (.slice (some ⟨g, 0, none⟩) N cap) ((swapG L 0 N).take N) ∧
      Below b w ((x1.setCell ⟨b, 0, none⟩ (.slice (some ⟨g, 0, none⟩) N cap)).alloc (.cells #[.int .i64 Ac, .int .i64 Af, .slice aa An ac] 228)) ∧
      KeepT 3 w ((x1.setCell ⟨b, 0, none⟩ (.slice (some ⟨g, 0, none⟩) N cap)).alloc (.cells #[.int .i64 Ac, .int .i64 Af, .slice aa An ac] 228)) ∧
      ((x1.setCell ⟨b, 0, none⟩ (.slice (some ⟨g, 0, none⟩) N cap)).alloc (.cells #[.int .i64 Ac, .int .i64 Af, .slice aa An ac] 228)).heap[w.heap.size]? = some (Obj.cells #[.int .i64 0, .int .i64 0, .slice none 0 0] 228) ∧
      ((x1.setCell ⟨b, 0, none⟩ (.slice (some ⟨g, 0, none⟩) N cap)).alloc (.cells #[.int .i64 Ac, .int .i64 Af, .slice aa An ac] 228)).heap[x1.heap.size]? = some (Obj.cells #[.int .i64 Ac, .int .i64 Af, .slice aa An ac] 228)) := by
    obtain ⟨hh1, hb1, hk1, hlen1, hav, hr0⟩ := unhide HX
    have hsz : (x1.setCell ⟨b, 0, none⟩ (.slice (some ⟨g, 0, none⟩) N cap)).heap.size = x1.heap.size := by simp
    refine ⟨⟨?_, ?_⟩, ?_, ?_, ?_, ?_⟩
    · rw [Below.heap_alloc _ _ b (by rw [hsz]; exact hb2)]
      exact box_set hh1.1 _
    · exact World.ownsRow.alloc (ownsRow_setCell_below (trow_pop hlen1 hh1.2) (Nat.lt_succ_self _) _) _
    · exact (below_set (((unhide hB1').mono (Nat.le_of_lt hlt)).trans hb1) (Nat.le_refl _) _).alloc (by rw [hsz]; omega) _
    · exact (((KeepT.below (unhide hB1')).trans hk1.1).set hh1.1 (by decide) _).alloc _
    · rw [Below.heap_alloc _ _ w.heap.size (by rw [hsz]; exact hx1s), Below.heap_setCell _ _ _ _ (by show w.heap.size ≠ b; omega)]
      exact hr0
    · rw [← hsz]
      exact heap_push _ _
  generalize (x1.setCell ⟨b, 0, none⟩ (.slice (some ⟨g, 0, none⟩) N cap)).alloc (.cells #[.int .i64 Ac, .int .i64 Af, .slice aa An ac] 228) = Y at *
  have HK : Hid (Calls Tryz.prog 165 #[.iface 225 (.pointer (some ⟨b, 0, none⟩)), .int .i64 ((0 : Nat) : Int)] Y fun e w' => e = .returned (.tuple #[]) ∧ ∃ M : List Grp, M.Perm ((swapG L 0 N).take N) ∧ HP M ∧ Heap w' b (b + 1) (.slice (some ⟨g, 0, none⟩) N cap) M ∧ Below b Y w' ∧ KeepG g Y w') := by
    obtain ⟨hY1, hY2, hY3, hY4, hY5⟩ := unhide HY
    obtain ⟨hn, hm⟩ := unhide HN
    have hsy : Syms Y (b + 1) ((swapG L 0 N).take N) := fun x hx => hY3.syms (unhide HS) x ((swapG_perm (by omega) (by omega)).mem_iff.1 (List.mem_of_mem_take hx))
    exact heapSink_any b g N cap 0 _ Y hsy (by rw [List.length_take, swapG_len]; omega) (by omega) hY1 (Nat.zero_le _) (by have h1 := hp_cut (unhide H0).2; rw [hn] at h1; exact h1)
  refine (unhide HK).mono ?_
  rintro e x5 ⟨rfl, M, hM, hHP, hh5, hb5, hk5⟩
  have HF : Hid (Heap x5 b (b + 1) (.slice (some ⟨g, 0, none⟩) N cap) M ∧ Below b w x5 ∧ KeepT 3 w x5 ∧ x5.heap[w.heap.size]? = some (Obj.cells #[.int .i64 0, .int .i64 0, .slice none 0 0] 228) ∧ M.Perm ((swapG L 0 N).take N) ∧ HP M) := by
    obtain ⟨hY1, hY2, hY3, hY4, hY5⟩ := unhide HY
    exact ⟨hh5, hY2.trans hb5, hY3.trans hk5.1, (hk5.2.2 _ (heap_lt hY4) (by omega)).trans hY4, hM, hHP⟩
  have hT1 : Three x5 w.heap.size _ _ _ := three_cells (unhide HF).2.2.2.1
  have hT2 : Three x5 x1.heap.size (.int .i64 Ac) (.int .i64 Af) (.slice aa An ac) := by
    obtain ⟨hY1, hY2, hY3, hY4, hY5⟩ := unhide HY
    exact three_cells ((hk5.2.2 _ (heap_lt hY5) (by omega)).trans hY5)
  clear hM hHP hh5 hb5 hk5 HK
  obtain ⟨p0, p1, p2, q0, q1, q2, hps⟩ := hT1
  obtain ⟨r0, r1, r2, s0, s1, s2, hrs⟩ := hT2
  go_wp2_with fail
  obtain ⟨hh1, hb1, hk1, hlen1, hav, hr0⟩ := unhide HX
  obtain ⟨fh, fb, fk, fr, fM, fP⟩ := unhide HF
  obtain ⟨eA, eF, eS⟩ := unhide HAA
  have hTt := (((Three.set0 ⟨p0, p1, p2, q0, q1, q2, hps⟩ (.int .i64 Ac)).set1 (.int .i64 Af)).set2 (.slice aa An ac))
  have hTo := ((((Touch.refl (some ⟨w.heap.size, 0, none⟩) x5).set (o := 0) rfl (.int .i64 Ac)).set (o := 1) rfl (.int .i64 Af)).set (o := 2) rfl (.slice aa An ac))
  have hbel := below_set (below_set (below_set fb (b := w.heap.size) (o := 0) (Nat.le_of_lt hlt) (.int .i64 Ac)) (b := w.heap.size) (o := 1) (Nat.le_of_lt hlt) (.int .i64 Af)) (b := w.heap.size) (o := 2) (Nat.le_of_lt hlt) (.slice aa An ac)
  have hke := fk.trans (KeepT.touch fr (by decide) hTo)
  have hhe := ((fh.setOther (k := w.heap.size) (o := 0) (by omega) (by omega) (.int .i64 Ac)).setOther (k := w.heap.size) (o := 1) (by omega) (by omega) (.int .i64 Af)).setOther (k := w.heap.size) (o := 2) (by omega) (by omega) (.slice aa An ac)
  generalize ((x5.setCell ⟨w.heap.size, 0, none⟩ (.int .i64 Ac)).setCell ⟨w.heap.size, 1, none⟩ (.int .i64 Af)).setCell ⟨w.heap.size, 2, none⟩ (.slice aa An ac) = Z at *
  obtain ⟨t0, t1, t2, _, _, _, _⟩ := hTt
  refine bodyPost_ret (v := .agg #[.int .i64 Ac, .int .i64 Af, .slice aa An ac]) (by simp [results, Tryz.results143, go_sem, t0, t1, t2]) rfl ⟨?_, M, ?_, fP, hhe, hbel, hke⟩
  · rw [eA, eF, hav]
  · have hn := (unhide HN).1
    have h1 := cut_perm (L := L) (by omega)
    rw [hn] at h1
    exact (fM.cons _).trans h1
end Go.Proofs.YtgpghapnmalipaaGreatDoor
namespace Go.Proofs.YtgpghapnmalipaaGreatDoor
open Go.RowKit Corb
theorem seed_lenle (l : List Int) (k : Nat) : (seed l k).length ≤ k := by
  induction k with
  | zero => simp [seed]
  | succ k ih =>
    simp only [seed]
    split
    · simp; omega
    · omega
set_option maxRecDepth 100000 in
set_option maxHeartbeats 1600000 in
theorem symHeapOf_any (a : Option Addr) (cap n : Nat) (l : List Int) (w : World) (hn : l.length = n) (h : IRow w a l) (hm : n ≤ 300) :
    Calls Tryz.prog 141 #[.slice a n cap] w fun e w' => e = .returned (.pointer (some ⟨w.heap.size, 0, none⟩)) ∧ ∃ (L : List Grp) (va : Option Addr) (vc : Nat), Heap w' w.heap.size (w.heap.size + 1) (.slice va L.length vc) L ∧ HP L ∧ (L.map bare).Perm (seed l n) ∧ Syms w' (w.heap.size + 1) L ∧ Below w.heap.size w w' := by
  have hmI : (n : Int) ≤ 300 := by omega
  have HN := hide (And.intro hn hm)
  have hB0 : Below w.heap.size w (w.alloc (.cells #[.slice none 0 0] 247)) := (Below.refl _ _).alloc (Nat.le_refl _) _
  have hH0 : Heap (w.alloc (.cells #[.slice none 0 0] 247)) w.heap.size (w.heap.size + 1) (.slice none 0 0) [] := ⟨heap_push _ _, World.ownsRow_nil _ _ _ _⟩
  clear hn hm
  go_enter Tryz.func141, Tryz.ntmps141
  go_wp2_with fail
  go_loopw [4, 5, 10] (fun _ _ i wr => ∃ (k : Nat) (L : List Grp) (va : Option Addr) (vc : Nat), k ≤ n ∧ i = .int .i64 k ∧ Heap wr w.heap.size (w.heap.size + 1) (.slice va L.length vc) L ∧ HP L ∧ (L.map bare).Perm (seed l k) ∧ Syms wr (w.heap.size + 1) L ∧ Below w.heap.size w wr) (fun _ _ i _ => n - (intOf i).toNat)
  case atStart => exact ⟨0, [], none, 0, Nat.zero_le _, rfl, hH0, fun i _ hi => by simp at hi, List.Perm.refl _, syms_nil _ _, hB0⟩
  case round =>
    obtain ⟨k, L, va, vc, hk, rfl, hh, hp, hL, hs, hbel⟩ := hrel
    clear hB0 hH0
    by_cases hlt : k < n
    · obtain ⟨g, o, rfl, hg, hcc⟩ := (h.later hbel) (by rw [(unhide HN).1]; omega)
      have c0 := hcc k (by rw [(unhide HN).1]; exact hlt)
      have hlen : L.length < 300 := by
        have h1 := hL.length_eq
        rw [List.length_map] at h1
        have h2 := seed_lenle l k
        have := (unhide HN).2
        omega
      have HQ := hide (And.intro hk (And.intro hh (And.intro hp (And.intro hL (And.intro hs hbel)))))
      clear hcc
      by_cases hy : 0 < l.getD k 0
      · have hst := hide (seed_yes hy)
        generalize l.getD k 0 = y at *
        have hB1 : Below wr.heap.size wr (wr.alloc (.cells #[.int .i64 (k : Int)] 3)) := (Below.refl _ _).alloc (Nat.le_refl _) _
        have hA : IOwn (wr.alloc (.cells #[.int .i64 (k : Int)] 3)) (w.heap.size + 1) (.slice (some ⟨wr.heap.size, 0, none⟩) 1 1) [(k : Int)] := IOwn.one wr _ hh.lt _
        have HLa := hide (layH_any w.heap.size L.length vc va L ⟨y, (k : Int), [(k : Int)], .slice (some ⟨wr.heap.size, 0, none⟩) 1 1⟩ _ ((KeepT.below hB1).syms hs) hA rfl hlen (hh.later hB1) hp)
        have HB1 := hide hB1
        have HA := hide hA
        clear hk hh hp hL hs hbel hA hB1 hlen
        go_wp2_with fail
        refine (unhide HLa).mono ?_
        rintro e x1 ⟨rfl, M, g', c', hM, hHP, hh1, hb1, hk1⟩
        go_wp2
        go_roundw
        case rel =>
          obtain ⟨hk, hh, hp, hL, hs, hbel⟩ := unhide HQ
          have hlM : M.length = L.length + 1 := by rw [hM.length_eq]; simp
          refine ⟨k + 1, M, some ⟨g', 0, none⟩, c', by omega, by go_num, by rw [hlM]; exact hh1, hHP, ?_, ?_, (hbel.trans ((unhide HB1).mono (Nat.le_of_lt hh.lt))).trans hb1⟩
          · rw [unhide hst]
            refine (hM.map bare).trans ?_
            rw [List.map_append]
            exact hL.append_right _
          · exact ((hk1.syms ((KeepT.below (unhide HB1)).syms hs)).snoc (hk1.ints (unhide HA))).perm hM
        case measure => simp [intOf]; omega
      · have hst := hide (seed_no hy)
        generalize l.getD k 0 = y at *
        clear hk hh hp hL hs hbel hlen
        go_wp2
        go_roundw
        case rel =>
          obtain ⟨hk, hh, hp, hL, hs, hbel⟩ := unhide HQ
          exact ⟨k + 1, L, va, vc, by omega, by go_num, hh, hp, by rw [unhide hst]; exact hL, hs, hbel⟩
        case measure => simp [intOf]; omega
    · obtain rfl : k = n := by omega
      clear h
      go_wp2
      go_ret
      exact ⟨rfl, L, va, vc, hh, hp, hL, hs, hbel⟩
end Go.Proofs.YtgpghapnmalipaaGreatDoor
namespace Go.Proofs.YtgpghapnmalipaaGreatDoor
open Go.RowKit
theorem heap_two {l : List Int} {j : Nat} {L M1 M2 : List Grp} (hc : ∀ i, i < l.length → 0 ≤ l.getD i 0 ∧ l.getD i 0 ≤ 100000) (hn : l.length ≤ 300) (hj : j < (seed l l.length).length ∨ j = 0) (hL : (L.map bare).Perm (hufI l j).1) (hp : HP L) (h2 : 1 < L.length) (h1 : (L.getD 0 g0 :: M1).Perm L) (hp1 : HP M1) (h12 : (M1.getD 0 g0 :: M2).Perm M1) :
    symsG (hufI l j).1 = (L.getD 0 g0).syms ++ (M1.getD 0 g0).syms ∧
    (∀ (M3 : List Grp) (v : Value), M3.Perm (M2 ++ [⟨(L.getD 0 g0).cnt + (M1.getD 0 g0).cnt, if (M1.getD 0 g0).fst < (L.getD 0 g0).fst then (M1.getD 0 g0).fst else (L.getD 0 g0).fst, (L.getD 0 g0).syms ++ (M1.getD 0 g0).syms, v⟩]) → (M3.map bare).Perm (hufI l (j + 1)).1) ∧
    0 ≤ (L.getD 0 g0).cnt ∧ 0 ≤ (M1.getD 0 g0).cnt ∧ (L.getD 0 g0).cnt + (M1.getD 0 g0).cnt ≤ 30000000 ∧
    ((L.getD 0 g0).syms ++ (M1.getD 0 g0).syms).length ≤ 300 ∧ 0 < (L.getD 0 g0).syms.length ∧ 0 < (M1.getD 0 g0).syms.length ∧ (∀ x ∈ (L.getD 0 g0).syms ++ (M1.getD 0 g0).syms, 0 ≤ x ∧ x < (l.length : Int)) := by
  have hM1l : M1.length + 1 = L.length := by have := h1.length_eq; simpa using this
  obtain ⟨hwf, hC, hS, hlen⟩ := hufI_inv l j hj
  have hMl : (hufI l j).1.length = L.length := by rw [← hL.length_eq, List.length_map]
  have hnd := (flat_hufI l j hj).1
  have hfi := hufI_fst l j hj
  have htop : ∀ g ∈ L, lessG g (L.getD 0 g0) = false := by
    intro g hg
    obtain ⟨i, hi, rfl⟩ := List.getElem_of_mem hg
    have := hp_top hp i hi
    have e : L.getD i g0 = L[i] := by simp [List.getD, hi]
    rw [e] at this
    exact this
  have htop1 : ∀ g ∈ M1, lessG g (M1.getD 0 g0) = false := by
    intro g hg
    obtain ⟨i, hi, rfl⟩ := List.getElem_of_mem hg
    have := hp_top hp1 i hi
    have e : M1.getD i g0 = M1[i] := by simp [List.getD, hi]
    rw [e] at this
    exact this
  obtain ⟨e1, p1⟩ := top_first hL h1.symm htop (by omega) hnd hfi
  have hfr : fstIn (restU (hufI l j).1) := fun g hg => hfi g (rest_sub _ g hg)
  obtain ⟨e2, p2⟩ := top_first p1 h12.symm htop1 (by omega) (flat_rest (by omega) hnd) hfr
  have htwo := two_cnt hwf (by omega : 1 < (hufI l j).1.length)
  have ha := hwf _ (first_mem (hufI l j).1 (by omega))
  have hrl := rest_len (hufI l j).1 (by omega)
  have hb := hwf _ (rest_sub _ _ (first_mem (restU (hufI l j).1) (by omega)))
  have hst := seed_tot l 100000 (by omega) (fun i hi => (hc i hi).2) l.length (Nat.le_refl _)
  have hsy : symsG (hufI l j).1 = (L.getD 0 g0).syms ++ (M1.getD 0 g0).syms := by
    unfold symsG
    rw [← e1, ← e2]
    rfl
  rw [← e1] at ha htwo
  rw [← e2] at hb htwo
  have hle : (100000 : Int) * (l.length : Int) ≤ 100000 * 300 := Int.mul_le_mul_of_nonneg_left (by omega) (by omega)
  refine ⟨hsy, ?_, ha.1, hb.1, ?_, ?_, ha.2.2.2.2, hb.2.2.2.2, ?_⟩
  · intro M3 v hM3
    have h3 := hM3.map bare
    rw [List.map_append] at h3
    refine h3.trans ?_
    show List.Perm _ (stepG (hufI l j).1)
    unfold stepG
    rw [← e1, ← e2]
    exact p2.append_right _
  · have h0 := htwo.1
    have : (bare (L.getD 0 g0)).cnt = (L.getD 0 g0).cnt := rfl
    have : (bare (M1.getD 0 g0)).cnt = (M1.getD 0 g0).cnt := rfl
    omega
  · have h0 := htwo.2
    rw [hsy] at h0
    omega
  · intro x hx
    simp only [List.mem_append] at hx
    rcases hx with hx | hx
    · exact ha.2.2.2.1 x hx
    · exact hb.2.2.2.1 x hx
end Go.Proofs.YtgpghapnmalipaaGreatDoor
namespace Go.Proofs.YtgpghapnmalipaaGreatDoor
open Go.RowKit Corb
def usedI (l : List Int) : Int := if decide (l.length ≤ 300) && inC l then (us l : Nat) else -1
theorem usedI_no1 {l : List Int} (h : 300 < l.length) : usedI l = -1 := by
  unfold usedI; rw [decide_eq_false (by omega)]; rfl
theorem usedI_no2 {l : List Int} (h : inC l = false) : usedI l = -1 := by
  unfold usedI; rw [h]; simp
theorem usedI_yes {l : List Int} (h : l.length ≤ 300) (h2 : inC l = true) : usedI l = (us l : Nat) := by
  unfold usedI; rw [decide_eq_true h, h2]; rfl
set_option maxRecDepth 100000 in
set_option maxHeartbeats 800000 in
theorem countsUsed_any (a : Option Addr) (cap n : Nat) (l : List Int) (w : World) (hn : l.length = n) (h : IRow w a l) (hm : n ≤ 1048576) :
    Calls Tryz.prog 104 #[.slice a n cap] w fun e w' => e = .returned (.int .i64 (usedI l)) ∧ w' = w := by
  subst hn
  have hmI : (l.length : Int) ≤ 1048576 := by omega
  clear hm
  by_cases h3 : (l.length : Int) ≤ 300
  · go_enter Tryz.func104, Tryz.ntmps104
    go_wp2_with fail
    go_loop [3, 5, 11] (fun n _ i => ∃ k : Nat, k ≤ l.length ∧ i = .int .i64 k ∧ n = .int .i64 (us (l.take k) : Nat) ∧ inC (l.take k) = true) (fun _ _ i => l.length - (intOf i).toNat)
    case atStart => exact ⟨0, Nat.zero_le _, rfl, rfl, rfl⟩
    case round =>
      obtain ⟨k, hk, rfl, rfl, hin⟩ := hrel
      have HK := hide hk
      have HI := hide hin
      clear hin
      by_cases hlt : k < l.length
      · obtain ⟨g, o, rfl, hg, hc⟩ := h (by omega)
        have c0 := hc k hlt
        have hst := hide (us_take l k hlt)
        have hit := hide (inC_take l k hlt)
        have hig := hide (fun hb => inC_get (l := l) (k := k) hlt hb)
        have hub := us_le (l.take k)
        have hub' : (us (l.take k) : Int) ≤ 300 := by
          have : (l.take k).length ≤ l.length := by simp; omega
          omega
        clear hc hk h hub
        generalize l.getD k 0 = y at *
        generalize us (l.take k) = u at *
        by_cases hb : 0 ≤ y ∧ y ≤ 100000
        · obtain ⟨hb0, hb1⟩ := hb
          have hin2 : Hid (inC (l.take (k + 1)) = true) := by
            show _ = true
            rw [unhide hit, unhide HI, inB_true.2 ⟨hb0, hb1⟩]; rfl
          by_cases hy : 0 < y
          · have hst' : Hid (us (l.take (k + 1)) = u + 1) := by have := unhide hst; rw [if_pos hy] at this; exact this
            go_wp2
            go_round
            case rel => exact ⟨k + 1, by omega, by go_num, by rw [unhide hst']; go_num, unhide hin2⟩
            case measure => simp [intOf]; omega
          · have hst' : Hid (us (l.take (k + 1)) = u) := by have := unhide hst; rw [if_neg hy] at this; exact this
            go_wp2
            go_round
            case rel => exact ⟨k + 1, by omega, by go_num, by rw [unhide hst'], unhide hin2⟩
            case measure => simp [intOf]; omega
        · have hno : Hid (usedI l = -1) := usedI_no2 (unhide hig (by
            cases hx : inB y 0 100000
            · rfl
            · exact absurd (inB_true.1 hx) hb))
          by_cases hy : y < 0
          · go_wp2
            go_ret
            exact ⟨ret_int (unhide hno).symm, rfl⟩
          · have hy2 : ¬ y ≤ 100000 := by omega
            go_wp2
            go_ret
            exact ⟨ret_int (unhide hno).symm, rfl⟩
      · have hlk : Hid (l.take k = l) := List.take_of_length_le (by omega)
        have hin2 : Hid (inC l = true) := by show inC l = true; rw [← unhide hlk]; exact unhide HI
        clear h
        go_wp2
        go_ret
        exact ⟨ret_int (by rw [usedI_yes (by omega) (unhide hin2), unhide hlk]), rfl⟩
  · have hno := hide (usedI_no1 (l := l) (by omega))
    go_enter Tryz.func104, Tryz.ntmps104
    clear h
    go_wp2
    go_ret
    exact ⟨ret_int (unhide hno).symm, rfl⟩
def oneI (x : Int) : Int := if x ≤ 1 then x else 1
theorem lensOne_any (x : Int) (w : World) (h0 : -1000000 ≤ x) (h1 : x ≤ 1000000) :
    Calls Tryz.prog 106 #[.int .i64 x] w fun e w' => e = .returned (.int .i64 (oneI x)) ∧ w' = w := by
  by_cases h : x ≤ 1
  · have e : Hid (oneI x = x) := by show oneI x = x; simp [oneI, h]
    go_enter Tryz.func106, Tryz.ntmps106
    go_wp2
    go_ret
    exact ⟨ret_int (unhide e).symm, rfl⟩
  · have e : Hid (oneI x = 1) := by show oneI x = 1; simp [oneI, h]
    go_enter Tryz.func106, Tryz.ntmps106
    go_wp2
    go_ret
    exact ⟨ret_int (unhide e).symm, rfl⟩
set_option maxRecDepth 100000 in
set_option maxHeartbeats 1600000 in
theorem eachOne_any (a : Option Addr) (cap n : Nat) (l : List Int) (w : World) (hn : l.length = n) (h : IRow w a l) (hm : n ≤ 1048576) (hc : okC l) :
    Calls Tryz.prog 105 #[.slice a n cap, .func (.func 106) #[] #[]] w fun e w' => ∃ v, e = .returned v ∧ IOwn w' w.heap.size v (l.map oneI) ∧ Below w.heap.size w w' := by
  have hmI : (n : Int) ≤ 1048576 := by omega
  have Hn := hide hn
  have Hm := hide hm
  have HC := hide hc
  clear hn hm hc
  obtain ⟨i0, hi, hz0, hz1, hz2⟩ := info_parts Tryz.infoInt
  go_enter Tryz.func105, Tryz.ntmps105
  go_wp2_with fail
  go_loopw [5, 7, 10] (fun o _ i wr => ∃ k : Nat, k ≤ n ∧ i = .int .i64 k ∧ IOwn wr w.heap.size o ((l.take k).map oneI) ∧ Below w.heap.size w wr) (fun _ _ i _ => n - (intOf i).toNat)
  case atStart => exact ⟨0, Nat.zero_le _, rfl, World.ownsRow_nil _ _ _ _, Below.refl _ _⟩
  case round =>
    obtain ⟨k, hk, rfl, hq, hbel⟩ := hrel
    have hbs := hbel.size
    by_cases hlt : k < n
    · obtain ⟨g, o, rfl, hg, hcc⟩ := (h.later hbel) (by rw [unhide Hn]; omega)
      have c0 := hcc k (by rw [unhide Hn]; exact hlt)
      obtain ⟨y0, y1⟩ := unhide HC k (by rw [unhide Hn]; exact hlt)
      have hst : Hid ((l.take (k + 1)).map oneI = (l.take k).map oneI ++ [oneI (l.getD k 0)]) := by
        show _ = _
        rw [take_snocI l k (by rw [unhide Hn]; exact hlt), List.map_append]; rfl
      have hlk : Hid (((l.take k).map oneI).length = k) := by show _ = k; have := unhide Hn; simp; omega
      have Hk := hide hk
      clear hcc hk h
      generalize l.getD k 0 = y at *
      have HP := hide (lensOne_any y wr (by omega) (by omega))
      generalize oneI y = R at *
      go_wp2_with fail
      refine (unhide HP).mono ?_
      rintro e x1 ⟨rfl, hx1⟩
      rw [hx1]
      clear hx1 x1
      have hlen1 : Hid (((l.take k).map oneI).length + 1 ≤ maxLen ∧ (((l.take k).map oneI).length + 1) * 8 ≤ 140737488355328) := by
        show _ ∧ _
        rw [unhide hlk]
        have := unhide Hm
        unfold maxLen
        omega
      clear HP
      go_wp2_with (at_builtin; refine wpList_append_own _ rfl _ _ 107 rfl w.heap.size 3 i0 (.int .i64 0) 1 8 Tryz.underlying107 hi hz0 hz1 hz2 rfl (by decide) _ _ _ rfl (World.ownsRow.alloc hq _) ⟨wr.heap.size, 0, none⟩ 1 1 [.int .i64 R] rfl rfl (one_new _ _ rfl _ _) (one_int _) (unhide hlen1).1 (unhide hlen1).2 (size_alloc_le hbs _) ?_; intro v' x2 hown hgrow hnil; clear hnil)
      have hb2 := grown_step (v := u5) hgrow hq (Nat.le_refl _) hbs hbel
      have hq2 := iown_snoc hown
      rw [← unhide hst] at hq2
      clear hown hgrow hq
      go_wp2
      go_roundw
      case rel => exact ⟨k + 1, by have := unhide Hk; omega, by go_num, hq2, hb2⟩
      case measure => simp [intOf]; omega
    · have hlk2 : l.take k = l := List.take_of_length_le (by rw [unhide Hn]; omega)
      rw [hlk2] at hq
      obtain ⟨va, vc, rfl⟩ := hq.form
      clear hlk2 h
      go_wp2
      go_ret
      exact ⟨_, rfl, hq, hbel⟩
end Go.Proofs.YtgpghapnmalipaaGreatDoor
