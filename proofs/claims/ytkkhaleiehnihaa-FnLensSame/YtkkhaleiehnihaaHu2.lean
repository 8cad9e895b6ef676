/- Lengths by counts, however long they are: the model's, over this seat's program. -/
import Derived.Test.YtkkhaleiehnihaaTr3
import Derived.Test.YtkkhaleiehnihaaHu1
import Derived.Test.YtkkhaleiehnihaaRb1
namespace Go.Proofs.Ytkkhaleiehnihaa
open Go.RowKit

def sliceLen : Value → Nat
  | .slice _ n _ => n
  | _ => 0
theorem seed_yes {l : List Int} {k : Nat} (h : 0 < l.getD k 0) : seed l (k + 1) = seed l k ++ [⟨l.getD k 0, (k : Int), [(k : Int)], .slice none 0 0⟩] := by simp only [seed]; rw [if_pos h]
theorem seed_no {l : List Int} {k : Nat} (h : ¬ 0 < l.getD k 0) : seed l (k + 1) = seed l k := by simp only [seed]; rw [if_neg h]
theorem three_new (w : World) (x y z : Value) (t : TypeId) (g : Nat) (hg : w.heap.size = g) : ∀ (j : Nat) (u : Value), [x, y, z][j]? = some u → (w.alloc (.cells #[x, y, z] t)).cell? ((⟨g, 0, none⟩ : Addr).add j) = some u := by
  subst hg
  intro j u hj
  match j, hj with
  | 0, hj => simp at hj; subst hj; simp [Addr.add]
  | 1, hj => simp at hj; subst hj; simp [Addr.add]
  | 2, hj => simp at hj; subst hj; simp [Addr.add]
theorem three_one (x y : Int) (a : Option Addr) (n c : Nat) : ∀ u ∈ [Value.int .i64 x, Value.int .i64 y, Value.slice a n c], u.oneCell' = true := by
  intro u hu
  simp at hu
  rcases hu with rfl | rfl | rfl <;> rfl
theorem trow_snoc {t : TypeId} {x : World} {base : Nat} {v : Value} {l : List Grp} (g : Grp) (h : x.ownsRow base t 3 v (l.length + 1) (tcells l ++ [.int .i64 g.cnt, .int .i64 g.fst, g.val])) : Trow t x base v (l ++ [g]) := by
  show World.ownsRow _ _ _ _ _ (l ++ [g]).length _
  rw [tcells_append]
  simpa [tcells] using h
theorem IOwn.one (w : World) (base : Nat) (hb : base ≤ w.heap.size) (x : Int) : IOwn (w.alloc (.cells #[.int .i64 x] 3)) base (.slice (some ⟨w.heap.size, 0, none⟩) 1 1) [x] :=
  World.ownsRow_lit w #[.int .i64 x] 1 hb (by unfold maxLen; omega) rfl
theorem syms_nil (w : World) (ob : Nat) : Syms w ob [] := fun g hg => by simp at hg
theorem Syms.snoc {w : World} {ob : Nat} {l : List Grp} {g : Grp} (h : Syms w ob l) (hg : IOwn w ob g.val g.syms) : Syms w ob (l ++ [g]) := by
  intro x hx
  simp only [List.mem_append, List.mem_singleton] at hx
  rcases hx with hx | rfl
  · exact h x hx
  · exact hg
/-- Rows of ints lie apart from a row of groups that grows. -/
theorem Syms.grown {t : TypeId} {w w' : World} {ob base : Nat} {v : Value} {l m : List Grp} (h : Syms w ob l) (hr : Trow t w base v m) (ht : 3 ≠ t) (hg : w.grownBy w' v.ownBlock) : Syms w' ob l :=
  fun g hgm => World.ownsRow.kept (h g hgm) hg (type_apart (h g hgm) hr ht)
theorem ints_grown {t : TypeId} {w w' : World} {ob base : Nat} {v u : Value} {l : List Int} {m : List Grp} (h : IOwn w ob u l) (hr : Trow t w base v m) (ht : 3 ≠ t) (hg : w.grownBy w' v.ownBlock) : IOwn w' ob u l :=
  World.ownsRow.kept h hg (type_apart h hr ht)

theorem three_of (w : World) (x y z : Value) (t : TypeId) : Three (w.alloc (.cells #[x, y, z] t)) w.heap.size x y z := ⟨by simp, by simp, by simp, by simp, by simp, by simp, by simp⟩
theorem Three.later {w w' : World} {b : Nat} {v0 v1 v2 : Value} (h : Three w b v0 v1 v2) (hb : Below w.heap.size w w') : Three w' b v0 v1 v2 := h.kept (hb.mono h.2.2.2.2.2.2)
theorem Trow.mono {t : TypeId} {w : World} {base base' : Nat} {v : Value} {l : List Grp} (h : Trow t w base v l) (hb : base' ≤ base) : Trow t w base' v l :=
  ⟨h.1, h.2.imp id fun ⟨g, c, u, e, hbg, r⟩ => ⟨g, c, u, e, Nat.le_trans hb hbg, r⟩⟩
theorem Syms.sub {w : World} {ob : Nat} {l m : List Grp} (h : Syms w ob l) (hs : ∀ g ∈ m, g ∈ l) : Syms w ob m := fun g hg => h g (hs g hg)

theorem ownsRow_touch {w w' : World} {a : Option Addr} {base size n : Nat} {e : TypeId} {v : Value} {xs : List Value} (h : w.ownsRow base e size v n xs) (ht : Touch a w w') (hne : ∀ g, a = some ⟨g, 0, none⟩ → g < base) : w'.ownsRow base e size v n xs := by
  refine ⟨h.1, ?_⟩
  rcases h.2 with hn | ⟨g, cap, cur, rfl, hbg, hgg, rest⟩
  · exact .inl hn
  · refine .inr ⟨g, cap, cur, rfl, hbg, ?_, rest⟩
    rw [ht.2 g (fun g' e => by have := hne g' e; omega)]
    exact hgg
theorem touch_cell {w w' : World} {b : Nat} {p : Addr} (ht : Touch (some ⟨b, 0, none⟩) w w') (hp : p.block ≠ b) : w'.cell? p = w.cell? p :=
  World.cell?_of_block (ht.2 p.block (fun g e => by simp only [Option.some.injEq, Addr.mk.injEq, and_true] at e; omega))
theorem touch_lt (b B : Nat) (h : b < B) : ∀ g, (some ⟨b, 0, none⟩ : Option Addr) = some ⟨g, 0, none⟩ → g < B := by
  intro g e
  simp only [Option.some.injEq, Addr.mk.injEq, and_true] at e
  omega

set_option maxRecDepth 100000 in
set_option maxHeartbeats 6400000 in
theorem l3Lens_any (a : Option Addr) (cap n : Nat) (l : List Int) (w : World) (hn : l.length = n) (h : IRow w a l) (hm : n ≤ 300) (hc : ∀ i, i < l.length → 0 ≤ l.getD i 0 ∧ l.getD i 0 ≤ 100000) :
    Calls Try.prog 35 #[.slice a n cap] w fun e w' => e = .returned (.slice (some ⟨w.heap.size, 0, none⟩) n n) ∧ IOwn w' w.heap.size (.slice (some ⟨w.heap.size, 0, none⟩) n n) (hufL l) ∧ Below w.heap.size w w' := by
  have hmI : (n : Int) ≤ 300 := by omega
  obtain ⟨i0, hi, hz0, hz1, hz2⟩ := info_parts Try.infoInt
  obtain ⟨j0, hj, hy0, hy1, hy2⟩ := info_parts Try.infoTree
  have HN := hide hn
  have HC := hide hc
  have HM := hide hm
  clear hc
  go_enter Try.func35, Try.ntmps35
  go_wp2_with (at_make; refine wpList_make_full _ rfl _ _ 22 rfl w.heap.size 3 i0 (.int .i64 0) 1 Try.underlying22 hi hz0 hz1 .i64 .i64 _ _ n rfl rfl rfl rfl (by rw [hz2]; omega) (by unfold maxLen; omega) (Nat.le_refl _) ?_; intro w1 hown hgrow)
  have hp0 : IOwn (w1.alloc (.cells #[] 52)) w.heap.size (.slice (some ⟨w.heap.size, 0, none⟩) n n) (List.replicate l.length 0) := by
    rw [hn]
    exact (made_ints hown).later ((Below.refl w1.heap.size w1).alloc (Nat.le_refl _) _) (Nat.le_refl _)
  have hlt1 : w.heap.size + 1 ≤ w1.heap.size := (made_ints hown).below.2
  have hb0 : Below w.heap.size w (w1.alloc (.cells #[] 52)) := ((Below.refl _ _).grown hgrow (Nat.le_refl _) (fun k h => by cases h)).alloc (by omega) _
  have ht0 : Trow 52 (w1.alloc (.cells #[] 52)) (w.heap.size + 1) (.slice (some ⟨w1.heap.size, 0, none⟩) 0 0) [] := World.ownsRow_lit w1 #[] 0 hlt1 (by unfold maxLen; omega) rfl
  clear hown hgrow hn hm
  go_loopw [4, 5] (fun v i wr => ∃ (k : Nat) (L : List Grp), k ≤ n ∧ i = .int .i64 k ∧ L.map bare = seed l k ∧ Trow 52 wr (w.heap.size + 1) v L ∧ Syms wr (w.heap.size + 1) L ∧ IOwn wr w.heap.size (.slice (some ⟨w.heap.size, 0, none⟩) n n) (List.replicate l.length 0) ∧ Below w.heap.size w wr) (fun _ i _ => n - (intOf i).toNat)
  case atStart => exact ⟨0, [], Nat.zero_le _, rfl, rfl, ht0, syms_nil _ _, hp0, hb0⟩
  case round =>
    obtain ⟨k, L, hk, rfl, hL, ht, hs, hp, hbel⟩ := hrel
    clear hp0 hb0 ht0
    have HL := hide hL
    have hbs : w.heap.size + 1 ≤ wr.heap.size := hp.below.2
    clear hL
    by_cases hlt : k < n
    · obtain ⟨g, o, rfl, hg, hcc⟩ := (h.later hbel) (by rw [unhide HN]; omega)
      have c0 := hcc k (by rw [unhide HN]; exact hlt)
      have HK := hide hk
      have hlenL : L.length ≤ 300 := by
        have h1 : (L.map bare).length = (seed l k).length := by rw [unhide HL]
        have h2 := (seed_tot l 100000 (by omega) (fun i hi => (unhide HC i hi).2) k (by rw [unhide HN]; omega)).2.2
        rw [List.length_map] at h1
        have := unhide HM
        omega
      clear hcc hk
      by_cases hy : 0 < l.getD k 0
      · have hst := hide (seed_yes hy)
        generalize l.getD k 0 = y at *
        have hA : IOwn (wr.alloc (.cells #[.int .i64 (k : Int)] 3)) (w.heap.size + 1) (.slice (some ⟨wr.heap.size, 0, none⟩) 1 1) [(k : Int)] := IOwn.one wr _ hbs _
        have hB1 : Below wr.heap.size wr (wr.alloc (.cells #[.int .i64 (k : Int)] 3)) := (Below.refl _ _).alloc (Nat.le_refl _) _
        have hsz1 : (wr.alloc (.cells #[.int .i64 (k : Int)] 3)).heap.size = wr.heap.size + 1 := by simp
        have ht1 := ht.later hB1 (Nat.le_refl _)
        have hs1 := hs.later hB1 (Nat.le_refl _)
        have hp1 := hp.later hB1 (Nat.le_refl _)
        have hbel1 := bnext hbel ((Below.refl wr.heap.size wr).alloc (Nat.le_refl _) (.cells #[.int .i64 (k : Int)] 3))
        have HX := hide (And.intro hA (And.intro ht1 (And.intro hs1 (And.intro hp1 (And.intro hbel1 hsz1)))))
        have hlen1 : Hid (L.length + 1 ≤ maxLen ∧ (L.length + 1) * 40 ≤ 140737488355328) := by show _ ∧ _; unfold maxLen; omega
        clear hA hB1 ht1 hs1 hp1 hbel1 ht hs hp hbel hsz1
        go_wp2_with (at_builtin; refine wpList_append_own _ rfl _ _ 50 rfl (w.heap.size + 1) 52 j0 (.agg #[.int .i64 0, .int .i64 0, .slice none 0 0]) 3 40 Try.underlying50 hj hy0 hy1 hy2 rfl (by decide) _ _ _ rfl (World.ownsRow.alloc (unhide HX).2.1 _) ⟨wr.heap.size + 1, 0, none⟩ 1 1 [.int .i64 y, .int .i64 (k : Int), .slice (some ⟨wr.heap.size, 0, none⟩) 1 1] rfl rfl (three_new _ _ _ _ _ _ (unhide HX).2.2.2.2.2) (three_one _ _ _ _ _) (unhide hlen1).1 (unhide hlen1).2 (size_alloc_le (by rw [(unhide HX).2.2.2.2.2]; omega) _) ?_; intro v' x3 hown hgrow hnil; clear hnil)
        obtain ⟨hA, ht1, hs1, hp1, hbel1, hsz1⟩ := unhide HX
        have hAl : ∀ {B : Nat} {o : Obj}, B = wr.heap.size + 1 → Below B (wr.alloc (.cells #[.int .i64 (k : Int)] 3)) ((wr.alloc (.cells #[.int .i64 (k : Int)] 3)).alloc o) := fun {B} {o} e => (Below.refl _ _).alloc (by rw [hsz1]; omega) _
        have ht2 : Trow 52 ((wr.alloc (.cells #[.int .i64 (k : Int)] 3)).alloc (.cells #[.int .i64 y, .int .i64 (k : Int), .slice (some ⟨wr.heap.size, 0, none⟩) 1 1] 52)) (w.heap.size + 1) u4 L := World.ownsRow.alloc ht1 _
        have hs3 := (hs1.later (hAl rfl) (by rw [hsz1]; exact Nat.le_refl _)).grown ht2 (by decide) hgrow
        have hA3 := ints_grown (hA.later (hAl rfl) (by rw [hsz1]; exact Nat.le_refl _)) ht2 (by decide) hgrow
        have hp3 := ints_grown (hp1.later (hAl rfl) (by rw [hsz1]; exact Nat.le_refl _)) ht2 (by decide) hgrow
        have hb3 : Below w.heap.size w x3 := grown_step (v := u4) hgrow ht1 (by omega) (by rw [hsz1]; omega) hbel1
        have ht3 := trow_snoc ⟨y, (k : Int), [(k : Int)], .slice (some ⟨wr.heap.size, 0, none⟩) 1 1⟩ hown
        have hs4 := hs3.snoc (g := ⟨y, (k : Int), [(k : Int)], .slice (some ⟨wr.heap.size, 0, none⟩) 1 1⟩) hA3
        clear hown hgrow HX hA ht1 hs1 hp1 hbel1 hAl ht2 hs3 hA3
        go_wp2
        go_roundw
        case rel => exact ⟨k + 1, L ++ [⟨y, (k : Int), [(k : Int)], .slice (some ⟨wr.heap.size, 0, none⟩) 1 1⟩], by omega, by go_num, by rw [unhide hst, List.map_append, unhide HL]; rfl, ht3, hs4, hp3, hb3⟩
        case measure => simp [intOf]; omega
      · have hst := hide (seed_no hy)
        generalize l.getD k 0 = y at *
        go_wp2
        go_roundw
        case rel => exact ⟨k + 1, L, by omega, by go_num, by rw [unhide hst]; exact unhide HL, ht, hs, hp, hbel⟩
        case measure => simp [intOf]; omega
    · obtain rfl : k = n := by omega
      have hseed : Hid (L.map bare = seed l l.length) := by show L.map bare = seed l l.length; rw [unhide HN]; exact unhide HL
      have hU : Hid (L.length = (seed l l.length).length) := by show L.length = (seed l l.length).length; rw [← unhide hseed, List.length_map]
      have hUb : L.length ≤ 300 := by
        have h2 := (seed_tot l 100000 (by omega) (fun i hi => (unhide HC i hi).2) l.length (Nat.le_refl _)).2.2
        have := unhide hU
        have := unhide HM
        have := unhide HN
        omega
      have hwf := hide (seed_wf l l.length (Nat.le_refl _))
      obtain ⟨va, vc, rfl⟩ := ht.form
      clear h
      by_cases hone : L.length = 1
      · obtain ⟨g, rfl⟩ := ht.somes (by omega)
        obtain ⟨_, c1, _, _, _⟩ := ht.at rfl 0 (by omega)
        have hm0 := unhide hwf ((seed l l.length).getD 0 g0) (getD_mem _ 0 (by have := unhide hU; omega))
        have hf0 : (L.getD 0 g0).fst = ((seed l l.length).getD 0 g0).fst := by rw [← unhide hseed, getD_bare]; rfl
        obtain ⟨_, f0, f1, _, _⟩ := hm0
        rw [← hf0, unhide HN] at f1
        rw [← hf0] at f0
        have hres : Hid (hufL l = (List.replicate l.length 0).set (L.getD 0 g0).fst.toNat 1) := by
          show hufL l = _
          unfold hufL
          rw [if_pos (by rw [← unhide hU]; exact hone), hf0]
        generalize (L.getD 0 g0).fst = f at *
        obtain ⟨q, rfl⟩ := Int.eq_ofNat_of_zero_le f0
        rw [Int.toNat_natCast] at hres
        have hlenr : (List.replicate l.length (0 : Int)).length = k := by simp [unhide HN]
        obtain ⟨d0, e0, _, _⟩ := hp.at (j := q) hlenr (by omega)
        have hput := hp.put (j := q) hlenr 1
        have hbel2 := below_set hbel (b := w.heap.size) (o := q) (Nat.le_refl _) (.int .i64 1)
        rw [← unhide hres] at hput
        have HP := hide hput
        have HB := hide hbel2
        have c1' : wr.cell? ⟨g, 1, none⟩ = some (.int .i64 (q : Int)) := by simpa using c1
        clear hput hbel2 hlenr hres hbel hp hs ht c1 hf0
        rw [hone]
        generalize (List.replicate l.length (0 : Int)).getD q 0 = y at *
        go_wp2_with fail
        go_loopw [4, 6, 7, 8, 9, 10, 11] (fun v _ _ _ _ _ _ wq => v = .slice (some ⟨g, 0, none⟩) 1 vc ∧ wq = wr.setCell ⟨w.heap.size, q, none⟩ (.int .i64 1)) (fun _ _ _ _ _ _ _ _ => 0)
        case atStart => exact ⟨rfl, rfl⟩
        case round =>
          obtain ⟨rfl, hw⟩ := hrel
          subst hw
          go_wp2
          go_ret
          exact ⟨rfl, unhide HP, unhide HB⟩
      · have hne : ((L.length : Int) == 1) = false := by rw [beq_eq_false_iff_ne]; omega
        have hfin : Hid (∀ k, (seed l l.length).length - k ≤ 1 → (k < (seed l l.length).length ∨ k = 0) → hufL l = (hufI l k).2) := by
          intro k h1 h2
          unfold hufL
          have := unhide hU
          rw [if_neg (by omega)]
          congr 2; omega
        have HUB := hide hUb
        clear hUb
        have hp' : IOwn wr w.heap.size (.slice (some ⟨w.heap.size, 0, none⟩) k k) (hufI l 0).2 := hp
        have hL0 : L.map bare = (hufI l 0).1 := unhide hseed
        generalize hUe : (seed l l.length).length = U at *
        have HUE := hide hUe
        clear hUe hwf hseed HL hp
        go_wp2_with fail
        go_loopw [4, 6, 7, 8, 9, 10, 11] (fun v _ _ _ _ _ _ wq => ∃ (j : Nat) (M : List Grp), (j < U ∨ j = 0) ∧ M.map bare = (hufI l j).1 ∧ Trow 52 wq (w.heap.size + 1) v M ∧ Syms wq (w.heap.size + 1) M ∧ IOwn wq w.heap.size (.slice (some ⟨w.heap.size, 0, none⟩) k k) (hufI l j).2 ∧ Below w.heap.size w wq) (fun v _ _ _ _ _ _ _ => sliceLen v)
        case atStart => exact ⟨0, L, .inr rfl, hL0, ht, hs, hp', hbel⟩
        case round =>
          obtain ⟨j, M, hj, hM, htm, hsm, hpm, hbm⟩ := hrel
          clear ht hs hp' hbel hL0 hne hone
          have hInv := hufI_inv l j (by rw [unhide HUE]; exact hj)
          rw [← hM, unhide HUE] at hInv
          obtain ⟨iw, ic, is, il⟩ := hInv
          rw [List.length_map] at il
          obtain ⟨ma, mc, rfl⟩ := htm.form
          have HM2 := hide hM
          have HJ := hide hj
          clear hM hj
          by_cases hgo : 1 < M.length
          · have hgoI : (1 : Int) < (M.length : Int) := by omega
            have hUB := unhide HUB
            have hM300 : M.length ≤ 300 := by have := unhide hU; omega
            have hMI : (M.length : Int) ≤ 300 := by omega
            have hw0 : w.heap.size + 1 ≤ wr.heap.size := hpm.below.2
            have hq1 := least_lt M (by omega)
            have iw' : WFL k M := by
              intro g hg
              have h1 := iw (bare g) (List.mem_map_of_mem hg)
              rw [unhide HN] at h1
              exact h1
            have hwa := iw' _ (first_mem M (by omega))
            have hrl := rest_len M (by omega)
            have hwb := iw' _ (rest_sub M _ (first_mem (restG M) (by omega)))
            have hq2 := least_lt (restG M) (by omega)
            have htot : totC M ≤ 30000000 := by
              have h1 := (seed_tot l 100000 (by omega) (fun i hi => (unhide HC i hi).2) l.length (Nat.le_refl _)).1
              have h2 : totC (M.map bare) = totC M := by simp [totC, Function.comp_def, bare]
              rw [h2] at ic
              have := unhide HN
              have h3 : (100000 : Int) * (l.length : Int) ≤ 100000 * 300 := Int.mul_le_mul_of_nonneg_left (by omega) (by omega)
              omega
            have htwo := two_cnt iw' hgo
            have HLe := hide (l3Least_any ma mc M.length (w.heap.size + 1) M wr rfl htm (by omega) hM300)
            obtain ⟨g, rfl⟩ := htm.somes (by omega)
            have hfm : Hid (firstG M = M.getD (least M) g0) := rfl
            have hrm : Hid (restG M = M.eraseIdx (least M)) := rfl
            have HQ := hide (And.intro htm (And.intro hsm (And.intro hpm hbm)))
            have HFA := hide (And.intro hwa (And.intro hrl (And.intro hwb (And.intro hq2 (And.intro htot htwo)))))
            have HGO := hide (And.intro hgo (And.intro hM300 (And.intro hq1 (And.intro hw0 il))))
            have HIW := hide iw'
            clear htm hsm hpm hbm ic is iw hwa hrl hwb hq2 htot htwo hgo hM300 hq1 hw0 il iw' hUB
            go_wp2_with fail
            refine (unhide HLe).mono ?_
            rintro e x1 ⟨rfl, hb1⟩
            obtain ⟨htm, hsm, hpm, hbm⟩ := unhide HQ
            obtain ⟨hgo, hM300, hq1, hw0, il⟩ := unhide HGO
            obtain ⟨hwa, hrl, hwb, hq2, htot, htwo⟩ := unhide HFA
            have ht1 := htm.later hb1 (Nat.le_refl _)
            have hs1 := hsm.later hb1 (Nat.le_refl _)
            have hp1 := hpm.later hb1 (Nat.le_refl _)
            have hB1 := bnext hbm hb1
            have hz1' := hb1.size
            obtain ⟨c0, c1, c2, _, hgx⟩ := ht1.at rfl (least M) hq1
            rw [← unhide hfm] at c0 c1 c2
            have hvA := hs1 _ (first_mem M (by omega))
            obtain ⟨aa, ac, hav⟩ := hvA.form
            obtain ⟨ga, hga⟩ := (hav ▸ hvA).somes hwa.2.2.2.2
            rw [hga] at hav
            rw [hav] at c2 hvA
            have hqI : ((least M : Nat) : Int) < (M.length : Int) := by omega
            have HLs := hide (l3Less_any (some ⟨g, 0, none⟩) mc M.length (w.heap.size + 1) (w.heap.size + 1) (least M) M (x1.alloc (.cells #[.int .i64 (firstG M).cnt, .int .i64 (firstG M).fst, .slice (some ⟨ga, 0, none⟩) (firstG M).syms.length ac] 52)) rfl (ht1.later ((Below.refl x1.heap.size x1).alloc (Nat.le_refl _) _) (Nat.le_refl _)) (hs1.later ((Below.refl x1.heap.size x1).alloc (Nat.le_refl _) _) (Nat.le_refl _)) hq1 hM300)
            have HQ1 := hide (And.intro ht1 (And.intro hs1 (And.intro hp1 (And.intro hB1 hvA))))
            have hgxI := hide hgx
            have hq1w : w.heap.size + 1 ≤ x1.heap.size := hp1.below.2
            clear htm hsm hpm hbm HQ HLe ht1 hs1 hp1 hB1 hvA hav hwa hrl hwb hq2 htot htwo hgo hM300 hq1 hw0 il hga hgx hz1'
            generalize hA0 : firstG M = A at *
            have HA0 := hide hA0
            clear hA0
            go_wp2_with fail
            refine (unhide HLs).mono ?_
            rintro e x2 ⟨⟨v1, rfl, ht2⟩, hb2⟩
            obtain ⟨ht1, hs1, hp1, hB1, hvA⟩ := unhide HQ1
            obtain ⟨hgo, hM300, hq1, hw0, il⟩ := unhide HGO
            obtain ⟨hwa, hrl, hwb, hq2, htot, htwo⟩ := unhide HFA
            rw [← unhide hrm] at ht2
            have hba : Below x1.heap.size x1 (x1.alloc (.cells #[.int .i64 A.cnt, .int .i64 A.fst, .slice (some ⟨ga, 0, none⟩) A.syms.length ac] 52)) := (Below.refl _ _).alloc (Nat.le_refl _) _
            have hb12 := bnext hba hb2
            have hA2 := (three_of x1 (.int .i64 A.cnt) (.int .i64 A.fst) (.slice (some ⟨ga, 0, none⟩) A.syms.length ac) 52).later hb2
            have hs2 := hs1.later hb12 (Nat.le_refl _)
            have hp2 := hp1.later hb12 (Nat.le_refl _)
            have hvA2 := hvA.later hb12 (Nat.le_refl _)
            have hB2 := bnext hB1 hb12
            have ht2' := ht2.mono (show w.heap.size + 1 ≤ _ by have := hp1.below.2; have := hba.size; omega)
            obtain ⟨ra, rc, hrv⟩ := ht2'.form
            subst hrv
            obtain ⟨g2, hg2⟩ := ht2'.somes (by omega)
            subst hg2
            have hlr : (restG M).length = M.length - 1 := hrl
            have HLe2 := hide (l3Least_any (some ⟨g2, 0, none⟩) rc (restG M).length (w.heap.size + 1) (restG M) x2 rfl ht2' (by omega) (by omega))
            have hrI : ((restG M).length : Int) ≤ 300 := by omega
            have HQ2 := hide (And.intro ht2' (And.intro hs2 (And.intro hp2 (And.intro hB2 (And.intro hvA2 hA2)))))
            clear ht1 hs1 hp1 hB1 hvA HQ1 HLs hba hb12 hA2 hs2 hp2 hvA2 hB2 ht2' ht2 hb2 c0 c1 c2 hqI hwa hrl hwb hq2 htot htwo hgo hM300 hq1 hw0 il hlr
            go_wp2_with fail
            refine (unhide HLe2).mono ?_
            rintro e x3 ⟨rfl, hb3⟩
            obtain ⟨ht2, hs2, hp2, hB2, hvA2, hA2⟩ := unhide HQ2
            obtain ⟨hgo, hM300, hq1, hw0, il⟩ := unhide HGO
            obtain ⟨hwa, hrl, hwb, hq2, htot, htwo⟩ := unhide HFA
            have ht3 := ht2.later hb3 (Nat.le_refl _)
            have hs3 := hs2.later hb3 (Nat.le_refl _)
            have hp3 := hp2.later hb3 (Nat.le_refl _)
            have hvA3 := hvA2.later hb3 (Nat.le_refl _)
            have hA3 := hA2.later hb3
            have hB3 := bnext hB2 hb3
            have hfm2 : firstG (restG M) = (restG M).getD (least (restG M)) g0 := rfl
            obtain ⟨c0, c1, c2, _, hgx⟩ := ht3.at rfl (least (restG M)) hq2
            rw [← hfm2] at c0 c1 c2
            have hvB := hs3 _ (rest_sub M _ (first_mem (restG M) (by omega)))
            obtain ⟨bb, bc, hbv⟩ := hvB.form
            obtain ⟨gb, hgb⟩ := (hbv ▸ hvB).somes hwb.2.2.2.2
            rw [hgb] at hbv
            rw [hbv] at c2 hvB
            have hqI : ((least (restG M) : Nat) : Int) < ((restG M).length : Int) := by omega
            have HLs := hide (l3Less_any (some ⟨g2, 0, none⟩) rc (restG M).length (w.heap.size + 1) (w.heap.size + 1) (least (restG M)) (restG M) (x3.alloc (.cells #[.int .i64 (firstG (restG M)).cnt, .int .i64 (firstG (restG M)).fst, .slice (some ⟨gb, 0, none⟩) (firstG (restG M)).syms.length bc] 52)) rfl (ht3.later ((Below.refl x3.heap.size x3).alloc (Nat.le_refl _) _) (Nat.le_refl _)) ((hs3.sub (rest_sub M)).later ((Below.refl x3.heap.size x3).alloc (Nat.le_refl _) _) (Nat.le_refl _)) hq2 (by omega))
            have HQ3 := hide (And.intro ht3 (And.intro hs3 (And.intro hp3 (And.intro hB3 (And.intro hvA3 (And.intro hA3 hvB))))))
            clear ht2 hs2 hp2 hB2 hvA2 hA2 HQ2 HLe2 ht3 hs3 hp3 hvA3 hA3 hB3 hvB hbv hb3 hwa hrl hwb hq2 htot htwo hgo hM300 hq1 hw0 il hgb hgx hfm2
            generalize hB0 : firstG (restG M) = Bg at *
            have HB0 := hide hB0
            clear hB0
            go_wp2_with fail
            refine (unhide HLs).mono ?_
            rintro e x4 ⟨⟨v2, rfl, ht4⟩, hb4⟩
            obtain ⟨ht3, hs3, hp3, hB3, hvA3, hA3, hvB⟩ := unhide HQ3
            obtain ⟨hgo, hM300, hq1, hw0, il⟩ := unhide HGO
            obtain ⟨hwa, hrl, hwb, hq2, htot, htwo⟩ := unhide HFA
            have hrm2 : (restG M).eraseIdx (least (restG M)) = restG (restG M) := rfl
            rw [hrm2] at ht4
            have hba : Below x3.heap.size x3 (x3.alloc (.cells #[.int .i64 Bg.cnt, .int .i64 Bg.fst, .slice (some ⟨gb, 0, none⟩) Bg.syms.length bc] 52)) := (Below.refl _ _).alloc (Nat.le_refl _) _
            have hb34 := bnext hba hb4
            have hBb4 := (three_of x3 (.int .i64 Bg.cnt) (.int .i64 Bg.fst) (.slice (some ⟨gb, 0, none⟩) Bg.syms.length bc) 52).later hb4
            have hA4 := hA3.later hb34
            have hs4 := hs3.later hb34 (Nat.le_refl _)
            have hp4 := hp3.later hb34 (Nat.le_refl _)
            have hvA4 := hvA3.later hb34 (Nat.le_refl _)
            have hvB4 := hvB.later hb34 (Nat.le_refl _)
            have hB4 := bnext hB3 hb34
            have hw4 : w.heap.size + 1 ≤ x4.heap.size := hp4.below.2
            have hq3w : w.heap.size + 1 ≤ x3.heap.size := hp3.below.2
            have ht4' := ht4.mono (show w.heap.size + 1 ≤ _ by have := hp3.below.2; have := hba.size; omega)
            have hrl2 := rest_len (restG M) (by omega)
            obtain ⟨ra, rc', hrv⟩ := ht4'.form
            subst hrv
            have hcA : Hid ((A.syms.map (Value.int .i64)).length = A.syms.length * 1) := by show _ = _; simp
            have hcB : Hid ((Bg.syms.map (Value.int .i64)).length = Bg.syms.length * 1) := by show _ = _; simp
            have hlA : A.syms.length + Bg.syms.length ≤ 300 := by
              have h1 := htwo.2
              have h2 : (symsG M).length = A.syms.length + Bg.syms.length := by
                unfold symsG
                rw [List.length_append, unhide HA0, unhide HB0]
              have h3 := (hufI_inv l j (by rw [unhide HUE]; exact unhide HJ)).2.2.1
              have h4 : totS (M.map bare) = totS M := by simp [totS, Function.comp_def, bare]
              rw [← unhide HM2, h4] at h3
              have h5 := (seed_tot l 100000 (by omega) (fun i hi => (unhide HC i hi).2) l.length (Nat.le_refl _)).2.1
              have := unhide HN
              have := unhide HM
              omega
            have HSA : Hid (∀ W, Below x4.heap.size x4 W → ∀ j u, (A.syms.map (Value.int .i64))[j]? = some u → W.cell? ((⟨ga, 0, none⟩ : Addr).add j) = some u) := fun W hW => World.ownsRow.cells (hvA4.later hW (Nat.le_refl _)) rfl
            have HSB : Hid (∀ W, Below x4.heap.size x4 W → ∀ j u, (Bg.syms.map (Value.int .i64))[j]? = some u → W.cell? ((⟨gb, 0, none⟩ : Addr).add j) = some u) := fun W hW => World.ownsRow.cells (hvB4.later hW (Nat.le_refl _)) rfl
            have HCC : ∀ W, Below x4.heap.size x4 W → W.cell? ⟨x1.heap.size, 2, none⟩ = some (.slice (some ⟨ga, 0, none⟩) A.syms.length ac) ∧ W.cell? ⟨x3.heap.size, 2, none⟩ = some (.slice (some ⟨gb, 0, none⟩) Bg.syms.length bc) := fun W hW => ⟨(hA4.later hW).2.2.1, (hBb4.later hW).2.2.1⟩
            have hR0 : World.ownsRow (x4.alloc (.cells #[] 3)).drew x4.heap.size 3 1 (.slice (some ⟨x4.heap.size, 0, none⟩) 0 0) 0 [] := World.ownsRow_lit x4 #[] 0 (Nat.le_refl _) (by unfold maxLen; omega) rfl
            have hBd : Below x4.heap.size x4 (x4.alloc (.cells #[] 3)).drew := ((Below.refl _ _).alloc (Nat.le_refl _) _).drew
            have hb1 : Hid (0 + A.syms.length ≤ maxLen ∧ (0 + A.syms.length) * 8 ≤ 140737488355328) := by show _ ∧ _; unfold maxLen; omega
            have hb2 : Hid (0 + A.syms.length + Bg.syms.length ≤ maxLen ∧ (0 + A.syms.length + Bg.syms.length) * 8 ≤ 140737488355328) := by show _ ∧ _; unfold maxLen; omega
            obtain ⟨a0, a1, a2, _, _, _, abl⟩ := hA4
            obtain ⟨b0, b1, b2, _, _, _, bbl⟩ := hBb4
            have HNE1 : x1.heap.size ≠ w.heap.size := by have := hq1w; omega
            have HNE3 : x3.heap.size ≠ w.heap.size := by have := hq3w; omega
            have hB4d : Below x4.heap.size x4 x4.drew := (Below.refl _ _).drew
            have hmin : Hid ((joinG A Bg).fst = if Bg.fst < A.fst then Bg.fst else A.fst) := rfl
            have HLA := hide hlA
            have HTT := hide (And.intro htot (And.intro htwo.1 (And.intro hwa hwb)))
            have HRL := hide (And.intro hrl2 (And.intro hrl (And.intro hgo (And.intro hM300 il))))
            have HQ4 := hide (And.intro ht4' (And.intro hs4 (And.intro hp4 hB4)))
            clear ht3 hs3 hp3 hB3 hvA3 hA3 hvB HQ3 HLs hba hb34 hs4 hp4 hvA4 hvB4 hB4 ht4' ht4 hb4 c0 c1 c2 hqI hwa hrl hwb hq2 htot htwo hgo hM300 hq1 hw0 il hrl2 hlA hrm2
            have hfst : ∃ F : Int, (joinG A Bg).fst = F := ⟨_, rfl⟩
            obtain ⟨F, hF⟩ := hfst
            have HF := hide hF
            clear hF
            by_cases hlt2 : Bg.fst < A.fst
            · have hFe : Hid (Bg.fst = F) := by have := unhide hmin; rw [unhide HF, if_pos hlt2] at this; exact this.symm
              go_wp2_with fail
              go_region_held3 (fun W => W.cell? ⟨x1.heap.size, 2, none⟩ = some (.slice (some ⟨ga, 0, none⟩) A.syms.length ac) ∧ W.cell? ⟨x3.heap.size, 2, none⟩ = some (.slice (some ⟨gb, 0, none⟩) Bg.syms.length bc)) (first | exact HCC _ hB4d | assumption | exact HCC _ hBd) (first
                | (refine step_append_own rfl (.tmp 76) (.tmp 78) 22 rfl x4.heap.size 3 i0 (.int .i64 0) 1 8 Try.underlying22 hi hz0 hz1 hz2 rfl (Nat.zero_lt_succ 0) (.slice (some ⟨x4.heap.size, 0, none⟩) 0 0) _ _ rfl hR0 ⟨ga, 0, none⟩ A.syms.length ac (A.syms.map (Value.int .i64)) rfl (unhide hcA) (unhide HSA _ hBd) (ints_oneCell .i64 _) (unhide hb1).1 (unhide hb1).2 hBd.size ?_; intro v5 x5 hown5 hgrow5 hnil5; clear hnil5; have hB5 : Below x4.heap.size x4 x5 := hBd.grown hgrow5 hBd.size (fun j hj => (World.ownsRow.lt hR0 j hj).1); have hC5 := HCC _ hB5)
                | (refine step_append_own rfl (.tmp 79) (.tmp 81) 22 rfl x4.heap.size 3 i0 (.int .i64 0) 1 8 Try.underlying22 hi hz0 hz1 hz2 rfl (Nat.zero_lt_succ 0) v5 _ _ rfl hown5 ⟨gb, 0, none⟩ Bg.syms.length bc (Bg.syms.map (Value.int .i64)) rfl (unhide hcB) (unhide HSB _ hB5) (ints_oneCell .i64 _) (unhide hb2).1 (unhide hb2).2 hB5.size ?_; intro v6 x6 hown6 hgrow6 hnil6; clear hnil6; have hB6 : Below x4.heap.size x4 x6 := hB5.grown hgrow6 hB5.size (fun j hj => (World.ownsRow.lt hown5 j hj).1); have hC6 := HCC _ hB6))
              obtain ⟨ht4, hs4, hp4, hB4⟩ := unhide HQ4
              have hw4 : w.heap.size + 1 ≤ x4.heap.size := hp4.below.2
              have hsy : IOwn x6 x4.heap.size v6 (A.syms ++ Bg.syms) := by
                show World.ownsRow _ _ _ _ _ (A.syms ++ Bg.syms).length ((A.syms ++ Bg.syms).map (Value.int .i64))
                rw [List.length_append, List.map_append]
                simpa using hown6
              have hSl : Hid ((A.syms ++ Bg.syms).length ≤ 300 ∧ 0 < (A.syms ++ Bg.syms).length) := by
                show _ ∧ _
                rw [List.length_append]
                have := unhide HLA
                have := (unhide HTT).2.2.1.2.2.2.2
                omega
              have hSw : Hid (∀ x ∈ A.syms ++ Bg.syms, 0 ≤ x ∧ x < (k : Int)) := by
                intro x hx
                simp only [List.mem_append] at hx
                rcases hx with hx | hx
                · exact (unhide HTT).2.2.1.2.2.2.1 x hx
                · exact (unhide HTT).2.2.2.2.2.2.1 x hx
              have hSe : Hid (symsG M = A.syms ++ Bg.syms) := by
                show symsG M = _
                unfold symsG
                rw [unhide HA0, unhide HB0]
              have hJs : Hid ((joinG A Bg).syms = A.syms ++ Bg.syms) := rfl
              generalize A.syms ++ Bg.syms = S at *
              obtain ⟨sv, sc, hvv⟩ := hsy.form
              obtain ⟨gs, hgs⟩ := (hvv ▸ hsy).somes (unhide hSl).2
              rw [hgs] at hvv
              rw [hvv]
              rw [hvv] at hsy
              have ht6 := ht4.later hB6 (Nat.le_refl _)
              have hs6 := hs4.later hB6 (Nat.le_refl _)
              have hp6 := hp4.later hB6 (Nat.le_refl _)
              have hBB6 := bnext hB4 hB6
              have hgsb := hsy.below
              have a0' := (hB6.cell (p := ⟨x1.heap.size, 0, none⟩) abl).trans a0
              have b0' := (hB6.cell (p := ⟨x3.heap.size, 0, none⟩) bbl).trans b0
              have hmx := hide (hufI_max l (fun i hi => (unhide HC i hi).2) (by rw [unhide HN]; exact unhide HM) j (by rw [unhide HUE]; exact unhide HJ))
              have hjb : Hid ((j : Int) ≤ 300) := by show (j : Int) ≤ 300; have := unhide HJ; have := unhide hU; have := unhide HUB; omega
              have hx13 : x1.heap.size ≠ w.heap.size ∧ x3.heap.size ≠ w.heap.size := ⟨HNE1, HNE3⟩
              have HSY := hide hsy
              have HT6 := hide ht6
              have HS6 := hide hs6
              have HX13 := hide hx13
              have HAB := hide (And.intro a0' b0')
              have HGS := hide hgsb
              have sI : (S.length : Int) ≤ 300 := by have := (unhide hSl).1; omega
              clear hown5 hown6 hgrow5 hgrow6 hC5 hC6 hB5 ht4 hs4 hp4 hB4 ht6 hs6 hsy HCC HSA HSB hR0 hBd hB4d hvv hgs a0 a1 a2 b0 b1 b2 hx13 a0' b0' hgsb hcA hcB
              go_wp2_with fail
              go_loopw [11] (fun i wq => ∃ t : Nat, t ≤ S.length ∧ i = .int .i64 t ∧ IOwn wq w.heap.size (.slice (some ⟨w.heap.size, 0, none⟩) k k) (bump (hufI l j).2 (S.take t)) ∧ Touch (some ⟨w.heap.size, 0, none⟩) x6 wq ∧ Below w.heap.size w wq) (fun i _ => S.length - (intOf i).toNat)
              case atStart => exact ⟨0, Nat.zero_le _, rfl, hp6, Touch.refl _ _, hBB6⟩
              case round =>
                obtain ⟨t, ht, rfl, hpt, htch, hbt⟩ := hrel
                clear hp6 hBB6
                have hln : Hid ((bump (hufI l j).2 (S.take t)).length = k) := by show (bump (hufI l j).2 (S.take t)).length = k; rw [bump_len, hufI_len, unhide HN]
                have htk : Hid (t ≤ S.length) := ht
                clear ht
                by_cases hlt3 : t < S.length
                · have hsyt := (unhide HSY).touch htch (by intro g e; simp only [Option.some.injEq, Addr.mk.injEq, and_true] at e; have := hw4; omega)
                  obtain ⟨c0, _, _, _⟩ := hsyt.at rfl hlt3
                  have hx := unhide hSw (S.getD t 0) (by simp [List.getD, hlt3])
                  have hbt1 := hide (bump_take (hufI l j).2 S t hlt3)
                  have hmx2 := hide (bump_max (unhide hmx) (S.take t))
                  obtain ⟨q, hq⟩ := Int.eq_ofNat_of_zero_le hx.1
                  rw [hq] at c0 hbt1
                  have hqk : q < k := by omega
                  obtain ⟨d0, f0, _, _⟩ := hpt.at (unhide hln) hqk
                  have hyb := unhide hmx2 q (by rw [unhide hln]; exact hqk)
                  have hput := hpt.put (j := q) (unhide hln) ((bump (hufI l j).2 (S.take t)).getD q 0 + 1)
                  have hst : Hid (bump (hufI l j).2 (S.take (t + 1)) = (bump (hufI l j).2 (S.take t)).set q ((bump (hufI l j).2 (S.take t)).getD q 0 + 1)) := by
                    show bump (hufI l j).2 (S.take (t + 1)) = _
                    rw [unhide hbt1]
                    unfold bump1
                    rw [Int.toNat_natCast]
                  have hyI : (bump (hufI l j).2 (S.take t)).getD q 0 ≤ 100000 := by
                    have h1 := hyb.2
                    have h2 : (S.take t).length ≤ 300 := by rw [List.length_take]; have := (unhide hSl).1; omega
                    have := unhide hjb
                    omega
                  have hy0 := hyb.1
                  have hbt2 := below_set hbt (b := w.heap.size) (o := q) (Nat.le_refl _) (.int .i64 ((bump (hufI l j).2 (S.take t)).getD q 0 + 1))
                  have htch2 := htch.set (o := q) rfl (.int .i64 ((bump (hufI l j).2 (S.take t)).getD q 0 + 1))
                  generalize (bump (hufI l j).2 (S.take t)).getD q 0 = y at *
                  have HPUT := hide (And.intro hput (And.intro hbt2 htch2))
                  have hqI : (q : Int) < (k : Int) := by omega
                  have htI : (t : Int) < (S.length : Int) := by omega
                  clear hput hbt2 htch2 hpt hsyt hbt htch hyb hx hq hqk
                  go_wp2_with fail
                  go_region
                  obtain ⟨hput, hbt2, htch2⟩ := unhide HPUT
                  rw [← unhide hst] at hput
                  go_wp2
                  go_roundw
                  case rel => exact ⟨t + 1, by have := unhide htk; omega, by go_num, hput, htch2, hbt2.drew⟩
                  case measure => simp [intOf]; omega
                · have htS : S.take t = S := List.take_of_length_le (by omega)
                  rw [htS] at hpt
                  have htq : Trow 52 wr (w.heap.size + 1) (.slice ra (restG (restG M)).length rc') (restG (restG M)) := ownsRow_touch (unhide HT6) htch (touch_lt _ _ (Nat.lt_succ_self _))
                  have hsq : Syms wr (w.heap.size + 1) (restG (restG M)) := fun g hg => (unhide HS6 g (rest_sub M _ (rest_sub _ _ hg))).touch htch (touch_lt _ _ (Nat.lt_succ_self _))
                  have hvq : IOwn wr (w.heap.size + 1) (.slice (some ⟨gs, 0, none⟩) S.length sc) S := ((unhide HSY).touch htch (touch_lt _ _ (by omega))).mono hw4
                  have a0q := (touch_cell (p := ⟨x1.heap.size, 0, none⟩) htch (unhide HX13).1).trans (unhide HAB).1
                  have b0q := (touch_cell (p := ⟨x3.heap.size, 0, none⟩) htch (unhide HX13).2).trans (unhide HAB).2
                  have hnext : Hid ((hufI l (j + 1)).2 = bump (hufI l j).2 S) := by
                    show (hufI l (j + 1)).2 = _
                    simp only [hufI]
                    rw [← unhide HM2, syms_bare, unhide hSe]
                  have hnext1 : Hid ((hufI l (j + 1)).1 = (restG (restG M)).map bare ++ [joinG A Bg]) := by
                    show (hufI l (j + 1)).1 = _
                    simp only [hufI]
                    rw [← unhide HM2, step_bare, unhide HA0, unhide HB0]
                  rw [← unhide hnext] at hpt
                  obtain ⟨hrl2, hrl, hgo, hM300, il⟩ := unhide HRL
                  have hj1 : Hid (j + 1 < U) := by show j + 1 < U; omega
                  have hlr2 : Hid ((restG (restG M)).length + 1 < M.length + 0) := by show _ < _; omega
                  have hlen1 : Hid ((restG (restG M)).length + 1 ≤ maxLen ∧ ((restG (restG M)).length + 1) * 40 ≤ 140737488355328) := by show _ ∧ _; unfold maxLen; omega
                  have hcs := unhide HTT
                  have hcI : A.cnt + Bg.cnt ≤ 30000000 := by have := hcs.1; have := hcs.2.1; omega
                  have hcA0 := hcs.2.2.1.1
                  have hcB0 := hcs.2.2.2.1
                  have hbq : w.heap.size + 1 ≤ wr.heap.size := hpt.below.2
                  have HPQ := hide (And.intro htq (And.intro hsq (And.intro hvq (And.intro hpt hbt))))
                  have hgrp : Hid ((joinG A Bg).cnt = A.cnt + Bg.cnt) := rfl
                  clear hrl2 hrl hgo hM300 il htq hsq hvq hpt hbt htch htS hcs HTT HRL HT6 HS6 HSY HAB
                  rw [unhide hFe]
                  go_wp2_with (at_builtin; refine wpList_append_own _ rfl _ _ 50 rfl (w.heap.size + 1) 52 j0 (.agg #[.int .i64 0, .int .i64 0, .slice none 0 0]) 3 40 Try.underlying50 hj hy0 hy1 hy2 rfl (by decide) _ _ _ rfl (World.ownsRow.alloc (unhide HPQ).1 _) ⟨wr.heap.size, 0, none⟩ 1 1 [.int .i64 (A.cnt + Bg.cnt), .int .i64 F, .slice (some ⟨gs, 0, none⟩) S.length sc] rfl rfl (three_new _ _ _ _ _ _ rfl) (three_one _ _ _ _ _) (unhide hlen1).1 (unhide hlen1).2 (size_alloc_le hbq _) ?_; intro v7 x7 hown7 hgrow7 hnil7; clear hnil7)
                  obtain ⟨htq, hsq, hvq, hpt, hbt⟩ := unhide HPQ
                  have hal : Below wr.heap.size wr (wr.alloc (.cells #[.int .i64 (A.cnt + Bg.cnt), .int .i64 F, .slice (some ⟨gs, 0, none⟩) S.length sc] 52)) := (Below.refl _ _).alloc (Nat.le_refl _) _
                  have htq2 := htq.later hal (Nat.le_refl _)
                  have hs7 := (hsq.later hal (Nat.le_refl _)).grown htq2 (by decide) hgrow7
                  have hv7 := ints_grown (hvq.later hal (Nat.le_refl _)) htq2 (by decide) hgrow7
                  have hp7 := ints_grown (hpt.later hal (Nat.le_refl _)) htq2 (by decide) hgrow7
                  have hb7 : Below w.heap.size w x7 := grown_step (v := .slice ra (restG (restG M)).length rc') hgrow7 htq (by omega) (by omega) hbt
                  have ht7 := trow_snoc ⟨A.cnt + Bg.cnt, F, S, .slice (some ⟨gs, 0, none⟩) S.length sc⟩ hown7
                  have hs8 := hs7.snoc (g := ⟨A.cnt + Bg.cnt, F, S, .slice (some ⟨gs, 0, none⟩) S.length sc⟩) hv7
                  have hbr : Hid ((restG (restG M) ++ [(⟨A.cnt + Bg.cnt, F, S, .slice (some ⟨gs, 0, none⟩) S.length sc⟩ : Grp)]).map bare = (hufI l (j + 1)).1) := by
                    show _ = (hufI l (j + 1)).1
                    rw [unhide hnext1, List.map_append]
                    congr 1
                    have e : joinG A Bg = ⟨A.cnt + Bg.cnt, F, S, .slice none 0 0⟩ := by
                      rw [← unhide HF, ← unhide hJs]
                      rfl
                    rw [e]
                    rfl
                  have hsl7 : Hid (sliceLen v7 < M.length) := by
                    show sliceLen v7 < M.length
                    obtain ⟨fa, fc, hv⟩ := ht7.form
                    rw [hv]
                    have := unhide hlr2
                    simp only [sliceLen, List.length_append, List.length_singleton]
                    omega
                  clear hown7 hgrow7 hal htq2 hs7 hv7 htq hsq hvq hpt hbt HPQ
                  go_wp2
                  go_roundw
                  case rel => exact ⟨j + 1, _, .inl (unhide hj1), unhide hbr, ht7, hs8, hp7, hb7⟩
                  case measure => exact unhide hsl7
            · have hFe : Hid (A.fst = F) := by have := unhide hmin; rw [unhide HF, if_neg hlt2] at this; exact this.symm
              go_wp2_with fail
              go_region_held3 (fun W => W.cell? ⟨x1.heap.size, 2, none⟩ = some (.slice (some ⟨ga, 0, none⟩) A.syms.length ac) ∧ W.cell? ⟨x3.heap.size, 2, none⟩ = some (.slice (some ⟨gb, 0, none⟩) Bg.syms.length bc)) (first | exact HCC _ hB4d | assumption | exact HCC _ hBd) (first
                | (refine step_append_own rfl (.tmp 76) (.tmp 78) 22 rfl x4.heap.size 3 i0 (.int .i64 0) 1 8 Try.underlying22 hi hz0 hz1 hz2 rfl (Nat.zero_lt_succ 0) (.slice (some ⟨x4.heap.size, 0, none⟩) 0 0) _ _ rfl hR0 ⟨ga, 0, none⟩ A.syms.length ac (A.syms.map (Value.int .i64)) rfl (unhide hcA) (unhide HSA _ hBd) (ints_oneCell .i64 _) (unhide hb1).1 (unhide hb1).2 hBd.size ?_; intro v5 x5 hown5 hgrow5 hnil5; clear hnil5; have hB5 : Below x4.heap.size x4 x5 := hBd.grown hgrow5 hBd.size (fun j hj => (World.ownsRow.lt hR0 j hj).1); have hC5 := HCC _ hB5)
                | (refine step_append_own rfl (.tmp 79) (.tmp 81) 22 rfl x4.heap.size 3 i0 (.int .i64 0) 1 8 Try.underlying22 hi hz0 hz1 hz2 rfl (Nat.zero_lt_succ 0) v5 _ _ rfl hown5 ⟨gb, 0, none⟩ Bg.syms.length bc (Bg.syms.map (Value.int .i64)) rfl (unhide hcB) (unhide HSB _ hB5) (ints_oneCell .i64 _) (unhide hb2).1 (unhide hb2).2 hB5.size ?_; intro v6 x6 hown6 hgrow6 hnil6; clear hnil6; have hB6 : Below x4.heap.size x4 x6 := hB5.grown hgrow6 hB5.size (fun j hj => (World.ownsRow.lt hown5 j hj).1); have hC6 := HCC _ hB6))
              obtain ⟨ht4, hs4, hp4, hB4⟩ := unhide HQ4
              have hw4 : w.heap.size + 1 ≤ x4.heap.size := hp4.below.2
              have hsy : IOwn x6 x4.heap.size v6 (A.syms ++ Bg.syms) := by
                show World.ownsRow _ _ _ _ _ (A.syms ++ Bg.syms).length ((A.syms ++ Bg.syms).map (Value.int .i64))
                rw [List.length_append, List.map_append]
                simpa using hown6
              have hSl : Hid ((A.syms ++ Bg.syms).length ≤ 300 ∧ 0 < (A.syms ++ Bg.syms).length) := by
                show _ ∧ _
                rw [List.length_append]
                have := unhide HLA
                have := (unhide HTT).2.2.1.2.2.2.2
                omega
              have hSw : Hid (∀ x ∈ A.syms ++ Bg.syms, 0 ≤ x ∧ x < (k : Int)) := by
                intro x hx
                simp only [List.mem_append] at hx
                rcases hx with hx | hx
                · exact (unhide HTT).2.2.1.2.2.2.1 x hx
                · exact (unhide HTT).2.2.2.2.2.2.1 x hx
              have hSe : Hid (symsG M = A.syms ++ Bg.syms) := by
                show symsG M = _
                unfold symsG
                rw [unhide HA0, unhide HB0]
              have hJs : Hid ((joinG A Bg).syms = A.syms ++ Bg.syms) := rfl
              generalize A.syms ++ Bg.syms = S at *
              obtain ⟨sv, sc, hvv⟩ := hsy.form
              obtain ⟨gs, hgs⟩ := (hvv ▸ hsy).somes (unhide hSl).2
              rw [hgs] at hvv
              rw [hvv]
              rw [hvv] at hsy
              have ht6 := ht4.later hB6 (Nat.le_refl _)
              have hs6 := hs4.later hB6 (Nat.le_refl _)
              have hp6 := hp4.later hB6 (Nat.le_refl _)
              have hBB6 := bnext hB4 hB6
              have hgsb := hsy.below
              have a0' := (hB6.cell (p := ⟨x1.heap.size, 0, none⟩) abl).trans a0
              have b0' := (hB6.cell (p := ⟨x3.heap.size, 0, none⟩) bbl).trans b0
              have hmx := hide (hufI_max l (fun i hi => (unhide HC i hi).2) (by rw [unhide HN]; exact unhide HM) j (by rw [unhide HUE]; exact unhide HJ))
              have hjb : Hid ((j : Int) ≤ 300) := by show (j : Int) ≤ 300; have := unhide HJ; have := unhide hU; have := unhide HUB; omega
              have hx13 : x1.heap.size ≠ w.heap.size ∧ x3.heap.size ≠ w.heap.size := ⟨HNE1, HNE3⟩
              have HSY := hide hsy
              have HT6 := hide ht6
              have HS6 := hide hs6
              have HX13 := hide hx13
              have HAB := hide (And.intro a0' b0')
              have HGS := hide hgsb
              have sI : (S.length : Int) ≤ 300 := by have := (unhide hSl).1; omega
              clear hown5 hown6 hgrow5 hgrow6 hC5 hC6 hB5 ht4 hs4 hp4 hB4 ht6 hs6 hsy HCC HSA HSB hR0 hBd hB4d hvv hgs a0 a1 a2 b0 b1 b2 hx13 a0' b0' hgsb hcA hcB
              go_wp2_with fail
              go_loopw [11] (fun i wq => ∃ t : Nat, t ≤ S.length ∧ i = .int .i64 t ∧ IOwn wq w.heap.size (.slice (some ⟨w.heap.size, 0, none⟩) k k) (bump (hufI l j).2 (S.take t)) ∧ Touch (some ⟨w.heap.size, 0, none⟩) x6 wq ∧ Below w.heap.size w wq) (fun i _ => S.length - (intOf i).toNat)
              case atStart => exact ⟨0, Nat.zero_le _, rfl, hp6, Touch.refl _ _, hBB6⟩
              case round =>
                obtain ⟨t, ht, rfl, hpt, htch, hbt⟩ := hrel
                clear hp6 hBB6
                have hln : Hid ((bump (hufI l j).2 (S.take t)).length = k) := by show (bump (hufI l j).2 (S.take t)).length = k; rw [bump_len, hufI_len, unhide HN]
                have htk : Hid (t ≤ S.length) := ht
                clear ht
                by_cases hlt3 : t < S.length
                · have hsyt := (unhide HSY).touch htch (by intro g e; simp only [Option.some.injEq, Addr.mk.injEq, and_true] at e; have := hw4; omega)
                  obtain ⟨c0, _, _, _⟩ := hsyt.at rfl hlt3
                  have hx := unhide hSw (S.getD t 0) (by simp [List.getD, hlt3])
                  have hbt1 := hide (bump_take (hufI l j).2 S t hlt3)
                  have hmx2 := hide (bump_max (unhide hmx) (S.take t))
                  obtain ⟨q, hq⟩ := Int.eq_ofNat_of_zero_le hx.1
                  rw [hq] at c0 hbt1
                  have hqk : q < k := by omega
                  obtain ⟨d0, f0, _, _⟩ := hpt.at (unhide hln) hqk
                  have hyb := unhide hmx2 q (by rw [unhide hln]; exact hqk)
                  have hput := hpt.put (j := q) (unhide hln) ((bump (hufI l j).2 (S.take t)).getD q 0 + 1)
                  have hst : Hid (bump (hufI l j).2 (S.take (t + 1)) = (bump (hufI l j).2 (S.take t)).set q ((bump (hufI l j).2 (S.take t)).getD q 0 + 1)) := by
                    show bump (hufI l j).2 (S.take (t + 1)) = _
                    rw [unhide hbt1]
                    unfold bump1
                    rw [Int.toNat_natCast]
                  have hyI : (bump (hufI l j).2 (S.take t)).getD q 0 ≤ 100000 := by
                    have h1 := hyb.2
                    have h2 : (S.take t).length ≤ 300 := by rw [List.length_take]; have := (unhide hSl).1; omega
                    have := unhide hjb
                    omega
                  have hy0 := hyb.1
                  have hbt2 := below_set hbt (b := w.heap.size) (o := q) (Nat.le_refl _) (.int .i64 ((bump (hufI l j).2 (S.take t)).getD q 0 + 1))
                  have htch2 := htch.set (o := q) rfl (.int .i64 ((bump (hufI l j).2 (S.take t)).getD q 0 + 1))
                  generalize (bump (hufI l j).2 (S.take t)).getD q 0 = y at *
                  have HPUT := hide (And.intro hput (And.intro hbt2 htch2))
                  have hqI : (q : Int) < (k : Int) := by omega
                  have htI : (t : Int) < (S.length : Int) := by omega
                  clear hput hbt2 htch2 hpt hsyt hbt htch hyb hx hq hqk
                  go_wp2_with fail
                  go_region
                  obtain ⟨hput, hbt2, htch2⟩ := unhide HPUT
                  rw [← unhide hst] at hput
                  go_wp2
                  go_roundw
                  case rel => exact ⟨t + 1, by have := unhide htk; omega, by go_num, hput, htch2, hbt2.drew⟩
                  case measure => simp [intOf]; omega
                · have htS : S.take t = S := List.take_of_length_le (by omega)
                  rw [htS] at hpt
                  have htq : Trow 52 wr (w.heap.size + 1) (.slice ra (restG (restG M)).length rc') (restG (restG M)) := ownsRow_touch (unhide HT6) htch (touch_lt _ _ (Nat.lt_succ_self _))
                  have hsq : Syms wr (w.heap.size + 1) (restG (restG M)) := fun g hg => (unhide HS6 g (rest_sub M _ (rest_sub _ _ hg))).touch htch (touch_lt _ _ (Nat.lt_succ_self _))
                  have hvq : IOwn wr (w.heap.size + 1) (.slice (some ⟨gs, 0, none⟩) S.length sc) S := ((unhide HSY).touch htch (touch_lt _ _ (by omega))).mono hw4
                  have a0q := (touch_cell (p := ⟨x1.heap.size, 0, none⟩) htch (unhide HX13).1).trans (unhide HAB).1
                  have b0q := (touch_cell (p := ⟨x3.heap.size, 0, none⟩) htch (unhide HX13).2).trans (unhide HAB).2
                  have hnext : Hid ((hufI l (j + 1)).2 = bump (hufI l j).2 S) := by
                    show (hufI l (j + 1)).2 = _
                    simp only [hufI]
                    rw [← unhide HM2, syms_bare, unhide hSe]
                  have hnext1 : Hid ((hufI l (j + 1)).1 = (restG (restG M)).map bare ++ [joinG A Bg]) := by
                    show (hufI l (j + 1)).1 = _
                    simp only [hufI]
                    rw [← unhide HM2, step_bare, unhide HA0, unhide HB0]
                  rw [← unhide hnext] at hpt
                  obtain ⟨hrl2, hrl, hgo, hM300, il⟩ := unhide HRL
                  have hj1 : Hid (j + 1 < U) := by show j + 1 < U; omega
                  have hlr2 : Hid ((restG (restG M)).length + 1 < M.length + 0) := by show _ < _; omega
                  have hlen1 : Hid ((restG (restG M)).length + 1 ≤ maxLen ∧ ((restG (restG M)).length + 1) * 40 ≤ 140737488355328) := by show _ ∧ _; unfold maxLen; omega
                  have hcs := unhide HTT
                  have hcI : A.cnt + Bg.cnt ≤ 30000000 := by have := hcs.1; have := hcs.2.1; omega
                  have hcA0 := hcs.2.2.1.1
                  have hcB0 := hcs.2.2.2.1
                  have hbq : w.heap.size + 1 ≤ wr.heap.size := hpt.below.2
                  have HPQ := hide (And.intro htq (And.intro hsq (And.intro hvq (And.intro hpt hbt))))
                  have hgrp : Hid ((joinG A Bg).cnt = A.cnt + Bg.cnt) := rfl
                  clear hrl2 hrl hgo hM300 il htq hsq hvq hpt hbt htch htS hcs HTT HRL HT6 HS6 HSY HAB
                  rw [unhide hFe]
                  go_wp2_with (at_builtin; refine wpList_append_own _ rfl _ _ 50 rfl (w.heap.size + 1) 52 j0 (.agg #[.int .i64 0, .int .i64 0, .slice none 0 0]) 3 40 Try.underlying50 hj hy0 hy1 hy2 rfl (by decide) _ _ _ rfl (World.ownsRow.alloc (unhide HPQ).1 _) ⟨wr.heap.size, 0, none⟩ 1 1 [.int .i64 (A.cnt + Bg.cnt), .int .i64 F, .slice (some ⟨gs, 0, none⟩) S.length sc] rfl rfl (three_new _ _ _ _ _ _ rfl) (three_one _ _ _ _ _) (unhide hlen1).1 (unhide hlen1).2 (size_alloc_le hbq _) ?_; intro v7 x7 hown7 hgrow7 hnil7; clear hnil7)
                  obtain ⟨htq, hsq, hvq, hpt, hbt⟩ := unhide HPQ
                  have hal : Below wr.heap.size wr (wr.alloc (.cells #[.int .i64 (A.cnt + Bg.cnt), .int .i64 F, .slice (some ⟨gs, 0, none⟩) S.length sc] 52)) := (Below.refl _ _).alloc (Nat.le_refl _) _
                  have htq2 := htq.later hal (Nat.le_refl _)
                  have hs7 := (hsq.later hal (Nat.le_refl _)).grown htq2 (by decide) hgrow7
                  have hv7 := ints_grown (hvq.later hal (Nat.le_refl _)) htq2 (by decide) hgrow7
                  have hp7 := ints_grown (hpt.later hal (Nat.le_refl _)) htq2 (by decide) hgrow7
                  have hb7 : Below w.heap.size w x7 := grown_step (v := .slice ra (restG (restG M)).length rc') hgrow7 htq (by omega) (by omega) hbt
                  have ht7 := trow_snoc ⟨A.cnt + Bg.cnt, F, S, .slice (some ⟨gs, 0, none⟩) S.length sc⟩ hown7
                  have hs8 := hs7.snoc (g := ⟨A.cnt + Bg.cnt, F, S, .slice (some ⟨gs, 0, none⟩) S.length sc⟩) hv7
                  have hbr : Hid ((restG (restG M) ++ [(⟨A.cnt + Bg.cnt, F, S, .slice (some ⟨gs, 0, none⟩) S.length sc⟩ : Grp)]).map bare = (hufI l (j + 1)).1) := by
                    show _ = (hufI l (j + 1)).1
                    rw [unhide hnext1, List.map_append]
                    congr 1
                    have e : joinG A Bg = ⟨A.cnt + Bg.cnt, F, S, .slice none 0 0⟩ := by
                      rw [← unhide HF, ← unhide hJs]
                      rfl
                    rw [e]
                    rfl
                  have hsl7 : Hid (sliceLen v7 < M.length) := by
                    show sliceLen v7 < M.length
                    obtain ⟨fa, fc, hv⟩ := ht7.form
                    rw [hv]
                    have := unhide hlr2
                    simp only [sliceLen, List.length_append, List.length_singleton]
                    omega
                  clear hown7 hgrow7 hal htq2 hs7 hv7 htq hsq hvq hpt hbt HPQ
                  go_wp2
                  go_roundw
                  case rel => exact ⟨j + 1, _, .inl (unhide hj1), unhide hbr, ht7, hs8, hp7, hb7⟩
                  case measure => exact unhide hsl7
          · have hexit := hide (unhide hfin j (by omega) (unhide HJ))
            have hgoI : ¬ (1 : Int) < (M.length : Int) := by omega
            have HP := hide hpm
            clear htm hsm hpm ic is
            go_wp2
            go_ret
            exact ⟨rfl, by rw [unhide hexit]; exact unhide HP, hbm⟩

end Go.Proofs.Ytkkhaleiehnihaa
