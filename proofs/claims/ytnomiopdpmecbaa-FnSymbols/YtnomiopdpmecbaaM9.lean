/- Of what the proof is made: 5 texts, one behind the other. -/
import Derived.Test.YtnomiopdpmecbaaM7
import Derived.Test.YtnomiopdpmecbaaRb1
import Derived.Test.YtnomiopdpmecbaaM5
import Derived.Test.YtnomiopdpmecbaaM4
/- Lengths by counts, however long they are: the model's, over this seat's program. -/
namespace Go.Proofs.Ytnomiopdpmecbaa
open Go.RowKit

def sliceLen : Value → Nat
  | .slice _ n _ => n
  | _ => 0
theorem seed_yes {l : List Int} {k : Nat} (h : 0 < l.getD k 0) : seed l (k + 1) = seed l k ++ [⟨l.getD k 0, (k : Int), [(k : Int)], .slice none 0 0⟩] := by simp only [seed]; rw [if_pos h]
theorem seed_no {l : List Int} {k : Nat} (h : ¬ 0 < l.getD k 0) : seed l (k + 1) = seed l k := by simp only [seed]; rw [if_neg h]
theorem three_new (w : World) (x y z : Value) (t : TypeId) (g : Nat) (hg : w.heap.size = g) : ∀ (j : Nat) (u : Value), [x, y, z][j]? = some u → (w.alloc (.cells #[x, y, z] t)).cell? ((⟨g, 0, none⟩ : Addr).add j) = some u := by
  subst hg
  intro j u hj
  match j, hj with
  | 0, hj => simp at hj; subst hj; simp [Addr.add]
  | 1, hj => simp at hj; subst hj; simp [Addr.add]
  | 2, hj => simp at hj; subst hj; simp [Addr.add]
theorem three_one (x y : Int) (a : Option Addr) (n c : Nat) : ∀ u ∈ [Value.int .i64 x, Value.int .i64 y, Value.slice a n c], u.oneCell' = true := by
  intro u hu
  simp at hu
  rcases hu with rfl | rfl | rfl <;> rfl
theorem trow_snoc {t : TypeId} {x : World} {base : Nat} {v : Value} {l : List Grp} (g : Grp) (h : x.ownsRow base t 3 v (l.length + 1) (tcells l ++ [.int .i64 g.cnt, .int .i64 g.fst, g.val])) : Trow t x base v (l ++ [g]) := by
  show World.ownsRow _ _ _ _ _ (l ++ [g]).length _
  rw [tcells_append]
  simpa [tcells] using h
theorem IOwn.one (w : World) (base : Nat) (hb : base ≤ w.heap.size) (x : Int) : IOwn (w.alloc (.cells #[.int .i64 x] 3)) base (.slice (some ⟨w.heap.size, 0, none⟩) 1 1) [x] :=
  World.ownsRow_lit w #[.int .i64 x] 1 hb (by unfold maxLen; omega) rfl
theorem syms_nil (w : World) (ob : Nat) : Syms w ob [] := fun g hg => by simp at hg
theorem Syms.snoc {w : World} {ob : Nat} {l : List Grp} {g : Grp} (h : Syms w ob l) (hg : IOwn w ob g.val g.syms) : Syms w ob (l ++ [g]) := by
  intro x hx
  simp only [List.mem_append, List.mem_singleton] at hx
  rcases hx with hx | rfl
  · exact h x hx
  · exact hg
/-- Rows of ints lie apart from a row of groups that grows. -/
theorem Syms.grown {t : TypeId} {w w' : World} {ob base : Nat} {v : Value} {l m : List Grp} (h : Syms w ob l) (hr : Trow t w base v m) (ht : 3 ≠ t) (hg : w.grownBy w' v.ownBlock) : Syms w' ob l :=
  fun g hgm => World.ownsRow.kept (h g hgm) hg (type_apart (h g hgm) hr ht)
theorem ints_grown {t : TypeId} {w w' : World} {ob base : Nat} {v u : Value} {l : List Int} {m : List Grp} (h : IOwn w ob u l) (hr : Trow t w base v m) (ht : 3 ≠ t) (hg : w.grownBy w' v.ownBlock) : IOwn w' ob u l :=
  World.ownsRow.kept h hg (type_apart h hr ht)

theorem three_of (w : World) (x y z : Value) (t : TypeId) : Three (w.alloc (.cells #[x, y, z] t)) w.heap.size x y z := ⟨by simp, by simp, by simp, by simp, by simp, by simp, by simp⟩
theorem Three.later {w w' : World} {b : Nat} {v0 v1 v2 : Value} (h : Three w b v0 v1 v2) (hb : Below w.heap.size w w') : Three w' b v0 v1 v2 := h.kept (hb.mono h.2.2.2.2.2.2)
theorem Trow.mono {t : TypeId} {w : World} {base base' : Nat} {v : Value} {l : List Grp} (h : Trow t w base v l) (hb : base' ≤ base) : Trow t w base' v l :=
  ⟨h.1, h.2.imp id fun ⟨g, c, u, e, hbg, r⟩ => ⟨g, c, u, e, Nat.le_trans hb hbg, r⟩⟩
theorem Syms.sub {w : World} {ob : Nat} {l m : List Grp} (h : Syms w ob l) (hs : ∀ g ∈ m, g ∈ l) : Syms w ob m := fun g hg => h g (hs g hg)

theorem ownsRow_touch {w w' : World} {a : Option Addr} {base size n : Nat} {e : TypeId} {v : Value} {xs : List Value} (h : w.ownsRow base e size v n xs) (ht : Touch a w w') (hne : ∀ g, a = some ⟨g, 0, none⟩ → g < base) : w'.ownsRow base e size v n xs := by
  refine ⟨h.1, ?_⟩
  rcases h.2 with hn | ⟨g, cap, cur, rfl, hbg, hgg, rest⟩
  · exact .inl hn
  · refine .inr ⟨g, cap, cur, rfl, hbg, ?_, rest⟩
    rw [ht.2 g (fun g' e => by have := hne g' e; omega)]
    exact hgg
theorem touch_cell {w w' : World} {b : Nat} {p : Addr} (ht : Touch (some ⟨b, 0, none⟩) w w') (hp : p.block ≠ b) : w'.cell? p = w.cell? p :=
  World.cell?_of_block (ht.2 p.block (fun g e => by simp only [Option.some.injEq, Addr.mk.injEq, and_true] at e; omega))
theorem touch_lt (b B : Nat) (h : b < B) : ∀ g, (some ⟨b, 0, none⟩ : Option Addr) = some ⟨g, 0, none⟩ → g < B := by
  intro g e
  simp only [Option.some.injEq, Addr.mk.injEq, and_true] at e
  omega

set_option maxRecDepth 100000 in
set_option maxHeartbeats 6400000 in
theorem l3Lens_any (a : Option Addr) (cap n : Nat) (l : List Int) (w : World) (hn : l.length = n) (h : IRow w a l) (hm : n ≤ 300) (hc : ∀ i, i < l.length → 0 ≤ l.getD i 0 ∧ l.getD i 0 ≤ 100000) :
    Calls Try.prog 51 #[.slice a n cap] w fun e w' => e = .returned (.slice (some ⟨w.heap.size, 0, none⟩) n n) ∧ IOwn w' w.heap.size (.slice (some ⟨w.heap.size, 0, none⟩) n n) (hufL l) ∧ Below w.heap.size w w' := by
  have hmI : (n : Int) ≤ 300 := by omega
  obtain ⟨i0, hi, hz0, hz1, hz2⟩ := info_parts Try.infoInt
  obtain ⟨j0, hj, hy0, hy1, hy2⟩ := info_parts Try.infoTree
  have HN := hide hn
  have HC := hide hc
  have HM := hide hm
  clear hc
  go_enter Try.func51, Try.ntmps51
  go_wp2_with (at_make; refine wpList_make_full _ rfl _ _ 23 rfl w.heap.size 3 i0 (.int .i64 0) 1 Try.underlying23 hi hz0 hz1 .i64 .i64 _ _ n rfl rfl rfl rfl (by rw [hz2]; omega) (by unfold maxLen; omega) (Nat.le_refl _) ?_; intro w1 hown hgrow)
  have hp0 : IOwn (w1.alloc (.cells #[] 89)) w.heap.size (.slice (some ⟨w.heap.size, 0, none⟩) n n) (List.replicate l.length 0) := by
    rw [hn]
    exact (made_ints hown).later ((Below.refl w1.heap.size w1).alloc (Nat.le_refl _) _) (Nat.le_refl _)
  have hlt1 : w.heap.size + 1 ≤ w1.heap.size := (made_ints hown).below.2
  have hb0 : Below w.heap.size w (w1.alloc (.cells #[] 89)) := ((Below.refl _ _).grown hgrow (Nat.le_refl _) (fun k h => by cases h)).alloc (by omega) _
  have ht0 : Trow 89 (w1.alloc (.cells #[] 89)) (w.heap.size + 1) (.slice (some ⟨w1.heap.size, 0, none⟩) 0 0) [] := World.ownsRow_lit w1 #[] 0 hlt1 (by unfold maxLen; omega) rfl
  clear hown hgrow hn hm
  go_loopw [4, 5] (fun v i wr => ∃ (k : Nat) (L : List Grp), k ≤ n ∧ i = .int .i64 k ∧ L.map bare = seed l k ∧ Trow 89 wr (w.heap.size + 1) v L ∧ Syms wr (w.heap.size + 1) L ∧ IOwn wr w.heap.size (.slice (some ⟨w.heap.size, 0, none⟩) n n) (List.replicate l.length 0) ∧ Below w.heap.size w wr) (fun _ i _ => n - (intOf i).toNat)
  case atStart => exact ⟨0, [], Nat.zero_le _, rfl, rfl, ht0, syms_nil _ _, hp0, hb0⟩
  case round =>
    obtain ⟨k, L, hk, rfl, hL, ht, hs, hp, hbel⟩ := hrel
    clear hp0 hb0 ht0
    have HL := hide hL
    have hbs : w.heap.size + 1 ≤ wr.heap.size := hp.below.2
    clear hL
    by_cases hlt : k < n
    · obtain ⟨g, o, rfl, hg, hcc⟩ := (h.later hbel) (by rw [unhide HN]; omega)
      have c0 := hcc k (by rw [unhide HN]; exact hlt)
      have HK := hide hk
      have hlenL : L.length ≤ 300 := by
        have h1 : (L.map bare).length = (seed l k).length := by rw [unhide HL]
        have h2 := (seed_tot l 100000 (by omega) (fun i hi => (unhide HC i hi).2) k (by rw [unhide HN]; omega)).2.2
        rw [List.length_map] at h1
        have := unhide HM
        omega
      clear hcc hk
      by_cases hy : 0 < l.getD k 0
      · have hst := hide (seed_yes hy)
        generalize l.getD k 0 = y at *
        have hA : IOwn (wr.alloc (.cells #[.int .i64 (k : Int)] 3)) (w.heap.size + 1) (.slice (some ⟨wr.heap.size, 0, none⟩) 1 1) [(k : Int)] := IOwn.one wr _ hbs _
        have hB1 : Below wr.heap.size wr (wr.alloc (.cells #[.int .i64 (k : Int)] 3)) := (Below.refl _ _).alloc (Nat.le_refl _) _
        have hsz1 : (wr.alloc (.cells #[.int .i64 (k : Int)] 3)).heap.size = wr.heap.size + 1 := by simp
        have ht1 := ht.later hB1 (Nat.le_refl _)
        have hs1 := hs.later hB1 (Nat.le_refl _)
        have hp1 := hp.later hB1 (Nat.le_refl _)
        have hbel1 := bnext hbel ((Below.refl wr.heap.size wr).alloc (Nat.le_refl _) (.cells #[.int .i64 (k : Int)] 3))
        have HX := hide (And.intro hA (And.intro ht1 (And.intro hs1 (And.intro hp1 (And.intro hbel1 hsz1)))))
        have hlen1 : Hid (L.length + 1 ≤ maxLen ∧ (L.length + 1) * 40 ≤ 140737488355328) := by show _ ∧ _; unfold maxLen; omega
        clear hA hB1 ht1 hs1 hp1 hbel1 ht hs hp hbel hsz1
        go_wp2_with (at_builtin; refine wpList_append_own _ rfl _ _ 87 rfl (w.heap.size + 1) 89 j0 (.agg #[.int .i64 0, .int .i64 0, .slice none 0 0]) 3 40 Try.underlying87 hj hy0 hy1 hy2 rfl (by decide) _ _ _ rfl (World.ownsRow.alloc (unhide HX).2.1 _) ⟨wr.heap.size + 1, 0, none⟩ 1 1 [.int .i64 y, .int .i64 (k : Int), .slice (some ⟨wr.heap.size, 0, none⟩) 1 1] rfl rfl (three_new _ _ _ _ _ _ (unhide HX).2.2.2.2.2) (three_one _ _ _ _ _) (unhide hlen1).1 (unhide hlen1).2 (size_alloc_le (by rw [(unhide HX).2.2.2.2.2]; omega) _) ?_; intro v' x3 hown hgrow hnil; clear hnil)
        obtain ⟨hA, ht1, hs1, hp1, hbel1, hsz1⟩ := unhide HX
        have hAl : ∀ {B : Nat} {o : Obj}, B = wr.heap.size + 1 → Below B (wr.alloc (.cells #[.int .i64 (k : Int)] 3)) ((wr.alloc (.cells #[.int .i64 (k : Int)] 3)).alloc o) := fun {B} {o} e => (Below.refl _ _).alloc (by rw [hsz1]; omega) _
        have ht2 : Trow 89 ((wr.alloc (.cells #[.int .i64 (k : Int)] 3)).alloc (.cells #[.int .i64 y, .int .i64 (k : Int), .slice (some ⟨wr.heap.size, 0, none⟩) 1 1] 89)) (w.heap.size + 1) u4 L := World.ownsRow.alloc ht1 _
        have hs3 := (hs1.later (hAl rfl) (by rw [hsz1]; exact Nat.le_refl _)).grown ht2 (by decide) hgrow
        have hA3 := ints_grown (hA.later (hAl rfl) (by rw [hsz1]; exact Nat.le_refl _)) ht2 (by decide) hgrow
        have hp3 := ints_grown (hp1.later (hAl rfl) (by rw [hsz1]; exact Nat.le_refl _)) ht2 (by decide) hgrow
        have hb3 : Below w.heap.size w x3 := grown_step (v := u4) hgrow ht1 (by omega) (by rw [hsz1]; omega) hbel1
        have ht3 := trow_snoc ⟨y, (k : Int), [(k : Int)], .slice (some ⟨wr.heap.size, 0, none⟩) 1 1⟩ hown
        have hs4 := hs3.snoc (g := ⟨y, (k : Int), [(k : Int)], .slice (some ⟨wr.heap.size, 0, none⟩) 1 1⟩) hA3
        clear hown hgrow HX hA ht1 hs1 hp1 hbel1 hAl ht2 hs3 hA3
        go_wp2
        go_roundw
        case rel => exact ⟨k + 1, L ++ [⟨y, (k : Int), [(k : Int)], .slice (some ⟨wr.heap.size, 0, none⟩) 1 1⟩], by omega, by go_num, by rw [unhide hst, List.map_append, unhide HL]; rfl, ht3, hs4, hp3, hb3⟩
        case measure => simp [intOf]; omega
      · have hst := hide (seed_no hy)
        generalize l.getD k 0 = y at *
        go_wp2
        go_roundw
        case rel => exact ⟨k + 1, L, by omega, by go_num, by rw [unhide hst]; exact unhide HL, ht, hs, hp, hbel⟩
        case measure => simp [intOf]; omega
    · obtain rfl : k = n := by omega
      have hseed : Hid (L.map bare = seed l l.length) := by show L.map bare = seed l l.length; rw [unhide HN]; exact unhide HL
      have hU : Hid (L.length = (seed l l.length).length) := by show L.length = (seed l l.length).length; rw [← unhide hseed, List.length_map]
      have hUb : L.length ≤ 300 := by
        have h2 := (seed_tot l 100000 (by omega) (fun i hi => (unhide HC i hi).2) l.length (Nat.le_refl _)).2.2
        have := unhide hU
        have := unhide HM
        have := unhide HN
        omega
      have hwf := hide (seed_wf l l.length (Nat.le_refl _))
      obtain ⟨va, vc, rfl⟩ := ht.form
      clear h
      by_cases hone : L.length = 1
      · obtain ⟨g, rfl⟩ := ht.somes (by omega)
        obtain ⟨_, c1, _, _, _⟩ := ht.at rfl 0 (by omega)
        have hm0 := unhide hwf ((seed l l.length).getD 0 g0) (getD_mem _ 0 (by have := unhide hU; omega))
        have hf0 : (L.getD 0 g0).fst = ((seed l l.length).getD 0 g0).fst := by rw [← unhide hseed, getD_bare]; rfl
        obtain ⟨_, f0, f1, _, _⟩ := hm0
        rw [← hf0, unhide HN] at f1
        rw [← hf0] at f0
        have hres : Hid (hufL l = (List.replicate l.length 0).set (L.getD 0 g0).fst.toNat 1) := by
          show hufL l = _
          unfold hufL
          rw [if_pos (by rw [← unhide hU]; exact hone), hf0]
        generalize (L.getD 0 g0).fst = f at *
        obtain ⟨q, rfl⟩ := Int.eq_ofNat_of_zero_le f0
        rw [Int.toNat_natCast] at hres
        have hlenr : (List.replicate l.length (0 : Int)).length = k := by simp [unhide HN]
        obtain ⟨d0, e0, _, _⟩ := hp.at (j := q) hlenr (by omega)
        have hput := hp.put (j := q) hlenr 1
        have hbel2 := below_set hbel (b := w.heap.size) (o := q) (Nat.le_refl _) (.int .i64 1)
        rw [← unhide hres] at hput
        have HP := hide hput
        have HB := hide hbel2
        have c1' : wr.cell? ⟨g, 1, none⟩ = some (.int .i64 (q : Int)) := by simpa using c1
        clear hput hbel2 hlenr hres hbel hp hs ht c1 hf0
        rw [hone]
        generalize (List.replicate l.length (0 : Int)).getD q 0 = y at *
        go_wp2_with fail
        go_loopw [4, 6, 7, 8, 9, 10, 11] (fun v _ _ _ _ _ _ wq => v = .slice (some ⟨g, 0, none⟩) 1 vc ∧ wq = wr.setCell ⟨w.heap.size, q, none⟩ (.int .i64 1)) (fun _ _ _ _ _ _ _ _ => 0)
        case atStart => exact ⟨rfl, rfl⟩
        case round =>
          obtain ⟨rfl, hw⟩ := hrel
          subst hw
          go_wp2
          go_ret
          exact ⟨rfl, unhide HP, unhide HB⟩
      · have hne : ((L.length : Int) == 1) = false := by rw [beq_eq_false_iff_ne]; omega
        have hfin : Hid (∀ k, (seed l l.length).length - k ≤ 1 → (k < (seed l l.length).length ∨ k = 0) → hufL l = (hufI l k).2) := by
          intro k h1 h2
          unfold hufL
          have := unhide hU
          rw [if_neg (by omega)]
          congr 2; omega
        have HUB := hide hUb
        clear hUb
        have hp' : IOwn wr w.heap.size (.slice (some ⟨w.heap.size, 0, none⟩) k k) (hufI l 0).2 := hp
        have hL0 : L.map bare = (hufI l 0).1 := unhide hseed
        generalize hUe : (seed l l.length).length = U at *
        have HUE := hide hUe
        clear hUe hwf hseed HL hp
        go_wp2_with fail
        go_loopw [4, 6, 7, 8, 9, 10, 11] (fun v _ _ _ _ _ _ wq => ∃ (j : Nat) (M : List Grp), (j < U ∨ j = 0) ∧ M.map bare = (hufI l j).1 ∧ Trow 89 wq (w.heap.size + 1) v M ∧ Syms wq (w.heap.size + 1) M ∧ IOwn wq w.heap.size (.slice (some ⟨w.heap.size, 0, none⟩) k k) (hufI l j).2 ∧ Below w.heap.size w wq) (fun v _ _ _ _ _ _ _ => sliceLen v)
        case atStart => exact ⟨0, L, .inr rfl, hL0, ht, hs, hp', hbel⟩
        case round =>
          obtain ⟨j, M, hj, hM, htm, hsm, hpm, hbm⟩ := hrel
          clear ht hs hp' hbel hL0 hne hone
          have hInv := hufI_inv l j (by rw [unhide HUE]; exact hj)
          rw [← hM, unhide HUE] at hInv
          obtain ⟨iw, ic, is, il⟩ := hInv
          rw [List.length_map] at il
          obtain ⟨ma, mc, rfl⟩ := htm.form
          have HM2 := hide hM
          have HJ := hide hj
          clear hM hj
          by_cases hgo : 1 < M.length
          · have hgoI : (1 : Int) < (M.length : Int) := by omega
            have hUB := unhide HUB
            have hM300 : M.length ≤ 300 := by have := unhide hU; omega
            have hMI : (M.length : Int) ≤ 300 := by omega
            have hw0 : w.heap.size + 1 ≤ wr.heap.size := hpm.below.2
            have hq1 := least_lt M (by omega)
            have iw' : WFL k M := by
              intro g hg
              have h1 := iw (bare g) (List.mem_map_of_mem hg)
              rw [unhide HN] at h1
              exact h1
            have hwa := iw' _ (first_mem M (by omega))
            have hrl := rest_len M (by omega)
            have hwb := iw' _ (rest_sub M _ (first_mem (restG M) (by omega)))
            have hq2 := least_lt (restG M) (by omega)
            have htot : totC M ≤ 30000000 := by
              have h1 := (seed_tot l 100000 (by omega) (fun i hi => (unhide HC i hi).2) l.length (Nat.le_refl _)).1
              have h2 : totC (M.map bare) = totC M := by simp [totC, Function.comp_def, bare]
              rw [h2] at ic
              have := unhide HN
              have h3 : (100000 : Int) * (l.length : Int) ≤ 100000 * 300 := Int.mul_le_mul_of_nonneg_left (by omega) (by omega)
              omega
            have htwo := two_cnt iw' hgo
            have HLe := hide (l3Least_any ma mc M.length (w.heap.size + 1) M wr rfl htm (by omega) hM300)
            obtain ⟨g, rfl⟩ := htm.somes (by omega)
            have hfm : Hid (firstG M = M.getD (least M) g0) := rfl
            have hrm : Hid (restG M = M.eraseIdx (least M)) := rfl
            have HQ := hide (And.intro htm (And.intro hsm (And.intro hpm hbm)))
            have HFA := hide (And.intro hwa (And.intro hrl (And.intro hwb (And.intro hq2 (And.intro htot htwo)))))
            have HGO := hide (And.intro hgo (And.intro hM300 (And.intro hq1 (And.intro hw0 il))))
            have HIW := hide iw'
            clear htm hsm hpm hbm ic is iw hwa hrl hwb hq2 htot htwo hgo hM300 hq1 hw0 il iw' hUB
            go_wp2_with fail
            refine (unhide HLe).mono ?_
            rintro e x1 ⟨rfl, hb1⟩
            obtain ⟨htm, hsm, hpm, hbm⟩ := unhide HQ
            obtain ⟨hgo, hM300, hq1, hw0, il⟩ := unhide HGO
            obtain ⟨hwa, hrl, hwb, hq2, htot, htwo⟩ := unhide HFA
            have ht1 := htm.later hb1 (Nat.le_refl _)
            have hs1 := hsm.later hb1 (Nat.le_refl _)
            have hp1 := hpm.later hb1 (Nat.le_refl _)
            have hB1 := bnext hbm hb1
            have hz1' := hb1.size
            obtain ⟨c0, c1, c2, _, hgx⟩ := ht1.at rfl (least M) hq1
            rw [← unhide hfm] at c0 c1 c2
            have hvA := hs1 _ (first_mem M (by omega))
            obtain ⟨aa, ac, hav⟩ := hvA.form
            obtain ⟨ga, hga⟩ := (hav ▸ hvA).somes hwa.2.2.2.2
            rw [hga] at hav
            rw [hav] at c2 hvA
            have hqI : ((least M : Nat) : Int) < (M.length : Int) := by omega
            have HLs := hide (l3Less_any (some ⟨g, 0, none⟩) mc M.length (w.heap.size + 1) (w.heap.size + 1) (least M) M (x1.alloc (.cells #[.int .i64 (firstG M).cnt, .int .i64 (firstG M).fst, .slice (some ⟨ga, 0, none⟩) (firstG M).syms.length ac] 89)) rfl (ht1.later ((Below.refl x1.heap.size x1).alloc (Nat.le_refl _) _) (Nat.le_refl _)) (hs1.later ((Below.refl x1.heap.size x1).alloc (Nat.le_refl _) _) (Nat.le_refl _)) hq1 hM300)
            have HQ1 := hide (And.intro ht1 (And.intro hs1 (And.intro hp1 (And.intro hB1 hvA))))
            have hgxI := hide hgx
            have hq1w : w.heap.size + 1 ≤ x1.heap.size := hp1.below.2
            clear htm hsm hpm hbm HQ HLe ht1 hs1 hp1 hB1 hvA hav hwa hrl hwb hq2 htot htwo hgo hM300 hq1 hw0 il hga hgx hz1'
            generalize hA0 : firstG M = A at *
            have HA0 := hide hA0
            clear hA0
            go_wp2_with fail
            refine (unhide HLs).mono ?_
            rintro e x2 ⟨⟨v1, rfl, ht2⟩, hb2⟩
            obtain ⟨ht1, hs1, hp1, hB1, hvA⟩ := unhide HQ1
            obtain ⟨hgo, hM300, hq1, hw0, il⟩ := unhide HGO
            obtain ⟨hwa, hrl, hwb, hq2, htot, htwo⟩ := unhide HFA
            rw [← unhide hrm] at ht2
            have hba : Below x1.heap.size x1 (x1.alloc (.cells #[.int .i64 A.cnt, .int .i64 A.fst, .slice (some ⟨ga, 0, none⟩) A.syms.length ac] 89)) := (Below.refl _ _).alloc (Nat.le_refl _) _
            have hb12 := bnext hba hb2
            have hA2 := (three_of x1 (.int .i64 A.cnt) (.int .i64 A.fst) (.slice (some ⟨ga, 0, none⟩) A.syms.length ac) 89).later hb2
            have hs2 := hs1.later hb12 (Nat.le_refl _)
            have hp2 := hp1.later hb12 (Nat.le_refl _)
            have hvA2 := hvA.later hb12 (Nat.le_refl _)
            have hB2 := bnext hB1 hb12
            have ht2' := ht2.mono (show w.heap.size + 1 ≤ _ by have := hp1.below.2; have := hba.size; omega)
            obtain ⟨ra, rc, hrv⟩ := ht2'.form
            subst hrv
            obtain ⟨g2, hg2⟩ := ht2'.somes (by omega)
            subst hg2
            have hlr : (restG M).length = M.length - 1 := hrl
            have HLe2 := hide (l3Least_any (some ⟨g2, 0, none⟩) rc (restG M).length (w.heap.size + 1) (restG M) x2 rfl ht2' (by omega) (by omega))
            have hrI : ((restG M).length : Int) ≤ 300 := by omega
            have HQ2 := hide (And.intro ht2' (And.intro hs2 (And.intro hp2 (And.intro hB2 (And.intro hvA2 hA2)))))
            clear ht1 hs1 hp1 hB1 hvA HQ1 HLs hba hb12 hA2 hs2 hp2 hvA2 hB2 ht2' ht2 hb2 c0 c1 c2 hqI hwa hrl hwb hq2 htot htwo hgo hM300 hq1 hw0 il hlr
            go_wp2_with fail
            refine (unhide HLe2).mono ?_
            rintro e x3 ⟨rfl, hb3⟩
            obtain ⟨ht2, hs2, hp2, hB2, hvA2, hA2⟩ := unhide HQ2
            obtain ⟨hgo, hM300, hq1, hw0, il⟩ := unhide HGO
            obtain ⟨hwa, hrl, hwb, hq2, htot, htwo⟩ := unhide HFA
            have ht3 := ht2.later hb3 (Nat.le_refl _)
            have hs3 := hs2.later hb3 (Nat.le_refl _)
            have hp3 := hp2.later hb3 (Nat.le_refl _)
            have hvA3 := hvA2.later hb3 (Nat.le_refl _)
            have hA3 := hA2.later hb3
            have hB3 := bnext hB2 hb3
            have hfm2 : firstG (restG M) = (restG M).getD (least (restG M)) g0 := rfl
            obtain ⟨c0, c1, c2, _, hgx⟩ := ht3.at rfl (least (restG M)) hq2
            rw [← hfm2] at c0 c1 c2
            have hvB := hs3 _ (rest_sub M _ (first_mem (restG M) (by omega)))
            obtain ⟨bb, bc, hbv⟩ := hvB.form
            obtain ⟨gb, hgb⟩ := (hbv ▸ hvB).somes hwb.2.2.2.2
            rw [hgb] at hbv
            rw [hbv] at c2 hvB
            have hqI : ((least (restG M) : Nat) : Int) < ((restG M).length : Int) := by omega
            have HLs := hide (l3Less_any (some ⟨g2, 0, none⟩) rc (restG M).length (w.heap.size + 1) (w.heap.size + 1) (least (restG M)) (restG M) (x3.alloc (.cells #[.int .i64 (firstG (restG M)).cnt, .int .i64 (firstG (restG M)).fst, .slice (some ⟨gb, 0, none⟩) (firstG (restG M)).syms.length bc] 89)) rfl (ht3.later ((Below.refl x3.heap.size x3).alloc (Nat.le_refl _) _) (Nat.le_refl _)) ((hs3.sub (rest_sub M)).later ((Below.refl x3.heap.size x3).alloc (Nat.le_refl _) _) (Nat.le_refl _)) hq2 (by omega))
            have HQ3 := hide (And.intro ht3 (And.intro hs3 (And.intro hp3 (And.intro hB3 (And.intro hvA3 (And.intro hA3 hvB))))))
            clear ht2 hs2 hp2 hB2 hvA2 hA2 HQ2 HLe2 ht3 hs3 hp3 hvA3 hA3 hB3 hvB hbv hb3 hwa hrl hwb hq2 htot htwo hgo hM300 hq1 hw0 il hgb hgx hfm2
            generalize hB0 : firstG (restG M) = Bg at *
            have HB0 := hide hB0
            clear hB0
            go_wp2_with fail
            refine (unhide HLs).mono ?_
            rintro e x4 ⟨⟨v2, rfl, ht4⟩, hb4⟩
            obtain ⟨ht3, hs3, hp3, hB3, hvA3, hA3, hvB⟩ := unhide HQ3
            obtain ⟨hgo, hM300, hq1, hw0, il⟩ := unhide HGO
            obtain ⟨hwa, hrl, hwb, hq2, htot, htwo⟩ := unhide HFA
            have hrm2 : (restG M).eraseIdx (least (restG M)) = restG (restG M) := rfl
            rw [hrm2] at ht4
            have hba : Below x3.heap.size x3 (x3.alloc (.cells #[.int .i64 Bg.cnt, .int .i64 Bg.fst, .slice (some ⟨gb, 0, none⟩) Bg.syms.length bc] 89)) := (Below.refl _ _).alloc (Nat.le_refl _) _
            have hb34 := bnext hba hb4
            have hBb4 := (three_of x3 (.int .i64 Bg.cnt) (.int .i64 Bg.fst) (.slice (some ⟨gb, 0, none⟩) Bg.syms.length bc) 89).later hb4
            have hA4 := hA3.later hb34
            have hs4 := hs3.later hb34 (Nat.le_refl _)
            have hp4 := hp3.later hb34 (Nat.le_refl _)
            have hvA4 := hvA3.later hb34 (Nat.le_refl _)
            have hvB4 := hvB.later hb34 (Nat.le_refl _)
            have hB4 := bnext hB3 hb34
            have hw4 : w.heap.size + 1 ≤ x4.heap.size := hp4.below.2
            have hq3w : w.heap.size + 1 ≤ x3.heap.size := hp3.below.2
            have ht4' := ht4.mono (show w.heap.size + 1 ≤ _ by have := hp3.below.2; have := hba.size; omega)
            have hrl2 := rest_len (restG M) (by omega)
            obtain ⟨ra, rc', hrv⟩ := ht4'.form
            subst hrv
            have hcA : Hid ((A.syms.map (Value.int .i64)).length = A.syms.length * 1) := by show _ = _; simp
            have hcB : Hid ((Bg.syms.map (Value.int .i64)).length = Bg.syms.length * 1) := by show _ = _; simp
            have hlA : A.syms.length + Bg.syms.length ≤ 300 := by
              have h1 := htwo.2
              have h2 : (symsG M).length = A.syms.length + Bg.syms.length := by
                unfold symsG
                rw [List.length_append, unhide HA0, unhide HB0]
              have h3 := (hufI_inv l j (by rw [unhide HUE]; exact unhide HJ)).2.2.1
              have h4 : totS (M.map bare) = totS M := by simp [totS, Function.comp_def, bare]
              rw [← unhide HM2, h4] at h3
              have h5 := (seed_tot l 100000 (by omega) (fun i hi => (unhide HC i hi).2) l.length (Nat.le_refl _)).2.1
              have := unhide HN
              have := unhide HM
              omega
            have HSA : Hid (∀ W, Below x4.heap.size x4 W → ∀ j u, (A.syms.map (Value.int .i64))[j]? = some u → W.cell? ((⟨ga, 0, none⟩ : Addr).add j) = some u) := fun W hW => World.ownsRow.cells (hvA4.later hW (Nat.le_refl _)) rfl
            have HSB : Hid (∀ W, Below x4.heap.size x4 W → ∀ j u, (Bg.syms.map (Value.int .i64))[j]? = some u → W.cell? ((⟨gb, 0, none⟩ : Addr).add j) = some u) := fun W hW => World.ownsRow.cells (hvB4.later hW (Nat.le_refl _)) rfl
            have HCC : ∀ W, Below x4.heap.size x4 W → W.cell? ⟨x1.heap.size, 2, none⟩ = some (.slice (some ⟨ga, 0, none⟩) A.syms.length ac) ∧ W.cell? ⟨x3.heap.size, 2, none⟩ = some (.slice (some ⟨gb, 0, none⟩) Bg.syms.length bc) := fun W hW => ⟨(hA4.later hW).2.2.1, (hBb4.later hW).2.2.1⟩
            have hR0 : World.ownsRow (x4.alloc (.cells #[] 3)).drew x4.heap.size 3 1 (.slice (some ⟨x4.heap.size, 0, none⟩) 0 0) 0 [] := World.ownsRow_lit x4 #[] 0 (Nat.le_refl _) (by unfold maxLen; omega) rfl
            have hBd : Below x4.heap.size x4 (x4.alloc (.cells #[] 3)).drew := ((Below.refl _ _).alloc (Nat.le_refl _) _).drew
            have hb1 : Hid (0 + A.syms.length ≤ maxLen ∧ (0 + A.syms.length) * 8 ≤ 140737488355328) := by show _ ∧ _; unfold maxLen; omega
            have hb2 : Hid (0 + A.syms.length + Bg.syms.length ≤ maxLen ∧ (0 + A.syms.length + Bg.syms.length) * 8 ≤ 140737488355328) := by show _ ∧ _; unfold maxLen; omega
            obtain ⟨a0, a1, a2, _, _, _, abl⟩ := hA4
            obtain ⟨b0, b1, b2, _, _, _, bbl⟩ := hBb4
            have HNE1 : x1.heap.size ≠ w.heap.size := by have := hq1w; omega
            have HNE3 : x3.heap.size ≠ w.heap.size := by have := hq3w; omega
            have hB4d : Below x4.heap.size x4 x4.drew := (Below.refl _ _).drew
            have hmin : Hid ((joinG A Bg).fst = if Bg.fst < A.fst then Bg.fst else A.fst) := rfl
            have HLA := hide hlA
            have HTT := hide (And.intro htot (And.intro htwo.1 (And.intro hwa hwb)))
            have HRL := hide (And.intro hrl2 (And.intro hrl (And.intro hgo (And.intro hM300 il))))
            have HQ4 := hide (And.intro ht4' (And.intro hs4 (And.intro hp4 hB4)))
            clear ht3 hs3 hp3 hB3 hvA3 hA3 hvB HQ3 HLs hba hb34 hs4 hp4 hvA4 hvB4 hB4 ht4' ht4 hb4 c0 c1 c2 hqI hwa hrl hwb hq2 htot htwo hgo hM300 hq1 hw0 il hrl2 hlA hrm2
            have hfst : ∃ F : Int, (joinG A Bg).fst = F := ⟨_, rfl⟩
            obtain ⟨F, hF⟩ := hfst
            have HF := hide hF
            clear hF
            by_cases hlt2 : Bg.fst < A.fst
            · have hFe : Hid (Bg.fst = F) := by have := unhide hmin; rw [unhide HF, if_pos hlt2] at this; exact this.symm
              go_wp2_with fail
              go_region_held3 (fun W => W.cell? ⟨x1.heap.size, 2, none⟩ = some (.slice (some ⟨ga, 0, none⟩) A.syms.length ac) ∧ W.cell? ⟨x3.heap.size, 2, none⟩ = some (.slice (some ⟨gb, 0, none⟩) Bg.syms.length bc)) (first | exact HCC _ hB4d | assumption | exact HCC _ hBd) (first
                | (refine step_append_own rfl (.tmp 76) (.tmp 78) 23 rfl x4.heap.size 3 i0 (.int .i64 0) 1 8 Try.underlying23 hi hz0 hz1 hz2 rfl (Nat.zero_lt_succ 0) (.slice (some ⟨x4.heap.size, 0, none⟩) 0 0) _ _ rfl hR0 ⟨ga, 0, none⟩ A.syms.length ac (A.syms.map (Value.int .i64)) rfl (unhide hcA) (unhide HSA _ hBd) (ints_oneCell .i64 _) (unhide hb1).1 (unhide hb1).2 hBd.size ?_; intro v5 x5 hown5 hgrow5 hnil5; clear hnil5; have hB5 : Below x4.heap.size x4 x5 := hBd.grown hgrow5 hBd.size (fun j hj => (World.ownsRow.lt hR0 j hj).1); have hC5 := HCC _ hB5)
                | (refine step_append_own rfl (.tmp 79) (.tmp 81) 23 rfl x4.heap.size 3 i0 (.int .i64 0) 1 8 Try.underlying23 hi hz0 hz1 hz2 rfl (Nat.zero_lt_succ 0) v5 _ _ rfl hown5 ⟨gb, 0, none⟩ Bg.syms.length bc (Bg.syms.map (Value.int .i64)) rfl (unhide hcB) (unhide HSB _ hB5) (ints_oneCell .i64 _) (unhide hb2).1 (unhide hb2).2 hB5.size ?_; intro v6 x6 hown6 hgrow6 hnil6; clear hnil6; have hB6 : Below x4.heap.size x4 x6 := hB5.grown hgrow6 hB5.size (fun j hj => (World.ownsRow.lt hown5 j hj).1); have hC6 := HCC _ hB6))
              obtain ⟨ht4, hs4, hp4, hB4⟩ := unhide HQ4
              have hw4 : w.heap.size + 1 ≤ x4.heap.size := hp4.below.2
              have hsy : IOwn x6 x4.heap.size v6 (A.syms ++ Bg.syms) := by
                show World.ownsRow _ _ _ _ _ (A.syms ++ Bg.syms).length ((A.syms ++ Bg.syms).map (Value.int .i64))
                rw [List.length_append, List.map_append]
                simpa using hown6
              have hSl : Hid ((A.syms ++ Bg.syms).length ≤ 300 ∧ 0 < (A.syms ++ Bg.syms).length) := by
                show _ ∧ _
                rw [List.length_append]
                have := unhide HLA
                have := (unhide HTT).2.2.1.2.2.2.2
                omega
              have hSw : Hid (∀ x ∈ A.syms ++ Bg.syms, 0 ≤ x ∧ x < (k : Int)) := by
                intro x hx
                simp only [List.mem_append] at hx
                rcases hx with hx | hx
                · exact (unhide HTT).2.2.1.2.2.2.1 x hx
                · exact (unhide HTT).2.2.2.2.2.2.1 x hx
              have hSe : Hid (symsG M = A.syms ++ Bg.syms) := by
                show symsG M = _
                unfold symsG
                rw [unhide HA0, unhide HB0]
              have hJs : Hid ((joinG A Bg).syms = A.syms ++ Bg.syms) := rfl
              generalize A.syms ++ Bg.syms = S at *
              obtain ⟨sv, sc, hvv⟩ := hsy.form
              obtain ⟨gs, hgs⟩ := (hvv ▸ hsy).somes (unhide hSl).2
              rw [hgs] at hvv
              rw [hvv]
              rw [hvv] at hsy
              have ht6 := ht4.later hB6 (Nat.le_refl _)
              have hs6 := hs4.later hB6 (Nat.le_refl _)
              have hp6 := hp4.later hB6 (Nat.le_refl _)
              have hBB6 := bnext hB4 hB6
              have hgsb := hsy.below
              have a0' := (hB6.cell (p := ⟨x1.heap.size, 0, none⟩) abl).trans a0
              have b0' := (hB6.cell (p := ⟨x3.heap.size, 0, none⟩) bbl).trans b0
              have hmx := hide (hufI_max l (fun i hi => (unhide HC i hi).2) (by rw [unhide HN]; exact unhide HM) j (by rw [unhide HUE]; exact unhide HJ))
              have hjb : Hid ((j : Int) ≤ 300) := by show (j : Int) ≤ 300; have := unhide HJ; have := unhide hU; have := unhide HUB; omega
              have hx13 : x1.heap.size ≠ w.heap.size ∧ x3.heap.size ≠ w.heap.size := ⟨HNE1, HNE3⟩
              have HSY := hide hsy
              have HT6 := hide ht6
              have HS6 := hide hs6
              have HX13 := hide hx13
              have HAB := hide (And.intro a0' b0')
              have HGS := hide hgsb
              have sI : (S.length : Int) ≤ 300 := by have := (unhide hSl).1; omega
              clear hown5 hown6 hgrow5 hgrow6 hC5 hC6 hB5 ht4 hs4 hp4 hB4 ht6 hs6 hsy HCC HSA HSB hR0 hBd hB4d hvv hgs a0 a1 a2 b0 b1 b2 hx13 a0' b0' hgsb hcA hcB
              go_wp2_with fail
              go_loopw [11] (fun i wq => ∃ t : Nat, t ≤ S.length ∧ i = .int .i64 t ∧ IOwn wq w.heap.size (.slice (some ⟨w.heap.size, 0, none⟩) k k) (bump (hufI l j).2 (S.take t)) ∧ Touch (some ⟨w.heap.size, 0, none⟩) x6 wq ∧ Below w.heap.size w wq) (fun i _ => S.length - (intOf i).toNat)
              case atStart => exact ⟨0, Nat.zero_le _, rfl, hp6, Touch.refl _ _, hBB6⟩
              case round =>
                obtain ⟨t, ht, rfl, hpt, htch, hbt⟩ := hrel
                clear hp6 hBB6
                have hln : Hid ((bump (hufI l j).2 (S.take t)).length = k) := by show (bump (hufI l j).2 (S.take t)).length = k; rw [bump_len, hufI_len, unhide HN]
                have htk : Hid (t ≤ S.length) := ht
                clear ht
                by_cases hlt3 : t < S.length
                · have hsyt := (unhide HSY).touch htch (by intro g e; simp only [Option.some.injEq, Addr.mk.injEq, and_true] at e; have := hw4; omega)
                  obtain ⟨c0, _, _, _⟩ := hsyt.at rfl hlt3
                  have hx := unhide hSw (S.getD t 0) (by simp [List.getD, hlt3])
                  have hbt1 := hide (bump_take (hufI l j).2 S t hlt3)
                  have hmx2 := hide (bump_max (unhide hmx) (S.take t))
                  obtain ⟨q, hq⟩ := Int.eq_ofNat_of_zero_le hx.1
                  rw [hq] at c0 hbt1
                  have hqk : q < k := by omega
                  obtain ⟨d0, f0, _, _⟩ := hpt.at (unhide hln) hqk
                  have hyb := unhide hmx2 q (by rw [unhide hln]; exact hqk)
                  have hput := hpt.put (j := q) (unhide hln) ((bump (hufI l j).2 (S.take t)).getD q 0 + 1)
                  have hst : Hid (bump (hufI l j).2 (S.take (t + 1)) = (bump (hufI l j).2 (S.take t)).set q ((bump (hufI l j).2 (S.take t)).getD q 0 + 1)) := by
                    show bump (hufI l j).2 (S.take (t + 1)) = _
                    rw [unhide hbt1]
                    unfold bump1
                    rw [Int.toNat_natCast]
                  have hyI : (bump (hufI l j).2 (S.take t)).getD q 0 ≤ 100000 := by
                    have h1 := hyb.2
                    have h2 : (S.take t).length ≤ 300 := by rw [List.length_take]; have := (unhide hSl).1; omega
                    have := unhide hjb
                    omega
                  have hy0 := hyb.1
                  have hbt2 := below_set hbt (b := w.heap.size) (o := q) (Nat.le_refl _) (.int .i64 ((bump (hufI l j).2 (S.take t)).getD q 0 + 1))
                  have htch2 := htch.set (o := q) rfl (.int .i64 ((bump (hufI l j).2 (S.take t)).getD q 0 + 1))
                  generalize (bump (hufI l j).2 (S.take t)).getD q 0 = y at *
                  have HPUT := hide (And.intro hput (And.intro hbt2 htch2))
                  have hqI : (q : Int) < (k : Int) := by omega
                  have htI : (t : Int) < (S.length : Int) := by omega
                  clear hput hbt2 htch2 hpt hsyt hbt htch hyb hx hq hqk
                  go_wp2_with fail
                  go_region
                  obtain ⟨hput, hbt2, htch2⟩ := unhide HPUT
                  rw [← unhide hst] at hput
                  go_wp2
                  go_roundw
                  case rel => exact ⟨t + 1, by have := unhide htk; omega, by go_num, hput, htch2, hbt2.drew⟩
                  case measure => simp [intOf]; omega
                · have htS : S.take t = S := List.take_of_length_le (by omega)
                  rw [htS] at hpt
                  have htq : Trow 89 wr (w.heap.size + 1) (.slice ra (restG (restG M)).length rc') (restG (restG M)) := ownsRow_touch (unhide HT6) htch (touch_lt _ _ (Nat.lt_succ_self _))
                  have hsq : Syms wr (w.heap.size + 1) (restG (restG M)) := fun g hg => (unhide HS6 g (rest_sub M _ (rest_sub _ _ hg))).touch htch (touch_lt _ _ (Nat.lt_succ_self _))
                  have hvq : IOwn wr (w.heap.size + 1) (.slice (some ⟨gs, 0, none⟩) S.length sc) S := ((unhide HSY).touch htch (touch_lt _ _ (by omega))).mono hw4
                  have a0q := (touch_cell (p := ⟨x1.heap.size, 0, none⟩) htch (unhide HX13).1).trans (unhide HAB).1
                  have b0q := (touch_cell (p := ⟨x3.heap.size, 0, none⟩) htch (unhide HX13).2).trans (unhide HAB).2
                  have hnext : Hid ((hufI l (j + 1)).2 = bump (hufI l j).2 S) := by
                    show (hufI l (j + 1)).2 = _
                    simp only [hufI]
                    rw [← unhide HM2, syms_bare, unhide hSe]
                  have hnext1 : Hid ((hufI l (j + 1)).1 = (restG (restG M)).map bare ++ [joinG A Bg]) := by
                    show (hufI l (j + 1)).1 = _
                    simp only [hufI]
                    rw [← unhide HM2, step_bare, unhide HA0, unhide HB0]
                  rw [← unhide hnext] at hpt
                  obtain ⟨hrl2, hrl, hgo, hM300, il⟩ := unhide HRL
                  have hj1 : Hid (j + 1 < U) := by show j + 1 < U; omega
                  have hlr2 : Hid ((restG (restG M)).length + 1 < M.length + 0) := by show _ < _; omega
                  have hlen1 : Hid ((restG (restG M)).length + 1 ≤ maxLen ∧ ((restG (restG M)).length + 1) * 40 ≤ 140737488355328) := by show _ ∧ _; unfold maxLen; omega
                  have hcs := unhide HTT
                  have hcI : A.cnt + Bg.cnt ≤ 30000000 := by have := hcs.1; have := hcs.2.1; omega
                  have hcA0 := hcs.2.2.1.1
                  have hcB0 := hcs.2.2.2.1
                  have hbq : w.heap.size + 1 ≤ wr.heap.size := hpt.below.2
                  have HPQ := hide (And.intro htq (And.intro hsq (And.intro hvq (And.intro hpt hbt))))
                  have hgrp : Hid ((joinG A Bg).cnt = A.cnt + Bg.cnt) := rfl
                  clear hrl2 hrl hgo hM300 il htq hsq hvq hpt hbt htch htS hcs HTT HRL HT6 HS6 HSY HAB
                  rw [unhide hFe]
                  go_wp2_with (at_builtin; refine wpList_append_own _ rfl _ _ 87 rfl (w.heap.size + 1) 89 j0 (.agg #[.int .i64 0, .int .i64 0, .slice none 0 0]) 3 40 Try.underlying87 hj hy0 hy1 hy2 rfl (by decide) _ _ _ rfl (World.ownsRow.alloc (unhide HPQ).1 _) ⟨wr.heap.size, 0, none⟩ 1 1 [.int .i64 (A.cnt + Bg.cnt), .int .i64 F, .slice (some ⟨gs, 0, none⟩) S.length sc] rfl rfl (three_new _ _ _ _ _ _ rfl) (three_one _ _ _ _ _) (unhide hlen1).1 (unhide hlen1).2 (size_alloc_le hbq _) ?_; intro v7 x7 hown7 hgrow7 hnil7; clear hnil7)
                  obtain ⟨htq, hsq, hvq, hpt, hbt⟩ := unhide HPQ
                  have hal : Below wr.heap.size wr (wr.alloc (.cells #[.int .i64 (A.cnt + Bg.cnt), .int .i64 F, .slice (some ⟨gs, 0, none⟩) S.length sc] 89)) := (Below.refl _ _).alloc (Nat.le_refl _) _
                  have htq2 := htq.later hal (Nat.le_refl _)
                  have hs7 := (hsq.later hal (Nat.le_refl _)).grown htq2 (by decide) hgrow7
                  have hv7 := ints_grown (hvq.later hal (Nat.le_refl _)) htq2 (by decide) hgrow7
                  have hp7 := ints_grown (hpt.later hal (Nat.le_refl _)) htq2 (by decide) hgrow7
                  have hb7 : Below w.heap.size w x7 := grown_step (v := .slice ra (restG (restG M)).length rc') hgrow7 htq (by omega) (by omega) hbt
                  have ht7 := trow_snoc ⟨A.cnt + Bg.cnt, F, S, .slice (some ⟨gs, 0, none⟩) S.length sc⟩ hown7
                  have hs8 := hs7.snoc (g := ⟨A.cnt + Bg.cnt, F, S, .slice (some ⟨gs, 0, none⟩) S.length sc⟩) hv7
                  have hbr : Hid ((restG (restG M) ++ [(⟨A.cnt + Bg.cnt, F, S, .slice (some ⟨gs, 0, none⟩) S.length sc⟩ : Grp)]).map bare = (hufI l (j + 1)).1) := by
                    show _ = (hufI l (j + 1)).1
                    rw [unhide hnext1, List.map_append]
                    congr 1
                    have e : joinG A Bg = ⟨A.cnt + Bg.cnt, F, S, .slice none 0 0⟩ := by
                      rw [← unhide HF, ← unhide hJs]
                      rfl
                    rw [e]
                    rfl
                  have hsl7 : Hid (sliceLen v7 < M.length) := by
                    show sliceLen v7 < M.length
                    obtain ⟨fa, fc, hv⟩ := ht7.form
                    rw [hv]
                    have := unhide hlr2
                    simp only [sliceLen, List.length_append, List.length_singleton]
                    omega
                  clear hown7 hgrow7 hal htq2 hs7 hv7 htq hsq hvq hpt hbt HPQ
                  go_wp2
                  go_roundw
                  case rel => exact ⟨j + 1, _, .inl (unhide hj1), unhide hbr, ht7, hs8, hp7, hb7⟩
                  case measure => exact unhide hsl7
            · have hFe : Hid (A.fst = F) := by have := unhide hmin; rw [unhide HF, if_neg hlt2] at this; exact this.symm
              go_wp2_with fail
              go_region_held3 (fun W => W.cell? ⟨x1.heap.size, 2, none⟩ = some (.slice (some ⟨ga, 0, none⟩) A.syms.length ac) ∧ W.cell? ⟨x3.heap.size, 2, none⟩ = some (.slice (some ⟨gb, 0, none⟩) Bg.syms.length bc)) (first | exact HCC _ hB4d | assumption | exact HCC _ hBd) (first
                | (refine step_append_own rfl (.tmp 76) (.tmp 78) 23 rfl x4.heap.size 3 i0 (.int .i64 0) 1 8 Try.underlying23 hi hz0 hz1 hz2 rfl (Nat.zero_lt_succ 0) (.slice (some ⟨x4.heap.size, 0, none⟩) 0 0) _ _ rfl hR0 ⟨ga, 0, none⟩ A.syms.length ac (A.syms.map (Value.int .i64)) rfl (unhide hcA) (unhide HSA _ hBd) (ints_oneCell .i64 _) (unhide hb1).1 (unhide hb1).2 hBd.size ?_; intro v5 x5 hown5 hgrow5 hnil5; clear hnil5; have hB5 : Below x4.heap.size x4 x5 := hBd.grown hgrow5 hBd.size (fun j hj => (World.ownsRow.lt hR0 j hj).1); have hC5 := HCC _ hB5)
                | (refine step_append_own rfl (.tmp 79) (.tmp 81) 23 rfl x4.heap.size 3 i0 (.int .i64 0) 1 8 Try.underlying23 hi hz0 hz1 hz2 rfl (Nat.zero_lt_succ 0) v5 _ _ rfl hown5 ⟨gb, 0, none⟩ Bg.syms.length bc (Bg.syms.map (Value.int .i64)) rfl (unhide hcB) (unhide HSB _ hB5) (ints_oneCell .i64 _) (unhide hb2).1 (unhide hb2).2 hB5.size ?_; intro v6 x6 hown6 hgrow6 hnil6; clear hnil6; have hB6 : Below x4.heap.size x4 x6 := hB5.grown hgrow6 hB5.size (fun j hj => (World.ownsRow.lt hown5 j hj).1); have hC6 := HCC _ hB6))
              obtain ⟨ht4, hs4, hp4, hB4⟩ := unhide HQ4
              have hw4 : w.heap.size + 1 ≤ x4.heap.size := hp4.below.2
              have hsy : IOwn x6 x4.heap.size v6 (A.syms ++ Bg.syms) := by
                show World.ownsRow _ _ _ _ _ (A.syms ++ Bg.syms).length ((A.syms ++ Bg.syms).map (Value.int .i64))
                rw [List.length_append, List.map_append]
                simpa using hown6
              have hSl : Hid ((A.syms ++ Bg.syms).length ≤ 300 ∧ 0 < (A.syms ++ Bg.syms).length) := by
                show _ ∧ _
                rw [List.length_append]
                have := unhide HLA
                have := (unhide HTT).2.2.1.2.2.2.2
                omega
              have hSw : Hid (∀ x ∈ A.syms ++ Bg.syms, 0 ≤ x ∧ x < (k : Int)) := by
                intro x hx
                simp only [List.mem_append] at hx
                rcases hx with hx | hx
                · exact (unhide HTT).2.2.1.2.2.2.1 x hx
                · exact (unhide HTT).2.2.2.2.2.2.1 x hx
              have hSe : Hid (symsG M = A.syms ++ Bg.syms) := by
                show symsG M = _
                unfold symsG
                rw [unhide HA0, unhide HB0]
              have hJs : Hid ((joinG A Bg).syms = A.syms ++ Bg.syms) := rfl
              generalize A.syms ++ Bg.syms = S at *
              obtain ⟨sv, sc, hvv⟩ := hsy.form
              obtain ⟨gs, hgs⟩ := (hvv ▸ hsy).somes (unhide hSl).2
              rw [hgs] at hvv
              rw [hvv]
              rw [hvv] at hsy
              have ht6 := ht4.later hB6 (Nat.le_refl _)
              have hs6 := hs4.later hB6 (Nat.le_refl _)
              have hp6 := hp4.later hB6 (Nat.le_refl _)
              have hBB6 := bnext hB4 hB6
              have hgsb := hsy.below
              have a0' := (hB6.cell (p := ⟨x1.heap.size, 0, none⟩) abl).trans a0
              have b0' := (hB6.cell (p := ⟨x3.heap.size, 0, none⟩) bbl).trans b0
              have hmx := hide (hufI_max l (fun i hi => (unhide HC i hi).2) (by rw [unhide HN]; exact unhide HM) j (by rw [unhide HUE]; exact unhide HJ))
              have hjb : Hid ((j : Int) ≤ 300) := by show (j : Int) ≤ 300; have := unhide HJ; have := unhide hU; have := unhide HUB; omega
              have hx13 : x1.heap.size ≠ w.heap.size ∧ x3.heap.size ≠ w.heap.size := ⟨HNE1, HNE3⟩
              have HSY := hide hsy
              have HT6 := hide ht6
              have HS6 := hide hs6
              have HX13 := hide hx13
              have HAB := hide (And.intro a0' b0')
              have HGS := hide hgsb
              have sI : (S.length : Int) ≤ 300 := by have := (unhide hSl).1; omega
              clear hown5 hown6 hgrow5 hgrow6 hC5 hC6 hB5 ht4 hs4 hp4 hB4 ht6 hs6 hsy HCC HSA HSB hR0 hBd hB4d hvv hgs a0 a1 a2 b0 b1 b2 hx13 a0' b0' hgsb hcA hcB
              go_wp2_with fail
              go_loopw [11] (fun i wq => ∃ t : Nat, t ≤ S.length ∧ i = .int .i64 t ∧ IOwn wq w.heap.size (.slice (some ⟨w.heap.size, 0, none⟩) k k) (bump (hufI l j).2 (S.take t)) ∧ Touch (some ⟨w.heap.size, 0, none⟩) x6 wq ∧ Below w.heap.size w wq) (fun i _ => S.length - (intOf i).toNat)
              case atStart => exact ⟨0, Nat.zero_le _, rfl, hp6, Touch.refl _ _, hBB6⟩
              case round =>
                obtain ⟨t, ht, rfl, hpt, htch, hbt⟩ := hrel
                clear hp6 hBB6
                have hln : Hid ((bump (hufI l j).2 (S.take t)).length = k) := by show (bump (hufI l j).2 (S.take t)).length = k; rw [bump_len, hufI_len, unhide HN]
                have htk : Hid (t ≤ S.length) := ht
                clear ht
                by_cases hlt3 : t < S.length
                · have hsyt := (unhide HSY).touch htch (by intro g e; simp only [Option.some.injEq, Addr.mk.injEq, and_true] at e; have := hw4; omega)
                  obtain ⟨c0, _, _, _⟩ := hsyt.at rfl hlt3
                  have hx := unhide hSw (S.getD t 0) (by simp [List.getD, hlt3])
                  have hbt1 := hide (bump_take (hufI l j).2 S t hlt3)
                  have hmx2 := hide (bump_max (unhide hmx) (S.take t))
                  obtain ⟨q, hq⟩ := Int.eq_ofNat_of_zero_le hx.1
                  rw [hq] at c0 hbt1
                  have hqk : q < k := by omega
                  obtain ⟨d0, f0, _, _⟩ := hpt.at (unhide hln) hqk
                  have hyb := unhide hmx2 q (by rw [unhide hln]; exact hqk)
                  have hput := hpt.put (j := q) (unhide hln) ((bump (hufI l j).2 (S.take t)).getD q 0 + 1)
                  have hst : Hid (bump (hufI l j).2 (S.take (t + 1)) = (bump (hufI l j).2 (S.take t)).set q ((bump (hufI l j).2 (S.take t)).getD q 0 + 1)) := by
                    show bump (hufI l j).2 (S.take (t + 1)) = _
                    rw [unhide hbt1]
                    unfold bump1
                    rw [Int.toNat_natCast]
                  have hyI : (bump (hufI l j).2 (S.take t)).getD q 0 ≤ 100000 := by
                    have h1 := hyb.2
                    have h2 : (S.take t).length ≤ 300 := by rw [List.length_take]; have := (unhide hSl).1; omega
                    have := unhide hjb
                    omega
                  have hy0 := hyb.1
                  have hbt2 := below_set hbt (b := w.heap.size) (o := q) (Nat.le_refl _) (.int .i64 ((bump (hufI l j).2 (S.take t)).getD q 0 + 1))
                  have htch2 := htch.set (o := q) rfl (.int .i64 ((bump (hufI l j).2 (S.take t)).getD q 0 + 1))
                  generalize (bump (hufI l j).2 (S.take t)).getD q 0 = y at *
                  have HPUT := hide (And.intro hput (And.intro hbt2 htch2))
                  have hqI : (q : Int) < (k : Int) := by omega
                  have htI : (t : Int) < (S.length : Int) := by omega
                  clear hput hbt2 htch2 hpt hsyt hbt htch hyb hx hq hqk
                  go_wp2_with fail
                  go_region
                  obtain ⟨hput, hbt2, htch2⟩ := unhide HPUT
                  rw [← unhide hst] at hput
                  go_wp2
                  go_roundw
                  case rel => exact ⟨t + 1, by have := unhide htk; omega, by go_num, hput, htch2, hbt2.drew⟩
                  case measure => simp [intOf]; omega
                · have htS : S.take t = S := List.take_of_length_le (by omega)
                  rw [htS] at hpt
                  have htq : Trow 89 wr (w.heap.size + 1) (.slice ra (restG (restG M)).length rc') (restG (restG M)) := ownsRow_touch (unhide HT6) htch (touch_lt _ _ (Nat.lt_succ_self _))
                  have hsq : Syms wr (w.heap.size + 1) (restG (restG M)) := fun g hg => (unhide HS6 g (rest_sub M _ (rest_sub _ _ hg))).touch htch (touch_lt _ _ (Nat.lt_succ_self _))
                  have hvq : IOwn wr (w.heap.size + 1) (.slice (some ⟨gs, 0, none⟩) S.length sc) S := ((unhide HSY).touch htch (touch_lt _ _ (by omega))).mono hw4
                  have a0q := (touch_cell (p := ⟨x1.heap.size, 0, none⟩) htch (unhide HX13).1).trans (unhide HAB).1
                  have b0q := (touch_cell (p := ⟨x3.heap.size, 0, none⟩) htch (unhide HX13).2).trans (unhide HAB).2
                  have hnext : Hid ((hufI l (j + 1)).2 = bump (hufI l j).2 S) := by
                    show (hufI l (j + 1)).2 = _
                    simp only [hufI]
                    rw [← unhide HM2, syms_bare, unhide hSe]
                  have hnext1 : Hid ((hufI l (j + 1)).1 = (restG (restG M)).map bare ++ [joinG A Bg]) := by
                    show (hufI l (j + 1)).1 = _
                    simp only [hufI]
                    rw [← unhide HM2, step_bare, unhide HA0, unhide HB0]
                  rw [← unhide hnext] at hpt
                  obtain ⟨hrl2, hrl, hgo, hM300, il⟩ := unhide HRL
                  have hj1 : Hid (j + 1 < U) := by show j + 1 < U; omega
                  have hlr2 : Hid ((restG (restG M)).length + 1 < M.length + 0) := by show _ < _; omega
                  have hlen1 : Hid ((restG (restG M)).length + 1 ≤ maxLen ∧ ((restG (restG M)).length + 1) * 40 ≤ 140737488355328) := by show _ ∧ _; unfold maxLen; omega
                  have hcs := unhide HTT
                  have hcI : A.cnt + Bg.cnt ≤ 30000000 := by have := hcs.1; have := hcs.2.1; omega
                  have hcA0 := hcs.2.2.1.1
                  have hcB0 := hcs.2.2.2.1
                  have hbq : w.heap.size + 1 ≤ wr.heap.size := hpt.below.2
                  have HPQ := hide (And.intro htq (And.intro hsq (And.intro hvq (And.intro hpt hbt))))
                  have hgrp : Hid ((joinG A Bg).cnt = A.cnt + Bg.cnt) := rfl
                  clear hrl2 hrl hgo hM300 il htq hsq hvq hpt hbt htch htS hcs HTT HRL HT6 HS6 HSY HAB
                  rw [unhide hFe]
                  go_wp2_with (at_builtin; refine wpList_append_own _ rfl _ _ 87 rfl (w.heap.size + 1) 89 j0 (.agg #[.int .i64 0, .int .i64 0, .slice none 0 0]) 3 40 Try.underlying87 hj hy0 hy1 hy2 rfl (by decide) _ _ _ rfl (World.ownsRow.alloc (unhide HPQ).1 _) ⟨wr.heap.size, 0, none⟩ 1 1 [.int .i64 (A.cnt + Bg.cnt), .int .i64 F, .slice (some ⟨gs, 0, none⟩) S.length sc] rfl rfl (three_new _ _ _ _ _ _ rfl) (three_one _ _ _ _ _) (unhide hlen1).1 (unhide hlen1).2 (size_alloc_le hbq _) ?_; intro v7 x7 hown7 hgrow7 hnil7; clear hnil7)
                  obtain ⟨htq, hsq, hvq, hpt, hbt⟩ := unhide HPQ
                  have hal : Below wr.heap.size wr (wr.alloc (.cells #[.int .i64 (A.cnt + Bg.cnt), .int .i64 F, .slice (some ⟨gs, 0, none⟩) S.length sc] 89)) := (Below.refl _ _).alloc (Nat.le_refl _) _
                  have htq2 := htq.later hal (Nat.le_refl _)
                  have hs7 := (hsq.later hal (Nat.le_refl _)).grown htq2 (by decide) hgrow7
                  have hv7 := ints_grown (hvq.later hal (Nat.le_refl _)) htq2 (by decide) hgrow7
                  have hp7 := ints_grown (hpt.later hal (Nat.le_refl _)) htq2 (by decide) hgrow7
                  have hb7 : Below w.heap.size w x7 := grown_step (v := .slice ra (restG (restG M)).length rc') hgrow7 htq (by omega) (by omega) hbt
                  have ht7 := trow_snoc ⟨A.cnt + Bg.cnt, F, S, .slice (some ⟨gs, 0, none⟩) S.length sc⟩ hown7
                  have hs8 := hs7.snoc (g := ⟨A.cnt + Bg.cnt, F, S, .slice (some ⟨gs, 0, none⟩) S.length sc⟩) hv7
                  have hbr : Hid ((restG (restG M) ++ [(⟨A.cnt + Bg.cnt, F, S, .slice (some ⟨gs, 0, none⟩) S.length sc⟩ : Grp)]).map bare = (hufI l (j + 1)).1) := by
                    show _ = (hufI l (j + 1)).1
                    rw [unhide hnext1, List.map_append]
                    congr 1
                    have e : joinG A Bg = ⟨A.cnt + Bg.cnt, F, S, .slice none 0 0⟩ := by
                      rw [← unhide HF, ← unhide hJs]
                      rfl
                    rw [e]
                    rfl
                  have hsl7 : Hid (sliceLen v7 < M.length) := by
                    show sliceLen v7 < M.length
                    obtain ⟨fa, fc, hv⟩ := ht7.form
                    rw [hv]
                    have := unhide hlr2
                    simp only [sliceLen, List.length_append, List.length_singleton]
                    omega
                  clear hown7 hgrow7 hal htq2 hs7 hv7 htq hsq hvq hpt hbt HPQ
                  go_wp2
                  go_roundw
                  case rel => exact ⟨j + 1, _, .inl (unhide hj1), unhide hbr, ht7, hs8, hp7, hb7⟩
                  case measure => exact unhide hsl7
          · have hexit := hide (unhide hfin j (by omega) (unhide HJ))
            have hgoI : ¬ (1 : Int) < (M.length : Int) := by omega
            have HP := hide hpm
            clear htm hsm hpm ic is
            go_wp2
            go_ret
            exact ⟨rfl, by rw [unhide hexit]; exact unhide HP, hbm⟩

end Go.Proofs.Ytnomiopdpmecbaa
/- Lengths that fit: the model's, over this seat's program. -/
namespace Go.Proofs.Ytnomiopdpmecbaa
open Go.RowKit

set_option maxHeartbeats 400000 in
theorem l3Most_any (a : Option Addr) (cap n : Nat) (o : List Int) (w : World) (hn : o.length = n) (h : IRow w a o) (hm : n ≤ 300) :
    Calls Try.prog 52 #[.slice a n cap] w fun e w' => e = .returned (.int .i64 (mostL o n)) ∧ w' = w := by
  subst hn
  have hmI : (o.length : Int) ≤ 300 := by omega
  clear hm
  go_enter Try.func52, Try.ntmps52
  go_wp2_with fail
  go_loop [3, 4] (fun m i => ∃ k : Nat, k ≤ o.length ∧ i = .int .i64 k ∧ m = .int .i64 (mostL o k)) (fun _ i => o.length - (intOf i).toNat)
  case atStart => exact ⟨0, Nat.zero_le _, rfl, rfl⟩
  case round =>
    obtain ⟨k, hk, rfl, rfl⟩ := hrel
    have HK := hide hk
    by_cases hlt : k < o.length
    · obtain ⟨g, f, rfl, hg, hc⟩ := h (by omega)
      have c0 := hc k hlt
      have hst : Hid (mostL o (k + 1) = if mostL o k < o.getD k 0 then o.getD k 0 else mostL o k) := rfl
      clear hc hk h
      generalize o.getD k 0 = y at *
      generalize mostL o k = m at *
      by_cases hy : m < y
      · have hst' : Hid (mostL o (k + 1) = y) := by have := unhide hst; rw [if_pos hy] at this; exact this
        go_wp2
        go_round
        case rel => exact ⟨k + 1, by omega, by go_num, by rw [unhide hst']⟩
        case measure => simp [intOf]; omega
      · have hst' : Hid (mostL o (k + 1) = m) := by have := unhide hst; rw [if_neg hy] at this; exact this
        go_wp2
        go_round
        case rel => exact ⟨k + 1, by omega, by go_num, by rw [unhide hst']⟩
        case measure => simp [intOf]; omega
    · obtain rfl : k = o.length := by omega
      clear h
      go_wp2
      go_ret
      exact ⟨rfl, rfl⟩

def sumW (w : World) (b n : Nat) : Nat := ((List.range n).map (fun i => (intOf ((w.cell? ⟨b, i, none⟩).getD (.int .i64 0))).toNat)).sum
theorem sumW_eq {w : World} {base b n c : Nat} {l : List Int} (hn : l.length = n) (h : IOwn w base (.slice (some ⟨b, 0, none⟩) n c) l) : sumW w b n = sumP l := by
  unfold sumW sumP
  congr 1
  apply List.ext_getElem
  · simp [hn]
  · intro i h1 h2
    have hi : i < n := by simpa using h1
    have := (h.at hn hi).1
    simp only [List.getElem_map, List.getElem_range]
    rw [this]
    have e : l.getD i 0 = l[i] := by simp [List.getD, show i < l.length by omega]
    rw [e]
    rfl
theorem half_step (l : List Int) (j : Nat) (h : j < l.length) : (halfL (l.take j) ++ l.drop j).set j (halfI (l.getD j 0)) = halfL (l.take (j + 1)) ++ l.drop (j + 1) := by
  have hl : (halfL (l.take j)).length = j := by simp [halfL]; omega
  rw [List.set_append_right _ _ (by omega), hl, Nat.sub_self, take_snocI l j h]
  have h1 : l.drop j = l[j] :: l.drop (j + 1) := List.drop_eq_getElem_cons h
  rw [h1, List.set_cons_zero]
  simp [halfL]
theorem half_mid (l : List Int) (j : Nat) (h : j < l.length) : (halfL (l.take j) ++ l.drop j).getD j 0 = l.getD j 0 := by
  have hl : (halfL (l.take j)).length = j := by simp [halfL]; omega
  simp only [List.getD]
  rw [List.getElem?_append_right (by omega), hl, Nat.sub_self, List.getElem?_drop]
  simp
def okC (l : List Int) : Prop := ∀ i, i < l.length → 0 ≤ l.getD i 0 ∧ l.getD i 0 ≤ 100000
theorem okC_half {l : List Int} (h : okC l) : okC (halfL l) := by
  intro i hi
  rw [halfL_len] at hi
  rw [halfL_get l i hi]
  have := h i hi
  unfold halfI
  omega
theorem okC_pos {l : List Int} (h : okC l) : ∀ x ∈ l, 0 ≤ x := by
  intro x hx
  obtain ⟨i, hi, rfl⟩ := List.getElem_of_mem hx
  have := (h i hi).1
  have e : l.getD i 0 = l[i] := by simp [List.getD, hi]
  rw [e] at this
  exact this
/-- Lengths that fit. -/
def fitL (m : Int) (l : List Int) : List Int := fitF m (sumP l) l

set_option maxHeartbeats 1600000 in
theorem l3Fit_any (a : Option Addr) (cap n mm : Nat) (l : List Int) (w : World) (hn : l.length = n) (h : IRow w a l) (h1 : 1 ≤ n) (hm : n ≤ 300) (hc : okC l) (hU : (seed l l.length).length ≤ p2 mm) (hmm : mm ≤ 14) :
    Calls Try.prog 49 #[.slice a n cap, .int .i64 ((mm : Int) + 1)] w fun e w' => (∃ v, e = .returned v ∧ IOwn w' w.heap.size v (fitL ((mm : Int) + 1) l)) ∧ Below w.heap.size w w' := by
  obtain ⟨i0, hi, hz0, hz1, hz2⟩ := info_parts Try.infoInt
  obtain ⟨g, o, rfl, hg, hcl⟩ := h (by omega)
  have hmI : (n : Int) ≤ 300 := by omega
  have hmmI : (mm : Int) ≤ 14 := by omega
  have HN := hide hn
  have HC := hide hc
  have HU := hide hU
  have HM := hide (And.intro h1 hm)
  have hB0 : Below w.heap.size w (w.alloc (.cells #[] 3)) := (Below.refl _ _).alloc (Nat.le_refl _) _
  have hR0 : World.ownsRow (w.alloc (.cells #[] 3)) w.heap.size 3 1 (.slice (some ⟨w.heap.size, 0, none⟩) 0 0) 0 [] := World.ownsRow_lit w #[] 0 (Nat.le_refl _) (by unfold maxLen; omega) rfl
  have hnews : Hid (∀ j u, (l.map (Value.int .i64))[j]? = some u → (w.alloc (.cells #[] 3)).cell? ((⟨g, o, none⟩ : Addr).add j) = some u) := by
    intro j u hj
    have hjl : j < l.length := by have := (List.getElem?_eq_some_iff.1 hj).1; simpa using this
    have hadd : (⟨g, o, none⟩ : Addr).add j = ⟨g, o + j, none⟩ := by unfold Addr.add; split <;> simp_all
    rw [hadd, hB0.cell (p := ⟨g, o + j, none⟩) hg, hcl j hjl, ← hj]
    simp [List.getD, hjl]
  have hll : Hid ((l.map (Value.int .i64)).length = n * 1) := by show _ = _; simp [hn]
  have hb1 : Hid (0 + n ≤ maxLen ∧ (0 + n) * 8 ≤ 140737488355328) := by show _ ∧ _; unfold maxLen; omega
  clear hn hc hU h1 hm hcl hmm h
  go_enter Try.func49, Try.ntmps49
  go_wp2_with (at_builtin; refine wpList_append_own _ rfl _ _ 23 rfl w.heap.size 3 i0 (.int .i64 0) 1 8 Try.underlying23 hi hz0 hz1 hz2 rfl (by decide) _ _ _ rfl hR0 ⟨g, o, none⟩ n cap (l.map (Value.int .i64)) rfl (unhide hll) (unhide hnews) (ints_oneCell .i64 _) (unhide hb1).1 (unhide hb1).2 hB0.size ?_; intro v1 x1 hown hgrow hnil; clear hnil)
  have hv1 : IOwn x1 w.heap.size v1 l := by
    show World.ownsRow _ _ _ _ _ l.length _
    rw [unhide HN]
    simpa using hown
  have hB1 : Below w.heap.size w x1 := hB0.grown hgrow hB0.size (fun j hj => (World.ownsRow.lt hR0 j hj).1)
  obtain ⟨va, vc, hvv⟩ := hv1.formN (unhide HN)
  rw [hvv]
  rw [hvv] at hv1
  refine (l3Lens_any va vc n l x1 (unhide HN) (hv1.rowN (unhide HN)) (unhide HM).2 (unhide HC)).mono ?_
  rintro e x2 ⟨rfl, ho2, hb2⟩
  have hv2 := hv1.later hb2 (Nat.le_refl _)
  have hB2 := bnext hB1 hb2
  have hx12 : w.heap.size ≤ x1.heap.size := hB1.size
  obtain ⟨lb, hlb⟩ := hv1.somes (by rw [unhide HN]; exact (unhide HM).1)
  subst hlb
  have hlbx := hv1.below
  have HX := hide (And.intro hx12 hlbx)
  clear hv1 hb2 hown hgrow hvv hR0 hB0 hlbx
  go_wp2_with fail
  go_loopw [6, 7] (fun v _ wr => ∃ (cur : List Int) (f ob : Nat), cur.length = n ∧ okC cur ∧ (seed cur cur.length).length ≤ p2 mm ∧ sumP cur ≤ f ∧ fitL ((mm : Int) + 1) l = fitF ((mm : Int) + 1) f cur ∧ v = .slice (some ⟨ob, 0, none⟩) n n ∧ lb < ob ∧ IOwn wr ob (.slice (some ⟨ob, 0, none⟩) n n) (hufL cur) ∧ IOwn wr w.heap.size (.slice (some ⟨lb, 0, none⟩) n vc) cur ∧ Below w.heap.size w wr) (fun _ _ wr => sumW wr lb n)
  case atStart => exact ⟨l, sumP l, x1.heap.size, unhide HN, unhide HC, unhide HU, Nat.le_refl _, rfl, rfl, (unhide HX).2.2, ho2, hv2, hB2⟩
  case round =>
    obtain ⟨cur, f, ob, hcn, hcok, hcU, hcf, hfit, rfl, hlo, hou, hcv, hbel⟩ := hrel
    clear ho2 hv2 hB2
    have hlenh : (hufL cur).length = n := (hufL_len cur).trans hcn
    have HMo := hide (l3Most_any (some ⟨ob, 0, none⟩) n n (hufL cur) wr hlenh (hou.rowN hlenh) (unhide HM).2)
    have hmost : Hid (fits (hufL cur) ((mm : Int) + 1) = decide (mostL (hufL cur) n ≤ (mm : Int) + 1)) := by show _ = _; unfold fits; rw [hlenh]
    have HQ := hide (And.intro hcn (And.intro hcok (And.intro hcU (And.intro hcf hfit))))
    have HO := hide (And.intro hou (And.intro hcv hbel))
    have HS := hide (sumW_eq hcn hcv)
    have hlo' := hide hlo
    clear hcn hcok hcU hcf hfit hlenh hlo
    generalize mostL (hufL cur) n = mo at *
    by_cases hbig : (mm : Int) + 1 < mo
    · have hnf : fits (hufL cur) ((mm : Int) + 1) = false := by rw [unhide hmost]; exact decide_eq_false (by omega)
      obtain ⟨hcn, hcok, hcU, hcf, hfit⟩ := unhide HQ
      have hex := not_ones hcU hnf
      have hsum := (sum_half cur (okC_pos hcok)).2 hex
      have hf' : ∃ f', f = f' + 1 := ⟨f - 1, by omega⟩
      obtain ⟨f', hff⟩ := hf'
      have hfit2 : Hid (fitL ((mm : Int) + 1) l = fitF ((mm : Int) + 1) f' (halfL cur)) := by
        show _ = _
        rw [hfit, hff]
        simp only [fitF]
        rw [hnf]; rfl
      have hcf2 : Hid (sumP (halfL cur) ≤ f') := by show _ ≤ _; omega
      have HSL := hide hsum
      have hcok2 := hide (okC_half hcok)
      have hcU2 : Hid ((seed (halfL cur) (halfL cur).length).length ≤ p2 mm) := by show _ ≤ _; rw [halfL_len, seed_half cur (fun i hi => (hcok i hi).1) _ (Nat.le_refl _)]; exact hcU
      have hcn2 : Hid ((halfL cur).length = n) := (halfL_len cur).trans hcn
      clear hcn hcok hcU hcf hfit hex hsum hff
      go_wp2_with fail
      refine (unhide HMo).mono ?_
      rintro e x3 ⟨rfl, hx3⟩
      subst hx3
      obtain ⟨hou, hcv, hbel⟩ := unhide HO
      have hc0 : IOwn x3 w.heap.size (.slice (some ⟨lb, 0, none⟩) n vc) (halfL (cur.take 0) ++ cur.drop 0) := by simpa [halfL] using hcv
      clear hou hcv
      go_wp2_with fail
      go_loopw [7] (fun i wq => ∃ t : Nat, t ≤ n ∧ i = .int .i64 t ∧ IOwn wq w.heap.size (.slice (some ⟨lb, 0, none⟩) n vc) (halfL (cur.take t) ++ cur.drop t) ∧ Below w.heap.size w wq) (fun i _ => n - (intOf i).toNat)
      case atStart => exact ⟨0, Nat.zero_le _, rfl, hc0, hbel⟩
      case round =>
        obtain ⟨t, ht, rfl, hct, hbt⟩ := hrel
        clear hc0 hbel
        obtain ⟨hcn, hcok, _, _, _⟩ := unhide HQ
        have hln : Hid ((halfL (cur.take t) ++ cur.drop t).length = n) := by show _ = n; rw [List.length_append, halfL_len, List.length_take, List.length_drop]; omega
        by_cases hlt : t < n
        · have hput := hct.put (j := t) (unhide hln) (halfI (cur.getD t 0))
          rw [half_step cur t (by omega)] at hput
          obtain ⟨d0, f0, hbg, _⟩ := hct.at (unhide hln) hlt
          rw [half_mid cur t (by omega)] at d0
          have hy := hcok t (by omega)
          have hbt2 := below_set hbt (b := lb) (o := t) hbg (.int .i64 (halfI (cur.getD t 0)))
          unfold halfI at hput hbt2
          have HPUT := hide (And.intro hput hbt2)
          have htI : (t : Int) < (n : Int) := by omega
          have Ht := hide ht
          generalize cur.getD t 0 = y at *
          obtain ⟨y0, y1⟩ := hy
          have e1 : IntKind.i64.wrap ((y + 1).tdiv 2) = (y + 1) / 2 := by rw [Int.tdiv_eq_ediv_of_nonneg (by omega)]; simp [IntKind.wrap, IntKind.bits, IntKind.signed]; omega
          clear hput hbt2 hct hbt hcn hcok ht hbg
          go_wp2
          go_roundw
          case rel => exact ⟨t + 1, by have := unhide Ht; omega, by go_num, (unhide HPUT).1, (unhide HPUT).2⟩
          case measure => simp [intOf]; omega
        · have htn : t = n := by omega
          have hfull : halfL (cur.take t) ++ cur.drop t = halfL cur := by rw [List.take_of_length_le (by omega), List.drop_of_length_le (by omega)]; simp
          rw [hfull] at hct
          have hle := hide (l3Lens_any (some ⟨lb, 0, none⟩) vc n (halfL cur) wr (unhide hcn2) (hct.rowN (unhide hcn2)) (unhide HM).2 (unhide hcok2))
          have hlb2 := hct.below
          have HCT := hide (And.intro hct (And.intro hbt hlb2))
          have htI : ¬ (t : Int) < (n : Int) := by omega
          clear hct hbt hcn hcok hfull hlb2
          go_wp2_with fail
          refine (unhide hle).mono ?_
          rintro e x4 ⟨rfl, ho4, hb4⟩
          obtain ⟨hct, hbt, hlb2⟩ := unhide HCT
          have hc4 := hct.later hb4 (Nat.le_refl _)
          have hB4 := bnext hbt hb4
          have hms : Hid (sumW x4 lb n < sumW x3 lb n) := by
            show sumW x4 lb n < sumW x3 lb n
            rw [sumW_eq (unhide hcn2) hc4, unhide HS]
            exact unhide HSL
          clear hct hbt hb4
          go_wp2
          go_roundw
          case rel => exact ⟨halfL cur, f', wr.heap.size, unhide hcn2, unhide hcok2, unhide hcU2, unhide hcf2, unhide hfit2, rfl, hlb2.2, ho4, hc4, hB4⟩
          case measure => exact unhide hms
    · have hnf : fits (hufL cur) ((mm : Int) + 1) = true := by rw [unhide hmost]; exact decide_eq_true (by omega)
      have hres : Hid (fitL ((mm : Int) + 1) l = hufL cur) := by
        show _ = _
        rw [(unhide HQ).2.2.2.2]
        cases f with
        | zero => rfl
        | succ f => simp only [fitF]; rw [hnf]; rfl
      go_wp2_with fail
      refine (unhide HMo).mono ?_
      rintro e x3 ⟨rfl, hx3⟩
      subst hx3
      obtain ⟨hou, hcv, hbel⟩ := unhide HO
      have hbo : w.heap.size ≤ ob := by have := hcv.below.1; have := unhide hlo'; omega
      go_wp2
      go_ret
      exact ⟨⟨_, rfl, by rw [unhide hres]; exact hou.mono hbo⟩, hbel⟩

end Go.Proofs.Ytnomiopdpmecbaa
/- Lengths by counts: the model's, over this seat's program. -/
namespace Go.Proofs.Ytnomiopdpmecbaa
open Go.RowKit

def inC (l : List Int) : Bool := l.all (fun b => inB b 0 100000)
def lofOk (l : List Int) (m : Int) : Bool := decide (l.length ≤ 300) && inB m 1 15 && inC l && inB (us l : Nat) 1 ((p2 m.toNat / 2 : Nat) : Int)
def lensOfL (l : List Int) (m : Int) : List Int := if lofOk l m then fitL m l else []
theorem inC_take (l : List Int) (k : Nat) (h : k < l.length) : inC (l.take (k + 1)) = (inC (l.take k) && inB (l.getD k 0) 0 100000) := by
  rw [take_snocI l k h]; simp [inC]
theorem inC_get {l : List Int} {k : Nat} (h : k < l.length) (hn : inB (l.getD k 0) 0 100000 = false) : inC l = false := by
  rcases hb : inC l with _ | _
  · rfl
  · have := List.all_eq_true.1 hb (l.getD k 0) (by simp [List.getD, h])
    rw [hn] at this
    exact absurd this (by simp)
theorem okC_of {l : List Int} (h : inC l = true) : okC l := by
  intro i hi
  have := List.all_eq_true.1 h (l.getD i 0) (by simp [List.getD, hi])
  exact inB_true.1 this
theorem seed_us (l : List Int) (k : Nat) (hk : k ≤ l.length) : (seed l k).length = us (l.take k) := by
  induction k with
  | zero => rfl
  | succ k ih =>
    rw [us_take l k (by omega), ← ih (by omega)]
    simp only [seed]
    split
    · simp
    · rfl
theorem seed_usL (l : List Int) : (seed l l.length).length = us l := by
  rw [seed_us l _ (Nat.le_refl _), List.take_length]
theorem lofOk_no1 {l : List Int} {m : Int} (h : 300 < l.length ∨ inB m 1 15 = false ∨ inC l = false) : lensOfL l m = [] := by
  unfold lensOfL lofOk
  rcases h with h | h | h
  · rw [decide_eq_false (by omega)]; simp
  · rw [h]; simp
  · rw [h]; simp
theorem p2_half (m : Nat) : p2 (m + 1) / 2 = p2 m := by rw [p2_succ]; omega
theorem lensOfL_len (l : List Int) (m : Int) : (lensOfL l m).length ≤ 300 := by
  unfold lensOfL
  split
  · rename_i h
    simp only [lofOk, Bool.and_eq_true, decide_eq_true_iff] at h
    unfold fitL
    rw [fitF_len]
    exact h.1.1.1
  · simp

set_option maxHeartbeats 1600000 in
theorem specLensOf_any (a : Option Addr) (cap n : Nat) (l : List Int) (m : Int) (w : World) (hn : l.length = n) (h : IRow w a l) (hm : n ≤ 1048576) :
    Calls Try.prog 35 #[.slice a n cap, .int .i64 m] w fun e w' => (∃ v, e = .returned v ∧ IOwn w' w.heap.size v (lensOfL l m)) ∧ Below w.heap.size w w' := by
  have HN := hide hn
  have hmI : (n : Int) ≤ 1048576 := by omega
  by_cases h3 : (n : Int) ≤ 300
  · cases hmb : inB m 1 15
    · have Hr := hide (lofOk_no1 (l := l) (m := m) (Or.inr (Or.inl hmb)))
      clear hn h hm
      have d0 : decide ((300 : Int) < (n : Int)) = false := decide_eq_false (by omega)
      go_enter Try.func35, Try.ntmps35
      go_wp2_with fail
      refine (l1In_any _ _ _ _).mono ?_
      rintro e x1 ⟨rfl, hx⟩
      subst hx
      rw [hmb]
      go_wp2
      go_ret
      exact ⟨⟨_, rfl, by rw [unhide Hr]; exact IOwn.lit _ _ (Nat.le_refl _)⟩, (Below.refl _ _).alloc (Nat.le_refl _) _⟩
    · obtain ⟨m1, m2⟩ := inB_true.1 hmb
      obtain ⟨mm, rfl⟩ : ∃ mm : Nat, m = (mm : Int) + 1 := ⟨(m - 1).toNat, by omega⟩
      have HMB := hide hmb
      have hmm : (mm : Int) ≤ 14 := by omega
      have d0 : decide ((300 : Int) < (n : Int)) = false := decide_eq_false (by omega)
      clear hn hm
      go_enter Try.func35, Try.ntmps35
      go_wp2_with fail
      refine (l1In_any _ _ _ _).mono ?_
      rintro e x1 ⟨rfl, hx⟩
      subst hx
      rw [hmb]
      clear hmb
      go_wp2_with fail
      go_loopw [5] (fun i wr => ∃ k : Nat, k ≤ n ∧ i = .int .i64 k ∧ inC (l.take k) = true ∧ wr = x1) (fun i _ => n - (intOf i).toNat)
      case atStart => exact ⟨0, Nat.zero_le _, rfl, rfl, rfl⟩
      case round =>
        obtain ⟨k, hk, rfl, hin, rfl⟩ := hrel
        have HK := hide hk
        have HIN := hide hin
        clear hk hin
        by_cases hlt : k < n
        · obtain ⟨g, o, rfl, hg, hc⟩ := h (by rw [unhide HN]; omega)
          have c0 := hc k (by rw [unhide HN]; exact hlt)
          have hit := hide (inC_take l k (by rw [unhide HN]; exact hlt))
          have hget := hide (fun hn => inC_get (l := l) (k := k) (by rw [unhide HN]; exact hlt) hn)
          clear hc h
          generalize l.getD k 0 = y at *
          cases hy : inB y 0 100000
          · have hno := hide (lofOk_no1 (l := l) (m := (mm : Int) + 1) (Or.inr (Or.inr (unhide hget hy))))
            go_wp2_with fail
            refine (l1In_any _ _ _ _).mono ?_
            rintro e x2 ⟨rfl, hx⟩
            subst hx
            rw [hy]
            go_wp2
            go_ret
            exact ⟨⟨_, rfl, by rw [unhide hno]; exact IOwn.lit _ _ (Nat.le_refl _)⟩, (Below.refl _ _).alloc (Nat.le_refl _) _⟩
          · go_wp2_with fail
            refine (l1In_any _ _ _ _).mono ?_
            rintro e x2 ⟨rfl, hx⟩
            subst hx
            rw [hy]
            go_wp2
            go_roundw
            case rel => exact ⟨k + 1, by have := unhide HK; omega, by go_num, by rw [unhide hit, unhide HIN, hy]; rfl, by first | rfl | trivial⟩
            case measure => simp [intOf]; omega
        · have hlk : l.take k = l := List.take_of_length_le (by rw [unhide HN]; omega)
          have hin : inC l = true := by have := unhide HIN; rw [hlk] at this; exact this
          have hub := us_le l
          have huI : ((us l : Nat) : Int) ≤ 300 := by rw [unhide HN] at hub; omega
          have HUs := hide (l3Used_any a cap n l wr (unhide HN) h (by omega))
          have hpw := hide (fun W => l1Pow_any ((mm : Int) + 1) W (by omega))
          have hpe : p2 ((mm : Int) + 1).toNat = p2 mm * 2 := by
            have : ((mm : Int) + 1).toNat = mm + 1 := by omega
            rw [this, p2_succ]
          have hpl : p2 mm ≤ 16384 := by
            have h1 : p2 mm ≤ p2 14 := Nat.pow_le_pow_right (by omega) (by omega)
            have h2 : p2 14 = 16384 := rfl
            omega
          rw [hpe] at hpw
          have hpI : ((p2 mm * 2 : Nat) : Int) ≤ 32768 := by omega
          have e2 : ((p2 mm * 2 : Nat) : Int) / 2 = ((p2 mm : Nat) : Int) := by omega
          have hok : Hid (lofOk l ((mm : Int) + 1) = inB (us l : Nat) 1 ((p2 mm : Nat) : Int)) := by
            show lofOk l ((mm : Int) + 1) = _
            unfold lofOk
            rw [unhide HMB, hin, decide_eq_true (by rw [unhide HN]; omega)]
            have e3 : ((mm : Int) + 1).toNat = mm + 1 := by omega
            rw [e3, p2_half]
            simp
          have hlt' : ¬ (k : Int) < (n : Int) := by omega
          have HPQ := hide (And.intro hin hub)
          have hq1 : (1 : Int) ≤ ((p2 mm * 2 : Nat) : Int) := by have := p2_pos mm; omega
          clear hlk hpe hpl hin hub
          cases hu : inB (us l : Nat) 1 ((p2 mm : Nat) : Int)
          · have hres : Hid (lensOfL l ((mm : Int) + 1) = []) := by
              show lensOfL l ((mm : Int) + 1) = []
              unfold lensOfL
              rw [unhide hok, hu]; rfl
            clear h
            generalize p2 mm * 2 = PW at *
            go_wp2_with fail
            refine (unhide HUs).mono ?_
            rintro e x2 ⟨rfl, hx⟩
            subst hx
            go_wp2_with fail
            refine (unhide hpw _).mono ?_
            rintro e x3 ⟨rfl, hx⟩
            subst hx
            go_wp2_with fail
            refine (l1In_any _ _ _ _).mono ?_
            rintro e x4 ⟨rfl, hx⟩
            subst hx
            rw [hu]
            go_wp2
            go_ret
            exact ⟨⟨_, rfl, by rw [unhide hres]; exact IOwn.lit _ _ (Nat.le_refl _)⟩, (Below.refl _ _).alloc (Nat.le_refl _) _⟩
          · have hres : Hid (lensOfL l ((mm : Int) + 1) = fitL ((mm : Int) + 1) l) := by
              show lensOfL l ((mm : Int) + 1) = _
              unfold lensOfL
              rw [unhide hok, hu]; rfl
            obtain ⟨u1, u2⟩ := inB_true.1 hu
            have HF := hide (l3Fit_any a cap n mm l wr (unhide HN) h (by have := (unhide HPQ).2; rw [unhide HN] at this; omega) (by omega) (okC_of (unhide HPQ).1) (by rw [seed_usL]; omega) (by omega))
            clear h
            generalize p2 mm * 2 = PW at *
            go_wp2_with fail
            refine (unhide HUs).mono ?_
            rintro e x2 ⟨rfl, hx⟩
            subst hx
            go_wp2_with fail
            refine (unhide hpw _).mono ?_
            rintro e x3 ⟨rfl, hx⟩
            subst hx
            go_wp2_with fail
            refine (l1In_any _ _ _ _).mono ?_
            rintro e x4 ⟨rfl, hx⟩
            subst hx
            rw [hu]
            go_wp2_with fail
            refine (unhide HF).mono ?_
            rintro e x5 ⟨⟨v, rfl, hv⟩, hb⟩
            obtain ⟨va, vc, hvv⟩ := hv.form
            rw [hvv] at hv ⊢
            go_wp2
            go_ret
            exact ⟨⟨_, rfl, by rw [unhide hres]; exact hv⟩, hb⟩
  · have Hr := hide (lofOk_no1 (l := l) (m := m) (Or.inl (by omega)))
    clear hn h hm
    have d0 : decide ((300 : Int) < (n : Int)) = true := decide_eq_true (by omega)
    go_enter Try.func35, Try.ntmps35
    go_wp2
    go_ret
    exact ⟨⟨_, rfl, by rw [unhide Hr]; exact IOwn.lit _ _ (Nat.le_refl _)⟩, (Below.refl _ _).alloc (Nat.le_refl _) _⟩

end Go.Proofs.Ytnomiopdpmecbaa
/- Contracts of the draws of counts and lengths, over this seat's program. -/
namespace Go.Proofs.Ytnomiopdpmecbaa
open Go.RowKit

theorem rd_block {v : Value} {w : World} {b n : Nat} {e : TypeId} {size : Nat} {xs : List Value} (h : w.ownsRow (b + 1) e size v n xs) : ∀ j, v.ownBlock = some j → b < j := fun j hj => (World.ownsRow.lt h j hj).1

theorem counts_snoc {l : List Int} {x : Int} (h : inC l = true) (hx : x ∈ [(0 : Int), 1, 1, 2, 3, 5, 8, 13, 100, 5000, 100000]) : inC (l ++ [x]) = true := by
  simp only [inC, List.all_append, Bool.and_eq_true]
  refine ⟨h, ?_⟩
  simp only [List.all_cons, List.all_nil, Bool.and_true]
  rw [inB_true]
  simp only [List.mem_cons, List.not_mem_nil, or_false] at hx
  omega
/-- Drawn counts make lengths. -/
theorem drawn_lens {l : List Int} {r : Int} (h : inC l = true) (hl : l.length ≤ 12) (r0 : 0 ≤ r) (r1 : r < 9) : 1 ≤ (lensOfL (l ++ [1 + r]) 15).length := by
  have hin : inC (l ++ [1 + r]) = true := by
    simp only [inC, List.all_append, Bool.and_eq_true]
    refine ⟨h, ?_⟩
    simp only [List.all_cons, List.all_nil, Bool.and_true]
    rw [inB_true]; omega
  have hu : 1 ≤ us (l ++ [1 + r]) := by
    have : us (l ++ [1 + r]) = us l + 1 := by
      simp only [us, List.map_append, List.map_cons, List.map_nil, List.sum_append, List.sum_cons, List.sum_nil]
      rw [if_pos (by omega)]
      omega
    omega
  have hu2 := us_le (l ++ [1 + r])
  have hlen : (l ++ [1 + r]).length = l.length + 1 := by simp
  have hp : p2 (15 : Int).toNat / 2 = 16384 := rfl
  have hok : lofOk (l ++ [1 + r]) 15 = true := by
    unfold lofOk
    rw [hin, hp, decide_eq_true (by omega)]
    have h1 : inB 15 1 15 = true := by decide
    have h2 : inB ((us (l ++ [1 + r]) : Nat) : Int) 1 ((16384 : Nat) : Int) = true := by rw [inB_true]; omega
    rw [h1, h2]; rfl
  unfold lensOfL
  rw [hok, if_pos rfl]
  unfold fitL
  rw [fitF_len]; omega

set_option maxHeartbeats 1600000 in
theorem l11Counts_any (B b m : Nat) (w : World) (h : Rd w B b m) (hm : m ≤ 80000) :
    Calls Try.prog 36 #[.pointer (some ⟨b, 0, none⟩)] w fun e w' => (∃ (l : List Int) (v : Value), e = .returned v ∧ IOwn w' (b + 1) v l ∧ l.length ≤ 12 ∧ inC l = true) ∧ Rd w' B b (m + 20) ∧ Below b w w' := by
  obtain ⟨i0, hi, hz0, hz1, hz2⟩ := info_parts Try.infoInt
  have hltw := h.lt
  go_enter Try.func36, Try.ntmps36
  go_wp2_with fail
  refine (pick_any B b m _ _ (h.alloc _) (by omega) (by omega) (by omega)).mono ?_
  rintro e w1 ⟨r, rfl, r0, r1, hrd1, hon1⟩
  obtain ⟨n0, rfl⟩ := Int.eq_ofNat_of_zero_le r0
  have hown0 : IOwn w1 (b + 1) (.slice (some ⟨w.heap.size, 0, none⟩) 0 0) [] :=
    owns_only (World.ownsRow_lit w #[] 0 (by omega) (by unfold maxLen; omega) rfl) hon1 (by omega)
  have hbel1 := ((Below.refl b w).alloc (Nat.le_of_lt hltw) (.cells #[] 3)).trans hon1.1
  have n11 : n0 ≤ 11 := by omega
  have r1' : (n0 : Int) ≤ 11 := by omega
  clear h hon1 r0 r1
  go_wp2_with fail
  go_loopw [3, 4] (fun o n wr => ∃ (l : List Int) (k : Nat), n = .int .i64 k ∧ l.length + k ≤ 12 ∧ inC l = true ∧ IOwn wr (b + 1) o l ∧ Rd wr B b (m + 15 - k) ∧ Below b w wr) (fun _ n _ => (intOf n).toNat)
  case atStart => exact ⟨[], n0 + 1, by go_num, by simp; omega, rfl, hown0, hrd1.mono (by omega), hbel1⟩
  case round =>
    obtain ⟨l, k, rfl, hlk, hin, hown, hrd, hbel⟩ := hrel
    have hltr := hrd.lt
    have hk' : (k : Int) ≤ 12 := by omega
    have HL := hide hlk
    have HIN := hide hin
    clear hin hlk hown0 hrd1 hbel1 n11
    by_cases hp : (0 : Int) < (k : Int)
    · go_wp2_with fail
      refine (one_only B b _ 11 [0, 1, 1, 2, 3, 5, 8, 13, 100, 5000, 100000] _ _ rfl hrd (by omega) (by omega) (by omega)).mono ?_
      rintro e w2 ⟨x, hxm, rfl, hrd2, hon2⟩
      have hin2 := hide (counts_snoc (unhide HIN) hxm)
      clear hxm
      have hown2 : IOwn w2 (b + 1) u3 l := owns_only (World.ownsRow.alloc hown _) hon2 (by omega)
      have hbel2 := (hbel.alloc (Nat.le_of_lt hltr) _).trans hon2.1
      have hlt2 := hrd2.lt
      have hlen1 : Hid (l.length + 1 ≤ maxLen ∧ (l.length + 1) * 8 ≤ 140737488355328) := by show _ ∧ _; have := unhide HL; unfold maxLen; omega
      clear hown hrd hon2 hbel
      go_wp2_with (at_builtin; refine wpList_append_own _ rfl _ _ 23 rfl (b + 1) 3 i0 (.int .i64 0) 1 8 Try.underlying23 hi hz0 hz1 hz2 rfl (by decide) _ _ _ rfl (World.ownsRow.alloc hown2 _) ⟨w2.heap.size, 0, none⟩ 1 1 [.int .i64 x] rfl rfl (one_new _ _ rfl _ _) (one_int _) (unhide hlen1).1 (unhide hlen1).2 (size_alloc_le hlt2 _) ?_; intro v' w3 hown3 hgrow hnil; clear hnil)
      have hblk := rd_block hown2
      have hrd3 := (hrd2.alloc (.cells #[.int .i64 x] 3)).grown hgrow hblk
      have hbel3 : Below b w w3 := (hbel2.alloc (Nat.le_of_lt hlt2) _).grown hgrow (by simp; omega) (fun j hj => Nat.le_of_lt (hblk j hj))
      have hown4 := iown_snoc hown3
      clear hown3 hgrow hown2 hrd2 hbel2
      go_roundw
      case rel => exact ⟨l ++ [x], k - 1, by go_num, by have := unhide HL; simp; omega, unhide hin2, hown4, hrd3.mono (by omega), hbel3⟩
      case measure => simp [intOf]; omega
    · obtain ⟨va, vc, rfl⟩ := hown.form
      go_wp2
      go_ret
      exact ⟨⟨l, _, rfl, hown, by have := unhide HL; omega, unhide HIN⟩, hrd.mono (by omega), hbel⟩

/-- Lengths of codes that all know. -/
def fix1 (i : Nat) : Int := if i < 144 then 8 else if i < 256 then 9 else if i < 280 then 7 else 8
def fixL (k : Nat) : List Int := (List.range k).map fix1
theorem fixL_len (k : Nat) : (fixL k).length = k := by simp [fixL]
theorem fixL_succ (k : Nat) : fixL (k + 1) = fixL k ++ [fix1 k] := by simp [fixL, List.range_succ]

set_option maxHeartbeats 1600000 in
theorem l5Fixed_any (w : World) :
    Calls Try.prog 38 #[] w fun e w' => (∃ v, e = .returned v ∧ IOwn w' w.heap.size v (fixL 288)) ∧ Below w.heap.size w w' := by
  obtain ⟨i0, hi, hz0, hz1, hz2⟩ := info_parts Try.infoInt
  have hB0 : Below w.heap.size w (w.alloc (.cells #[] 3)) := (Below.refl _ _).alloc (Nat.le_refl _) _
  have hp0 : IOwn (w.alloc (.cells #[] 3)) w.heap.size (.slice (some ⟨w.heap.size, 0, none⟩) 0 0) (fixL 0) := IOwn.lit _ _ (Nat.le_refl _)
  go_enter Try.func38, Try.ntmps38
  go_wp2_with fail
  go_loopw [1, 2] (fun v i wr => ∃ k : Nat, k ≤ 288 ∧ i = .int .i64 k ∧ IOwn wr w.heap.size v (fixL k) ∧ Below w.heap.size w wr) (fun _ i _ => 288 - (intOf i).toNat)
  case atStart => exact ⟨0, by omega, rfl, hp0, hB0⟩
  case round =>
    obtain ⟨k, hk, rfl, hp, hbel⟩ := hrel
    clear hp0 hB0
    have hbs := hbel.size
    have hkI : (k : Int) ≤ 288 := by omega
    have HK := hide hk
    have hst := hide (fixL_succ k)
    have hf : Hid (fix1 k = if k < 144 then 8 else if k < 256 then 9 else if k < 280 then 7 else 8) := rfl
    have hlen1 : Hid ((fixL k).length + 1 ≤ maxLen ∧ ((fixL k).length + 1) * 8 ≤ 140737488355328) := by show _ ∧ _; rw [fixL_len]; unfold maxLen; omega
    clear hk
    by_cases h1 : (k : Int) < 288
    · by_cases c1 : (k : Int) < 144
      · have hx : Hid (fix1 k = 8) := by have := unhide hf; rw [if_pos (by omega)] at this; exact this
        have d1 : decide ((k : Int) < 144) = true := decide_eq_true c1
        go_wp2_with (at_builtin; refine wpList_append_own _ rfl _ _ 23 rfl w.heap.size 3 i0 (.int .i64 0) 1 8 Try.underlying23 hi hz0 hz1 hz2 rfl (by decide) _ _ _ rfl (World.ownsRow.alloc hp _) ⟨wr.heap.size, 0, none⟩ 1 1 [.int .i64 8] rfl rfl (one_new _ _ rfl _ _) (one_int _) (unhide hlen1).1 (unhide hlen1).2 (size_alloc_le hbs _) ?_; intro v' x3 hown hgrow hnil; clear hnil)
        have hb3 := grown_step (v := u1) hgrow hp (Nat.le_refl _) hbs hbel
        have ho3 := iown_snoc hown
        rw [← unhide hx, ← unhide hst] at ho3
        clear hown hgrow
        go_roundw
        case rel => exact ⟨k + 1, by omega, by go_num, ho3, hb3⟩
        case measure => simp [intOf]; omega
      · have d1 : decide ((k : Int) < 144) = false := decide_eq_false c1
        by_cases c2 : (k : Int) < 256
        · have hx : Hid (fix1 k = 9) := by have := unhide hf; rw [if_neg (by omega), if_pos (by omega)] at this; exact this
          have d2 : decide ((k : Int) < 256) = true := decide_eq_true c2
          go_wp2_with (at_builtin; refine wpList_append_own _ rfl _ _ 23 rfl w.heap.size 3 i0 (.int .i64 0) 1 8 Try.underlying23 hi hz0 hz1 hz2 rfl (by decide) _ _ _ rfl (World.ownsRow.alloc hp _) ⟨wr.heap.size, 0, none⟩ 1 1 [.int .i64 9] rfl rfl (one_new _ _ rfl _ _) (one_int _) (unhide hlen1).1 (unhide hlen1).2 (size_alloc_le hbs _) ?_; intro v' x3 hown hgrow hnil; clear hnil)
          have hb3 := grown_step (v := u1) hgrow hp (Nat.le_refl _) hbs hbel
          have ho3 := iown_snoc hown
          rw [← unhide hx, ← unhide hst] at ho3
          clear hown hgrow
          go_roundw
          case rel => exact ⟨k + 1, by omega, by go_num, ho3, hb3⟩
          case measure => simp [intOf]; omega
        · have d2 : decide ((k : Int) < 256) = false := decide_eq_false c2
          by_cases c3 : (k : Int) < 280
          · have hx : Hid (fix1 k = 7) := by have := unhide hf; rw [if_neg (by omega), if_neg (by omega), if_pos (by omega)] at this; exact this
            have d3 : decide ((k : Int) < 280) = true := decide_eq_true c3
            go_wp2_with (at_builtin; refine wpList_append_own _ rfl _ _ 23 rfl w.heap.size 3 i0 (.int .i64 0) 1 8 Try.underlying23 hi hz0 hz1 hz2 rfl (by decide) _ _ _ rfl (World.ownsRow.alloc hp _) ⟨wr.heap.size, 0, none⟩ 1 1 [.int .i64 7] rfl rfl (one_new _ _ rfl _ _) (one_int _) (unhide hlen1).1 (unhide hlen1).2 (size_alloc_le hbs _) ?_; intro v' x3 hown hgrow hnil; clear hnil)
            have hb3 := grown_step (v := u1) hgrow hp (Nat.le_refl _) hbs hbel
            have ho3 := iown_snoc hown
            rw [← unhide hx, ← unhide hst] at ho3
            clear hown hgrow
            go_roundw
            case rel => exact ⟨k + 1, by omega, by go_num, ho3, hb3⟩
            case measure => simp [intOf]; omega
          · have hx : Hid (fix1 k = 8) := by have := unhide hf; rw [if_neg (by omega), if_neg (by omega), if_neg (by omega)] at this; exact this
            have d3 : decide ((k : Int) < 280) = false := decide_eq_false c3
            go_wp2_with (at_builtin; refine wpList_append_own _ rfl _ _ 23 rfl w.heap.size 3 i0 (.int .i64 0) 1 8 Try.underlying23 hi hz0 hz1 hz2 rfl (by decide) _ _ _ rfl (World.ownsRow.alloc hp _) ⟨wr.heap.size, 0, none⟩ 1 1 [.int .i64 8] rfl rfl (one_new _ _ rfl _ _) (one_int _) (unhide hlen1).1 (unhide hlen1).2 (size_alloc_le hbs _) ?_; intro v' x3 hown hgrow hnil; clear hnil)
            have hb3 := grown_step (v := u1) hgrow hp (Nat.le_refl _) hbs hbel
            have ho3 := iown_snoc hown
            rw [← unhide hx, ← unhide hst] at ho3
            clear hown hgrow
            go_roundw
            case rel => exact ⟨k + 1, by omega, by go_num, ho3, hb3⟩
            case measure => simp [intOf]; omega
    · obtain rfl : k = 288 := by have := unhide HK; omega
      obtain ⟨va, vc, rfl⟩ := hp.form
      go_wp2
      go_ret
      exact ⟨⟨_, rfl, hp⟩, hbel⟩

set_option maxHeartbeats 1600000 in
theorem l11Lens_any (B b m : Nat) (w : World) (h : Rd w B b m) (hm : m ≤ 70000) :
    Calls Try.prog 18 #[.pointer (some ⟨b, 0, none⟩)] w fun e w' => (∃ (l : List Int) (v : Value), e = .returned v ∧ IOwn w' (b + 1) v l ∧ l.length ≤ 301 ∧ 1 ≤ l.length) ∧ Rd w' B b (m + 30) ∧ Below b w w' := by
  obtain ⟨i0, hi, hz0, hz1, hz2⟩ := info_parts Try.infoInt
  go_enter Try.func18, Try.ntmps18
  go_wp2_with fail
  refine (l11Counts_any B b m _ h (by omega)).mono ?_
  rintro e w1 ⟨⟨l, v1, rfl, ho1, hl1, hin1⟩, hrd1, hb1⟩
  go_wp2_with fail
  refine (pick_any B b _ _ _ hrd1 (by omega) (by omega) (by omega)).mono ?_
  rintro e w2 ⟨r, rfl, r0, r1, hrd2, hon2⟩
  have ho2 : IOwn w2 (b + 1) v1 l := owns_only ho1 hon2 (by omega)
  have hb2 := hb1.trans hon2.1
  have hlt2 := hrd2.lt
  have hlen1 : Hid (l.length + 1 ≤ maxLen ∧ (l.length + 1) * 8 ≤ 140737488355328) := by show _ ∧ _; unfold maxLen; omega
  have HL := hide hl1
  have hdl := hide (drawn_lens hin1 hl1 r0 r1)
  clear ho1 hon2 hb1 hrd1 hl1 h hin1
  go_wp2_with (at_builtin; refine wpList_append_own _ rfl _ _ 23 rfl (b + 1) 3 i0 (.int .i64 0) 1 8 Try.underlying23 hi hz0 hz1 hz2 rfl (by decide) _ _ _ rfl (World.ownsRow.alloc ho2 _) ⟨w2.heap.size, 0, none⟩ 1 1 [.int .i64 (1 + r)] rfl rfl (one_new _ _ rfl _ _) (one_int _) (unhide hlen1).1 (unhide hlen1).2 (size_alloc_le hlt2 _) ?_; intro v3 w3 hown3 hgrow hnil; clear hnil)
  have hblk := rd_block ho2
  have hrd3 := (hrd2.alloc (.cells #[.int .i64 (1 + r)] 3)).grown hgrow hblk
  have hb3 : Below b w w3 := (hb2.alloc (Nat.le_of_lt hlt2) _).grown hgrow (by simp; omega) (fun j hj => Nat.le_of_lt (hblk j hj))
  have ho3 := iown_snoc hown3
  obtain ⟨va, vc, hvv⟩ := ho3.formN (n := l.length + 1) (by simp)
  rw [hvv]
  rw [hvv] at ho3
  clear hown3 hgrow ho2 hrd2 hb2 hblk
  refine (specLensOf_any va vc (l.length + 1) (l ++ [1 + r]) 15 w3 (by simp) (ho3.rowN (by simp)) (by have := unhide HL; omega)).mono ?_
  rintro e w4 ⟨⟨v4, rfl, ho4⟩, hb34⟩
  have hlt3 := hrd3.lt
  have hrd4 := hrd3.kept (hb34.mono hlt3)
  have hb4 := hb3.trans (hb34.mono (Nat.le_of_lt hlt3))
  have hll := lensOfL_len (l ++ [1 + r]) 15
  have ho4' := ho4.mono (show b + 1 ≤ w3.heap.size from hlt3)
  generalize lensOfL (l ++ [1 + r]) 15 = o at *
  obtain ⟨oa, oc, hov⟩ := ho4'.form
  subst hov
  have HO := hide hll
  clear ho3 hrd3 hb34 hb3 ho4 hvv hll
  go_wp2_with fail
  refine (pick_any B b _ _ _ hrd4 (by omega) (by omega) (by omega)).mono ?_
  rintro e w5 ⟨q, rfl, q0, q1, hrd5, hon5⟩
  have ho5 : IOwn w5 (b + 1) (.slice oa o.length oc) o := owns_only ho4' hon5 (by omega)
  have hb5 := hb4.trans hon5.1
  have hlt5 := hrd5.lt
  clear ho4' hrd4 hon5 hb4
  by_cases e0 : q = 0
  · subst e0
    go_wp2_with fail
    refine (one_only B b _ 5 [0, 1, 2, 16, -1] _ _ rfl hrd5 (by omega) (by omega) (by omega)).mono ?_
    rintro e w6 ⟨x, _, rfl, hrd6, hon6⟩
    have ho6 : IOwn w6 (b + 1) (.slice oa o.length oc) o := owns_only (World.ownsRow.alloc ho5 _) hon6 (by omega)
    have hb6 := (hb5.alloc (Nat.le_of_lt hlt5) _).trans hon6.1
    have hlt6 := hrd6.lt
    have hlen2 : Hid (o.length + 1 ≤ maxLen ∧ (o.length + 1) * 8 ≤ 140737488355328) := by show _ ∧ _; have := unhide HO; unfold maxLen; omega
    clear ho5 hrd5 hon6 hb5
    go_wp2_with (at_builtin; refine wpList_append_own _ rfl _ _ 23 rfl (b + 1) 3 i0 (.int .i64 0) 1 8 Try.underlying23 hi hz0 hz1 hz2 rfl (by decide) _ _ _ rfl (World.ownsRow.alloc ho6 _) ⟨w6.heap.size, 0, none⟩ 1 1 [.int .i64 x] rfl rfl (one_new _ _ rfl _ _) (one_int _) (unhide hlen2).1 (unhide hlen2).2 (size_alloc_le hlt6 _) ?_; intro v7 w7 hown7 hgrow hnil; clear hnil)
    have hblk := rd_block ho6
    have hrd7 := (hrd6.alloc (.cells #[.int .i64 x] 3)).grown hgrow hblk
    have hb7 : Below b w w7 := (hb6.alloc (Nat.le_of_lt hlt6) _).grown hgrow (by simp; omega) (fun j hj => Nat.le_of_lt (hblk j hj))
    have ho7 := iown_snoc hown7
    obtain ⟨fa, fc, hfv⟩ := ho7.form
    subst hfv
    clear hown7 hgrow
    go_ret
    exact ⟨⟨_, _, rfl, ho7, by have := unhide HO; simp; omega, by simp⟩, hrd7.mono (by omega), hb7⟩
  · have z0 : (q == 0) = false := by simpa using e0
    by_cases e1 : q = 1
    · subst e1
      go_wp2
      go_ret
      exact ⟨⟨[0, 1], _, rfl, World.ownsRow_lit w5 #[.int .i64 0, .int .i64 1] 2 hlt5 (by unfold maxLen; omega) rfl, by simp, by simp⟩, (hrd5.alloc _).mono (by omega), hb5.alloc (Nat.le_of_lt hlt5) _⟩
    · have z1 : (q == 1) = false := by simpa using e1
      by_cases e2 : q = 2
      · subst e2
        go_wp2
        go_ret
        exact ⟨⟨[2], _, rfl, IOwn.one w5 _ hlt5 2, by simp, by simp⟩, (hrd5.alloc _).mono (by omega), hb5.alloc (Nat.le_of_lt hlt5) _⟩
      · have z2 : (q == 2) = false := by simpa using e2
        by_cases e3 : q = 3
        · subst e3
          go_wp2_with fail
          refine (l5Fixed_any _).mono ?_
          rintro e w6 ⟨⟨v6, rfl, ho6⟩, hb6⟩
          obtain ⟨fa, fc, hfv⟩ := ho6.form
          subst hfv
          go_wp2
          go_ret
          exact ⟨⟨fixL 288, _, rfl, ho6.mono hlt5, by rw [fixL_len]; omega, by rw [fixL_len]; omega⟩, (hrd5.kept (hb6.mono hlt5)).mono (by omega), hb5.trans (hb6.mono (Nat.le_of_lt hlt5))⟩
        · have z3 : (q == 3) = false := by simpa using e3
          go_wp2
          go_ret
          exact ⟨⟨o, _, rfl, ho5, by have := unhide HO; omega, unhide hdl⟩, hrd5.mono (by omega), hb5⟩


end Go.Proofs.Ytnomiopdpmecbaa
/- Contracts of the draws of symbols, over this seat's program. -/
namespace Go.Proofs.Ytnomiopdpmecbaa
open Go.RowKit

theorem kept_low {y y' : World} {base B : Nat} {vl v : Value} {l : List Int} (h : IOwn y base vl l) (hlow : ∀ g, vl.ownBlock = some g → g < B) (hg : y.grownBy y' v.ownBlock) (hv : ∀ j, v.ownBlock = some j → B ≤ j) : IOwn y' base vl l := by
  refine World.ownsRow.kept h hg ?_
  cases hb : vl.ownBlock with
  | none => exact .inl rfl
  | some g =>
    refine .inr (fun e => ?_)
    have h1 := hlow g hb
    have h2 := hv g e.symm
    omega
theorem pick_only_lt {w : World} {base : Nat} {v : Value} {l : List Int} (h : IOwn w base v l) : ∀ g, v.ownBlock = some g → g < w.heap.size := fun g hg => (World.ownsRow.lt h g hg).2

set_option maxHeartbeats 3200000 in
theorem l11Syms_any (B b m vn vc : Nat) (va : Option Addr) (l : List Int) (w : World) (h : Rd w B b m) (hm : m ≤ 70000) (hn : l.length = vn) (hl : IOwn w (b + 1) (.slice va vn vc) l) (h1 : 1 ≤ vn) (h3 : vn ≤ 301) :
    Calls Try.prog 19 #[.pointer (some ⟨b, 0, none⟩), .slice va vn vc] w fun e w' => (∃ (t : List Int) (v : Value), e = .returned v ∧ IOwn w' w.heap.size v t ∧ t.length ≤ 12) ∧ IOwn w' (b + 1) (.slice va vn vc) l ∧ Rd w' B b (m + 60) ∧ Below b w w' := by
  obtain ⟨i0, hi, hz0, hz1, hz2⟩ := info_parts Try.infoInt
  have hltw := h.lt
  have HN := hide hn
  have hnI : (vn : Int) ≤ 301 := by omega
  have h1I : (1 : Int) ≤ (vn : Int) := by omega
  have hlow := hide (pick_only_lt hl)
  clear hn
  go_enter Try.func19, Try.ntmps19
  go_wp2_with fail
  refine (pick_any B b m _ _ (h.alloc _) (by omega) (by omega) (by omega)).mono ?_
  rintro e w1 ⟨r, rfl, r0, r1, hrd1, hon1⟩
  obtain ⟨n0, rfl⟩ := Int.eq_ofNat_of_zero_le r0
  have hown0 : IOwn w1 w.heap.size (.slice (some ⟨w.heap.size, 0, none⟩) 0 0) [] :=
    owns_only (World.ownsRow_lit w #[] 0 (Nat.le_refl _) (by unfold maxLen; omega) rfl) hon1 hltw
  have hl0 : IOwn w1 (b + 1) (.slice va vn vc) l := owns_only (World.ownsRow.alloc hl _) hon1 (by omega)
  have hbel1 := ((Below.refl b w).alloc (Nat.le_of_lt hltw) (.cells #[] 3)).trans hon1.1
  have hs1 : w.heap.size ≤ w1.heap.size := by rw [hon1.2.2]; simp
  have n11 : n0 ≤ 11 := by omega
  have r1' : (n0 : Int) ≤ 11 := by omega
  clear h hon1 r0 r1 hl
  go_wp2_with fail
  go_loopw [5, 6, 7] (fun o n _ wr => ∃ (t : List Int) (k : Nat), n = .int .i64 k ∧ t.length + k ≤ 11 ∧ IOwn wr w.heap.size o t ∧ IOwn wr (b + 1) (.slice va vn vc) l ∧ Rd wr B b (m + 40 - 2 * k) ∧ Below b w wr ∧ w.heap.size ≤ wr.heap.size) (fun _ n _ _ => (intOf n).toNat)
  case atStart => exact ⟨[], n0, by go_num, by simp; omega, hown0, hl0, hrd1.mono (by omega), hbel1, hs1⟩
  case round =>
    obtain ⟨t, k, rfl, hlk, hown, hlw, hrd, hbel, hss⟩ := hrel
    have hltr := hrd.lt
    have hk' : (k : Int) ≤ 11 := by omega
    have HL := hide hlk
    clear hlk hown0 hrd1 hbel1 n11 hl0 hs1
    by_cases hp : (0 : Int) < (k : Int)
    · go_wp2_with fail
      refine (pick_any B b _ _ _ hrd (by omega) (by omega) (by omega)).mono ?_
      rintro e w2 ⟨q, rfl, q0, q1, hrd2, hon2⟩
      obtain ⟨qn, rfl⟩ := Int.eq_ofNat_of_zero_le q0
      have hown2 : IOwn w2 w.heap.size u5 t := owns_only hown hon2 (by omega)
      have hlw2 : IOwn w2 (b + 1) (.slice va vn vc) l := owns_only hlw hon2 (by omega)
      have hbel2 := hbel.trans hon2.1
      have hss2 : w.heap.size ≤ w2.heap.size := by rw [hon2.2.2]; exact hss
      obtain ⟨g, hg⟩ := hlw2.somes (by rw [unhide HN]; omega)
      subst hg
      obtain ⟨c0, _, _, hgl⟩ := hlw2.at (j := qn) (unhide HN) (by omega)
      have hlen1 : Hid (t.length + 1 ≤ maxLen ∧ (t.length + 1) * 8 ≤ 140737488355328) := by show _ ∧ _; have := unhide HL; unfold maxLen; omega
      clear hown hlw hrd hon2 hbel hss
      have HAPP : Hid (∀ (W : World), IOwn W w.heap.size u5 t → IOwn W (b + 1) (.slice (some ⟨g, 0, none⟩) vn vc) l → True) := fun _ _ _ => trivial
      generalize l.getD qn 0 = y at *
      by_cases hy : 0 < y
      · have e2 : decide (0 < y) = true := decide_eq_true hy
        have hlt2 := hrd2.lt
        go_wp2_with (at_builtin; refine wpList_append_own _ rfl _ _ 23 rfl w.heap.size 3 i0 (.int .i64 0) 1 8 Try.underlying23 hi hz0 hz1 hz2 rfl (by decide) _ _ _ rfl (World.ownsRow.alloc hown2 _) ⟨w2.heap.size, 0, none⟩ 1 1 [.int .i64 (qn : Int)] rfl rfl (one_new _ _ rfl _ _) (one_int _) (unhide hlen1).1 (unhide hlen1).2 (size_alloc_le hss2 _) ?_; intro v' w3 hown3 hgrow hnil; clear hnil)
        have hblk : ∀ j, u5.ownBlock = some j → w.heap.size ≤ j := fun j hj => (World.ownsRow.lt hown2 j hj).1
        have hrd3 := (hrd2.alloc (.cells #[.int .i64 (qn : Int)] 3)).grown hgrow (fun j hj => by have := hblk j hj; omega)
        have hbel3 : Below b w w3 := (hbel2.alloc (Nat.le_of_lt hlt2) _).grown hgrow (by simp; omega) (fun j hj => by have := hblk j hj; omega)
        have hown4 := iown_snoc hown3
        have hlw3 := kept_low (World.ownsRow.alloc hlw2 _) (unhide hlow) hgrow hblk
        have hss3 : w.heap.size ≤ w3.heap.size := Nat.le_trans (Nat.le_trans hss2 (by simp)) hgrow.size
        clear hown3 hgrow hown2 hrd2 hbel2 hlw2
        go_wp2
        go_roundw
        case rel => exact ⟨t ++ [(qn : Int)], k - 1, by go_num, by have := unhide HL; simp; omega, hown4, hlw3, hrd3.mono (by omega), hbel3, hss3⟩
        case measure => simp [intOf]; omega
      · have e2 : decide (0 < y) = false := decide_eq_false hy
        go_wp2_with fail
        refine (pick_any B b _ _ _ hrd2 (by omega) (by omega) (by omega)).mono ?_
        rintro e w3 ⟨z, rfl, z0, z1, hrd3, hon3⟩
        have hown3 : IOwn w3 w.heap.size u5 t := owns_only hown2 hon3 (by omega)
        have hlw3 : IOwn w3 (b + 1) (.slice (some ⟨g, 0, none⟩) vn vc) l := owns_only hlw2 hon3 (by omega)
        have hbel3 := hbel2.trans hon3.1
        have hss3 : w.heap.size ≤ w3.heap.size := by rw [hon3.2.2]; exact hss2
        have hlt3 := hrd3.lt
        clear hown2 hlw2 hrd2 hon3 hbel2
        by_cases hz : z = 0
        · subst hz
          go_wp2_with (at_builtin; refine wpList_append_own _ rfl _ _ 23 rfl w.heap.size 3 i0 (.int .i64 0) 1 8 Try.underlying23 hi hz0 hz1 hz2 rfl (by decide) _ _ _ rfl (World.ownsRow.alloc hown3 _) ⟨w3.heap.size, 0, none⟩ 1 1 [.int .i64 (qn : Int)] rfl rfl (one_new _ _ rfl _ _) (one_int _) (unhide hlen1).1 (unhide hlen1).2 (size_alloc_le hss3 _) ?_; intro v' w4 hown4 hgrow hnil; clear hnil)
          have hblk : ∀ j, u5.ownBlock = some j → w.heap.size ≤ j := fun j hj => (World.ownsRow.lt hown3 j hj).1
          have hrd4 := (hrd3.alloc (.cells #[.int .i64 (qn : Int)] 3)).grown hgrow (fun j hj => by have := hblk j hj; omega)
          have hbel4 : Below b w w4 := (hbel3.alloc (Nat.le_of_lt hlt3) _).grown hgrow (by simp; omega) (fun j hj => by have := hblk j hj; omega)
          have hown5 := iown_snoc hown4
          have hlw4 := kept_low (World.ownsRow.alloc hlw3 _) (unhide hlow) hgrow hblk
          have hss4 : w.heap.size ≤ w4.heap.size := Nat.le_trans (Nat.le_trans hss3 (by simp)) hgrow.size
          clear hown4 hgrow hown3 hrd3 hbel3 hlw3
          go_wp2
          go_roundw
          case rel => exact ⟨t ++ [(qn : Int)], k - 1, by go_num, by have := unhide HL; simp; omega, hown5, hlw4, hrd4.mono (by omega), hbel4, hss4⟩
          case measure => simp [intOf]; omega
        · have zf : (z == 0) = false := by simpa using hz
          go_wp2
          go_roundw
          case rel => exact ⟨t, k - 1, by go_num, by have := unhide HL; omega, hown3, hlw3, hrd3.mono (by omega), hbel3, hss3⟩
          case measure => simp [intOf]; omega
    · go_wp2_with fail
      refine (pick_any B b _ _ _ hrd (by omega) (by omega) (by omega)).mono ?_
      rintro e w2 ⟨q, rfl, q0, q1, hrd2, hon2⟩
      have hown2 : IOwn w2 w.heap.size u5 t := owns_only hown hon2 (by omega)
      have hlw2 : IOwn w2 (b + 1) (.slice va vn vc) l := owns_only hlw hon2 (by omega)
      have hbel2 := hbel.trans hon2.1
      have hss2 : w.heap.size ≤ w2.heap.size := by rw [hon2.2.2]; exact hss
      have hlt2 := hrd2.lt
      clear hown hlw hrd hon2 hbel hss
      by_cases hq : q = 0
      · subst hq
        go_wp2_with fail
        refine (one_only B b _ 2 [-1, (vn : Int)] _ _ rfl hrd2 (by omega) (by omega) (by omega)).mono ?_
        rintro e w3 ⟨x, _, rfl, hrd3, hon3⟩
        have hown3 : IOwn w3 w.heap.size u5 t := owns_only (World.ownsRow.alloc hown2 _) hon3 (by omega)
        have hlw3 : IOwn w3 (b + 1) (.slice va vn vc) l := owns_only (World.ownsRow.alloc hlw2 _) hon3 (by omega)
        have hbel3 := (hbel2.alloc (Nat.le_of_lt hlt2) _).trans hon3.1
        have hss3 : w.heap.size ≤ w3.heap.size := by rw [hon3.2.2]; simp; omega
        have hlt3 := hrd3.lt
        have hlen1 : Hid (t.length + 1 ≤ maxLen ∧ (t.length + 1) * 8 ≤ 140737488355328) := by show _ ∧ _; have := unhide HL; unfold maxLen; omega
        clear hown2 hlw2 hrd2 hon3 hbel2
        go_wp2_with (at_builtin; refine wpList_append_own _ rfl _ _ 23 rfl w.heap.size 3 i0 (.int .i64 0) 1 8 Try.underlying23 hi hz0 hz1 hz2 rfl (by decide) _ _ _ rfl (World.ownsRow.alloc hown3 _) ⟨w3.heap.size, 0, none⟩ 1 1 [.int .i64 x] rfl rfl (one_new _ _ rfl _ _) (one_int _) (unhide hlen1).1 (unhide hlen1).2 (size_alloc_le hss3 _) ?_; intro v' w4 hown4 hgrow hnil; clear hnil)
        have hblk : ∀ j, u5.ownBlock = some j → w.heap.size ≤ j := fun j hj => (World.ownsRow.lt hown3 j hj).1
        have hrd4 := (hrd3.alloc (.cells #[.int .i64 x] 3)).grown hgrow (fun j hj => by have := hblk j hj; omega)
        have hbel4 : Below b w w4 := (hbel3.alloc (Nat.le_of_lt hlt3) _).grown hgrow (by simp; omega) (fun j hj => by have := hblk j hj; omega)
        have hown5 := iown_snoc hown4
        have hlw4 := kept_low (World.ownsRow.alloc hlw3 _) (unhide hlow) hgrow hblk
        obtain ⟨fa, fc, hfv⟩ := hown5.form
        subst hfv
        clear hown4 hgrow hown3 hrd3 hbel3 hlw3
        go_wp2
        go_ret
        exact ⟨⟨_, _, rfl, hown5, by have := unhide HL; simp; omega⟩, hlw4, hrd4.mono (by omega), hbel4⟩
      · have qf : (q == 0) = false := by simpa using hq
        obtain ⟨fa, fc, hfv⟩ := hown2.form
        subst hfv
        go_wp2
        go_ret
        exact ⟨⟨_, _, rfl, hown2, by have := unhide HL; omega⟩, hlw2, hrd2.mono (by omega), hbel2⟩

set_option maxHeartbeats 800000 in
theorem drawSymbolsPut_any (a : Option Addr) (len cap : Nat) (z : Nat → Int) (w : World) (h : Src w a len z) (hc : len ≤ cap) (hm : len ≤ maxLen) :
    Calls Try.prog 6 #[.slice a len cap] w fun e w' => (∃ (l t : List Int) (va ta : Option Addr) (vc n tc k : Nat), e = .returned (.tuple #[.slice va n vc, .slice ta k tc]) ∧ l.length = n ∧ IOwn w' w.heap.size (.slice va n vc) l ∧ n ≤ 301 ∧ t.length = k ∧ IOwn w' w.heap.size (.slice ta k tc) t ∧ k ≤ 12) ∧ Below w.heap.size w w' := by
  go_enter Try.func6, Try.ntmps6
  go_wp2_with fail
  refine (l1Open_any a len cap z _ h hc hm).mono ?_
  rintro e w1 ⟨rfl, hrd, hbel, hsz⟩
  go_wp2_with fail
  refine (l11Lens_any _ _ 0 _ hrd (by omega)).mono ?_
  rintro e w2 ⟨⟨l, v, rfl, ho, hl, hl1⟩, hrd2, hbel2⟩
  obtain ⟨va, vc, hv⟩ := ho.form
  subst hv
  go_wp2_with fail
  refine (l11Syms_any _ _ _ l.length vc va l _ hrd2 (by omega) rfl ho hl1 hl).mono ?_
  rintro e w3 ⟨⟨t, v3, rfl, ht, ht12⟩, ho3, hrd3, hbel3⟩
  obtain ⟨ta, tc, hv⟩ := ht.form
  subst hv
  have hs2 : w.heap.size ≤ w2.heap.size := (hbel.trans hbel2).size
  go_wp2
  go_ret2
  exact ⟨⟨l, t, va, ta, vc, _, tc, _, rfl, rfl, ho3.mono (Nat.le_succ _), hl, rfl, ht.mono hs2, ht12⟩, (hbel.trans hbel2).trans hbel3⟩

end Go.Proofs.Ytnomiopdpmecbaa
