/- Lengths that fit: the model's, over this seat's program. -/
import Derived.Test.YtkkhaleiehnihaaHu2
import Derived.Test.YtkkhaleiehnihaaHu4
import Derived.Test.YtkkhaleiehnihaaLk1
namespace Go.Proofs.Ytkkhaleiehnihaa
open Go.RowKit

set_option maxHeartbeats 400000 in
theorem l3Most_any (a : Option Addr) (cap n : Nat) (o : List Int) (w : World) (hn : o.length = n) (h : IRow w a o) (hm : n ≤ 300) :
    Calls Try.prog 36 #[.slice a n cap] w fun e w' => e = .returned (.int .i64 (mostL o n)) ∧ w' = w := by
  subst hn
  have hmI : (o.length : Int) ≤ 300 := by omega
  clear hm
  go_enter Try.func36, Try.ntmps36
  go_wp2_with fail
  go_loop [3, 4] (fun m i => ∃ k : Nat, k ≤ o.length ∧ i = .int .i64 k ∧ m = .int .i64 (mostL o k)) (fun _ i => o.length - (intOf i).toNat)
  case atStart => exact ⟨0, Nat.zero_le _, rfl, rfl⟩
  case round =>
    obtain ⟨k, hk, rfl, rfl⟩ := hrel
    have HK := hide hk
    by_cases hlt : k < o.length
    · obtain ⟨g, f, rfl, hg, hc⟩ := h (by omega)
      have c0 := hc k hlt
      have hst : Hid (mostL o (k + 1) = if mostL o k < o.getD k 0 then o.getD k 0 else mostL o k) := rfl
      clear hc hk h
      generalize o.getD k 0 = y at *
      generalize mostL o k = m at *
      by_cases hy : m < y
      · have hst' : Hid (mostL o (k + 1) = y) := by have := unhide hst; rw [if_pos hy] at this; exact this
        go_wp2
        go_round
        case rel => exact ⟨k + 1, by omega, by go_num, by rw [unhide hst']⟩
        case measure => simp [intOf]; omega
      · have hst' : Hid (mostL o (k + 1) = m) := by have := unhide hst; rw [if_neg hy] at this; exact this
        go_wp2
        go_round
        case rel => exact ⟨k + 1, by omega, by go_num, by rw [unhide hst']⟩
        case measure => simp [intOf]; omega
    · obtain rfl : k = o.length := by omega
      clear h
      go_wp2
      go_ret
      exact ⟨rfl, rfl⟩

def sumW (w : World) (b n : Nat) : Nat := ((List.range n).map (fun i => (intOf ((w.cell? ⟨b, i, none⟩).getD (.int .i64 0))).toNat)).sum
theorem sumW_eq {w : World} {base b n c : Nat} {l : List Int} (hn : l.length = n) (h : IOwn w base (.slice (some ⟨b, 0, none⟩) n c) l) : sumW w b n = sumP l := by
  unfold sumW sumP
  congr 1
  apply List.ext_getElem
  · simp [hn]
  · intro i h1 h2
    have hi : i < n := by simpa using h1
    have := (h.at hn hi).1
    simp only [List.getElem_map, List.getElem_range]
    rw [this]
    have e : l.getD i 0 = l[i] := by simp [List.getD, show i < l.length by omega]
    rw [e]
    rfl
theorem half_step (l : List Int) (j : Nat) (h : j < l.length) : (halfL (l.take j) ++ l.drop j).set j (halfI (l.getD j 0)) = halfL (l.take (j + 1)) ++ l.drop (j + 1) := by
  have hl : (halfL (l.take j)).length = j := by simp [halfL]; omega
  rw [List.set_append_right _ _ (by omega), hl, Nat.sub_self, take_snocI l j h]
  have h1 : l.drop j = l[j] :: l.drop (j + 1) := List.drop_eq_getElem_cons h
  rw [h1, List.set_cons_zero]
  simp [halfL]
theorem half_mid (l : List Int) (j : Nat) (h : j < l.length) : (halfL (l.take j) ++ l.drop j).getD j 0 = l.getD j 0 := by
  have hl : (halfL (l.take j)).length = j := by simp [halfL]; omega
  simp only [List.getD]
  rw [List.getElem?_append_right (by omega), hl, Nat.sub_self, List.getElem?_drop]
  simp
def okC (l : List Int) : Prop := ∀ i, i < l.length → 0 ≤ l.getD i 0 ∧ l.getD i 0 ≤ 100000
theorem okC_half {l : List Int} (h : okC l) : okC (halfL l) := by
  intro i hi
  rw [halfL_len] at hi
  rw [halfL_get l i hi]
  have := h i hi
  unfold halfI
  omega
theorem okC_pos {l : List Int} (h : okC l) : ∀ x ∈ l, 0 ≤ x := by
  intro x hx
  obtain ⟨i, hi, rfl⟩ := List.getElem_of_mem hx
  have := (h i hi).1
  have e : l.getD i 0 = l[i] := by simp [List.getD, hi]
  rw [e] at this
  exact this
/-- Lengths that fit. -/
def fitL (m : Int) (l : List Int) : List Int := fitF m (sumP l) l

set_option maxHeartbeats 1600000 in
theorem l3Fit_any (a : Option Addr) (cap n mm : Nat) (l : List Int) (w : World) (hn : l.length = n) (h : IRow w a l) (h1 : 1 ≤ n) (hm : n ≤ 300) (hc : okC l) (hU : (seed l l.length).length ≤ p2 mm) (hmm : mm ≤ 14) :
    Calls Try.prog 23 #[.slice a n cap, .int .i64 ((mm : Int) + 1)] w fun e w' => (∃ v, e = .returned v ∧ IOwn w' w.heap.size v (fitL ((mm : Int) + 1) l)) ∧ Below w.heap.size w w' := by
  obtain ⟨i0, hi, hz0, hz1, hz2⟩ := info_parts Try.infoInt
  obtain ⟨g, o, rfl, hg, hcl⟩ := h (by omega)
  have hmI : (n : Int) ≤ 300 := by omega
  have hmmI : (mm : Int) ≤ 14 := by omega
  have HN := hide hn
  have HC := hide hc
  have HU := hide hU
  have HM := hide (And.intro h1 hm)
  have hB0 : Below w.heap.size w (w.alloc (.cells #[] 3)) := (Below.refl _ _).alloc (Nat.le_refl _) _
  have hR0 : World.ownsRow (w.alloc (.cells #[] 3)) w.heap.size 3 1 (.slice (some ⟨w.heap.size, 0, none⟩) 0 0) 0 [] := World.ownsRow_lit w #[] 0 (Nat.le_refl _) (by unfold maxLen; omega) rfl
  have hnews : Hid (∀ j u, (l.map (Value.int .i64))[j]? = some u → (w.alloc (.cells #[] 3)).cell? ((⟨g, o, none⟩ : Addr).add j) = some u) := by
    intro j u hj
    have hjl : j < l.length := by have := (List.getElem?_eq_some_iff.1 hj).1; simpa using this
    have hadd : (⟨g, o, none⟩ : Addr).add j = ⟨g, o + j, none⟩ := by unfold Addr.add; split <;> simp_all
    rw [hadd, hB0.cell (p := ⟨g, o + j, none⟩) hg, hcl j hjl, ← hj]
    simp [List.getD, hjl]
  have hll : Hid ((l.map (Value.int .i64)).length = n * 1) := by show _ = _; simp [hn]
  have hb1 : Hid (0 + n ≤ maxLen ∧ (0 + n) * 8 ≤ 140737488355328) := by show _ ∧ _; unfold maxLen; omega
  clear hn hc hU h1 hm hcl hmm h
  go_enter Try.func23, Try.ntmps23
  go_wp2_with (at_builtin; refine wpList_append_own _ rfl _ _ 22 rfl w.heap.size 3 i0 (.int .i64 0) 1 8 Try.underlying22 hi hz0 hz1 hz2 rfl (by decide) _ _ _ rfl hR0 ⟨g, o, none⟩ n cap (l.map (Value.int .i64)) rfl (unhide hll) (unhide hnews) (ints_oneCell .i64 _) (unhide hb1).1 (unhide hb1).2 hB0.size ?_; intro v1 x1 hown hgrow hnil; clear hnil)
  have hv1 : IOwn x1 w.heap.size v1 l := by
    show World.ownsRow _ _ _ _ _ l.length _
    rw [unhide HN]
    simpa using hown
  have hB1 : Below w.heap.size w x1 := hB0.grown hgrow hB0.size (fun j hj => (World.ownsRow.lt hR0 j hj).1)
  obtain ⟨va, vc, hvv⟩ := hv1.formN (unhide HN)
  rw [hvv]
  rw [hvv] at hv1
  refine (l3Lens_any va vc n l x1 (unhide HN) (hv1.rowN (unhide HN)) (unhide HM).2 (unhide HC)).mono ?_
  rintro e x2 ⟨rfl, ho2, hb2⟩
  have hv2 := hv1.later hb2 (Nat.le_refl _)
  have hB2 := bnext hB1 hb2
  have hx12 : w.heap.size ≤ x1.heap.size := hB1.size
  obtain ⟨lb, hlb⟩ := hv1.somes (by rw [unhide HN]; exact (unhide HM).1)
  subst hlb
  have hlbx := hv1.below
  have HX := hide (And.intro hx12 hlbx)
  clear hv1 hb2 hown hgrow hvv hR0 hB0 hlbx
  go_wp2_with fail
  go_loopw [6, 7] (fun v _ wr => ∃ (cur : List Int) (f ob : Nat), cur.length = n ∧ okC cur ∧ (seed cur cur.length).length ≤ p2 mm ∧ sumP cur ≤ f ∧ fitL ((mm : Int) + 1) l = fitF ((mm : Int) + 1) f cur ∧ v = .slice (some ⟨ob, 0, none⟩) n n ∧ lb < ob ∧ IOwn wr ob (.slice (some ⟨ob, 0, none⟩) n n) (hufL cur) ∧ IOwn wr w.heap.size (.slice (some ⟨lb, 0, none⟩) n vc) cur ∧ Below w.heap.size w wr) (fun _ _ wr => sumW wr lb n)
  case atStart => exact ⟨l, sumP l, x1.heap.size, unhide HN, unhide HC, unhide HU, Nat.le_refl _, rfl, rfl, (unhide HX).2.2, ho2, hv2, hB2⟩
  case round =>
    obtain ⟨cur, f, ob, hcn, hcok, hcU, hcf, hfit, rfl, hlo, hou, hcv, hbel⟩ := hrel
    clear ho2 hv2 hB2
    have hlenh : (hufL cur).length = n := (hufL_len cur).trans hcn
    have HMo := hide (l3Most_any (some ⟨ob, 0, none⟩) n n (hufL cur) wr hlenh (hou.rowN hlenh) (unhide HM).2)
    have hmost : Hid (fits (hufL cur) ((mm : Int) + 1) = decide (mostL (hufL cur) n ≤ (mm : Int) + 1)) := by show _ = _; unfold fits; rw [hlenh]
    have HQ := hide (And.intro hcn (And.intro hcok (And.intro hcU (And.intro hcf hfit))))
    have HO := hide (And.intro hou (And.intro hcv hbel))
    have HS := hide (sumW_eq hcn hcv)
    have hlo' := hide hlo
    clear hcn hcok hcU hcf hfit hlenh hlo
    generalize mostL (hufL cur) n = mo at *
    by_cases hbig : (mm : Int) + 1 < mo
    · have hnf : fits (hufL cur) ((mm : Int) + 1) = false := by rw [unhide hmost]; exact decide_eq_false (by omega)
      obtain ⟨hcn, hcok, hcU, hcf, hfit⟩ := unhide HQ
      have hex := not_ones hcU hnf
      have hsum := (sum_half cur (okC_pos hcok)).2 hex
      have hf' : ∃ f', f = f' + 1 := ⟨f - 1, by omega⟩
      obtain ⟨f', hff⟩ := hf'
      have hfit2 : Hid (fitL ((mm : Int) + 1) l = fitF ((mm : Int) + 1) f' (halfL cur)) := by
        show _ = _
        rw [hfit, hff]
        simp only [fitF]
        rw [hnf]; rfl
      have hcf2 : Hid (sumP (halfL cur) ≤ f') := by show _ ≤ _; omega
      have HSL := hide hsum
      have hcok2 := hide (okC_half hcok)
      have hcU2 : Hid ((seed (halfL cur) (halfL cur).length).length ≤ p2 mm) := by show _ ≤ _; rw [halfL_len, seed_half cur (fun i hi => (hcok i hi).1) _ (Nat.le_refl _)]; exact hcU
      have hcn2 : Hid ((halfL cur).length = n) := (halfL_len cur).trans hcn
      clear hcn hcok hcU hcf hfit hex hsum hff
      go_wp2_with fail
      refine (unhide HMo).mono ?_
      rintro e x3 ⟨rfl, hx3⟩
      subst hx3
      obtain ⟨hou, hcv, hbel⟩ := unhide HO
      have hc0 : IOwn x3 w.heap.size (.slice (some ⟨lb, 0, none⟩) n vc) (halfL (cur.take 0) ++ cur.drop 0) := by simpa [halfL] using hcv
      clear hou hcv
      go_wp2_with fail
      go_loopw [7] (fun i wq => ∃ t : Nat, t ≤ n ∧ i = .int .i64 t ∧ IOwn wq w.heap.size (.slice (some ⟨lb, 0, none⟩) n vc) (halfL (cur.take t) ++ cur.drop t) ∧ Below w.heap.size w wq) (fun i _ => n - (intOf i).toNat)
      case atStart => exact ⟨0, Nat.zero_le _, rfl, hc0, hbel⟩
      case round =>
        obtain ⟨t, ht, rfl, hct, hbt⟩ := hrel
        clear hc0 hbel
        obtain ⟨hcn, hcok, _, _, _⟩ := unhide HQ
        have hln : Hid ((halfL (cur.take t) ++ cur.drop t).length = n) := by show _ = n; rw [List.length_append, halfL_len, List.length_take, List.length_drop]; omega
        by_cases hlt : t < n
        · have hput := hct.put (j := t) (unhide hln) (halfI (cur.getD t 0))
          rw [half_step cur t (by omega)] at hput
          obtain ⟨d0, f0, hbg, _⟩ := hct.at (unhide hln) hlt
          rw [half_mid cur t (by omega)] at d0
          have hy := hcok t (by omega)
          have hbt2 := below_set hbt (b := lb) (o := t) hbg (.int .i64 (halfI (cur.getD t 0)))
          unfold halfI at hput hbt2
          have HPUT := hide (And.intro hput hbt2)
          have htI : (t : Int) < (n : Int) := by omega
          have Ht := hide ht
          generalize cur.getD t 0 = y at *
          obtain ⟨y0, y1⟩ := hy
          have e1 : IntKind.i64.wrap ((y + 1).tdiv 2) = (y + 1) / 2 := by rw [Int.tdiv_eq_ediv_of_nonneg (by omega)]; simp [IntKind.wrap, IntKind.bits, IntKind.signed]; omega
          clear hput hbt2 hct hbt hcn hcok ht hbg
          go_wp2
          go_roundw
          case rel => exact ⟨t + 1, by have := unhide Ht; omega, by go_num, (unhide HPUT).1, (unhide HPUT).2⟩
          case measure => simp [intOf]; omega
        · have htn : t = n := by omega
          have hfull : halfL (cur.take t) ++ cur.drop t = halfL cur := by rw [List.take_of_length_le (by omega), List.drop_of_length_le (by omega)]; simp
          rw [hfull] at hct
          have hle := hide (l3Lens_any (some ⟨lb, 0, none⟩) vc n (halfL cur) wr (unhide hcn2) (hct.rowN (unhide hcn2)) (unhide HM).2 (unhide hcok2))
          have hlb2 := hct.below
          have HCT := hide (And.intro hct (And.intro hbt hlb2))
          have htI : ¬ (t : Int) < (n : Int) := by omega
          clear hct hbt hcn hcok hfull hlb2
          go_wp2_with fail
          refine (unhide hle).mono ?_
          rintro e x4 ⟨rfl, ho4, hb4⟩
          obtain ⟨hct, hbt, hlb2⟩ := unhide HCT
          have hc4 := hct.later hb4 (Nat.le_refl _)
          have hB4 := bnext hbt hb4
          have hms : Hid (sumW x4 lb n < sumW x3 lb n) := by
            show sumW x4 lb n < sumW x3 lb n
            rw [sumW_eq (unhide hcn2) hc4, unhide HS]
            exact unhide HSL
          clear hct hbt hb4
          go_wp2
          go_roundw
          case rel => exact ⟨halfL cur, f', wr.heap.size, unhide hcn2, unhide hcok2, unhide hcU2, unhide hcf2, unhide hfit2, rfl, hlb2.2, ho4, hc4, hB4⟩
          case measure => exact unhide hms
    · have hnf : fits (hufL cur) ((mm : Int) + 1) = true := by rw [unhide hmost]; exact decide_eq_true (by omega)
      have hres : Hid (fitL ((mm : Int) + 1) l = hufL cur) := by
        show _ = _
        rw [(unhide HQ).2.2.2.2]
        cases f with
        | zero => rfl
        | succ f => simp only [fitF]; rw [hnf]; rfl
      go_wp2_with fail
      refine (unhide HMo).mono ?_
      rintro e x3 ⟨rfl, hx3⟩
      subst hx3
      obtain ⟨hou, hcv, hbel⟩ := unhide HO
      have hbo : w.heap.size ≤ ob := by have := hcv.below.1; have := unhide hlo'; omega
      go_wp2
      go_ret
      exact ⟨⟨_, rfl, by rw [unhide hres]; exact hou.mono hbo⟩, hbel⟩

end Go.Proofs.Ytkkhaleiehnihaa
