/- Contracts of the draws of counts and lengths, over this seat's program. -/
import Derived.Test.YtnomiopdpmecbaaHu6
import Derived.Test.YtnomiopdpmecbaaRdo
namespace Go.Proofs.Ytnomiopdpmecbaa
open Go.RowKit

theorem rd_block {v : Value} {w : World} {b n : Nat} {e : TypeId} {size : Nat} {xs : List Value} (h : w.ownsRow (b + 1) e size v n xs) : ∀ j, v.ownBlock = some j → b < j := fun j hj => (World.ownsRow.lt h j hj).1

theorem counts_snoc {l : List Int} {x : Int} (h : inC l = true) (hx : x ∈ [(0 : Int), 1, 1, 2, 3, 5, 8, 13, 100, 5000, 100000]) : inC (l ++ [x]) = true := by
  simp only [inC, List.all_append, Bool.and_eq_true]
  refine ⟨h, ?_⟩
  simp only [List.all_cons, List.all_nil, Bool.and_true]
  rw [inB_true]
  simp only [List.mem_cons, List.not_mem_nil, or_false] at hx
  omega
/-- Drawn counts make lengths. -/
theorem drawn_lens {l : List Int} {r : Int} (h : inC l = true) (hl : l.length ≤ 12) (r0 : 0 ≤ r) (r1 : r < 9) : 1 ≤ (lensOfL (l ++ [1 + r]) 15).length := by
  have hin : inC (l ++ [1 + r]) = true := by
    simp only [inC, List.all_append, Bool.and_eq_true]
    refine ⟨h, ?_⟩
    simp only [List.all_cons, List.all_nil, Bool.and_true]
    rw [inB_true]; omega
  have hu : 1 ≤ us (l ++ [1 + r]) := by
    have : us (l ++ [1 + r]) = us l + 1 := by
      simp only [us, List.map_append, List.map_cons, List.map_nil, List.sum_append, List.sum_cons, List.sum_nil]
      rw [if_pos (by omega)]
      omega
    omega
  have hu2 := us_le (l ++ [1 + r])
  have hlen : (l ++ [1 + r]).length = l.length + 1 := by simp
  have hp : p2 (15 : Int).toNat / 2 = 16384 := rfl
  have hok : lofOk (l ++ [1 + r]) 15 = true := by
    unfold lofOk
    rw [hin, hp, decide_eq_true (by omega)]
    have h1 : inB 15 1 15 = true := by decide
    have h2 : inB ((us (l ++ [1 + r]) : Nat) : Int) 1 ((16384 : Nat) : Int) = true := by rw [inB_true]; omega
    rw [h1, h2]; rfl
  unfold lensOfL
  rw [hok, if_pos rfl]
  unfold fitL
  rw [fitF_len]; omega

set_option maxHeartbeats 1600000 in
theorem l11Counts_any (B b m : Nat) (w : World) (h : Rd w B b m) (hm : m ≤ 80000) :
    Calls Try.prog 36 #[.pointer (some ⟨b, 0, none⟩)] w fun e w' => (∃ (l : List Int) (v : Value), e = .returned v ∧ IOwn w' (b + 1) v l ∧ l.length ≤ 12 ∧ inC l = true) ∧ Rd w' B b (m + 20) ∧ Below b w w' := by
  obtain ⟨i0, hi, hz0, hz1, hz2⟩ := info_parts Try.infoInt
  have hltw := h.lt
  go_enter Try.func36, Try.ntmps36
  go_wp2_with fail
  refine (pick_any B b m _ _ (h.alloc _) (by omega) (by omega) (by omega)).mono ?_
  rintro e w1 ⟨r, rfl, r0, r1, hrd1, hon1⟩
  obtain ⟨n0, rfl⟩ := Int.eq_ofNat_of_zero_le r0
  have hown0 : IOwn w1 (b + 1) (.slice (some ⟨w.heap.size, 0, none⟩) 0 0) [] :=
    owns_only (World.ownsRow_lit w #[] 0 (by omega) (by unfold maxLen; omega) rfl) hon1 (by omega)
  have hbel1 := ((Below.refl b w).alloc (Nat.le_of_lt hltw) (.cells #[] 3)).trans hon1.1
  have n11 : n0 ≤ 11 := by omega
  have r1' : (n0 : Int) ≤ 11 := by omega
  clear h hon1 r0 r1
  go_wp2_with fail
  go_loopw [3, 4] (fun o n wr => ∃ (l : List Int) (k : Nat), n = .int .i64 k ∧ l.length + k ≤ 12 ∧ inC l = true ∧ IOwn wr (b + 1) o l ∧ Rd wr B b (m + 15 - k) ∧ Below b w wr) (fun _ n _ => (intOf n).toNat)
  case atStart => exact ⟨[], n0 + 1, by go_num, by simp; omega, rfl, hown0, hrd1.mono (by omega), hbel1⟩
  case round =>
    obtain ⟨l, k, rfl, hlk, hin, hown, hrd, hbel⟩ := hrel
    have hltr := hrd.lt
    have hk' : (k : Int) ≤ 12 := by omega
    have HL := hide hlk
    have HIN := hide hin
    clear hin hlk hown0 hrd1 hbel1 n11
    by_cases hp : (0 : Int) < (k : Int)
    · go_wp2_with fail
      refine (one_only B b _ 11 [0, 1, 1, 2, 3, 5, 8, 13, 100, 5000, 100000] _ _ rfl hrd (by omega) (by omega) (by omega)).mono ?_
      rintro e w2 ⟨x, hxm, rfl, hrd2, hon2⟩
      have hin2 := hide (counts_snoc (unhide HIN) hxm)
      clear hxm
      have hown2 : IOwn w2 (b + 1) u3 l := owns_only (World.ownsRow.alloc hown _) hon2 (by omega)
      have hbel2 := (hbel.alloc (Nat.le_of_lt hltr) _).trans hon2.1
      have hlt2 := hrd2.lt
      have hlen1 : Hid (l.length + 1 ≤ maxLen ∧ (l.length + 1) * 8 ≤ 140737488355328) := by show _ ∧ _; have := unhide HL; unfold maxLen; omega
      clear hown hrd hon2 hbel
      go_wp2_with (at_builtin; refine wpList_append_own _ rfl _ _ 23 rfl (b + 1) 3 i0 (.int .i64 0) 1 8 Try.underlying23 hi hz0 hz1 hz2 rfl (by decide) _ _ _ rfl (World.ownsRow.alloc hown2 _) ⟨w2.heap.size, 0, none⟩ 1 1 [.int .i64 x] rfl rfl (one_new _ _ rfl _ _) (one_int _) (unhide hlen1).1 (unhide hlen1).2 (size_alloc_le hlt2 _) ?_; intro v' w3 hown3 hgrow hnil; clear hnil)
      have hblk := rd_block hown2
      have hrd3 := (hrd2.alloc (.cells #[.int .i64 x] 3)).grown hgrow hblk
      have hbel3 : Below b w w3 := (hbel2.alloc (Nat.le_of_lt hlt2) _).grown hgrow (by simp; omega) (fun j hj => Nat.le_of_lt (hblk j hj))
      have hown4 := iown_snoc hown3
      clear hown3 hgrow hown2 hrd2 hbel2
      go_roundw
      case rel => exact ⟨l ++ [x], k - 1, by go_num, by have := unhide HL; simp; omega, unhide hin2, hown4, hrd3.mono (by omega), hbel3⟩
      case measure => simp [intOf]; omega
    · obtain ⟨va, vc, rfl⟩ := hown.form
      go_wp2
      go_ret
      exact ⟨⟨l, _, rfl, hown, by have := unhide HL; omega, unhide HIN⟩, hrd.mono (by omega), hbel⟩

/-- Lengths of codes that all know. -/
def fix1 (i : Nat) : Int := if i < 144 then 8 else if i < 256 then 9 else if i < 280 then 7 else 8
def fixL (k : Nat) : List Int := (List.range k).map fix1
theorem fixL_len (k : Nat) : (fixL k).length = k := by simp [fixL]
theorem fixL_succ (k : Nat) : fixL (k + 1) = fixL k ++ [fix1 k] := by simp [fixL, List.range_succ]

set_option maxHeartbeats 1600000 in
theorem l5Fixed_any (w : World) :
    Calls Try.prog 38 #[] w fun e w' => (∃ v, e = .returned v ∧ IOwn w' w.heap.size v (fixL 288)) ∧ Below w.heap.size w w' := by
  obtain ⟨i0, hi, hz0, hz1, hz2⟩ := info_parts Try.infoInt
  have hB0 : Below w.heap.size w (w.alloc (.cells #[] 3)) := (Below.refl _ _).alloc (Nat.le_refl _) _
  have hp0 : IOwn (w.alloc (.cells #[] 3)) w.heap.size (.slice (some ⟨w.heap.size, 0, none⟩) 0 0) (fixL 0) := IOwn.lit _ _ (Nat.le_refl _)
  go_enter Try.func38, Try.ntmps38
  go_wp2_with fail
  go_loopw [1, 2] (fun v i wr => ∃ k : Nat, k ≤ 288 ∧ i = .int .i64 k ∧ IOwn wr w.heap.size v (fixL k) ∧ Below w.heap.size w wr) (fun _ i _ => 288 - (intOf i).toNat)
  case atStart => exact ⟨0, by omega, rfl, hp0, hB0⟩
  case round =>
    obtain ⟨k, hk, rfl, hp, hbel⟩ := hrel
    clear hp0 hB0
    have hbs := hbel.size
    have hkI : (k : Int) ≤ 288 := by omega
    have HK := hide hk
    have hst := hide (fixL_succ k)
    have hf : Hid (fix1 k = if k < 144 then 8 else if k < 256 then 9 else if k < 280 then 7 else 8) := rfl
    have hlen1 : Hid ((fixL k).length + 1 ≤ maxLen ∧ ((fixL k).length + 1) * 8 ≤ 140737488355328) := by show _ ∧ _; rw [fixL_len]; unfold maxLen; omega
    clear hk
    by_cases h1 : (k : Int) < 288
    · by_cases c1 : (k : Int) < 144
      · have hx : Hid (fix1 k = 8) := by have := unhide hf; rw [if_pos (by omega)] at this; exact this
        have d1 : decide ((k : Int) < 144) = true := decide_eq_true c1
        go_wp2_with (at_builtin; refine wpList_append_own _ rfl _ _ 23 rfl w.heap.size 3 i0 (.int .i64 0) 1 8 Try.underlying23 hi hz0 hz1 hz2 rfl (by decide) _ _ _ rfl (World.ownsRow.alloc hp _) ⟨wr.heap.size, 0, none⟩ 1 1 [.int .i64 8] rfl rfl (one_new _ _ rfl _ _) (one_int _) (unhide hlen1).1 (unhide hlen1).2 (size_alloc_le hbs _) ?_; intro v' x3 hown hgrow hnil; clear hnil)
        have hb3 := grown_step (v := u1) hgrow hp (Nat.le_refl _) hbs hbel
        have ho3 := iown_snoc hown
        rw [← unhide hx, ← unhide hst] at ho3
        clear hown hgrow
        go_roundw
        case rel => exact ⟨k + 1, by omega, by go_num, ho3, hb3⟩
        case measure => simp [intOf]; omega
      · have d1 : decide ((k : Int) < 144) = false := decide_eq_false c1
        by_cases c2 : (k : Int) < 256
        · have hx : Hid (fix1 k = 9) := by have := unhide hf; rw [if_neg (by omega), if_pos (by omega)] at this; exact this
          have d2 : decide ((k : Int) < 256) = true := decide_eq_true c2
          go_wp2_with (at_builtin; refine wpList_append_own _ rfl _ _ 23 rfl w.heap.size 3 i0 (.int .i64 0) 1 8 Try.underlying23 hi hz0 hz1 hz2 rfl (by decide) _ _ _ rfl (World.ownsRow.alloc hp _) ⟨wr.heap.size, 0, none⟩ 1 1 [.int .i64 9] rfl rfl (one_new _ _ rfl _ _) (one_int _) (unhide hlen1).1 (unhide hlen1).2 (size_alloc_le hbs _) ?_; intro v' x3 hown hgrow hnil; clear hnil)
          have hb3 := grown_step (v := u1) hgrow hp (Nat.le_refl _) hbs hbel
          have ho3 := iown_snoc hown
          rw [← unhide hx, ← unhide hst] at ho3
          clear hown hgrow
          go_roundw
          case rel => exact ⟨k + 1, by omega, by go_num, ho3, hb3⟩
          case measure => simp [intOf]; omega
        · have d2 : decide ((k : Int) < 256) = false := decide_eq_false c2
          by_cases c3 : (k : Int) < 280
          · have hx : Hid (fix1 k = 7) := by have := unhide hf; rw [if_neg (by omega), if_neg (by omega), if_pos (by omega)] at this; exact this
            have d3 : decide ((k : Int) < 280) = true := decide_eq_true c3
            go_wp2_with (at_builtin; refine wpList_append_own _ rfl _ _ 23 rfl w.heap.size 3 i0 (.int .i64 0) 1 8 Try.underlying23 hi hz0 hz1 hz2 rfl (by decide) _ _ _ rfl (World.ownsRow.alloc hp _) ⟨wr.heap.size, 0, none⟩ 1 1 [.int .i64 7] rfl rfl (one_new _ _ rfl _ _) (one_int _) (unhide hlen1).1 (unhide hlen1).2 (size_alloc_le hbs _) ?_; intro v' x3 hown hgrow hnil; clear hnil)
            have hb3 := grown_step (v := u1) hgrow hp (Nat.le_refl _) hbs hbel
            have ho3 := iown_snoc hown
            rw [← unhide hx, ← unhide hst] at ho3
            clear hown hgrow
            go_roundw
            case rel => exact ⟨k + 1, by omega, by go_num, ho3, hb3⟩
            case measure => simp [intOf]; omega
          · have hx : Hid (fix1 k = 8) := by have := unhide hf; rw [if_neg (by omega), if_neg (by omega), if_neg (by omega)] at this; exact this
            have d3 : decide ((k : Int) < 280) = false := decide_eq_false c3
            go_wp2_with (at_builtin; refine wpList_append_own _ rfl _ _ 23 rfl w.heap.size 3 i0 (.int .i64 0) 1 8 Try.underlying23 hi hz0 hz1 hz2 rfl (by decide) _ _ _ rfl (World.ownsRow.alloc hp _) ⟨wr.heap.size, 0, none⟩ 1 1 [.int .i64 8] rfl rfl (one_new _ _ rfl _ _) (one_int _) (unhide hlen1).1 (unhide hlen1).2 (size_alloc_le hbs _) ?_; intro v' x3 hown hgrow hnil; clear hnil)
            have hb3 := grown_step (v := u1) hgrow hp (Nat.le_refl _) hbs hbel
            have ho3 := iown_snoc hown
            rw [← unhide hx, ← unhide hst] at ho3
            clear hown hgrow
            go_roundw
            case rel => exact ⟨k + 1, by omega, by go_num, ho3, hb3⟩
            case measure => simp [intOf]; omega
    · obtain rfl : k = 288 := by have := unhide HK; omega
      obtain ⟨va, vc, rfl⟩ := hp.form
      go_wp2
      go_ret
      exact ⟨⟨_, rfl, hp⟩, hbel⟩

set_option maxHeartbeats 1600000 in
theorem l11Lens_any (B b m : Nat) (w : World) (h : Rd w B b m) (hm : m ≤ 70000) :
    Calls Try.prog 18 #[.pointer (some ⟨b, 0, none⟩)] w fun e w' => (∃ (l : List Int) (v : Value), e = .returned v ∧ IOwn w' (b + 1) v l ∧ l.length ≤ 301 ∧ 1 ≤ l.length) ∧ Rd w' B b (m + 30) ∧ Below b w w' := by
  obtain ⟨i0, hi, hz0, hz1, hz2⟩ := info_parts Try.infoInt
  go_enter Try.func18, Try.ntmps18
  go_wp2_with fail
  refine (l11Counts_any B b m _ h (by omega)).mono ?_
  rintro e w1 ⟨⟨l, v1, rfl, ho1, hl1, hin1⟩, hrd1, hb1⟩
  go_wp2_with fail
  refine (pick_any B b _ _ _ hrd1 (by omega) (by omega) (by omega)).mono ?_
  rintro e w2 ⟨r, rfl, r0, r1, hrd2, hon2⟩
  have ho2 : IOwn w2 (b + 1) v1 l := owns_only ho1 hon2 (by omega)
  have hb2 := hb1.trans hon2.1
  have hlt2 := hrd2.lt
  have hlen1 : Hid (l.length + 1 ≤ maxLen ∧ (l.length + 1) * 8 ≤ 140737488355328) := by show _ ∧ _; unfold maxLen; omega
  have HL := hide hl1
  have hdl := hide (drawn_lens hin1 hl1 r0 r1)
  clear ho1 hon2 hb1 hrd1 hl1 h hin1
  go_wp2_with (at_builtin; refine wpList_append_own _ rfl _ _ 23 rfl (b + 1) 3 i0 (.int .i64 0) 1 8 Try.underlying23 hi hz0 hz1 hz2 rfl (by decide) _ _ _ rfl (World.ownsRow.alloc ho2 _) ⟨w2.heap.size, 0, none⟩ 1 1 [.int .i64 (1 + r)] rfl rfl (one_new _ _ rfl _ _) (one_int _) (unhide hlen1).1 (unhide hlen1).2 (size_alloc_le hlt2 _) ?_; intro v3 w3 hown3 hgrow hnil; clear hnil)
  have hblk := rd_block ho2
  have hrd3 := (hrd2.alloc (.cells #[.int .i64 (1 + r)] 3)).grown hgrow hblk
  have hb3 : Below b w w3 := (hb2.alloc (Nat.le_of_lt hlt2) _).grown hgrow (by simp; omega) (fun j hj => Nat.le_of_lt (hblk j hj))
  have ho3 := iown_snoc hown3
  obtain ⟨va, vc, hvv⟩ := ho3.formN (n := l.length + 1) (by simp)
  rw [hvv]
  rw [hvv] at ho3
  clear hown3 hgrow ho2 hrd2 hb2 hblk
  refine (specLensOf_any va vc (l.length + 1) (l ++ [1 + r]) 15 w3 (by simp) (ho3.rowN (by simp)) (by have := unhide HL; omega)).mono ?_
  rintro e w4 ⟨⟨v4, rfl, ho4⟩, hb34⟩
  have hlt3 := hrd3.lt
  have hrd4 := hrd3.kept (hb34.mono hlt3)
  have hb4 := hb3.trans (hb34.mono (Nat.le_of_lt hlt3))
  have hll := lensOfL_len (l ++ [1 + r]) 15
  have ho4' := ho4.mono (show b + 1 ≤ w3.heap.size from hlt3)
  generalize lensOfL (l ++ [1 + r]) 15 = o at *
  obtain ⟨oa, oc, hov⟩ := ho4'.form
  subst hov
  have HO := hide hll
  clear ho3 hrd3 hb34 hb3 ho4 hvv hll
  go_wp2_with fail
  refine (pick_any B b _ _ _ hrd4 (by omega) (by omega) (by omega)).mono ?_
  rintro e w5 ⟨q, rfl, q0, q1, hrd5, hon5⟩
  have ho5 : IOwn w5 (b + 1) (.slice oa o.length oc) o := owns_only ho4' hon5 (by omega)
  have hb5 := hb4.trans hon5.1
  have hlt5 := hrd5.lt
  clear ho4' hrd4 hon5 hb4
  by_cases e0 : q = 0
  · subst e0
    go_wp2_with fail
    refine (one_only B b _ 5 [0, 1, 2, 16, -1] _ _ rfl hrd5 (by omega) (by omega) (by omega)).mono ?_
    rintro e w6 ⟨x, _, rfl, hrd6, hon6⟩
    have ho6 : IOwn w6 (b + 1) (.slice oa o.length oc) o := owns_only (World.ownsRow.alloc ho5 _) hon6 (by omega)
    have hb6 := (hb5.alloc (Nat.le_of_lt hlt5) _).trans hon6.1
    have hlt6 := hrd6.lt
    have hlen2 : Hid (o.length + 1 ≤ maxLen ∧ (o.length + 1) * 8 ≤ 140737488355328) := by show _ ∧ _; have := unhide HO; unfold maxLen; omega
    clear ho5 hrd5 hon6 hb5
    go_wp2_with (at_builtin; refine wpList_append_own _ rfl _ _ 23 rfl (b + 1) 3 i0 (.int .i64 0) 1 8 Try.underlying23 hi hz0 hz1 hz2 rfl (by decide) _ _ _ rfl (World.ownsRow.alloc ho6 _) ⟨w6.heap.size, 0, none⟩ 1 1 [.int .i64 x] rfl rfl (one_new _ _ rfl _ _) (one_int _) (unhide hlen2).1 (unhide hlen2).2 (size_alloc_le hlt6 _) ?_; intro v7 w7 hown7 hgrow hnil; clear hnil)
    have hblk := rd_block ho6
    have hrd7 := (hrd6.alloc (.cells #[.int .i64 x] 3)).grown hgrow hblk
    have hb7 : Below b w w7 := (hb6.alloc (Nat.le_of_lt hlt6) _).grown hgrow (by simp; omega) (fun j hj => Nat.le_of_lt (hblk j hj))
    have ho7 := iown_snoc hown7
    obtain ⟨fa, fc, hfv⟩ := ho7.form
    subst hfv
    clear hown7 hgrow
    go_ret
    exact ⟨⟨_, _, rfl, ho7, by have := unhide HO; simp; omega, by simp⟩, hrd7.mono (by omega), hb7⟩
  · have z0 : (q == 0) = false := by simpa using e0
    by_cases e1 : q = 1
    · subst e1
      go_wp2
      go_ret
      exact ⟨⟨[0, 1], _, rfl, World.ownsRow_lit w5 #[.int .i64 0, .int .i64 1] 2 hlt5 (by unfold maxLen; omega) rfl, by simp, by simp⟩, (hrd5.alloc _).mono (by omega), hb5.alloc (Nat.le_of_lt hlt5) _⟩
    · have z1 : (q == 1) = false := by simpa using e1
      by_cases e2 : q = 2
      · subst e2
        go_wp2
        go_ret
        exact ⟨⟨[2], _, rfl, IOwn.one w5 _ hlt5 2, by simp, by simp⟩, (hrd5.alloc _).mono (by omega), hb5.alloc (Nat.le_of_lt hlt5) _⟩
      · have z2 : (q == 2) = false := by simpa using e2
        by_cases e3 : q = 3
        · subst e3
          go_wp2_with fail
          refine (l5Fixed_any _).mono ?_
          rintro e w6 ⟨⟨v6, rfl, ho6⟩, hb6⟩
          obtain ⟨fa, fc, hfv⟩ := ho6.form
          subst hfv
          go_wp2
          go_ret
          exact ⟨⟨fixL 288, _, rfl, ho6.mono hlt5, by rw [fixL_len]; omega, by rw [fixL_len]; omega⟩, (hrd5.kept (hb6.mono hlt5)).mono (by omega), hb5.trans (hb6.mono (Nat.le_of_lt hlt5))⟩
        · have z3 : (q == 3) = false := by simpa using e3
          go_wp2
          go_ret
          exact ⟨⟨o, _, rfl, ho5, by have := unhide HO; omega, unhide hdl⟩, hrd5.mono (by omega), hb5⟩


end Go.Proofs.Ytnomiopdpmecbaa
