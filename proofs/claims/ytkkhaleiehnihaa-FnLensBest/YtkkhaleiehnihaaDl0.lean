/- Contracts of the draws of counts, over this seat's program. -/
import Derived.Test.YtkkhaleiehnihaaHu6
import Derived.Test.YtkkhaleiehnihaaRdo
namespace Go.Proofs.Ytkkhaleiehnihaa
open Go.RowKit

theorem rd_block {v : Value} {w : World} {b n : Nat} {e : TypeId} {size : Nat} {xs : List Value} (h : w.ownsRow (b + 1) e size v n xs) : ∀ j, v.ownBlock = some j → b < j := fun j hj => (World.ownsRow.lt h j hj).1

theorem counts_snoc {l : List Int} {x : Int} (h : inC l = true) (hx : x ∈ [(0 : Int), 1, 1, 2, 3, 5, 8, 13, 100, 5000, 100000]) : inC (l ++ [x]) = true := by
  simp only [inC, List.all_append, Bool.and_eq_true]
  refine ⟨h, ?_⟩
  simp only [List.all_cons, List.all_nil, Bool.and_true]
  rw [inB_true]
  simp only [List.mem_cons, List.not_mem_nil, or_false] at hx
  omega
/-- Drawn counts make lengths. -/
theorem drawn_lens {l : List Int} {r : Int} (h : inC l = true) (hl : l.length ≤ 12) (r0 : 0 ≤ r) (r1 : r < 9) : 1 ≤ (lensOfL (l ++ [1 + r]) 15).length := by
  have hin : inC (l ++ [1 + r]) = true := by
    simp only [inC, List.all_append, Bool.and_eq_true]
    refine ⟨h, ?_⟩
    simp only [List.all_cons, List.all_nil, Bool.and_true]
    rw [inB_true]; omega
  have hu : 1 ≤ us (l ++ [1 + r]) := by
    have : us (l ++ [1 + r]) = us l + 1 := by
      simp only [us, List.map_append, List.map_cons, List.map_nil, List.sum_append, List.sum_cons, List.sum_nil]
      rw [if_pos (by omega)]
      omega
    omega
  have hu2 := us_le (l ++ [1 + r])
  have hlen : (l ++ [1 + r]).length = l.length + 1 := by simp
  have hp : p2 (15 : Int).toNat / 2 = 16384 := rfl
  have hok : lofOk (l ++ [1 + r]) 15 = true := by
    unfold lofOk
    rw [hin, hp, decide_eq_true (by omega)]
    have h1 : inB 15 1 15 = true := by decide
    have h2 : inB ((us (l ++ [1 + r]) : Nat) : Int) 1 ((16384 : Nat) : Int) = true := by rw [inB_true]; omega
    rw [h1, h2]; rfl
  unfold lensOfL
  rw [hok, if_pos rfl]
  unfold fitL
  rw [fitF_len]; omega

set_option maxHeartbeats 1600000 in
theorem l11Counts_pos (B b m : Nat) (w : World) (h : Rd w B b m) (hm : m ≤ 80000) :
    Calls Try.prog 31 #[.pointer (some ⟨b, 0, none⟩)] w fun e w' => (∃ (l : List Int) (v : Value), e = .returned v ∧ IOwn w' (b + 1) v l ∧ l.length ≤ 12 ∧ inC l = true ∧ 1 ≤ l.length) ∧ Rd w' B b (m + 20) ∧ Below b w w' := by
  obtain ⟨i0, hi, hz0, hz1, hz2⟩ := info_parts Try.infoInt
  have hltw := h.lt
  go_enter Try.func31, Try.ntmps31
  go_wp2_with fail
  refine (pick_any B b m _ _ (h.alloc _) (by omega) (by omega) (by omega)).mono ?_
  rintro e w1 ⟨r, rfl, r0, r1, hrd1, hon1⟩
  obtain ⟨n0, rfl⟩ := Int.eq_ofNat_of_zero_le r0
  have hown0 : IOwn w1 (b + 1) (.slice (some ⟨w.heap.size, 0, none⟩) 0 0) [] :=
    owns_only (World.ownsRow_lit w #[] 0 (by omega) (by unfold maxLen; omega) rfl) hon1 (by omega)
  have hbel1 := ((Below.refl b w).alloc (Nat.le_of_lt hltw) (.cells #[] 3)).trans hon1.1
  have n11 : n0 ≤ 11 := by omega
  have r1' : (n0 : Int) ≤ 11 := by omega
  clear h hon1 r0 r1
  go_wp2_with fail
  go_loopw [3, 4] (fun o n wr => ∃ (l : List Int) (k : Nat), n = .int .i64 k ∧ (l.length + k ≤ 12 ∧ 1 ≤ l.length + k) ∧ inC l = true ∧ IOwn wr (b + 1) o l ∧ Rd wr B b (m + 15 - k) ∧ Below b w wr) (fun _ n _ => (intOf n).toNat)
  case atStart => exact ⟨[], n0 + 1, by go_num, ⟨by simp; omega, by simp⟩, rfl, hown0, hrd1.mono (by omega), hbel1⟩
  case round =>
    obtain ⟨l, k, rfl, hlk, hin, hown, hrd, hbel⟩ := hrel
    have hltr := hrd.lt
    have hk' : (k : Int) ≤ 12 := by have := hlk.1; omega
    have HL := hide hlk
    have HIN := hide hin
    clear hin hlk hown0 hrd1 hbel1 n11
    by_cases hp : (0 : Int) < (k : Int)
    · go_wp2_with fail
      refine (one_only B b _ 11 [0, 1, 1, 2, 3, 5, 8, 13, 100, 5000, 100000] _ _ rfl hrd (by omega) (by omega) (by omega)).mono ?_
      rintro e w2 ⟨x, hxm, rfl, hrd2, hon2⟩
      have hin2 := hide (counts_snoc (unhide HIN) hxm)
      clear hxm
      have hown2 : IOwn w2 (b + 1) u3 l := owns_only (World.ownsRow.alloc hown _) hon2 (by omega)
      have hbel2 := (hbel.alloc (Nat.le_of_lt hltr) _).trans hon2.1
      have hlt2 := hrd2.lt
      have hlen1 : Hid (l.length + 1 ≤ maxLen ∧ (l.length + 1) * 8 ≤ 140737488355328) := by show _ ∧ _; have := (unhide HL).1; unfold maxLen; omega
      clear hown hrd hon2 hbel
      go_wp2_with (at_builtin; refine wpList_append_own _ rfl _ _ 22 rfl (b + 1) 3 i0 (.int .i64 0) 1 8 Try.underlying22 hi hz0 hz1 hz2 rfl (by decide) _ _ _ rfl (World.ownsRow.alloc hown2 _) ⟨w2.heap.size, 0, none⟩ 1 1 [.int .i64 x] rfl rfl (one_new _ _ rfl _ _) (one_int _) (unhide hlen1).1 (unhide hlen1).2 (size_alloc_le hlt2 _) ?_; intro v' w3 hown3 hgrow hnil; clear hnil)
      have hblk := rd_block hown2
      have hrd3 := (hrd2.alloc (.cells #[.int .i64 x] 3)).grown hgrow hblk
      have hbel3 : Below b w w3 := (hbel2.alloc (Nat.le_of_lt hlt2) _).grown hgrow (by simp; omega) (fun j hj => Nat.le_of_lt (hblk j hj))
      have hown4 := iown_snoc hown3
      clear hown3 hgrow hown2 hrd2 hbel2
      go_roundw
      case rel => exact ⟨l ++ [x], k - 1, by go_num, ⟨by have := (unhide HL).1; simp; omega, by have := (unhide HL).2; simp; omega⟩, unhide hin2, hown4, hrd3.mono (by omega), hbel3⟩
      case measure => simp [intOf]; omega
    · obtain ⟨va, vc, rfl⟩ := hown.form
      go_wp2
      go_ret
      exact ⟨⟨l, _, rfl, hown, by have := (unhide HL).1; omega, unhide HIN, by have := (unhide HL).2; omega⟩, hrd.mono (by omega), hbel⟩

theorem l11Counts_any (B b m : Nat) (w : World) (h : Rd w B b m) (hm : m ≤ 80000) :
    Calls Try.prog 31 #[.pointer (some ⟨b, 0, none⟩)] w fun e w' => (∃ (l : List Int) (v : Value), e = .returned v ∧ IOwn w' (b + 1) v l ∧ l.length ≤ 12 ∧ inC l = true) ∧ Rd w' B b (m + 20) ∧ Below b w w' :=
  (l11Counts_pos B b m w h hm).mono fun _ _ ⟨⟨l, v, h1, h2, h3, h4, _⟩, hr, hb⟩ => ⟨⟨l, v, h1, h2, h3, h4⟩, hr, hb⟩

set_option maxHeartbeats 1600000 in
theorem drawLensOf_any (a : Option Addr) (len cap : Nat) (z : Nat → Int) (w : World) (h : Src w a len z) (hc : len ≤ cap) (hm : len ≤ maxLen) :
    Calls Try.prog 15 #[.slice a len cap] w fun e w' => (∃ (l : List Int) (va : Option Addr) (vc n : Nat) (mo : Int), e = .returned (.tuple #[.slice va n vc, .int .i64 mo]) ∧ l.length = n ∧ IOwn w' w.heap.size (.slice va n vc) l ∧ 1 ≤ n ∧ n ≤ 13 ∧ 0 ≤ mo ∧ mo ≤ 16) ∧ Below w.heap.size w w' := by
  obtain ⟨i0, hi, hz0, hz1, hz2⟩ := info_parts Try.infoInt
  go_enter Try.func15, Try.ntmps15
  go_wp2_with fail
  refine (l1Open_any a len cap z _ h hc hm).mono ?_
  rintro e w1 ⟨rfl, hrd, hbel, hsz⟩
  clear h hc hm
  go_wp2_with fail
  refine (l11Counts_pos _ _ 0 _ hrd (by omega)).mono ?_
  rintro e w2 ⟨⟨l, v, rfl, ho, hl, _, hl1⟩, hrd2, hbel2⟩
  have hb2 := hbel.trans hbel2
  obtain ⟨va, vc, rfl⟩ := ho.form
  clear hrd hbel hbel2 hsz
  go_wp2_with fail
  refine (pick_any _ _ _ _ _ hrd2 (by omega) (by omega) (by omega)).mono ?_
  rintro e w3 ⟨r, rfl, r0, r1, hrd3, hon3⟩
  have ho3 := owns_only ho hon3 (Nat.lt_succ_self _)
  have hb3 := hb2.trans hon3.1
  have hlt3 := hrd3.lt
  have HL := hide (And.intro hl hl1)
  clear hrd2 hon3 ho hb2 hl hl1
  by_cases hr : r = 0
  · subst hr
    clear r0 r1
    go_wp2_with fail
    refine (one_only _ _ _ 2 [-1, 100001] _ _ rfl hrd3 (by omega) (by omega) (by omega)).mono ?_
    rintro e w4 ⟨x, _, rfl, hrd4, hon4⟩
    have ho4 : IOwn w4 (w.heap.size + 1) (.slice va l.length vc) l := owns_only (World.ownsRow.alloc ho3 _) hon4 (Nat.lt_succ_self _)
    have hb4 := (hb3.alloc (Nat.le_of_lt hlt3) _).trans hon4.1
    have hlt4 := hrd4.lt
    have hlen1 : Hid (l.length + 1 ≤ maxLen ∧ (l.length + 1) * 8 ≤ 140737488355328) := by show _ ∧ _; have := (unhide HL).1; unfold maxLen; omega
    clear ho3 hrd3 hon4 hb3
    go_wp2_with (at_builtin; refine wpList_append_own _ rfl _ _ 22 rfl (w.heap.size + 1) 3 i0 (.int .i64 0) 1 8 Try.underlying22 hi hz0 hz1 hz2 rfl (by decide) _ _ _ rfl (World.ownsRow.alloc ho4 _) ⟨w4.heap.size, 0, none⟩ 1 1 [.int .i64 x] rfl rfl (one_new _ _ rfl _ _) (one_int _) (unhide hlen1).1 (unhide hlen1).2 (by simp; omega) ?_; intro v' w5 hown5 hgrow hnil; clear hnil)
    have hblk := rd_block ho4
    have hrd5 := (hrd4.alloc (.cells #[.int .i64 x] 3)).grown hgrow hblk
    have hb5 : Below w.heap.size w w5 := (hb4.alloc (Nat.le_of_lt hlt4) _).grown hgrow (by simp; omega) (fun j hj => Nat.le_of_lt (hblk j hj))
    have ho5 := iown_snoc hown5
    have hlt5 := hrd5.lt
    clear hown5 hgrow ho4 hrd4 hb4 hblk
    obtain ⟨ua, uc, rfl⟩ := ho5.formN (n := l.length + 1) (by simp)
    go_wp2_with fail
    refine (one_only _ _ _ 9 [15, 15, 7, 5, 4, 3, 1, 0, 16] _ _ rfl hrd5 (by omega) (by omega) (by omega)).mono ?_
    rintro e w6 ⟨y, hy, rfl, hrd6, hon6⟩
    have ho6 : IOwn w6 (w.heap.size + 1) (.slice ua (l.length + 1) uc) (l ++ [x]) := owns_only (World.ownsRow.alloc ho5 _) hon6 (Nat.lt_succ_self _)
    have hb6 := (hb5.alloc (Nat.le_of_lt hlt5) _).trans hon6.1
    have hyb : 0 ≤ y ∧ y ≤ 16 := by
      simp only [List.mem_cons, List.not_mem_nil, or_false] at hy
      omega
    clear hy
    go_wp2
    go_ret2
    exact ⟨⟨l ++ [x], ua, uc, l.length + 1, y, rfl, by simp, ho6.mono (Nat.le_succ _), by omega, by have := (unhide HL).1; omega, hyb.1, hyb.2⟩, hb6⟩
  · have hr0 : (r == 0) = false := by simpa using hr
    go_wp2_with fail
    refine (one_only _ _ _ 9 [15, 15, 7, 5, 4, 3, 1, 0, 16] _ _ rfl hrd3 (by omega) (by omega) (by omega)).mono ?_
    rintro e w6 ⟨y, hy, rfl, hrd6, hon6⟩
    have ho6 : IOwn w6 (w.heap.size + 1) (.slice va l.length vc) l := owns_only (World.ownsRow.alloc ho3 _) hon6 (Nat.lt_succ_self _)
    have hb6 := (hb3.alloc (Nat.le_of_lt hlt3) _).trans hon6.1
    have hyb : 0 ≤ y ∧ y ≤ 16 := by
      simp only [List.mem_cons, List.not_mem_nil, or_false] at hy
      omega
    clear hy
    go_wp2
    go_ret2
    exact ⟨⟨l, va, vc, l.length, y, rfl, rfl, ho6.mono (Nat.le_succ _), (unhide HL).2, by have := (unhide HL).1; omega, hyb.1, hyb.2⟩, hb6⟩

end Go.Proofs.Ytkkhaleiehnihaa
