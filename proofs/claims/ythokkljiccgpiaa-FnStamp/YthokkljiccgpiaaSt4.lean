/- Contracts of StampPut and StampGet, the model's and the program's. -/
import Derived.Test.YthokkljiccgpiaaSt3
namespace Go.Proofs.Ythokkljiccgpiaa
open Go.RowKit

theorem or_join' (i : Nat) (x y : Int) (h0 : 0 ≤ x) (h1 : x < 2 ^ i) (h2 : 0 ≤ y) (h3 : y < 9223372036854775808) (h4 : x < 9223372036854775808) (h : y % 2 ^ i = 0) : bits .or .i64 x y = x + y := by
  obtain ⟨a, rfl⟩ := Int.eq_ofNat_of_zero_le h0
  obtain ⟨b, rfl⟩ := Int.eq_ofNat_of_zero_le h2
  rw [i64_or_nat a b (by omega) (by omega), Nat.or_comm, nat_join i b a (by exact_mod_cast h) (by exact_mod_cast h1)]
  omega

/-- A stamp in a block of the call's own. -/
def Six (w : World) (b : Nat) (y mo d h mi s : Int) : Prop :=
  (w.cell? ⟨b, 0, none⟩ = some (.int .i64 y) ∧ w.cell? ⟨b, 1, none⟩ = some (.int .i64 mo) ∧ w.cell? ⟨b, 2, none⟩ = some (.int .i64 d) ∧ w.cell? ⟨b, 3, none⟩ = some (.int .i64 h) ∧ w.cell? ⟨b, 4, none⟩ = some (.int .i64 mi) ∧ w.cell? ⟨b, 5, none⟩ = some (.int .i64 s)) ∧
  (w.frozen? ⟨b, 0, none⟩ = false ∧ w.frozen? ⟨b, 1, none⟩ = false ∧ w.frozen? ⟨b, 2, none⟩ = false ∧ w.frozen? ⟨b, 3, none⟩ = false ∧ w.frozen? ⟨b, 4, none⟩ = false ∧ w.frozen? ⟨b, 5, none⟩ = false) ∧ b < w.heap.size
theorem six_alloc (w : World) (y mo d h mi s : Int) (t : TypeId) : Six (w.alloc (.cells #[.int .i64 y, .int .i64 mo, .int .i64 d, .int .i64 h, .int .i64 mi, .int .i64 s] t)) w.heap.size y mo d h mi s := by
  refine ⟨⟨?_, ?_, ?_, ?_, ?_, ?_⟩, ⟨?_, ?_, ?_, ?_, ?_, ?_⟩, ?_⟩ <;> simp
theorem Six.later {w w' : World} {b B : Nat} {y mo d h mi s : Int} (k : Six w b y mo d h mi s) (hb : Below B w w') (hB : b < B) : Six w' b y mo d h mi s := by
  obtain ⟨⟨c0, c1, c2, c3, c4, c5⟩, ⟨f0, f1, f2, f3, f4, f5⟩, hlt⟩ := k
  refine ⟨⟨?_, ?_, ?_, ?_, ?_, ?_⟩, ⟨?_, ?_, ?_, ?_, ?_, ?_⟩, Nat.lt_of_lt_of_le hlt hb.size⟩
  · exact (hb.cell (p := ⟨b, 0, none⟩) hB).trans c0
  · exact (hb.cell (p := ⟨b, 1, none⟩) hB).trans c1
  · exact (hb.cell (p := ⟨b, 2, none⟩) hB).trans c2
  · exact (hb.cell (p := ⟨b, 3, none⟩) hB).trans c3
  · exact (hb.cell (p := ⟨b, 4, none⟩) hB).trans c4
  · exact (hb.cell (p := ⟨b, 5, none⟩) hB).trans c5
  · exact (hb.frozen (p := ⟨b, 0, none⟩) hB).trans f0
  · exact (hb.frozen (p := ⟨b, 1, none⟩) hB).trans f1
  · exact (hb.frozen (p := ⟨b, 2, none⟩) hB).trans f2
  · exact (hb.frozen (p := ⟨b, 3, none⟩) hB).trans f3
  · exact (hb.frozen (p := ⟨b, 4, none⟩) hB).trans f4
  · exact (hb.frozen (p := ⟨b, 5, none⟩) hB).trans f5
theorem set_keep {w : World} {b i j : Nat} {v : Value} {c : Option Value} (k : w.cell? ⟨b, j, none⟩ = c) (h : i ≠ j) : (w.setCell ⟨b, i, none⟩ v).cell? ⟨b, j, none⟩ = c := by
  rw [World.cell?_setCell_other _ _ _ _ (fun e => h (by cases e; rfl))]; exact k
theorem Six.store {w : World} {b : Nat} {y mo d h mi s : Int} (k : Six w b y mo d h mi s) (y' mo' d' h' mi' s' : Int) :
    Six ((((((w.setCell ⟨b, 0, none⟩ (.int .i64 y')).setCell ⟨b, 1, none⟩ (.int .i64 mo')).setCell ⟨b, 2, none⟩ (.int .i64 d')).setCell ⟨b, 3, none⟩ (.int .i64 h')).setCell ⟨b, 4, none⟩ (.int .i64 mi')).setCell ⟨b, 5, none⟩ (.int .i64 s')) b y' mo' d' h' mi' s' := by
  obtain ⟨⟨c0, c1, c2, c3, c4, c5⟩, ⟨f0, f1, f2, f3, f4, f5⟩, hlt⟩ := k
  refine ⟨⟨?_, ?_, ?_, ?_, ?_, ?_⟩, ⟨?_, ?_, ?_, ?_, ?_, ?_⟩, ?_⟩
  · exact set_keep (set_keep (set_keep (set_keep (set_keep (World.cell?_setCell_same _ _ _ c0) (by decide)) (by decide)) (by decide)) (by decide)) (by decide)
  · exact set_keep (set_keep (set_keep (set_keep (World.cell?_setCell_same _ _ _ (set_keep c1 (by decide))) (by decide)) (by decide)) (by decide)) (by decide)
  · exact set_keep (set_keep (set_keep (World.cell?_setCell_same _ _ _ (set_keep (set_keep c2 (by decide)) (by decide))) (by decide)) (by decide)) (by decide)
  · exact set_keep (set_keep (World.cell?_setCell_same _ _ _ (set_keep (set_keep (set_keep c3 (by decide)) (by decide)) (by decide))) (by decide)) (by decide)
  · exact set_keep (World.cell?_setCell_same _ _ _ (set_keep (set_keep (set_keep (set_keep c4 (by decide)) (by decide)) (by decide)) (by decide))) (by decide)
  · exact World.cell?_setCell_same _ _ _ (set_keep (set_keep (set_keep (set_keep (set_keep c5 (by decide)) (by decide)) (by decide)) (by decide)) (by decide))
  · simpa using f0
  · simpa using f1
  · simpa using f2
  · simpa using f3
  · simpa using f4
  · simpa using f5
  · simpa using hlt
theorem six_below {B : Nat} {a w : World} {b : Nat} (k : Below B a w) (hb : B ≤ b) (v0 v1 v2 v3 v4 v5 : Value) : Below B a ((((((w.setCell ⟨b, 0, none⟩ v0).setCell ⟨b, 1, none⟩ v1).setCell ⟨b, 2, none⟩ v2).setCell ⟨b, 3, none⟩ v3).setCell ⟨b, 4, none⟩ v4).setCell ⟨b, 5, none⟩ v5) :=
  below_set (below_set (below_set (below_set (below_set (below_set k hb _) hb _) hb _) hb _) hb _) hb _
theorem six_call {w w1 : World} {y mo d h mi s : Int} {t : TypeId} (hb : Below (w.alloc (.cells #[.int .i64 y, .int .i64 mo, .int .i64 d, .int .i64 h, .int .i64 mi, .int .i64 s] t)).heap.size (w.alloc (.cells #[.int .i64 y, .int .i64 mo, .int .i64 d, .int .i64 h, .int .i64 mi, .int .i64 s] t)) w1) :
    Six w1 w.heap.size y mo d h mi s ∧ Below w.heap.size w w1 :=
  ⟨(six_alloc w y mo d h mi s t).later hb (by simp), ((Below.refl _ _).alloc (Nat.le_refl _) _).trans (hb.mono (by simp))⟩

/-- The number of a day and a time. -/
def stN (y mo d h mi s : Int) : Int := (((((y - 1980) * 16 + mo) * 32 + d) * 32 + h) * 64 + mi) * 32 + s / 2
/-- The same; -1 of what is none. -/
def stI (y mo d h mi s : Int) : Int := if stOk y mo d h mi s then stN y mo d h mi s else -1
theorem st_bd {y mo d h mi s : Int} (k : stOk y mo d h mi s = true) : (1980 ≤ y ∧ y ≤ 2107) ∧ (1 ≤ mo ∧ mo ≤ 12) ∧ (1 ≤ d ∧ d ≤ daysN y mo ∧ d ≤ 31) ∧ (0 ≤ h ∧ h ≤ 23) ∧ (0 ≤ mi ∧ mi ≤ 59) ∧ (0 ≤ s ∧ s ≤ 58) ∧ s % 2 = 0 := by
  simp only [stOk, Bool.and_eq_true, inB_true, decide_eq_true_eq] at k
  obtain ⟨ey, em, ed, eh, ei, es, e2⟩ := k
  have h1 : daysI y mo = daysN y mo := by simp [daysI, inB_true.2 em]
  have h2 := (daysI_bd y mo).2
  refine ⟨ey, em, ⟨ed.1, ed.2, ?_⟩, eh, ei, es, e2⟩
  omega

theorem implStampPut_any (y mo d h mi s : Int) (w : World) :
    Calls Try.prog 14 #[.agg #[.int .i64 y, .int .i64 mo, .int .i64 d, .int .i64 h, .int .i64 mi, .int .i64 s]] w fun e w' => e = .returned (.int .i64 (stI y mo d h mi s)) ∧ Below w.heap.size w w' := by
  cases k : stOk y mo d h mi s
  · have e : stI y mo d h mi s = -1 := by simp [stI, k]
    rw [e]
    clear e
    go_enter Try.func14, Try.ntmps14
    go_wp2_with fail
    refine (implStampOk_any y mo d h mi s _).mono ?_
    rintro e w1 ⟨rfl, hb⟩
    rw [k]
    go_wp2
    go_ret
    exact ⟨rfl, (six_call hb).2⟩
  · have e : stI y mo d h mi s = stN y mo d h mi s := by simp [stI, k]
    rw [e]
    clear e
    obtain ⟨⟨y0, y1⟩, ⟨m0, m1⟩, ⟨d0, _, d1⟩, ⟨h0, h1⟩, ⟨i0, i1⟩, ⟨s0, s1⟩, s2⟩ := st_bd k
    go_enter Try.func14, Try.ntmps14
    go_wp2_with fail
    refine (implStampOk_any y mo d h mi s _).mono ?_
    rintro e w1 ⟨rfl, hb⟩
    rw [k]
    obtain ⟨⟨⟨c0, c1, c2, c3, c4, c5⟩, _, _⟩, hb1⟩ := six_call hb
    clear hb
    go_wp2
    go_ret
    refine ⟨ret_int ?_, hb1⟩
    rw [or_join' 5 (s / 2) (mi * 32) (by omega) (by omega) (by omega) (by omega) (by omega) (by omega)]
    rw [or_join' 11 _ (h * 2048) (by omega) (by omega) (by omega) (by omega) (by omega) (by omega)]
    rw [or_join' 16 _ (d * 65536) (by omega) (by omega) (by omega) (by omega) (by omega) (by omega)]
    rw [or_join' 21 _ (mo * 2097152) (by omega) (by omega) (by omega) (by omega) (by omega) (by omega)]
    rw [or_join' 25 _ ((y - 1980) * 33554432) (by omega) (by omega) (by omega) (by omega) (by omega) (by omega)]
    unfold stN; omega

theorem l6Put_any (y mo d h mi s : Int) (w : World) (k : (0 ≤ y ∧ y ≤ 100000) ∧ (0 ≤ mo ∧ mo ≤ 100) ∧ (0 ≤ d ∧ d ≤ 100) ∧ (0 ≤ h ∧ h ≤ 100) ∧ (0 ≤ mi ∧ mi ≤ 100) ∧ -100 ≤ s ∧ s ≤ 100) :
    Calls Try.prog 24 #[.agg #[.int .i64 y, .int .i64 mo, .int .i64 d, .int .i64 h, .int .i64 mi, .int .i64 s]] w fun e w' => e = .returned (.int .i64 ((((((y - 1980) * 16 + mo) * 32 + d) * 32 + h) * 64 + mi) * 32 + Int.tdiv s 2)) ∧ Below w.heap.size w w' := by
  obtain ⟨⟨y0, y1⟩, ⟨m0, m1⟩, ⟨d0, d1⟩, ⟨h0, h1⟩, ⟨i0, i1⟩, s0, s1⟩ := k
  have t0 : -50 ≤ Int.tdiv s 2 := by have := Int.tdiv_le_tdiv (c := 2) (by omega) s0; simpa using this
  have t1 : Int.tdiv s 2 ≤ 50 := by have := Int.tdiv_le_tdiv (c := 2) (by omega) s1; simpa using this
  go_enter Try.func24, Try.ntmps24
  go_wp2
  go_ret
  exact ⟨ret_int rfl, (Below.refl _ _).alloc (Nat.le_refl _) _⟩

theorem specStampPut_any (y mo d h mi s : Int) (w : World) :
    Calls Try.prog 13 #[.agg #[.int .i64 y, .int .i64 mo, .int .i64 d, .int .i64 h, .int .i64 mi, .int .i64 s]] w fun e w' => e = .returned (.int .i64 (stI y mo d h mi s)) ∧ Below w.heap.size w w' := by
  cases k : stOk y mo d h mi s
  · have e : stI y mo d h mi s = -1 := by simp [stI, k]
    rw [e]
    clear e
    go_enter Try.func13, Try.ntmps13
    go_wp2_with fail
    refine (specStampOk_any y mo d h mi s _).mono ?_
    rintro e w1 ⟨rfl, hb⟩
    rw [k]
    go_wp2
    go_ret
    exact ⟨rfl, (six_call hb).2⟩
  · have e : stI y mo d h mi s = stN y mo d h mi s := by simp [stI, k]
    rw [e]
    clear e
    have K := st_bd k
    go_enter Try.func13, Try.ntmps13
    go_wp2_with fail
    refine (specStampOk_any y mo d h mi s _).mono ?_
    rintro e w1 ⟨rfl, hb⟩
    rw [k]
    obtain ⟨⟨⟨c0, c1, c2, c3, c4, c5⟩, _, _⟩, hb1⟩ := six_call hb
    clear hb
    go_wp2_with fail
    refine (l6Put_any y mo d h mi s _ (by omega)).mono ?_
    rintro e w2 ⟨rfl, hb2⟩
    go_wp2
    go_ret
    exact ⟨ret_int (by rw [Int.tdiv_eq_ediv_of_nonneg K.2.2.2.2.2.1.1]; rfl), hb1.trans (hb2.mono hb1.size)⟩

/-- What the fields of a number are. -/
def gS (n : Int) : Int := 2 * (n % 32)
def gI (n : Int) : Int := n / 32 % 64
def gH (n : Int) : Int := n / 2048 % 32
def gD (n : Int) : Int := n / 65536 % 32
def gM (n : Int) : Int := n / 2097152 % 16
def gY (n : Int) : Int := n / 33554432 + 1980
theorem l6Get_any (n : Int) (w : World) (h0 : 0 ≤ n) (h1 : n ≤ 4294967295) :
    Calls Try.prog 26 #[.int .i64 n] w fun e w' => e = .returned (.agg #[.int .i64 (gY n), .int .i64 (gM n), .int .i64 (gD n), .int .i64 (gH n), .int .i64 (gI n), .int .i64 (gS n)]) ∧ Below w.heap.size w w' := by
  go_enter Try.func26, Try.ntmps26
  go_wp2
  refine bodyPost_ret (v := .agg #[.int .i64 (n / 32 / 64 / 32 / 32 / 16 + 1980), .int .i64 (n / 32 / 64 / 32 / 32 % 16), .int .i64 (n / 32 / 64 / 32 % 32), .int .i64 (n / 32 / 64 % 32), .int .i64 (n / 32 % 64), .int .i64 (2 * (n % 32))]) (by simp [results, Try.results26, go_sem]) rfl ⟨?_, ?_⟩
  · have e0 : n / 32 / 64 / 32 / 32 / 16 + 1980 = gY n := by unfold gY; omega
    have e1 : n / 32 / 64 / 32 / 32 % 16 = gM n := by unfold gM; omega
    have e2 : n / 32 / 64 / 32 % 32 = gD n := by unfold gD; omega
    have e3 : n / 32 / 64 % 32 = gH n := by unfold gH; omega
    rw [e0, e1, e2, e3]; rfl
  · exact ((Below.refl _ _).alloc (Nat.le_refl _) _).alloc (by simp) _

theorem l2WordS_any (n : Int) (w : World) :
    Calls Try.prog 25 #[.int .i64 n] w fun e w' => e = .returned (.bool (inB n 0 4294967295)) ∧ w' = w := by
  go_enter Try.func25, Try.ntmps25
  go_wp2_with (go_at_call 21; refine (l1In_any _ _ _ _).mono ?_; rintro e w' ⟨rfl, rfl⟩)
  go_ret
  exact ⟨rfl, rfl⟩

/-- A number is that of a day and a time. -/
def gOk (n : Int) : Bool := inB n 0 4294967295 && stOk (gY n) (gM n) (gD n) (gH n) (gI n) (gS n)
/-- A number, or nothing. -/
def zz (b : Bool) (x : Int) : Int := if b then x else 0
/-- What StampGet answers. -/
def stG (n : Int) : Value := .agg #[.int .i64 (zz (gOk n) (gY n)), .int .i64 (zz (gOk n) (gM n)), .int .i64 (zz (gOk n) (gD n)), .int .i64 (zz (gOk n) (gH n)), .int .i64 (zz (gOk n) (gI n)), .int .i64 (zz (gOk n) (gS n))]
theorem stG_no {n : Int} (h : gOk n = false) : stG n = .agg #[.int .i64 0, .int .i64 0, .int .i64 0, .int .i64 0, .int .i64 0, .int .i64 0] := by simp [stG, h, zz]
theorem stG_yes {n : Int} (h : gOk n = true) : stG n = .agg #[.int .i64 (gY n), .int .i64 (gM n), .int .i64 (gD n), .int .i64 (gH n), .int .i64 (gI n), .int .i64 (gS n)] := by simp [stG, h, zz]

theorem specStampGet_any (n : Int) (w : World) :
    Calls Try.prog 15 #[.int .i64 n] w fun e w' => e = .returned (.tuple #[stG n, .bool (gOk n)]) ∧ Below w.heap.size w w' := by
  cases hk : gOk n
  · rw [stG_no hk]
    cases h : inB n 0 4294967295
    · go_enter Try.func15, Try.ntmps15
      go_wp2_with (go_at_call 25; refine (l2WordS_any _ _).mono ?_; rintro e w9 ⟨rfl, hw9⟩; rw [hw9]; clear hw9; rw [h])
      refine bodyPost_ret (v := .tuple #[.agg #[.int .i64 0, .int .i64 0, .int .i64 0, .int .i64 0, .int .i64 0, .int .i64 0], .bool false]) (by simp [results, Try.results15, go_sem]) rfl ⟨rfl, ?_⟩
      exact (Below.refl _ _).alloc (Nat.le_refl _) _
    · obtain ⟨n0, n1⟩ := inB_true.1 h
      have ho : stOk (gY n) (gM n) (gD n) (gH n) (gI n) (gS n) = false := by simpa [gOk, h] using hk
      go_enter Try.func15, Try.ntmps15
      go_wp2_with fail
      refine (l2WordS_any _ _).mono ?_
      rintro e w9 ⟨rfl, hw9⟩
      rw [hw9, h]
      clear hw9
      go_wp2_with fail
      refine (l6Get_any n _ n0 n1).mono ?_
      rintro e w1 ⟨rfl, hb1⟩
      go_wp2_with fail
      refine (specStampOk_any _ _ _ _ _ _ _).mono ?_
      rintro e w2 ⟨rfl, hb2⟩
      rw [ho]
      have B2 := hb1.trans (hb2.mono hb1.size)
      have hx := (six_alloc w 0 0 0 0 0 0 25).later B2 (by simp)
      obtain ⟨⟨z0, z1, z2, z3, z4, z5⟩, _, _⟩ := hx.store 0 0 0 0 0 0
      obtain ⟨⟨c0, c1, c2, c3, c4, c5⟩, ⟨f0, f1, f2, f3, f4, f5⟩, hlt⟩ := hx
      go_wp2
      refine bodyPost_ret (v := .tuple #[.agg #[.int .i64 0, .int .i64 0, .int .i64 0, .int .i64 0, .int .i64 0, .int .i64 0], .bool false]) (by simp [results, Try.results15, go_sem, z0, z1, z2, z3, z4, z5]) rfl ⟨rfl, ?_⟩
      exact six_below (((Below.refl _ _).alloc (Nat.le_refl _) _).trans (B2.mono (by simp))) (Nat.le_refl _) _ _ _ _ _ _
  · rw [stG_yes hk]
    have h : inB n 0 4294967295 = true := by simp only [gOk, Bool.and_eq_true] at hk; exact hk.1
    have ho : stOk (gY n) (gM n) (gD n) (gH n) (gI n) (gS n) = true := by simp only [gOk, Bool.and_eq_true] at hk; exact hk.2
    obtain ⟨n0, n1⟩ := inB_true.1 h
    go_enter Try.func15, Try.ntmps15
    go_wp2_with fail
    refine (l2WordS_any _ _).mono ?_
    rintro e w9 ⟨rfl, hw9⟩
    rw [hw9, h]
    clear hw9
    go_wp2_with fail
    refine (l6Get_any n _ n0 n1).mono ?_
    rintro e w1 ⟨rfl, hb1⟩
    go_wp2_with fail
    refine (specStampOk_any _ _ _ _ _ _ _).mono ?_
    rintro e w2 ⟨rfl, hb2⟩
    rw [ho]
    go_wp2_with fail
    refine (l6Get_any n _ n0 n1).mono ?_
    rintro e w3 ⟨rfl, hb3⟩
    have B2 := hb1.trans (hb2.mono hb1.size)
    have B3 := B2.trans (hb3.mono B2.size)
    have hx := (six_alloc w 0 0 0 0 0 0 25).later B3 (by simp)
    obtain ⟨⟨z0, z1, z2, z3, z4, z5⟩, _, _⟩ := hx.store (gY n) (gM n) (gD n) (gH n) (gI n) (gS n)
    obtain ⟨⟨c0, c1, c2, c3, c4, c5⟩, ⟨f0, f1, f2, f3, f4, f5⟩, hlt⟩ := hx
    go_wp2
    refine bodyPost_ret (v := .tuple #[.agg #[.int .i64 (gY n), .int .i64 (gM n), .int .i64 (gD n), .int .i64 (gH n), .int .i64 (gI n), .int .i64 (gS n)], .bool true]) (by simp [results, Try.results15, go_sem, z0, z1, z2, z3, z4, z5]) rfl ⟨rfl, ?_⟩
    exact six_below (((Below.refl _ _).alloc (Nat.le_refl _) _).trans (B3.mono (by simp))) (Nat.le_refl _) _ _ _ _ _ _

end Go.Proofs.Ythokkljiccgpiaa
