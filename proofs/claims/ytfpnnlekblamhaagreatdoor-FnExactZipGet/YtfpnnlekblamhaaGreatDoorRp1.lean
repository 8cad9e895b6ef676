/- slices.Repeat of a row of one. -/
import Derived.Test.YtfpnnlekblamhaaGreatDoorM8
import Derived.Test.YtfpnnlekblamhaaGreatDoorM5
import Derived.Laws.Bits64b
import Derived.Laws.CopyOwn
import Derived.Deep.RegionLaw
namespace Go.Proofs.YtfpnnlekblamhaaGreatDoor
open Go.RowKit
theorem and_mask (c : Nat) (hc : (c : Int) ≤ 1000) : bits .and .u64 (c : Int) 4294967295 = (c : Int) := by
  have h := Go.bits_and_u64_nat c 4294967295 (by omega) (by decide)
  have e : c &&& 4294967295 = c := by
    have := Nat.and_two_pow_sub_one_eq_mod c 32
    rw [show (2 ^ 32 - 1 : Nat) = 4294967295 by decide] at this
    rw [this]; omega
  rw [e] at h
  exact h
theorem wrap_small (c : Nat) (hc : (c : Int) ≤ 1000) : IntKind.u64.wrap (c : Int) = (c : Int) := by
  simp only [IntKind.wrap, IntKind.signed, IntKind.bits]
  simp
  omega
set_option maxHeartbeats 1600000 in
theorem mul64_one (c : Nat) (w : World) (hc : (c : Int) ≤ 1000) :
    Calls Tryz.prog 106 #[.int .u64 1, .int .u64 (c : Nat)] w fun e w' => e = .returned (.tuple #[.int .u64 0, .int .u64 (c : Nat)]) ∧ w' = w := by
  have e1 : bits .and .u64 1 4294967295 = 1 := by decide +kernel
  have e0 : bits .and .u64 0 4294967295 = 0 := by decide +kernel
  have e2 := and_mask c hc
  have e3 : (c : Int) / 4294967296 = 0 := by omega
  have e4 := wrap_small c hc
  go_enter Tryz.func106, Tryz.ntmps106
  go_wp2
  go_ret2
  exact ⟨rfl, rfl⟩
theorem mul_one (c : Nat) (w : World) (hc : (c : Int) ≤ 1000) :
    Calls Tryz.prog 86 #[.int .u64 1, .int .u64 (c : Nat)] w fun e w' => e = .returned (.tuple #[.int .u64 0, .int .u64 (c : Nat)]) ∧ w' = w := by
  go_enter Tryz.func86, Tryz.ntmps86
  go_wp2_with (go_at_call 106; refine (mul64_one c _ hc).mono ?_; rintro e w' ⟨rfl, hw⟩; rw [hw]; clear hw)
  go_ret2
  exact ⟨rfl, rfl⟩
theorem own_full {w : World} {base g n : Nat} {e : TypeId} {xs : List Value} (h : w.ownsRow base e 1 (.slice (some ⟨g, 0, none⟩) n n) n xs) : w.heap[g]? = some (.cells xs.toArray e (0, 0)) := by
  rcases h.2 with ⟨e, _⟩ | ⟨g', cap, cur, e', _, hg, _, _, hs, ht⟩
  · cases e
  · simp only [Value.slice.injEq, Option.some.injEq, Addr.mk.injEq, and_true] at e'
    obtain ⟨rfl, -, rfl⟩ := e'
    rw [List.take_of_length_le (by simp; omega)] at ht
    rw [hg, ← ht]
theorem full_own {w : World} {base g n : Nat} {e : TypeId} {xs : List Value} (h : w.heap[g]? = some (.cells xs.toArray e (0, 0))) (hn : xs.length = n) (hb : base ≤ g) (hm : n ≤ maxLen) : w.ownsRow base e 1 (.slice (some ⟨g, 0, none⟩) n n) n xs :=
  ⟨by omega, .inr ⟨g, n, xs.toArray, rfl, hb, h, Nat.le_refl _, hm, by simp; omega, by simp; exact List.take_of_length_le (by omega)⟩⟩
def fillV (v : Int) (k c : Nat) : List Value := List.replicate k (.int .i64 v) ++ List.replicate (c - k) (.int .i64 0)
theorem fillV_len (v : Int) (k c : Nat) (h : k ≤ c) : (fillV v k c).length = c := by simp [fillV]; omega
theorem fill_splice (v : Int) (k m c : Nat) (h : k + m ≤ c) : splice (fillV v k c) k (List.replicate m (.int .i64 v)) = fillV v (k + m) c := by
  unfold splice fillV
  rw [List.take_append_of_le_length (by simp), List.take_of_length_le (by simp), List.drop_append, List.drop_of_length_le (by simp)]
  simp only [List.length_replicate, List.drop_replicate, List.nil_append]
  rw [← List.append_assoc, List.replicate_append_replicate]
  congr 2
  omega
theorem fill_cell {w : World} {g k c : Nat} {v : Int} {e : TypeId} (h : w.heap[g]? = some (.cells (fillV v k c).toArray e (0, 0))) (j : Nat) (hj : j < k) : w.cell? ((⟨g, 0, none⟩ : Addr).add j) = some (.int .i64 v) := by
  have e1 : (⟨g, 0, none⟩ : Addr).add j = ⟨g, j, none⟩ := by unfold Addr.add; split <;> simp_all
  rw [e1]
  simp only [World.cell?, h, fillV]
  simp [List.getElem?_append, hj]
theorem repl_get (v : Int) (m j : Nat) (u : Value) (h : (List.replicate m (Value.int .i64 v))[j]? = some u) : j < m ∧ u = .int .i64 v := by
  rw [List.getElem?_replicate] at h
  by_cases hj : j < m
  · rw [if_pos hj] at h; exact ⟨hj, (Option.some.inj h).symm⟩
  · rw [if_neg hj] at h; cases h
theorem repl_one (v : Int) (m : Nat) : ∀ u ∈ List.replicate m (Value.int .i64 v), u.oneCell' = true := by
  intro u hu
  rw [(List.mem_replicate.1 hu).2]; rfl
theorem made_zero (n : Nat) : (madeCells (Value.int .i64 0).cells (n * 1)).toList = fillV 0 0 n := by
  unfold fillV
  simp only [List.replicate_zero, List.nil_append, Nat.sub_zero, Nat.mul_one]
  apply List.ext_getElem?
  intro i
  by_cases hi : i < n
  · rw [List.getElem?_replicate, if_pos hi, List.getElem?_eq_getElem (by simpa [madeCells] using hi)]
    simp [madeCells, Value.cells, Nat.mod_one]
  · rw [List.getElem?_eq_none (by simp [madeCells]; omega), List.getElem?_eq_none (by simp; omega)]
set_option maxRecDepth 100000 in
set_option maxHeartbeats 1600000 in
theorem repeat_one (v : Int) (c cap g o : Nat) (w : World) (hv : w.cell? ⟨g, o, none⟩ = some (.int .i64 v)) (h1 : 1 ≤ c) (hc : (c : Int) ≤ 1000) :
    Calls Tryz.prog 59 #[.slice (some ⟨g, o, none⟩) 1 cap, .int .i64 (c : Nat)] w fun e w' => e = .returned (.slice (some ⟨w.heap.size, 0, none⟩) c c) ∧ IOwn w' w.heap.size (.slice (some ⟨w.heap.size, 0, none⟩) c c) (List.replicate c v) ∧ Below w.heap.size w w' := by
  obtain ⟨i0, hi, hz0, hz1, hz2⟩ := info_parts Tryz.infoInt
  have hg : g < w.heap.size := World.block_lt_of_cell? _ _ hv
  have hw1 := wrap_small c hc
  have hzs : (Tryz.prog.info? 3).map (·.size) = some 1 := by kernel_rfl
  have hn1 : ([.int .i64 v] : List Value).length = Nat.min 1 c := by show 1 = min 1 c; omega
  have hf1 : 0 + ([.int .i64 v] : List Value).length ≤ (fillV v 0 c).length := by rw [fillV_len v 0 c (by omega)]; simpa using h1
  have ho1 : ∀ u ∈ ([.int .i64 v] : List Value), u.oneCell' = true := by intro u hu; simp at hu; subst hu; rfl
  have HP : Hid (∀ w1 : World, w1.cell? ⟨g, o, none⟩ = some (.int .i64 v) → ∀ (j : Nat) (u : Value), ([.int .i64 v] : List Value)[j]? = some u → w1.cell? ((⟨g, o, none⟩ : Addr).add j) = some u) := by
    intro w1 h j u hj
    match j, hj with
    | 0, hj => simp at hj; subst hj; simpa [Addr.add] using h
  have Hn1 := hide hn1
  have Hf1 := hide hf1
  clear hn1 hf1
  go_enter Tryz.func59, Tryz.ntmps59
  go_wp2_with (first
    | (at_make; refine wpList_make_full _ rfl _ _ 96 rfl w.heap.size 3 i0 (.int .i64 0) 1 Tryz.underlying96 hi hz0 hz1 .i64 .i64 _ _ c rfl rfl rfl rfl (by rw [hz2]; omega) (by unfold maxLen; omega) (Nat.le_refl _) ?_; intro w1 hown hgrow; rw [made_zero] at hown; have hblk := own_full hown; have hb0 : Below w.heap.size w w1 := (Below.refl _ _).grown hgrow (Nat.le_refl _) (fun k h => by cases h); have hv1 := (hb0.cell (p := ⟨g, o, none⟩) hg).trans hv; clear hown hgrow)
    | (refine wpList_copy_splice rfl (.tmp 31) (.tmp 32) 96 96 rfl 3 Tryz.underlying96 hzs _ _ _ _ _ _ rfl rfl w.heap.size 0 (fillV v 0 c) 3 hblk [.int .i64 v] (unhide Hn1) (fun _ => ⟨rfl, ⟨g, o, none⟩, rfl, unhide HP _ hv1⟩) (unhide Hf1) ho1 w.heap.size w hb0 (Nat.le_refl _) ?_; intro w2 hg2 hb2)
    | (go_at_call 86; refine (mul_one c _ hc).mono ?_; rintro e w' ⟨rfl, hw⟩; rw [hw]; clear hw))
  have hg2' : w2.heap[w.heap.size]? = some (.cells (fillV v 1 c).toArray 3 (0, 0)) := by
    have := unhide hg2
    rw [show ([.int .i64 v] : List Value) = List.replicate 1 (.int .i64 v) from rfl, fill_splice v 0 1 c (by omega)] at this
    simpa using this
  clear hg2 hv1 hblk hb0
  have HZI : Hid (∀ k m : Nat, (List.replicate m (Value.int .i64 v)).length = m) := fun k m => by simp
  go_loopw [8] (fun n wr => ∃ k : Nat, 1 ≤ k ∧ k ≤ c ∧ n = .int .i64 k ∧ wr.heap[w.heap.size]? = some (.cells (fillV v k c).toArray 3 (0, 0)) ∧ Below w.heap.size w wr) (fun n _ => c - (intOf n).toNat)
  case atStart => exact ⟨1, Nat.le_refl _, h1, rfl, hg2', hb2⟩
  case round =>
    obtain ⟨k, hk1, hkc, rfl, hgk, hbk⟩ := hrel
    clear hg2' hb2
    by_cases hlt : k < c
    · have hkI : (k : Int) < (c : Int) := by omega
      have hkI1 : (1 : Int) ≤ (k : Int) := by omega
      obtain ⟨m, hm⟩ : ∃ m, m = Nat.min k (c - k) := ⟨_, rfl⟩
      have hmk : m ≤ k := by rw [hm]; exact Nat.min_le_left _ _
      have hmc : k + m ≤ c := by
        have : m ≤ c - k := by rw [hm]; exact Nat.min_le_right _ _
        omega
      have hm1 : 1 ≤ m := by
        have : m = min k (c - k) := hm
        omega
      have Hn2 : Hid ((List.replicate m (Value.int .i64 v)).length = Nat.min k (c - k)) := by show _ = _; rw [List.length_replicate]; exact hm
      have Hs2 : Hid (∀ (j : Nat) (u : Value), (List.replicate m (Value.int .i64 v))[j]? = some u → wr.cell? ((⟨w.heap.size, 0, none⟩ : Addr).add j) = some u) := by
        intro j u hj
        obtain ⟨h1, rfl⟩ := repl_get v m j u hj
        exact fill_cell hgk j (by omega)
      have Hf2 : Hid (k + (List.replicate m (Value.int .i64 v)).length ≤ (fillV v k c).length) := by show _ ≤ _; rw [fillV_len v k c (by omega), List.length_replicate]; exact hmc
      have Hsp := hide (fill_splice v k m c hmc)
      have HM := hide (And.intro hmk (And.intro hmc hm1))
      have hmI : (k : Int) + (m : Int) ≤ 1000 := by omega
      have HGK := hide hgk
      have HBK := hide hbk
      have hck : ¬ c = k := by omega
      clear hm hmk hmc hm1 hgk hbk
      go_wp2_with fail
      go_region_law (first | (refine step_copy_splice rfl (.tmp 41) (.tmp 44) 96 96 rfl 3 Tryz.underlying96 hzs (some ⟨w.heap.size, k, none⟩) (some ⟨w.heap.size, 0, none⟩) (c - k) (c - k) k c (by simp [Act.eval, Act.put]) (by simp [Act.eval, Act.put]) w.heap.size k (fillV v k c) 3 (unhide HGK) (List.replicate m (.int .i64 v)) (unhide Hn2) (fun _ => ⟨rfl, ⟨w.heap.size, 0, none⟩, rfl, unhide Hs2⟩) (unhide Hf2) (repl_one v m) w.heap.size w (unhide HBK).drew (Nat.le_refl _) ?_; intro w3 hg3 hb3))
      rw [unhide Hsp] at hg3
      have HG3 := hide (unhide hg3)
      have HB3 := hide hb3
      clear hg3 hb3
      have hwr := wrap_id ((k : Int) + (m : Int)) (by omega) (by omega)
      go_simp
      go_wp2
      go_roundw
      case rel => exact ⟨k + m, by omega, (unhide HM).2.1, by go_num, unhide HG3, unhide HB3⟩
      case measure => have := unhide HM; simp [intOf]; omega
    · have : k = c := by omega
      subst this
      have HO : Hid (IOwn wr w.heap.size (.slice (some ⟨w.heap.size, 0, none⟩) k k) (List.replicate k v)) := by
        show World.ownsRow _ _ _ _ _ (List.replicate k v).length _
        rw [List.length_replicate]
        refine full_own ?_ (by simp) (Nat.le_refl _) (by unfold maxLen; omega)
        rw [hgk]
        simp [fillV]
      clear hgk
      go_wp2
      go_ret
      exact ⟨rfl, unhide HO, hbk⟩
end Go.Proofs.YtfpnnlekblamhaaGreatDoor