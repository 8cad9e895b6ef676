/- The walk of a law: a symbol without a code is not written. -/
import Derived.Test.YtkjcncnnckemjaaDl1
import Derived.Test.YtkjcncnnckemjaaSp3
import Derived.Test.YtkjcncnnckemjaaCb1
namespace Go.Proofs.Ytkjcncnnckemjaa
open Go.RowKit Corb

theorem one_put {l : List Int} (h : lensOk l = true) (x : Int) : (symPut l [x]).length = if hasS l x then 1 else 0 := by
  unfold symPut
  simp only [List.all_cons, List.all_nil, Bool.and_true, h, Bool.true_and]
  cases hasS l x <;> simp [symP]
theorem hasS_at (l : List Int) (k : Nat) (h : k < l.length) : hasS l (k : Int) = decide (0 < l.getD k 0) := by
  unfold hasS
  rw [decide_eq_true (by omega), decide_eq_true (by omega), Int.toNat_natCast]; rfl
theorem hasS_out (l : List Int) : hasS l (l.length : Int) = false ∧ hasS l (-1) = false := by
  refine ⟨?_, ?_⟩
  · unfold hasS
    rw [decide_eq_false (p := (l.length : Int) < (l.length : Int)) (by omega)]; simp
  · simp [hasS]

set_option maxHeartbeats 3200000 in
theorem fnSymbolsNone_walk (a : Option Addr) (len cap : Nat) (zs : List Int) (w : World) (w0 : IsRow .u8 w a len cap zs) :
    Calls Try.prog 6 #[.slice a len cap] w fun e w' => e = .returned (.bool true) ∧ Below w.heap.size w w' := by
  obtain ⟨⟨z, hsrc⟩, hc, hm⟩ := src_of w0
  have hm' := hide hm
  unfold maxLen at hm
  clear w0
  by_cases hl : (len : Int) ≤ 1048576
  · go_enter Try.func6, Try.ntmps6
    go_wp2_with fail
    refine (drawCodesOf_any a len cap z _ hsrc hc (unhide hm')).mono ?_
    rintro e x1 ⟨⟨l, va, vc, n, rfl, hn, ho1, hn3⟩, hb1⟩
    have HN := hide hn
    have H3 := hide hn3
    have hnI : (n : Int) ≤ 301 := by omega
    have HR := hide (fun (W : World) (h : Below x1.heap.size x1 W) => (ho1.later h (Nat.le_refl _)).rowN hn)
    have HIM := hide (implLensOk_any va vc n l x1 hn (unhide HR x1 (Below.refl _ _)) (by omega))
    have HSP := hide (specLensOk_any va vc n l x1 hn (unhide HR x1 (Below.refl _ _)) (by omega))
    have HO := hide ho1
    clear hn hn3 ho1 hsrc hm hc
    cases hok : lensOk l
    · go_wp2_with fail
      refine (unhide HIM).mono ?_
      rintro e y1 ⟨rfl, hy1⟩
      rw [hy1, hok]
      go_wp2_with fail
      refine (unhide HSP).mono ?_
      rintro e y2 ⟨rfl, hy2⟩
      rw [hy2, hok]
      go_wp2_with fail
      refine (unhide HSP).mono ?_
      rintro e y3 ⟨rfl, hy3⟩
      rw [hy3, hok]
      go_wp2
      go_ret
      exact ⟨rfl, hb1⟩
    · have HB1 := hide hb1
      have HOK := hide hok
      have hcall : Hid (∀ (x : Int) (b : Bool) (W : World), Below x1.heap.size x1 W → hasS l x = b → Calls Try.prog 16 #[.slice va n vc, .slice (some ⟨W.heap.size, 0, none⟩) 1 1] (W.alloc (.cells #[.int .i64 x] 3)) fun e w' => (∃ va vc, e = .returned (.slice va (if b then 1 else 0) vc)) ∧ Below W.heap.size W w') := by
        intro x b W hW hb
        have hbW : Below W.heap.size W (W.alloc (.cells #[.int .i64 x] 3)) := (Below.refl _ _).alloc (Nat.le_refl _) _
        refine (implSymbolsPut_any va (some ⟨W.heap.size, 0, none⟩) vc 1 n 1 l [x] (W.alloc (.cells #[.int .i64 x] 3)) (unhide HN) (unhide HR _ (bnext hW hbW)) (by have := unhide H3; omega) rfl ((IOwn.one W W.heap.size (Nat.le_refl _) x).rowN rfl) (by omega)).mono ?_
        rintro e w' ⟨v, he, hp, hb'⟩
        obtain ⟨pa, pc, hv⟩ := hp.formN (one_put (unhide HOK) x)
        rw [hb] at hv
        refine ⟨⟨pa, pc, by rw [he, hv]⟩, bnext hbW hb'⟩
      clear hb1
      go_wp2_with fail
      refine (unhide HIM).mono ?_
      rintro e y1 ⟨rfl, hy1⟩
      rw [hy1, hok]
      clear hy1 y1
      go_wp2_with fail
      refine (unhide HSP).mono ?_
      rintro e y2 ⟨rfl, hy2⟩
      rw [hy2, hok]
      clear hy2 y2 HIM HSP
      go_wp2_with fail
      go_loopw [2, 5] (fun _ i wr => ∃ k : Nat, k ≤ n ∧ i = .int .i64 k ∧ Below x1.heap.size x1 wr) (fun _ i _ => n - (intOf i).toNat)
      case atStart => exact ⟨0, Nat.zero_le _, rfl, Below.refl _ _⟩
      case round =>
        obtain ⟨k, hk, rfl, hbel⟩ := hrel
        have HK := hide hk
        clear hk
        by_cases hlt : k < n
        · have hltI : (k : Int) < (n : Int) := by omega
          have hk0 : (0 : Int) ≤ (k : Int) := by omega
          have hhas := hasS_at l k (by rw [unhide HN]; exact hlt)
          obtain ⟨g, o, rfl, hg, hcc⟩ := unhide HR wr hbel (by rw [unhide HN]; omega)
          have c0 := hcc k (by rw [unhide HN]; exact hlt)
          have HC : ∀ W, Below wr.heap.size wr W → W.cell? ⟨g, o + k, none⟩ = some (.int .i64 (l.getD k 0)) := fun W hW => (hW.cell (p := ⟨g, o + k, none⟩) hg).trans c0
          have hCL := hide (fun b hb => unhide hcall (k : Int) b wr.drew hbel.drew hb)
          clear hcc
          generalize l.getD k 0 = y at *
          have hd : Below wr.heap.size wr wr.drew := (Below.refl _ _).drew
          have hda : Below wr.heap.size wr (wr.alloc (.cells #[.int .i64 (k : Int)] 3)).drew := ((Below.refl _ _).alloc (Nat.le_refl _) _).drew
          by_cases hy : 0 < y
          · have e1 : hasS l (k : Int) = true := by rw [hhas]; exact decide_eq_true hy
            have e2 : decide (0 < y) = true := decide_eq_true hy
            go_wp2_with fail
            go_region_held3 (fun W => W.cell? ⟨g, o + k, none⟩ = some (.int .i64 y)) (first | exact HC _ hd | assumption | exact HC _ hda) (first
              | (go_at_call 16; refine (unhide hCL true e1).mono ?_; rintro e x5 ⟨⟨pa, pc, rfl⟩, hb5⟩; have hb5' : Below wr.heap.size wr x5 := hd.trans hb5; have hC5 := HC _ hb5'; rw [if_pos rfl]))
            all_goals
              go_wp2
              go_roundw
              case rel => exact ⟨k + 1, by have := unhide HK; omega, by go_num, bnext hbel hb5'⟩
              case measure => simp [intOf]; omega
          · have e1 : hasS l (k : Int) = false := by rw [hhas]; exact decide_eq_false hy
            have e2 : decide (0 < y) = false := decide_eq_false hy
            go_wp2_with fail
            go_region_held3 (fun W => W.cell? ⟨g, o + k, none⟩ = some (.int .i64 y)) (first | exact HC _ hd | assumption | exact HC _ hda) (first
              | (go_at_call 16; refine (unhide hCL false e1).mono ?_; rintro e x5 ⟨⟨pa, pc, rfl⟩, hb5⟩; have hb5' : Below wr.heap.size wr x5 := hd.trans hb5; have hC5 := HC _ hb5'; rw [if_neg (by simp)]))
            all_goals
              go_wp2
              go_roundw
              case rel => exact ⟨k + 1, by have := unhide HK; omega, by go_num, bnext hbel hb5'⟩
              case measure => simp [intOf]; omega
        · have hltI : ¬ (k : Int) < (n : Int) := by omega
          have ho := hasS_out l
          rw [unhide HN] at ho
          have HA := hide (unhide hcall (n : Int) false wr hbel ho.1)
          have HB := hide (fun (W : World) (hW : Below x1.heap.size x1 W) => unhide hcall (-1) false W hW ho.2)
          clear ho hcall
          go_wp2_with fail
          refine (unhide HA).mono ?_
          rintro e x5 ⟨⟨pa, pc, rfl⟩, hb5⟩
          rw [if_neg (by simp)]
          have hbel5 := bnext hbel hb5
          go_wp2_with fail
          refine (unhide HB x5 hbel5).mono ?_
          rintro e x6 ⟨⟨qa, qc, rfl⟩, hb6⟩
          rw [if_neg (by simp)]
          go_wp2
          go_ret
          exact ⟨rfl, bnext (bnext (unhide HB1) hbel5) hb6⟩
  · go_enter Try.func6, Try.ntmps6
    go_wp2
    go_ret
    exact ⟨rfl, Below.refl _ _⟩

end Go.Proofs.Ytkjcncnnckemjaa
