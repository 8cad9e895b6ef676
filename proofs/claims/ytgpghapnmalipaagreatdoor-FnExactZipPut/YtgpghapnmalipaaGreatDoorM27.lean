/- Of what the proof is made: 2 texts, one behind the other. -/
import Derived.Test.YtgpghapnmalipaaGreatDoorM26
import Derived.Test.YtgpghapnmalipaaGreatDoorM20
import Derived.Test.YtgpghapnmalipaaGreatDoorM4
namespace Go.Proofs.YtgpghapnmalipaaGreatDoor
open Go.RowKit Corb
set_option maxRecDepth 100000
theorem EigS.drew {w W : World} {n t : ByteArray} {y mo d h mi s : Int} (k : EigS w n y mo d h mi s t W) : EigS w n y mo d h mi s t W.drew := ⟨k.1.drew, k.2.1, k.2.2⟩
theorem EigS.set {w W : World} {n t : ByteArray} {y mo d h mi s : Int} (k : EigS w n y mo d h mi s t W) {A : Nat} (hA : w.heap.size < A) (o : Nat) (v : Value) : EigS w n y mo d h mi s t (W.setCell ⟨A, o, none⟩ v) := by
  have e : (W.setCell ⟨A, o, none⟩ v).heap[w.heap.size]? = W.heap[w.heap.size]? := Below.heap_setCell W ⟨A, o, none⟩ v w.heap.size (Nat.ne_of_lt hA)
  obtain ⟨b1, b2, e0, e1, e2, e3, e4, e5, e6, e7⟩ := k
  exact ⟨below_set b1 (Nat.le_of_lt hA) _, by simpa using b2, (World.cell?_of_block (w := W) e).trans e0, (World.cell?_of_block (w := W) e).trans e1, (World.cell?_of_block (w := W) e).trans e2, (World.cell?_of_block (w := W) e).trans e3, (World.cell?_of_block (w := W) e).trans e4, (World.cell?_of_block (w := W) e).trans e5, (World.cell?_of_block (w := W) e).trans e6, (World.cell?_of_block (w := W) e).trans e7⟩
def LhS (w : World) (n : ByteArray) (y mo d h mi s : Int) (t : ByteArray) (W : World) : Prop := EigS w n y mo d h mi s t W ∧ Blk W (w.heap.size + 1) [.int .i64 0, .int .i64 0, .int .i64 0, .int .i64 0, .int .i64 0, .string ⟨#[]⟩, .string ⟨#[]⟩]
theorem LhS.later {w W W' : World} {n t : ByteArray} {y mo d h mi s : Int} (k : LhS w n y mo d h mi s t W) (hb : Below W.heap.size W W') : LhS w n y mo d h mi s t W' := ⟨k.1.later hb, k.2.later hb k.2.1⟩
theorem LhS.drew {w W : World} {n t : ByteArray} {y mo d h mi s : Int} (k : LhS w n y mo d h mi s t W) : LhS w n y mo d h mi s t W.drew := ⟨k.1.drew, k.2.drew⟩
theorem LhS.set {w W : World} {n t : ByteArray} {y mo d h mi s : Int} (k : LhS w n y mo d h mi s t W) {A : Nat} (hA : w.heap.size + 1 < A) (o : Nat) (v : Value) : LhS w n y mo d h mi s t (W.setCell ⟨A, o, none⟩ v) := ⟨k.1.set (by omega) o v, k.2.set_other v (by omega)⟩
set_option maxHeartbeats 6400000 in
theorem localHeadOf_any (n t : ByteArray) (y mo d h mi s : Int) (w : World) (ht : t.size ≤ 1048576) (hO : OrdC w) :
    Calls Tryz.prog 20 #[.agg #[.string n, .int .i64 y, .int .i64 mo, .int .i64 d, .int .i64 h, .int .i64 mi, .int .i64 s, .string t]] w fun e w' => e = .returned (.agg #[.int .i64 (howN t : Nat), .int .i64 (stI y mo d h mi s), .int .i64 (crcMore 0 t.data.toList : Nat), .int .i64 ((bodyB t).size : Nat), .int .i64 (t.size : Nat), .string n, .string (bodyB t)]) ∧ Below w.heap.size w w' := by
  have hmix : Tryz.prog.follows .mixedOrders = true := by kernel_rfl
  have CP := hide (fun W => implStampPut_any y mo d h mi s W)
  have CC := hide (fun W => implCrc_any t W (by unfold maxLen; omega))
  have CFl := hide (fun W (hO : OrdC W) => implFlatePut_any t W ht hO)
  have hz := flateB_small t
  have hsI : (t.size : Int) ≤ 1048576 := by omega
  have HOw := hide hO
  have T0' : Hid (LhS w n y mo d h mi s t ((w.alloc (.cells #[.string n, .int .i64 y, .int .i64 mo, .int .i64 d, .int .i64 h, .int .i64 mi, .int .i64 s, .string t] 42)).alloc (.cells #[.int .i64 0, .int .i64 0, .int .i64 0, .int .i64 0, .int .i64 0, .string ⟨#[]⟩, .string ⟨#[]⟩] 50))) := by
    have e1 : EigS w n y mo d h mi s t (w.alloc (.cells #[.string n, .int .i64 y, .int .i64 mo, .int .i64 d, .int .i64 h, .int .i64 mi, .int .i64 s, .string t] 42)) := ⟨(Below.refl _ _).alloc (Nat.le_refl _) _, by simp, by simp, by simp, by simp, by simp, by simp, by simp, by simp, by simp⟩
    have e2 := blk_alloc (w.alloc (.cells #[.string n, .int .i64 y, .int .i64 mo, .int .i64 d, .int .i64 h, .int .i64 mi, .int .i64 s, .string t] 42)) #[.int .i64 0, .int .i64 0, .int .i64 0, .int .i64 0, .int .i64 0, .string ⟨#[]⟩, .string ⟨#[]⟩] 50
    have e3 : (w.alloc (.cells #[.string n, .int .i64 y, .int .i64 mo, .int .i64 d, .int .i64 h, .int .i64 mi, .int .i64 s, .string t] 42)).heap.size = w.heap.size + 1 := by simp
    rw [e3] at e2
    exact ⟨e1.later ((Below.refl _ _).alloc (Nat.le_refl _) _), e2⟩
  have HHB : Hid ((flateB t).size < t.size ∧ 8 = howN t ∧ flateB t = bodyB t ∨ ¬ (flateB t).size < t.size ∧ 0 = howN t ∧ t = bodyB t) := by
    show _ ∨ _
    unfold howN bodyB
    by_cases hc : (flateB t).size < t.size
    · exact Or.inl ⟨hc, by rw [if_pos hc], by rw [if_pos hc]⟩
    · exact Or.inr ⟨hc, by rw [if_neg hc], by rw [if_neg hc]⟩
  generalize flateB t = fl at *
  generalize howN t = hw at *
  generalize bodyB t = bd at *
  generalize stI y mo d h mi s = st at *
  generalize crcMore 0 t.data.toList = cr at *
  clear ht hO
  go_enter Tryz.func20, Tryz.ntmps20
  go_wp2_with fail
  obtain ⟨W0, hW0⟩ : ∃ x, (w.alloc (.cells #[.string n, .int .i64 y, .int .i64 mo, .int .i64 d, .int .i64 h, .int .i64 mi, .int .i64 s, .string t] 42)).alloc (.cells #[.int .i64 0, .int .i64 0, .int .i64 0, .int .i64 0, .int .i64 0, .string ⟨#[]⟩, .string ⟨#[]⟩] 50) = x := ⟨_, rfl⟩
  rw [hW0] at T0'
  rw [hW0]
  have T0 := T0'
  clear T0' hW0
  refine wp_region_held_drew (S := fun W => EightB W w.heap.size n y mo d h mi s t) hmix (unhide T0).1.2.2 (fun hS => ?_)
  refine wpAnyH_take (i := 0) (v := .pointer (some ⟨w.heap.size, 7, none⟩)) rfl (by kernel_rfl) (by kernel_rfl) (by kernel_rfl) (fun _ _ _ h => h) (Or.inl ⟨by rfl, fun W hSw => by obtain ⟨s0, s1, s2, s3, s4, s5, s6, s7⟩ := hSw; go_simp⟩) hS ?_
  refine wpAnyH_take (i := 1) (v := .string t) rfl (by kernel_rfl) (by kernel_rfl) (by kernel_rfl) (fun _ _ _ h => h) (Or.inl ⟨by rfl, fun W hSw => by obtain ⟨s0, s1, s2, s3, s4, s5, s6, s7⟩ := hSw; go_simp⟩) hS ?_
  have T1 : Hid (LhS w n y mo d h mi s t W0.drew) := (unhide T0).drew
  generalize W0.drew = W1 at *
  refine wpAnyH_ready (rs := [2]) (by kernel_rfl) (by simp) ?_
  refine AllReadyH.cons rfl (fun K hK => ?_) (AllReadyH.nil)
  go_simp
  refine Shut.out hK _ _ (unhide T1).1.2.2 (fun hS => ?_)
  clear hK K
  refine wpAnyH_ready (rs := [3]) (by kernel_rfl) (by simp) ?_
  refine AllReadyH.cons rfl (fun K hK => ?_) (AllReadyH.nil)
  go_simp
  refine Shut.out hK _ _ (unhide T1).1.2.2 (fun hS => ?_)
  clear hK K
  refine wpAnyH_done (by kernel_rfl) ?_ _
  clear hS
  obtain ⟨c0, c1, c2, c3, c4, c5, c6, c7⟩ := (unhide T1).1.2.2
  go_wp2_with fail
  refine (unhide CFl W1 ((unhide HOw).later (unhide T1).1.1)).mono ?_
  rintro e W3 ⟨rfl, Bd⟩
  have T3 := hide ((unhide T1).later Bd)
  clear Bd c0 c1 c2 c3 c4 c5 c6 c7 CFl HOw T0 T1
  go_upto_if 16 with fail
  go_cut [3, 4] from 9 to 17 (fun a b wx => a = .int .i64 (hw : Nat) ∧ b = .string bd ∧ LhS w n y mo d h mi s t wx)
  case first =>
    rcases unhide HHB with ⟨hc, e1, e2⟩ | ⟨hc, e1, e2⟩
    · have hI : (fl.size : Int) < (t.size : Int) := by omega
      have E1 := hide e1
      have E2 := hide e2
      clear e1 e2 hc
      go_wp2_with fail
      go_meet
      case rel => exact ⟨by rw [← unhide E1]; rfl, by rw [unhide E2], unhide T3⟩
    · have hI : ¬ (fl.size : Int) < (t.size : Int) := by omega
      have E1 := hide e1
      have E2 := hide e2
      clear e1 e2 hc
      go_wp2_with fail
      go_meet
      case rel => exact ⟨by rw [← unhide E1]; rfl, by rw [← unhide E2], unhide T3⟩
  case rest =>
    obtain ⟨rfl, rfl, T3'⟩ := hcut
    have T3 := hide T3'
    clear T3' HHB
    obtain ⟨W3, hW3⟩ : ∃ x, wc = x := ⟨_, rfl⟩
    rw [hW3] at T3
    rw [hW3]
    clear hW3
    go_wp2_with fail
    go_cut [6] (fun v wx => ∃ A, v = .pointer (some ⟨A, 0, none⟩) ∧ w.heap.size + 1 < A ∧ LhS w n y mo d h mi s t wx ∧ Blk wx A [.int .i64 (hw : Nat), .int .i64 st, .int .i64 (cr : Nat), .int .i64 (bd.size : Nat), .int .i64 (t.size : Nat), .string n])
    case first =>
      refine wp_region_held_drew (S := fun W => EightB W w.heap.size n y mo d h mi s t) hmix (unhide T3).1.2.2 (fun hS => ?_)
      refine wpAnyH_take (i := 0) (v := .int .i64 (hw : Nat)) rfl (by kernel_rfl) (by kernel_rfl) (by kernel_rfl) (fun _ _ _ h => h) (Or.inl ⟨by rfl, fun W hSw => by obtain ⟨s0, s1, s2, s3, s4, s5, s6, s7⟩ := hSw; go_simp⟩) hS ?_
      refine wpAnyH_take (i := 1) (v := .pointer (some ⟨w.heap.size, 1, none⟩)) rfl (by kernel_rfl) (by kernel_rfl) (by kernel_rfl) (fun _ _ _ h => h) (Or.inl ⟨by rfl, fun W hSw => by obtain ⟨s0, s1, s2, s3, s4, s5, s6, s7⟩ := hSw; go_simp⟩) hS ?_
      refine wpAnyH_take (i := 2) (v := .agg #[.int .i64 y, .int .i64 mo, .int .i64 d, .int .i64 h, .int .i64 mi, .int .i64 s]) rfl (by kernel_rfl) (by kernel_rfl) (by kernel_rfl) (fun _ _ _ h => h) (Or.inl ⟨by rfl, fun W hSw => by obtain ⟨s0, s1, s2, s3, s4, s5, s6, s7⟩ := hSw; go_simp⟩) hS ?_
      refine wpAnyH_take (i := 4) (v := .pointer (some ⟨w.heap.size, 7, none⟩)) rfl (by kernel_rfl) (by kernel_rfl) (by kernel_rfl) (fun _ _ _ h => h) (Or.inl ⟨by rfl, fun W hSw => by obtain ⟨s0, s1, s2, s3, s4, s5, s6, s7⟩ := hSw; go_simp⟩) hS ?_
      refine wpAnyH_take (i := 5) (v := .string t) rfl (by kernel_rfl) (by kernel_rfl) (by kernel_rfl) (fun _ _ _ h => h) (Or.inl ⟨by rfl, fun W hSw => by obtain ⟨s0, s1, s2, s3, s4, s5, s6, s7⟩ := hSw; go_simp⟩) hS ?_
      refine wpAnyH_take (i := 7) (v := .string bd) rfl (by kernel_rfl) (by kernel_rfl) (by kernel_rfl) (fun _ _ _ h => h) (Or.inl ⟨by rfl, fun W hSw => by obtain ⟨s0, s1, s2, s3, s4, s5, s6, s7⟩ := hSw; go_simp⟩) hS ?_
      refine wpAnyH_take (i := 8) (v := .int .i64 (bd.size : Nat)) rfl (by kernel_rfl) (by kernel_rfl) (by kernel_rfl) (fun _ _ _ h => h) (Or.inl ⟨by rfl, fun W hSw => by obtain ⟨s0, s1, s2, s3, s4, s5, s6, s7⟩ := hSw; go_simp⟩) hS ?_
      refine wpAnyH_take (i := 9) (v := .pointer (some ⟨w.heap.size, 7, none⟩)) rfl (by kernel_rfl) (by kernel_rfl) (by kernel_rfl) (fun _ _ _ h => h) (Or.inl ⟨by rfl, fun W hSw => by obtain ⟨s0, s1, s2, s3, s4, s5, s6, s7⟩ := hSw; go_simp⟩) hS ?_
      refine wpAnyH_take (i := 10) (v := .string t) rfl (by kernel_rfl) (by kernel_rfl) (by kernel_rfl) (fun _ _ _ h => h) (Or.inl ⟨by rfl, fun W hSw => by obtain ⟨s0, s1, s2, s3, s4, s5, s6, s7⟩ := hSw; go_simp⟩) hS ?_
      refine wpAnyH_take (i := 11) (v := .int .i64 (t.size : Nat)) rfl (by kernel_rfl) (by kernel_rfl) (by kernel_rfl) (fun _ _ _ h => h) (Or.inl ⟨by rfl, fun W hSw => by obtain ⟨s0, s1, s2, s3, s4, s5, s6, s7⟩ := hSw; go_simp⟩) hS ?_
      refine wpAnyH_take (i := 12) (v := .pointer (some ⟨w.heap.size, 0, none⟩)) rfl (by kernel_rfl) (by kernel_rfl) (by kernel_rfl) (fun _ _ _ h => h) (Or.inl ⟨by rfl, fun W hSw => by obtain ⟨s0, s1, s2, s3, s4, s5, s6, s7⟩ := hSw; go_simp⟩) hS ?_
      refine wpAnyH_take (i := 13) (v := .string n) rfl (by kernel_rfl) (by kernel_rfl) (by kernel_rfl) (fun _ _ _ h => h) (Or.inl ⟨by rfl, fun W hSw => by obtain ⟨s0, s1, s2, s3, s4, s5, s6, s7⟩ := hSw; go_simp⟩) hS ?_
      have T4 : Hid (LhS w n y mo d h mi s t W3.drew) := (unhide T3).drew
      generalize W3.drew = W4 at *
      refine wpAnyH_ready (rs := [3, 15]) (by kernel_rfl) (by simp) ?_
      refine AllReadyH.cons rfl (fun K hK => ?_) (AllReadyH.cons rfl (fun K hK => ?_) (AllReadyH.nil))
      · go_simp
        go_at_call 34
        refine (unhide CP W4).mono ?_
        rintro e W5 ⟨rfl, Bd⟩
        have T5 := hide ((unhide T4).later Bd)
        refine Shut.out hK _ _ (unhide T5).1.2.2 (fun hS => ?_)
        clear hK K
        clear Bd
        refine wpAnyH_ready (rs := [6, 15]) (by kernel_rfl) (by simp) ?_
        refine AllReadyH.cons rfl (fun K hK => ?_) (AllReadyH.cons rfl (fun K hK => ?_) (AllReadyH.nil))
        · go_simp
          go_at_call 35
          refine (unhide CC W5).mono ?_
          rintro e W6 ⟨rfl, Bd⟩
          have T6 := hide ((unhide T5).later Bd)
          refine Shut.out hK _ _ (unhide T6).1.2.2 (fun hS => ?_)
          clear hK K
          clear Bd
          refine wpAnyH_take (i := 14) (v := .agg #[.int .i64 (hw : Nat), .int .i64 st, .int .i64 (cr : Nat), .int .i64 (bd.size : Nat), .int .i64 (t.size : Nat), .string n]) rfl (by kernel_rfl) (by kernel_rfl) (by kernel_rfl) (fun _ _ _ h => h) (Or.inl ⟨by rfl, fun W hSw => by obtain ⟨s0, s1, s2, s3, s4, s5, s6, s7⟩ := hSw; go_simp⟩) hS ?_
          refine wpAnyH_ready (rs := [15]) (by kernel_rfl) (by simp) ?_
          refine AllReadyH.cons rfl (fun K hK => ?_) (AllReadyH.nil)
          go_simp
          have Bd : Below W6.heap.size W6 (W6.alloc (.cells #[.int .i64 0, .int .i64 0, .int .i64 0, .int .i64 0, .int .i64 0, .string ⟨#[]⟩] 48)) := (Below.refl _ _).alloc (Nat.le_refl _) _
          have T7 := hide ((unhide T6).later Bd)
          have R7 : Hid (Blk (W6.alloc (.cells #[.int .i64 0, .int .i64 0, .int .i64 0, .int .i64 0, .int .i64 0, .string ⟨#[]⟩] 48)) W6.heap.size [.int .i64 0, .int .i64 0, .int .i64 0, .int .i64 0, .int .i64 0, .string ⟨#[]⟩]) := blk_alloc _ _ _
          have hA := (unhide T6).2.1
          refine Shut.out hK _ _ (unhide T7).1.2.2 (fun hS => ?_)
          clear hK K
          obtain ⟨A, hAe⟩ : ∃ x, W6.heap.size = x := ⟨_, rfl⟩
          obtain ⟨W7, hW7⟩ : ∃ x, W6.alloc (.cells #[.int .i64 0, .int .i64 0, .int .i64 0, .int .i64 0, .int .i64 0, .string ⟨#[]⟩] 48) = x := ⟨_, rfl⟩
          rw [hW7] at T7 hS
          rw [hAe, hW7] at R7
          rw [hAe] at hA
          rw [hAe, hW7]
          clear Bd
          refine wpAnyH_ready (rs := [16]) (by kernel_rfl) (by simp) ?_
          refine AllReadyH.cons rfl (fun K hK => ?_) (AllReadyH.nil)
          have a0 := (unhide R7).cell 0 _ rfl
          have f0 := (unhide R7).free 0 (by decide)
          have a1 := (unhide R7).cell 1 _ rfl
          have f1 := (unhide R7).free 1 (by decide)
          have a2 := (unhide R7).cell 2 _ rfl
          have f2 := (unhide R7).free 2 (by decide)
          have a3 := (unhide R7).cell 3 _ rfl
          have f3 := (unhide R7).free 3 (by decide)
          have a4 := (unhide R7).cell 4 _ rfl
          have f4 := (unhide R7).free 4 (by decide)
          have a5 := (unhide R7).cell 5 _ rfl
          have f5 := (unhide R7).free 5 (by decide)
          go_simp
          have TX := hide (((((((unhide T7).set hA 0 (.int .i64 (hw : Nat))).set hA 1 (.int .i64 st)).set hA 2 (.int .i64 (cr : Nat))).set hA 3 (.int .i64 (bd.size : Nat))).set hA 4 (.int .i64 (t.size : Nat))).set hA 5 (.string n))
          have RX := hide (((((((unhide R7).set 0 (.int .i64 (hw : Nat))).set 1 (.int .i64 st)).set 2 (.int .i64 (cr : Nat))).set 3 (.int .i64 (bd.size : Nat))).set 4 (.int .i64 (t.size : Nat))).set 5 (.string n))
          clear a0 f0 a1 f1 a2 f2 a3 f3 a4 f4 a5 f5
          refine Shut.out hK _ _ (unhide TX).1.2.2 (fun hS => ?_)
          clear hK K
          refine wpAnyH_done (by kernel_rfl) ?_ _
          clear hS
          go_wp2_with fail
          go_meet
          case rel => exact ⟨A, rfl, hA, unhide TX, unhide RX⟩
        · go_simp
          have Bd : Below W5.heap.size W5 (W5.alloc (.cells #[.int .i64 0, .int .i64 0, .int .i64 0, .int .i64 0, .int .i64 0, .string ⟨#[]⟩] 48)) := (Below.refl _ _).alloc (Nat.le_refl _) _
          have T6 := hide ((unhide T5).later Bd)
          have R6 : Hid (Blk (W5.alloc (.cells #[.int .i64 0, .int .i64 0, .int .i64 0, .int .i64 0, .int .i64 0, .string ⟨#[]⟩] 48)) W5.heap.size [.int .i64 0, .int .i64 0, .int .i64 0, .int .i64 0, .int .i64 0, .string ⟨#[]⟩]) := blk_alloc _ _ _
          have hA := (unhide T5).2.1
          refine Shut.out hK _ _ (unhide T6).1.2.2 (fun hS => ?_)
          clear hK K
          obtain ⟨A, hAe⟩ : ∃ x, W5.heap.size = x := ⟨_, rfl⟩
          obtain ⟨W6, hW6⟩ : ∃ x, W5.alloc (.cells #[.int .i64 0, .int .i64 0, .int .i64 0, .int .i64 0, .int .i64 0, .string ⟨#[]⟩] 48) = x := ⟨_, rfl⟩
          rw [hW6] at T6 hS
          rw [hAe, hW6] at R6
          rw [hAe] at hA
          rw [hAe, hW6]
          clear Bd
          refine wpAnyH_ready (rs := [6]) (by kernel_rfl) (by simp) ?_
          refine AllReadyH.cons rfl (fun K hK => ?_) (AllReadyH.nil)
          go_simp
          go_at_call 35
          refine (unhide CC W6).mono ?_
          rintro e W7 ⟨rfl, Bd⟩
          have T7 := hide ((unhide T6).later Bd)
          have R7 := hide ((unhide R6).later Bd (unhide R6).1)
          refine Shut.out hK _ _ (unhide T7).1.2.2 (fun hS => ?_)
          clear hK K
          clear Bd
          refine wpAnyH_take (i := 14) (v := .agg #[.int .i64 (hw : Nat), .int .i64 st, .int .i64 (cr : Nat), .int .i64 (bd.size : Nat), .int .i64 (t.size : Nat), .string n]) rfl (by kernel_rfl) (by kernel_rfl) (by kernel_rfl) (fun _ _ _ h => h) (Or.inl ⟨by rfl, fun W hSw => by obtain ⟨s0, s1, s2, s3, s4, s5, s6, s7⟩ := hSw; go_simp⟩) hS ?_
          refine wpAnyH_ready (rs := [16]) (by kernel_rfl) (by simp) ?_
          refine AllReadyH.cons rfl (fun K hK => ?_) (AllReadyH.nil)
          have a0 := (unhide R7).cell 0 _ rfl
          have f0 := (unhide R7).free 0 (by decide)
          have a1 := (unhide R7).cell 1 _ rfl
          have f1 := (unhide R7).free 1 (by decide)
          have a2 := (unhide R7).cell 2 _ rfl
          have f2 := (unhide R7).free 2 (by decide)
          have a3 := (unhide R7).cell 3 _ rfl
          have f3 := (unhide R7).free 3 (by decide)
          have a4 := (unhide R7).cell 4 _ rfl
          have f4 := (unhide R7).free 4 (by decide)
          have a5 := (unhide R7).cell 5 _ rfl
          have f5 := (unhide R7).free 5 (by decide)
          go_simp
          have TX := hide (((((((unhide T7).set hA 0 (.int .i64 (hw : Nat))).set hA 1 (.int .i64 st)).set hA 2 (.int .i64 (cr : Nat))).set hA 3 (.int .i64 (bd.size : Nat))).set hA 4 (.int .i64 (t.size : Nat))).set hA 5 (.string n))
          have RX := hide (((((((unhide R7).set 0 (.int .i64 (hw : Nat))).set 1 (.int .i64 st)).set 2 (.int .i64 (cr : Nat))).set 3 (.int .i64 (bd.size : Nat))).set 4 (.int .i64 (t.size : Nat))).set 5 (.string n))
          clear a0 f0 a1 f1 a2 f2 a3 f3 a4 f4 a5 f5
          refine Shut.out hK _ _ (unhide TX).1.2.2 (fun hS => ?_)
          clear hK K
          refine wpAnyH_done (by kernel_rfl) ?_ _
          clear hS
          go_wp2_with fail
          go_meet
          case rel => exact ⟨A, rfl, hA, unhide TX, unhide RX⟩
      · go_simp
        have Bd : Below W4.heap.size W4 (W4.alloc (.cells #[.int .i64 0, .int .i64 0, .int .i64 0, .int .i64 0, .int .i64 0, .string ⟨#[]⟩] 48)) := (Below.refl _ _).alloc (Nat.le_refl _) _
        have T5 := hide ((unhide T4).later Bd)
        have R5 : Hid (Blk (W4.alloc (.cells #[.int .i64 0, .int .i64 0, .int .i64 0, .int .i64 0, .int .i64 0, .string ⟨#[]⟩] 48)) W4.heap.size [.int .i64 0, .int .i64 0, .int .i64 0, .int .i64 0, .int .i64 0, .string ⟨#[]⟩]) := blk_alloc _ _ _
        have hA := (unhide T4).2.1
        refine Shut.out hK _ _ (unhide T5).1.2.2 (fun hS => ?_)
        clear hK K
        obtain ⟨A, hAe⟩ : ∃ x, W4.heap.size = x := ⟨_, rfl⟩
        obtain ⟨W5, hW5⟩ : ∃ x, W4.alloc (.cells #[.int .i64 0, .int .i64 0, .int .i64 0, .int .i64 0, .int .i64 0, .string ⟨#[]⟩] 48) = x := ⟨_, rfl⟩
        rw [hW5] at T5 hS
        rw [hAe, hW5] at R5
        rw [hAe] at hA
        rw [hAe, hW5]
        clear Bd
        refine wpAnyH_ready (rs := [3]) (by kernel_rfl) (by simp) ?_
        refine AllReadyH.cons rfl (fun K hK => ?_) (AllReadyH.nil)
        go_simp
        go_at_call 34
        refine (unhide CP W5).mono ?_
        rintro e W6 ⟨rfl, Bd⟩
        have T6 := hide ((unhide T5).later Bd)
        have R6 := hide ((unhide R5).later Bd (unhide R5).1)
        refine Shut.out hK _ _ (unhide T6).1.2.2 (fun hS => ?_)
        clear hK K
        clear Bd
        refine wpAnyH_ready (rs := [6]) (by kernel_rfl) (by simp) ?_
        refine AllReadyH.cons rfl (fun K hK => ?_) (AllReadyH.nil)
        go_simp
        go_at_call 35
        refine (unhide CC W6).mono ?_
        rintro e W7 ⟨rfl, Bd⟩
        have T7 := hide ((unhide T6).later Bd)
        have R7 := hide ((unhide R6).later Bd (unhide R6).1)
        refine Shut.out hK _ _ (unhide T7).1.2.2 (fun hS => ?_)
        clear hK K
        clear Bd
        refine wpAnyH_take (i := 14) (v := .agg #[.int .i64 (hw : Nat), .int .i64 st, .int .i64 (cr : Nat), .int .i64 (bd.size : Nat), .int .i64 (t.size : Nat), .string n]) rfl (by kernel_rfl) (by kernel_rfl) (by kernel_rfl) (fun _ _ _ h => h) (Or.inl ⟨by rfl, fun W hSw => by obtain ⟨s0, s1, s2, s3, s4, s5, s6, s7⟩ := hSw; go_simp⟩) hS ?_
        refine wpAnyH_ready (rs := [16]) (by kernel_rfl) (by simp) ?_
        refine AllReadyH.cons rfl (fun K hK => ?_) (AllReadyH.nil)
        have a0 := (unhide R7).cell 0 _ rfl
        have f0 := (unhide R7).free 0 (by decide)
        have a1 := (unhide R7).cell 1 _ rfl
        have f1 := (unhide R7).free 1 (by decide)
        have a2 := (unhide R7).cell 2 _ rfl
        have f2 := (unhide R7).free 2 (by decide)
        have a3 := (unhide R7).cell 3 _ rfl
        have f3 := (unhide R7).free 3 (by decide)
        have a4 := (unhide R7).cell 4 _ rfl
        have f4 := (unhide R7).free 4 (by decide)
        have a5 := (unhide R7).cell 5 _ rfl
        have f5 := (unhide R7).free 5 (by decide)
        go_simp
        have TX := hide (((((((unhide T7).set hA 0 (.int .i64 (hw : Nat))).set hA 1 (.int .i64 st)).set hA 2 (.int .i64 (cr : Nat))).set hA 3 (.int .i64 (bd.size : Nat))).set hA 4 (.int .i64 (t.size : Nat))).set hA 5 (.string n))
        have RX := hide (((((((unhide R7).set 0 (.int .i64 (hw : Nat))).set 1 (.int .i64 st)).set 2 (.int .i64 (cr : Nat))).set 3 (.int .i64 (bd.size : Nat))).set 4 (.int .i64 (t.size : Nat))).set 5 (.string n))
        clear a0 f0 a1 f1 a2 f2 a3 f3 a4 f4 a5 f5
        refine Shut.out hK _ _ (unhide TX).1.2.2 (fun hS => ?_)
        clear hK K
        refine wpAnyH_done (by kernel_rfl) ?_ _
        clear hS
        go_wp2_with fail
        go_meet
        case rel => exact ⟨A, rfl, hA, unhide TX, unhide RX⟩
    case rest =>
      obtain ⟨A, rfl, hA, TX', RX'⟩ := hcut
      have TX := hide TX'
      have RX := hide RX'
      clear TX' RX' T3
      have a0 := (unhide RX).cell 0 _ rfl
      have a1 := (unhide RX).cell 1 _ rfl
      have a2 := (unhide RX).cell 2 _ rfl
      have a3 := (unhide RX).cell 3 _ rfl
      have a4 := (unhide RX).cell 4 _ rfl
      have a5 := (unhide RX).cell 5 _ rfl
      have b0 := (unhide TX).2.cell 0 _ rfl
      have g0 := (unhide TX).2.free 0 (by decide)
      have b1 := (unhide TX).2.cell 1 _ rfl
      have g1 := (unhide TX).2.free 1 (by decide)
      have b2 := (unhide TX).2.cell 2 _ rfl
      have g2 := (unhide TX).2.free 2 (by decide)
      have b3 := (unhide TX).2.cell 3 _ rfl
      have g3 := (unhide TX).2.free 3 (by decide)
      have b4 := (unhide TX).2.cell 4 _ rfl
      have g4 := (unhide TX).2.free 4 (by decide)
      have b5 := (unhide TX).2.cell 5 _ rfl
      have g5 := (unhide TX).2.free 5 (by decide)
      have b6 := (unhide TX).2.cell 6 _ rfl
      have g6 := (unhide TX).2.free 6 (by decide)
      have TZ := hide ((((((((unhide TX).1.set (Nat.lt_succ_self _) 0 (.int .i64 (hw : Nat))).set (Nat.lt_succ_self _) 1 (.int .i64 st)).set (Nat.lt_succ_self _) 2 (.int .i64 (cr : Nat))).set (Nat.lt_succ_self _) 3 (.int .i64 (bd.size : Nat))).set (Nat.lt_succ_self _) 4 (.int .i64 (t.size : Nat))).set (Nat.lt_succ_self _) 5 (.string n)).set (Nat.lt_succ_self _) 6 (.string bd))
      have ZZ := hide ((((((((unhide TX).2.set 0 (.int .i64 (hw : Nat))).set 1 (.int .i64 st)).set 2 (.int .i64 (cr : Nat))).set 3 (.int .i64 (bd.size : Nat))).set 4 (.int .i64 (t.size : Nat))).set 5 (.string n)).set 6 (.string bd))
      go_wp2
      have z0 := (unhide ZZ).cell 0 _ rfl
      have z1 := (unhide ZZ).cell 1 _ rfl
      have z2 := (unhide ZZ).cell 2 _ rfl
      have z3 := (unhide ZZ).cell 3 _ rfl
      have z4 := (unhide ZZ).cell 4 _ rfl
      have z5 := (unhide ZZ).cell 5 _ rfl
      have z6 := (unhide ZZ).cell 6 _ rfl
      refine bodyPost_ret (v := .agg #[.int .i64 (hw : Nat), .int .i64 st, .int .i64 (cr : Nat), .int .i64 (bd.size : Nat), .int .i64 (t.size : Nat), .string n, .string bd]) (by simp [results, Tryz.results20, go_sem, z0, z1, z2, z3, z4, z5, z6]) rfl ⟨rfl, ?_⟩
      exact (unhide TZ).1
end Go.Proofs.YtgpghapnmalipaaGreatDoor
namespace Go.Proofs.YtgpghapnmalipaaGreatDoor
open Go.RowKit Corb
set_option maxRecDepth 100000
theorem cutG_small : ∀ (l cur : List UInt8), (∀ p ∈ cutG cur l, p.length ≤ 10) → cur.length + l.length + 1 ≤ 11 * (cutG cur l).length
  | [], cur, h => by
    have := h cur (by simp [cutG])
    simp [cutG]; omega
  | b :: l, cur, h => by
    by_cases e : b = 47
    · simp only [cutG, if_pos e] at h ⊢
      have h1 := h cur (by simp)
      have h2 := cutG_small l [] (fun p hp => h p (by simp [hp]))
      simp at h2 ⊢
      omega
    · simp only [cutG, if_neg e] at h ⊢
      have h2 := cutG_small l (cur ++ [b]) h
      simp at h2 ⊢
      omega
theorem name_small {l : List UInt8} (h : nameB l = true) : l.length ≤ 43 := by
  simp only [nameB, Bool.and_eq_true, List.all_eq_true, decide_eq_true_eq] at h
  have := cutG_small l [] (fun p hp => by
    have := h.1 p hp
    simp only [partB, Bool.and_eq_true, decide_eq_true_eq] at this
    omega)
  have h2 := h.2
  unfold cutP at h2
  simp at this
  omega
theorem ent_facts {n : ByteArray} {y mo d h mi s : Int} {t : ByteArray} (k : entB n y mo d h mi s t = true) : n.size ≤ 43 ∧ t.size ≤ 300 ∧ stOk y mo d h mi s = true := by
  simp only [entB, Bool.and_eq_true, decide_eq_true_eq] at k
  have := name_small k.1
  exact ⟨by simpa using this, k.2.2, k.2.1⟩
theorem st_facts {y mo d h mi s : Int} (k : stOk y mo d h mi s = true) : ((0 ≤ y ∧ y ≤ 100000) ∧ (0 ≤ mo ∧ mo ≤ 100) ∧ (0 ≤ d ∧ d ≤ 100) ∧ (0 ≤ h ∧ h ≤ 100) ∧ (0 ≤ mi ∧ mi ≤ 100) ∧ -100 ≤ s ∧ s ≤ 100) ∧ (((((y - 1980) * 16 + mo) * 32 + d) * 32 + h) * 64 + mi) * 32 + Int.tdiv s 2 = ((stN y mo d h mi s).toNat : Int) ∧ (stN y mo d h mi s).toNat < 4294967296 ∧ stI y mo d h mi s = ((stN y mo d h mi s).toNat : Int) := by
  have e1 : stI y mo d h mi s = stN y mo d h mi s := by simp [stI, k]
  obtain ⟨hy, hmo, hd, hh, hmi, hs, h2⟩ := st_bd k
  have e2 : Int.tdiv s 2 = s / 2 := Int.tdiv_eq_ediv_of_nonneg hs.1
  have e3 : 0 ≤ stN y mo d h mi s ∧ stN y mo d h mi s < 4294967296 := by unfold stN; omega
  rw [e1, e2]
  have e4 : (((((y - 1980) * 16 + mo) * 32 + d) * 32 + h) * 64 + mi) * 32 + s / 2 = stN y mo d h mi s := rfl
  rw [e4]
  refine ⟨by omega, by omega, by omega, by omega⟩
end Go.Proofs.YtgpghapnmalipaaGreatDoor
