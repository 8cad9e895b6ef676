/- A text packed, the shortest of three: the program's FlatePut and the model's. -/
import Derived.Test.YtpmidjddjdejmaaGreatDoorM22
import Derived.Test.YtpmidjddjdejmaaGreatDoorM23
import Derived.Test.YtpmidjddjdejmaaGreatDoorMp1
namespace Go.Proofs.YtpmidjddjdejmaaGreatDoor
open Go.RowKit Corb
def shortB (a b : ByteArray) : ByteArray := if b.size < a.size then b else a
theorem shortB_yes {a b : ByteArray} (h : b.size < a.size) : shortB a b = b := if_pos h
theorem shortB_no {a b : ByteArray} (h : ¬ b.size < a.size) : shortB a b = a := if_neg h
def byO (s : ByteArray) : ByteArray := ⟨(ownedL s).toArray⟩
def flateB (s : ByteArray) : ByteArray := shortB (shortB (byS s) (byF s)) (byO s)
def bestK (s : ByteArray) : Nat → ByteArray
  | 1 => byS s
  | 2 => shortB (byS s) (byF s)
  | _ => flateB s
theorem byO_long (s : ByteArray) (h : ¬ s.size ≤ 300) : byO s = ⟨#[]⟩ := by unfold byO ownedL; rw [if_neg h]
theorem flateB_long (s : ByteArray) (h : ¬ s.size ≤ 300) : flateB s = ⟨#[]⟩ := by
  unfold flateB
  rw [byS_long s h, byF_long s h, byO_long s h]
  rfl
theorem textP_len (l : List (Int × Int)) : (textP l).length = ((valP l).2 + 7) / 8 := by unfold textP; exact leS_len _ _
theorem small_of {l : List UInt8} (h : l.length ≤ 100000) : ((⟨l.toArray⟩ : ByteArray).size : Int) ≤ 100000 := by
  have : (⟨l.toArray⟩ : ByteArray).size = l.length := by simp [ByteArray.size]
  omega
theorem allBits {l : List (Int × Int)} (h : lOk l = true) : (valP l).2 ≤ 64000 := by
  unfold lOk at h
  simp only [Bool.and_eq_true, decide_eq_true_eq] at h
  have h1 := outP_bits (0, 0) l (fun x hx => by
    have h2 := h.1
    unfold allOk at h2
    exact (pOk_true.1 (List.all_eq_true.1 h2 x hx)).1.2)
  have h3 : outP (0, 0) l = valP l := rfl
  rw [h3] at h1
  omega
theorem below_putObj {B : Nat} {a w : World} (h : Below B a w) {r : Nat} (hB : B ≤ w.heap.size) (hr : B ≤ r) (o : Obj) : Below B a (w.putObj r o) := h.grown (grownBy_putObj' w r o) hB (fun j hj => by cases hj; exact hr)
theorem by_small (s : ByteArray) : ((byS s).size : Int) ≤ 100000 ∧ ((byF s).size : Int) ≤ 100000 ∧ ((byO s).size : Int) ≤ 100000 := by
  by_cases hs : s.size ≤ 300
  · have hT := toks_len s hs
    have hk := toks_ok s
    refine ⟨small_of ?_, small_of ?_, small_of ?_⟩
    · unfold storeL
      split
      · rw [List.length_append, leS_len, str_len]; omega
      · simp
    · unfold fixedL
      rw [if_pos hs]
      show (textP (fixP s)).length ≤ _
      rw [textP_len]
      have h1 := allBits (fixP_ok s hs)
      omega
    · unfold ownedL
      rw [if_pos hs]
      show (textP (ownP _)).length ≤ _
      rw [textP_len]
      have h1 := allBits (ownP_ok _ hT hk)
      omega
  · rw [byS_long s hs, byF_long s hs, byO_long s hs]
    exact ⟨by decide, by decide, by decide⟩
set_option maxRecDepth 100000 in
set_option maxHeartbeats 6400000 in
theorem implFlatePut_any (s : ByteArray) (w : World) (hs : s.size ≤ 1048576) (hO : OrdC w) :
    Calls Tryz.prog 17 #[.string s] w fun e w' => e = .returned (.string (flateB s)) ∧ Below w.heap.size w w' := by
  have hmm := @run_makeMap Tryz.prog
  have hu := Tryz.underlying64
  have hk := Tryz.underlying3
  obtain ⟨b, hb⟩ : ∃ b, w.heap.size = b := ⟨_, rfl⟩
  have m0 := map_new w
  obtain ⟨w1, r1, m1, e1⟩ := map_put hu hk _ _ _ 0 (.func (.func 19) #[] #[]) m0 (by simp)
  obtain ⟨w2, r2, m2, e2⟩ := map_put hu hk _ _ _ 1 (.func (.func 20) #[] #[]) m1 (by simp)
  obtain ⟨w3, r3, m3, e3⟩ := map_put hu hk _ _ _ 2 (.func (.func 12) #[] #[]) m2 (by simp)
  have z1 : w1.heap.size = w.heap.size + 1 := by rw [e1]; simp [World.putObj]
  have z2 : w2.heap.size = w.heap.size + 1 := by rw [e2]; simpa [World.putObj] using z1
  have hB1 : Below w.heap.size w w1 := by rw [e1]; exact below_putObj ((Below.refl _ w).alloc (Nat.le_refl _) _) (by simp) (Nat.le_refl _) _
  have hB2 : Below w.heap.size w w2 := by rw [e2]; exact below_putObj hB1 (by omega) (Nat.le_refl _) _
  have hB3 : Below w.heap.size w w3 := by rw [e3]; exact below_putObj hB2 (by omega) (Nat.le_refl _) _
  simp only [List.nil_append, List.cons_append] at m3
  have HG := hide (fun W k v (h : MapB W w.heap.size [(0, .func (.func 19) #[] #[]), (1, .func (.func 20) #[] #[]), (2, .func (.func 12) #[] #[])]) hm => map_get hu hk W w.heap.size _ k v false h hm (by decide))
  have g0 := unhide HG w3 0 (.func (.func 19) #[] #[]) m3 (by simp)
  have HM := hide m3
  have HB3 := hide hB3
  have HO := hide hO
  have HS := hide hs
  have HSm := hide (by_small s)
  clear e1 e2 e3 z1 z2 hB1 hB2 hB3 m0 m1 m2 m3 hu hk hs hO hb b
  go_enter Tryz.func17, Tryz.ntmps17
  go_wp2_with fail
  refine (implStorePut_any s w3 (unhide HS)).mono ?_
  rintro e x1 ⟨rfl, b1⟩
  have hM1 := (unhide HM).later b1
  have hB1 := bnext (unhide HB3) b1
  have eS : (⟨(storeL s.data.toList).toArray⟩ : ByteArray) = bestK s 1 := rfl
  rw [eS]
  clear b1 HM HB3 r1 r2 r3 g0 hmm eS
  go_wp2_with fail
  go_loopw [4, 5, 6] (fun v i _ wr => ∃ k : Nat, 1 ≤ k ∧ k ≤ 3 ∧ i = .int .i64 k ∧ v = .string (bestK s k) ∧ MapB wr w.heap.size [(0, .func (.func 19) #[] #[]), (1, .func (.func 20) #[] #[]), (2, .func (.func 12) #[] #[])] ∧ Below w.heap.size w wr) (fun _ i _ _ => 3 - (intOf i).toNat)
  case atStart => exact ⟨1, by omega, by omega, rfl, rfl, hM1, hB1⟩
  case round =>
    obtain ⟨k, hk1, hk3, rfl, rfl, hM, hbel⟩ := hrel
    clear hM1 hB1
    rcases (show k = 1 ∨ k = 2 ∨ k = 3 by omega) with hk | hk | hk
    · have hkI : (k : Int) = 1 := by omega
      have hle : (k : Int) ≤ 2 := by omega
      have g1 : (Instr.lookup 64 (.map (some w.heap.size)) (.int .i64 (k : Int)) false).run Tryz.prog wr = .ok (.func (.func 20) #[] #[]) wr := by rw [hkI]; exact unhide HG wr 1 (.func (.func 20) #[] #[]) hM (by simp)
      have HC := hide (implFixedPut_any s wr (unhide HS))
      have eF : (⟨(fixedL s).toArray⟩ : ByteArray) = byF s := rfl
      rw [eF] at HC
      have hb1 : bestK s k = byS s := by rw [hk]; rfl
      have hb2 : Hid (bestK s (k + 1) = shortB (byS s) (byF s)) := by show _ = _; rw [hk]; rfl
      obtain ⟨q1, q2, q3⟩ := unhide HSm
      rw [hb1]
      have Hk := hide hk
      have HMB := hide (And.intro hM hbel)
      clear hM hbel hk hk1 hk3 hb1 eF hkI
      generalize byF s = F at *
      generalize byS s = A at *
      go_wp2_with fail
      refine (unhide HC).mono ?_
      rintro e x2 ⟨rfl, b2⟩
      have HY := hide (And.intro ((unhide HMB).1.later b2) (bnext (unhide HMB).2 b2))
      clear b2 HMB HC
      by_cases hlt : F.size < A.size
      · have hltI : (F.size : Int) < (A.size : Int) := by omega
        have HE := hide (shortB_yes hlt)
        go_wp2
        go_roundw
        case rel => exact ⟨k + 1, by omega, by have := unhide Hk; omega, by go_num, by rw [unhide hb2, unhide HE], (unhide HY).1, (unhide HY).2⟩
        case measure => have := unhide Hk; simp [intOf]; omega
      · have hltI : ¬ (F.size : Int) < (A.size : Int) := by omega
        have HE := hide (shortB_no hlt)
        go_wp2
        go_roundw
        case rel => exact ⟨k + 1, by omega, by have := unhide Hk; omega, by go_num, by rw [unhide hb2, unhide HE], (unhide HY).1, (unhide HY).2⟩
        case measure => have := unhide Hk; simp [intOf]; omega
    · have hkI : (k : Int) = 2 := by omega
      have hle : (k : Int) ≤ 2 := by omega
      have g1 : (Instr.lookup 64 (.map (some w.heap.size)) (.int .i64 (k : Int)) false).run Tryz.prog wr = .ok (.func (.func 12) #[] #[]) wr := by rw [hkI]; exact unhide HG wr 2 (.func (.func 12) #[] #[]) hM (by simp)
      have HC := hide (implOwnPut_any s wr (unhide HS) ((unhide HO).later hbel))
      have eF : (⟨(ownedL s).toArray⟩ : ByteArray) = byO s := rfl
      rw [eF] at HC
      have hb1 : bestK s k = shortB (byS s) (byF s) := by rw [hk]; rfl
      have hb2 : Hid (bestK s (k + 1) = shortB (shortB (byS s) (byF s)) (byO s)) := by show _ = _; rw [hk]; rfl
      obtain ⟨q1, q2, q3⟩ := unhide HSm
      have q4 : ((shortB (byS s) (byF s)).size : Int) ≤ 100000 := by unfold shortB; split <;> omega
      rw [hb1]
      have Hk := hide hk
      have HMB := hide (And.intro hM hbel)
      clear hM hbel hk hk1 hk3 hb1 eF q1 q2 hkI
      generalize byO s = F at *
      generalize shortB (byS s) (byF s) = A at *
      go_wp2_with fail
      refine (unhide HC).mono ?_
      rintro e x2 ⟨rfl, b2⟩
      have HY := hide (And.intro ((unhide HMB).1.later b2) (bnext (unhide HMB).2 b2))
      clear b2 HMB HC
      by_cases hlt : F.size < A.size
      · have hltI : (F.size : Int) < (A.size : Int) := by omega
        have HE := hide (shortB_yes hlt)
        go_wp2
        go_roundw
        case rel => exact ⟨k + 1, by omega, by have := unhide Hk; omega, by go_num, by rw [unhide hb2, unhide HE], (unhide HY).1, (unhide HY).2⟩
        case measure => have := unhide Hk; simp [intOf]; omega
      · have hltI : ¬ (F.size : Int) < (A.size : Int) := by omega
        have HE := hide (shortB_no hlt)
        go_wp2
        go_roundw
        case rel => exact ⟨k + 1, by omega, by have := unhide Hk; omega, by go_num, by rw [unhide hb2, unhide HE], (unhide HY).1, (unhide HY).2⟩
        case measure => have := unhide Hk; simp [intOf]; omega
    · have hle : ¬ (k : Int) ≤ 2 := by omega
      have hb1 : Hid (bestK s k = flateB s) := by show _ = _; rw [hk]; rfl
      have HB := hide hbel
      clear hM hbel hk hk1 hk3
      generalize bestK s k = A at *
      go_wp2
      go_ret
      exact ⟨by rw [← unhide hb1]; rfl, unhide HB⟩
set_option maxRecDepth 100000 in
set_option maxHeartbeats 6400000 in
theorem specFlate_any (s : ByteArray) (w : World) (hs : s.size ≤ 300) :
    Calls Tryz.prog 18 #[.string s] w fun e w' => e = .returned (.string (flateB s)) ∧ Below w.heap.size w w' := by
  have hI : ¬ (300 : Int) < (s.size : Int) := by omega
  have hsI : (s.size : Int) ≤ 300 := by omega
  have HS1 := hide (fun W => l5Store_any s W hs)
  have HS2 := hide (fun W => l5Known_any s W hs)
  have HS3 := hide (fun W => l5Own_any s W hs)
  have e1 : (⟨(leS 5 (headV s.size) ++ s.data.toList).toArray⟩ : ByteArray) = bestK s 1 := by
    show _ = byS s
    unfold byS storeL
    rw [if_pos (by rw [str_len]; exact hs), str_len]
  have e2 : (⟨(knownL s).toArray⟩ : ByteArray) = byF s := by unfold byF fixedL; rw [if_pos hs]
  have e3 : (⟨(ownT s).toArray⟩ : ByteArray) = byO s := by unfold byO ownedL; rw [if_pos hs]
  rw [e1] at HS1
  rw [e2] at HS2
  rw [e3] at HS3
  have HSm := hide (by_small s)
  clear hs e1 e2 e3
  go_enter Tryz.func18, Tryz.ntmps18
  go_wp2_with fail
  refine (unhide HS1 _).mono ?_
  rintro e x1 ⟨rfl, b1⟩
  have B1 := hide b1
  clear b1
  go_wp2_with fail
  refine (unhide HS2 _).mono ?_
  rintro e x2 ⟨rfl, b2⟩
  have B2 := hide (bnext (unhide B1) b2)
  clear b2 B1
  go_wp2_with fail
  refine (unhide HS3 _).mono ?_
  rintro e x3 ⟨rfl, b3⟩
  have hB3 := bnext (unhide B2) b3
  have hB4 : Below w.heap.size w (x3.alloc (.cells #[.string (byF s), .string (byO s)] 9)) := hB3.alloc hB3.size _
  have c0 : (x3.alloc (.cells #[.string (byF s), .string (byO s)] 9)).cell? ⟨x3.heap.size, 0, none⟩ = some (.string (byF s)) := by simp
  have c1 : (x3.alloc (.cells #[.string (byF s), .string (byO s)] 9)).cell? ⟨x3.heap.size, 1, none⟩ = some (.string (byO s)) := by simp
  have HB4 := hide hB4
  clear b3 hB3 hB4 B2 HS1 HS2 HS3
  go_wp2_with fail
  generalize x3.alloc (.cells #[.string (byF s), .string (byO s)] 9) = x4 at *
  generalize x3.heap.size = g at *
  go_loopw [3, 5] (fun v i wr => ∃ k : Nat, k ≤ 2 ∧ i = .int .i64 k ∧ v = .string (bestK s (k + 1)) ∧ wr = x4) (fun _ i _ => 2 - (intOf i).toNat)
  case atStart => exact ⟨0, by omega, rfl, rfl, rfl⟩
  case round =>
    obtain ⟨k, hk2, rfl, rfl, hwr⟩ := hrel
    rw [hwr]
    clear hwr
    obtain ⟨q1, q2, q3⟩ := unhide HSm
    rcases (show k = 0 ∨ k = 1 ∨ k = 2 by omega) with hk | hk | hk
    · have hkI : (k : Int) < 2 := by omega
      have c : x4.cell? ⟨g, k, none⟩ = some (.string (byF s)) := by rw [hk]; exact c0
      have hb1 : bestK s (k + 1) = byS s := by rw [hk]; rfl
      have hb2 : Hid (bestK s (k + 1 + 1) = shortB (byS s) (byF s)) := by show _ = _; rw [hk]; rfl
      rw [hb1]
      have Hk := hide hk
      clear hk hb1 c0 c1 hk2
      generalize byF s = F at *
      generalize byS s = A at *
      by_cases hlt : F.size < A.size
      · have hltI : (F.size : Int) < (A.size : Int) := by omega
        have HE := hide (shortB_yes hlt)
        go_wp2
        go_roundw
        case rel => exact ⟨k + 1, by have := unhide Hk; omega, by go_num, by rw [unhide hb2, unhide HE], by first | rfl | trivial⟩
        case measure => have := unhide Hk; simp [intOf]; omega
      · have hltI : ¬ (F.size : Int) < (A.size : Int) := by omega
        have HE := hide (shortB_no hlt)
        go_wp2
        go_roundw
        case rel => exact ⟨k + 1, by have := unhide Hk; omega, by go_num, by rw [unhide hb2, unhide HE], by first | rfl | trivial⟩
        case measure => have := unhide Hk; simp [intOf]; omega
    · have hkI : (k : Int) < 2 := by omega
      have c : x4.cell? ⟨g, k, none⟩ = some (.string (byO s)) := by rw [hk]; exact c1
      have hb1 : bestK s (k + 1) = shortB (byS s) (byF s) := by rw [hk]; rfl
      have hb2 : Hid (bestK s (k + 1 + 1) = shortB (shortB (byS s) (byF s)) (byO s)) := by show _ = _; rw [hk]; rfl
      have q4 : ((shortB (byS s) (byF s)).size : Int) ≤ 100000 := by unfold shortB; split <;> omega
      rw [hb1]
      have Hk := hide hk
      clear hk hb1 c0 c1 hk2 q1 q2
      generalize byO s = F at *
      generalize shortB (byS s) (byF s) = A at *
      by_cases hlt : F.size < A.size
      · have hltI : (F.size : Int) < (A.size : Int) := by omega
        have HE := hide (shortB_yes hlt)
        go_wp2
        go_roundw
        case rel => exact ⟨k + 1, by have := unhide Hk; omega, by go_num, by rw [unhide hb2, unhide HE], by first | rfl | trivial⟩
        case measure => have := unhide Hk; simp [intOf]; omega
      · have hltI : ¬ (F.size : Int) < (A.size : Int) := by omega
        have HE := hide (shortB_no hlt)
        go_wp2
        go_roundw
        case rel => exact ⟨k + 1, by have := unhide Hk; omega, by go_num, by rw [unhide hb2, unhide HE], by first | rfl | trivial⟩
        case measure => have := unhide Hk; simp [intOf]; omega
    · have hkI : ¬ (k : Int) < 2 := by omega
      have hb1 : Hid (bestK s (k + 1) = flateB s) := by show _ = _; rw [hk]; rfl
      clear hk c0 c1 hk2
      generalize bestK s (k + 1) = A at *
      go_wp2
      go_ret
      exact ⟨by rw [← unhide hb1]; rfl, unhide HB4⟩
theorem specFlatePut_any (s : ByteArray) (w : World) (hs : s.size ≤ 1048576) :
    Calls Tryz.prog 18 #[.string s] w fun e w' => e = .returned (.string (flateB s)) ∧ Below w.heap.size w w' := by
  have hsI : (s.size : Int) ≤ 1048576 := by omega
  by_cases h : s.size ≤ 300
  · exact specFlate_any s w h
  · have hI : (300 : Int) < (s.size : Int) := by omega
    have HF := hide (flateB_long s h)
    clear h
    go_enter Tryz.func18, Tryz.ntmps18
    go_wp2
    go_ret
    exact ⟨by rw [unhide HF]; rfl, Below.refl _ _⟩
end Go.Proofs.YtpmidjddjdejmaaGreatDoor